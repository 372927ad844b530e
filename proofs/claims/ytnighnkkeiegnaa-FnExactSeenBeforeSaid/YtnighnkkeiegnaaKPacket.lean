/-
  Packet on the law's side: measured, copied, compared, marked, held, opened.
-/
import Derived.Test.YtnighnkkeiegnaaOwS
import Derived.ProofKit
import Derived.OpenShut
import Derived.ChangeSame
import Derived.Deep.Matrix
namespace Go.Proofs.Ytnighnkkeiegnaa
open Go Go.RowKit Go.ChangeShapes Go.WideShapes Go.ChangeAt

/-- a value of Packet -/
def pgV (i0 : Int) (i1 : Int) (i2 : Int) (i3 : Int) (i4 : Int) (i5 : Int) (i6 : Int) (a7 : Option Addr) (n7 c7 : Nat) : Value := .agg #[.int .i64 i0, .int .i64 i1, .int .i64 i2, .int .i64 i3, .int .i64 i4, .int .i64 i5, .int .i64 i6, .slice a7 n7 c7]

theorem pg_row {w : World} {b : Nat} {i0 i1 i2 i3 i4 i5 i6 : Int} {a7 : Option Addr} {n7 c7 : Nat} {ty : TypeId} (h : w.heap[b]? = some (.cells #[.int .i64 i0, .int .i64 i1, .int .i64 i2, .int .i64 i3, .int .i64 i4, .int .i64 i5, .int .i64 i6, .slice a7 n7 c7] ty (0, 0))) :
    w.cell? ⟨b, 0, none⟩ = some (.int .i64 i0) ∧ w.cell? ⟨b, 1, none⟩ = some (.int .i64 i1) ∧ w.cell? ⟨b, 2, none⟩ = some (.int .i64 i2) ∧ w.cell? ⟨b, 3, none⟩ = some (.int .i64 i3) ∧ w.cell? ⟨b, 4, none⟩ = some (.int .i64 i4) ∧ w.cell? ⟨b, 5, none⟩ = some (.int .i64 i5) ∧ w.cell? ⟨b, 6, none⟩ = some (.int .i64 i6) ∧ w.cell? ⟨b, 7, none⟩ = some (.slice a7 n7 c7) :=
  ⟨cell_of_row w b 0 _ _ _ h, cell_of_row w b 1 _ _ _ h, cell_of_row w b 2 _ _ _ h, cell_of_row w b 3 _ _ _ h, cell_of_row w b 4 _ _ _ h, cell_of_row w b 5 _ _ _ h, cell_of_row w b 6 _ _ _ h, cell_of_row w b 7 _ _ _ h⟩

set_option maxHeartbeats 2000000 in
theorem szPacket_g (W : World) (n : Int) (i0 : Int) (i1 : Int) (i2 : Int) (i3 : Int) (i4 : Int) (i5 : Int) (i6 : Int) (a7 : Option Addr) (n7 c7 : Nat) (hn : n ≤ 1048576) (h0 : 0 ≤ n) (hc7 : n7 ≤ 9223372036854775807) :
    Calls Try.prog 37 #[pgV i0 i1 i2 i3 i4 i5 i6 a7 n7 c7, .int .i64 n] W (AnsN (.int .i64 (lessN n (n7))) W) := by
  unfold pgV
  by_cases h7_ : n - (n7 : Int) < 0
  · have hm1 : (-1 : Int) < 0 := by omega
    rw [show lessN n (n7) = -1 from if_pos (by omega)]
    go_enter Try.func37, Try.ntmps37
    go_wp2
    go_ret
    exact ⟨rfl, gby_alloc (gby_refl _ _) _⟩
  rw [show lessN n (n7) = n - (n7 : Int) from (if_neg (by omega)).trans (by omega)]
  go_enter Try.func37, Try.ntmps37
  go_wp2
  go_ret
  exact ⟨rfl, gby_alloc (gby_refl _ _) _⟩

/-- a Packet whose slices lie in new memory -/
def MadePacket (i0 : Int) (i1 : Int) (i2 : Int) (i3 : Int) (i4 : Int) (i5 : Int) (i6 : Int) (xs7 : List Int) (W : World) (e : Ending) (w' : World) : Prop := ∃ (d7 : Option Addr) (e7 : Nat), e = .returned (pgV i0 i1 i2 i3 i4 i5 i6 d7 xs7.length e7) ∧ OwS w' W.heap.size w'.heap.size [(.slice d7 xs7.length e7, xs7)] ∧ W.grownBy w' none

set_option maxRecDepth 8000 in
set_option maxHeartbeats 4000000 in
theorem toPacket_g (W : World) (i0 : Int) (i1 : Int) (i2 : Int) (i3 : Int) (i4 : Int) (i5 : Int) (i6 : Int) (a7 : Option Addr) (n7 c7 : Nat) (xs7 : List Int) (H7 : ISl W a7 n7 xs7) (hl7 : n7 ≤ 1048576) :
    Calls Try.prog 39 #[pgV i0 i1 i2 i3 i4 i5 i6 a7 n7 c7] W (MadePacket i0 i1 i2 i3 i4 i5 i6 xs7 W) := by
  have HI7 := Lib.hid H7
  clear H7
  unfold pgV
  go_enter Try.func39, Try.ntmps39
  go_wp2_with fail
  go_at_call 24
  refine (toI_any _ _ _ _ _ (HI7.out.kept (gby_alloc (gby_alloc (gby_alloc (gby_refl _ _) _) _) _)) hl7).mono ?_
  rintro e w7 ⟨v7, rfl, o7, g7⟩
  have s7 := g7.size
  simp only [World.size_alloc] at s7 o7
  obtain ⟨d7, e7, rfl, o7⟩ := o7
  have hr := row_held g7 (heap_alloc_new _ _)
  simp only [World.size_alloc] at hr
  have hq := row_held g7 (W := ((W.alloc _).alloc _).alloc _) (b := W.heap.size + 1) (by rw [heap_alloc_old _ _ (by simp)]; exact heap_pair W _ _)
  have hp := row_held g7 (W := ((W.alloc _).alloc _).alloc _) (b := W.heap.size) (by rw [heap_alloc_old _ _ (by simp only [World.size_alloc]; omega), heap_alloc_old _ _ (by simp only [World.size_alloc]; omega)]; exact heap_alloc_new W _)
  have G7 := Lib.hid (gby_trans (gby_alloc (gby_alloc (gby_alloc (gby_refl W none) _) _) _) g7)
  have O7_7 := Lib.hid (show OwI w7 (W.heap.size + 1 + 1 + 1) w7.heap.size (.slice d7 xs7.length e7) xs7 from ⟨d7, e7, rfl, o7⟩)
  clear g7 o7
  obtain ⟨r0_, r1_, r2_, r3_, r4_, r5_, r6_, r7_⟩ := pg_row hr
  obtain ⟨q0_, q1_, q2_, q3_, q4_, q5_, q6_, q7_⟩ := pg_row hq
  obtain ⟨p0_, p1_, p2_, p3_, p4_, p5_, p6_, p7_⟩ := pg_row hp
  have f0_ := frozen_of_row w7 _ 0 _ _ hr
  have z0_ := frozen_of_row w7 _ 0 _ _ hq
  have f1_ := frozen_of_row w7 _ 1 _ _ hr
  have z1_ := frozen_of_row w7 _ 1 _ _ hq
  have f2_ := frozen_of_row w7 _ 2 _ _ hr
  have z2_ := frozen_of_row w7 _ 2 _ _ hq
  have f3_ := frozen_of_row w7 _ 3 _ _ hr
  have z3_ := frozen_of_row w7 _ 3 _ _ hq
  have f4_ := frozen_of_row w7 _ 4 _ _ hr
  have z4_ := frozen_of_row w7 _ 4 _ _ hq
  have f5_ := frozen_of_row w7 _ 5 _ _ hr
  have z5_ := frozen_of_row w7 _ 5 _ _ hq
  have f6_ := frozen_of_row w7 _ 6 _ _ hr
  have z6_ := frozen_of_row w7 _ 6 _ _ hq
  have f7_ := frozen_of_row w7 _ 7 _ _ hr
  have z7_ := frozen_of_row w7 _ 7 _ _ hq
  have HR7 := Lib.hid hr
  have HQ7 := Lib.hid hq
  have HP7 := Lib.hid hp
  clear hr hq hp
  go_wp2
  refine bodyPost_ret (v := pgV i0 i1 i2 i3 i4 i5 i6 d7 xs7.length e7) (by simp [results, go_sem, pgV, q0_, q1_, q2_, q3_, q4_, q5_, q6_, q7_]) rfl ⟨d7, e7, rfl, ?_, ?_⟩
  · have hk : Chg w7 w7 W.heap.size (W.heap.size + 3) := chg_gby (gby_refl _ _) _ _
    have o7 := O7_7.out
    refine OwS.down (lo := W.heap.size + 1 + 1 + 1) (OwS.up (hi := w7.heap.size) (OwS.kept (w := w7) (lo' := W.heap.size) (hi' := W.heap.size + 3) ?_ ?_ (.inr (by omega))) (by simp)) (by omega)
    · repeat (with_reducible refine chg_setp ?_ _ (by dsimp only; omega) (by dsimp only; omega) _)
      exact chg_gby (gby_refl _ _) _ _
    · exact owS_one o7 (by omega)
  · repeat (with_reducible refine gby_setnew ?_ _ (by dsimp only; omega) _)
    exact G7.out

set_option maxHeartbeats 2000000 in
theorem eqPacket_g (W : World) (i0 : Int) (i1 : Int) (i2 : Int) (i3 : Int) (i4 : Int) (i5 : Int) (i6 : Int) (a7 : Option Addr) (n7 c7 : Nat) (a7' : Option Addr) (c7' : Nat) (xs7 : List Int) (H7 : ISl W a7 n7 xs7) (K7 : ISl W a7' n7 xs7) (hl7 : n7 ≤ 1048576) :
    Calls Try.prog 41 #[pgV i0 i1 i2 i3 i4 i5 i6 a7 n7 c7, pgV i0 i1 i2 i3 i4 i5 i6 a7' n7 c7'] W (AnsN (.bool true) W) := by
  have HI7 := Lib.hid H7
  have HJ7 := Lib.hid K7
  clear H7 K7
  unfold pgV
  have bk0 : (i0 != i0) = false := by simp
  have bk1 : (i1 != i1) = false := by simp
  have bk2 : (i2 != i2) = false := by simp
  have bk3 : (i3 != i3) = false := by simp
  have bk4 : (i4 != i4) = false := by simp
  have bk5 : (i5 != i5) = false := by simp
  have bk6 : (i6 != i6) = false := by simp
  have G_ := Lib.hid (gby_alloc (gby_alloc (gby_refl W none) (.cells #[] 0 (0, 0))) (.cells #[] 0 (0, 0)))
  clear G_
  go_enter Try.func41, Try.ntmps41
  go_wp2_with fail
  go_at_call 27
  refine (eqInts_any _ _ _ _ _ _ _ xs7 xs7 (HI7.out.kept (gby_alloc (gby_alloc (gby_refl _ _) _) _)) (HJ7.out.kept (gby_alloc (gby_alloc (gby_refl _ _) _) _)) hl7 (by omega)).mono ?_
  rintro e w7 ⟨rfl, d7⟩
  rw [show decide (xs7 = xs7) = true from decide_eq_true rfl]
  have hp := row_held (d7.gby none) (W := (W.alloc _).alloc _) (b := W.heap.size) (by rw [heap_alloc_old _ _ (by simp)]; exact heap_alloc_new W _)
  have hq := row_held (d7.gby none) (W := (W.alloc _).alloc _) (b := W.heap.size + 1) (heap_pair W _ _)
  have G7 := Lib.hid (gby_trans (gby_alloc (gby_alloc (gby_refl W none) _) _) (d7.gby none))
  clear d7
  obtain ⟨p0_, p1_, p2_, p3_, p4_, p5_, p6_, p7_⟩ := pg_row hp
  obtain ⟨p0'_, p1'_, p2'_, p3'_, p4'_, p5'_, p6'_, p7'_⟩ := pg_row hq
  have HP7 := Lib.hid hp
  have HQ7 := Lib.hid hq
  clear hp hq
  go_wp2
  go_ret
  exact ⟨rfl, G7.out⟩

set_option maxHeartbeats 2000000 in
theorem markPacket_g (w : World) (lo hi m : Nat) (i0 : Int) (i1 : Int) (i2 : Int) (i3 : Int) (i4 : Int) (i5 : Int) (i6 : Int) (a7 : Option Addr) (n7 c7 : Nat) (xs7 : List Int) (h1 : OwS w lo hi [(.slice a7 n7 c7, xs7)]) (hhi : hi ≤ w.heap.size) (hl7 : xs7.length ≤ 1048576) (hm2 : m ≤ 100000000) :
    Calls Try.prog 42 #[pgV i0 i1 i2 i3 i4 i5 i6 a7 n7 c7, .int .i64 (m : Int)] w (fun e w' => e = .returned (.int .i64 ((m + xs7.length : Nat) : Int)) ∧ OwS w' lo hi [(.slice a7 n7 c7, marksI m xs7.length)] ∧ Chg w w' lo hi) := by
  obtain ⟨md7, le7, lu7, oo7, h7r⟩ := h1
  have hend : md7 ≤ hi := h7r
  have OO7 := Lib.hid oo7
  clear oo7 h7r
  unfold pgV
  go_enter Try.func42, Try.ntmps42
  go_wp2_with fail
  go_at_call 94
  refine (mkI_any _ lo md7 m _ xs7 (OO7.out.grow (gby_alloc (gby_refl _ _) _)) (by omega) (by omega)).mono ?_
  rintro e w7 ⟨rfl, o7, c7⟩
  have hp := c7.keep (heap_alloc_new w _) (.inr (by omega))
  have C7 := Lib.hid (chg_wide (chg_trans (chg_gby (gby_alloc (gby_refl w none) _) lo md7) c7) (lo' := lo) (hi' := hi) (by omega) (by omega))
  have Q7_7 := Lib.hid o7
  obtain ⟨p0_, p1_, p2_, p3_, p4_, p5_, p6_, p7_⟩ := pg_row hp
  have HP7 := Lib.hid hp
  clear hp o7 c7
  go_wp2
  go_ret
  exact ⟨rfl, ⟨md7, by omega, by omega, Q7_7.out, hend⟩, C7.out⟩

set_option maxHeartbeats 2000000 in
theorem heldPacket_g (w : World) (m : Nat) (i0 : Int) (i1 : Int) (i2 : Int) (i3 : Int) (i4 : Int) (i5 : Int) (i6 : Int) (a7 : Option Addr) (n7 c7 : Nat) (k7 : Nat) (h7 : RdI w (.slice a7 n7 c7) (marksI m k7)) (hl7 : k7 ≤ 1048576) (hm2 : m ≤ 100000000) :
    Calls Try.prog 45 #[pgV i0 i1 i2 i3 i4 i5 i6 a7 n7 c7, .int .i64 (m : Int)] w (AnsN (.int .i64 ((m + k7 : Nat) : Int)) w) := by
  have H7 := Lib.hid h7
  clear h7
  have ng7 : ¬ (((m + k7 : Nat) : Int) < 0) := by omega
  unfold pgV
  go_enter Try.func45, Try.ntmps45
  go_wp2_with fail
  go_at_call 96
  refine (hdI_any _ m k7 _ (H7.out.kept (gby_alloc (gby_refl _ _) _)) (by omega) (by omega)).mono ?_
  rintro e w7 ⟨rfl, d7⟩
  have hp := row_held (d7.gby none) (heap_alloc_new w _)
  have G7 := Lib.hid (gby_trans (gby_alloc (gby_refl w none) _) (d7.gby none))
  obtain ⟨p0_, p1_, p2_, p3_, p4_, p5_, p6_, p7_⟩ := pg_row hp
  have HP7 := Lib.hid hp
  clear hp d7
  go_wp2
  go_ret
  exact ⟨rfl, G7.out⟩

set_option maxRecDepth 100000 in
theorem cellsKPacket : Try.prog.cellsOf 57 = 8 := by kernel_rfl

set_option maxRecDepth 100000 in
theorem cellsKIPacket : Try.prog.cellsOf 3 = 1 := by kernel_rfl

set_option maxRecDepth 100000 in
theorem cellsKSPacket : Try.prog.cellsOf 23 = 1 := by kernel_rfl

theorem islKPacket {H : Type} {enc : TypeId × Value → H} {W : World} {base fuel : Nat} {cs : List Value} {x : DataW H × List MemPlace} (h : DataW.trod enc Try.prog W base (fun _ => true) true fuel 23 cs = some x) :
    ∃ a len cap xs, cs = [.slice a len cap] ∧ ISl W a len xs ∧ len ≤ 9223372036854775807 := by
  rcases open_ints Try.underlying23 Try.underlying3 cellsKIPacket h with ⟨hcs, _⟩ | ⟨x, l, c, zs, hcs, _, hl, hm, hz, _, hcell, _⟩
  · exact ⟨none, 0, 0, [], hcs, ⟨rfl, .inl rfl⟩, by omega⟩
  · unfold maxLen at hm
    have hzl : zs.length = c := by simpa using hz
    refine ⟨some x, l, c, zs.take l, hcs, ⟨by simp; omega, ?_⟩, by omega⟩
    by_cases h0 : l = 0
    · exact .inl h0
    · obtain ⟨b, off, spot⟩ := x
      have hc := hcell 0 (by omega)
      have hspot : spot = none := by simpa [Addr.add] using World.cell?_spot hc
      subst hspot
      refine .inr ⟨b, off, rfl, fun k hk => ?_⟩
      have := hcell k (by omega)
      have e : (Addr.mk b off none).add k = ⟨b, off + k, none⟩ := by
        unfold Addr.add; split
        · rename_i hk0; have : k = 0 := by simpa using hk0
          subst this; rfl
        · rfl
      rw [e] at this
      rw [this]
      congr 2
      rw [List.getD_eq_getElem?_getD, List.getD_eq_getElem?_getD, List.getElem?_take, if_pos hk]

set_option maxRecDepth 100000 in
theorem openPacket_g {H : Type} {enc : TypeId × Value → H} {W : World} {base : Nat} {v : Value} {d : DataW H} {ps : List MemPlace} (hw : Value.okWide Try.prog W .any base 57 v) (h : DataW.Trod enc Try.prog W 0 (fun _ => true) true 57 v d ps) :
    ∃ i0 i1 i2 i3 i4 i5 i6 a7 n7 c7 xs7, v = pgV i0 i1 i2 i3 i4 i5 i6 a7 n7 c7 ∧ ISl W a7 n7 xs7 ∧ n7 ≤ 9223372036854775807 := by
  obtain ⟨cs, rfl, hsz⟩ := okWide_struct Try.underlying57 hw
  rw [cellsKPacket] at hsz
  obtain ⟨L⟩ := cs
  match L, hsz with
  | [x0, x1, x2, x3, x4, x5, x6, x7], _ =>
  obtain ⟨fuel, hf⟩ := h
  obtain ⟨ys, n, _, _, _, hlen, hfld⟩ := DataW.trod_struct Try.underlying57 hf
  match ys, hlen with
  | [y0, y1, y2, y3, y4, y5, y6, y7], _ =>
  obtain ⟨i0, e0, _, _⟩ := DataW.trod_int Try.underlying3 (hfld 0 _ rfl)
  obtain ⟨i1, e1, _, _⟩ := DataW.trod_int Try.underlying3 (hfld 1 _ rfl)
  obtain ⟨i2, e2, _, _⟩ := DataW.trod_int Try.underlying3 (hfld 2 _ rfl)
  obtain ⟨i3, e3, _, _⟩ := DataW.trod_int Try.underlying3 (hfld 3 _ rfl)
  obtain ⟨i4, e4, _, _⟩ := DataW.trod_int Try.underlying3 (hfld 4 _ rfl)
  obtain ⟨i5, e5, _, _⟩ := DataW.trod_int Try.underlying3 (hfld 5 _ rfl)
  obtain ⟨i6, e6, _, _⟩ := DataW.trod_int Try.underlying3 (hfld 6 _ rfl)
  obtain ⟨a7, n7, c7, xs7, e7, hi7, hc7⟩ := islKPacket (hfld 7 _ rfl)
  simp [Value.cells, cellsKIPacket, cellsKSPacket] at e0 e1 e2 e3 e4 e5 e6 e7
  subst e0 e1 e2 e3 e4 e5 e6 e7
  exact ⟨i0, i1, i2, i3, i4, i5, i6, a7, n7, c7, xs7, rfl, hi7, hc7⟩

/-- .. and a bool -/
def MadePacketB (i0 : Int) (i1 : Int) (i2 : Int) (i3 : Int) (i4 : Int) (i5 : Int) (i6 : Int) (xs7 : List Int) (b : Bool) (W : World) (e : Ending) (w' : World) : Prop := ∃ (d7 : Option Addr) (e7 : Nat), e = .returned (.tuple #[pgV i0 i1 i2 i3 i4 i5 i6 d7 xs7.length e7, .bool b]) ∧ OwS w' W.heap.size w'.heap.size [(.slice d7 xs7.length e7, xs7)] ∧ W.grownBy w' none

/-- .. and a number -/
def MadePacketN (i0 : Int) (i1 : Int) (i2 : Int) (i3 : Int) (i4 : Int) (i5 : Int) (i6 : Int) (xs7 : List Int) (r : Int) (W : World) (e : Ending) (w' : World) : Prop := ∃ (d7 : Option Addr) (e7 : Nat), e = .returned (.tuple #[pgV i0 i1 i2 i3 i4 i5 i6 d7 xs7.length e7, .int .i64 r]) ∧ OwS w' W.heap.size w'.heap.size [(.slice d7 xs7.length e7, xs7)] ∧ W.grownBy w' none

end Go.Proofs.Ytnighnkkeiegnaa
