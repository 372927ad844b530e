/-
  Arbiter on the law's side: measured, copied, compared, marked, held, opened.
-/
import Derived.Test.YtgagbhkidponnadOwS
import Derived.ProofKit
import Derived.OpenShut
import Derived.ChangeSame
import Derived.Deep.Matrix
namespace Go.Proofs.Ytgagbhkidponnad
open Go Go.RowKit Go.ChangeShapes Go.WideShapes Go.ChangeAt

/-- a value of Arbiter -/
def abV (a0 : Option Addr) (n0 c0 : Nat) (i1 : Int) (i2 : Int) : Value := .agg #[.slice a0 n0 c0, .int .i64 i1, .int .i64 i2]

theorem ab_row {w : World} {b : Nat} {i1 i2 : Int} {a0 : Option Addr} {n0 c0 : Nat} {ty : TypeId} (h : w.heap[b]? = some (.cells #[.slice a0 n0 c0, .int .i64 i1, .int .i64 i2] ty (0, 0))) :
    w.cell? ⟨b, 0, none⟩ = some (.slice a0 n0 c0) ∧ w.cell? ⟨b, 1, none⟩ = some (.int .i64 i1) ∧ w.cell? ⟨b, 2, none⟩ = some (.int .i64 i2) :=
  ⟨cell_of_row w b 0 _ _ _ h, cell_of_row w b 1 _ _ _ h, cell_of_row w b 2 _ _ _ h⟩

set_option maxHeartbeats 2000000 in
theorem szArbiter_g (W : World) (n : Int) (a0 : Option Addr) (n0 c0 : Nat) (i1 : Int) (i2 : Int) (hn : n ≤ 1048576) (h0 : 0 ≤ n) (hc0 : n0 ≤ 9223372036854775807) :
    Calls Try.prog 25 #[abV a0 n0 c0 i1 i2, .int .i64 n] W (AnsN (.int .i64 (lessN n (n0))) W) := by
  unfold abV
  by_cases h0_ : n - (n0 : Int) < 0
  · have hm1 : (-1 : Int) < 0 := by omega
    rw [show lessN n (n0) = -1 from if_pos (by omega)]
    go_enter Try.func25, Try.ntmps25
    go_wp2
    go_ret
    exact ⟨rfl, gby_alloc (gby_refl _ _) _⟩
  rw [show lessN n (n0) = n - (n0 : Int) from (if_neg (by omega)).trans (by omega)]
  go_enter Try.func25, Try.ntmps25
  go_wp2
  go_ret
  exact ⟨rfl, gby_alloc (gby_refl _ _) _⟩

/-- a Arbiter whose slices lie in new memory -/
def MadeArbiter (xs0 : List Int) (i1 : Int) (i2 : Int) (W : World) (e : Ending) (w' : World) : Prop := ∃ (d0 : Option Addr) (e0 : Nat), e = .returned (abV d0 xs0.length e0 i1 i2) ∧ OwS w' W.heap.size w'.heap.size [(.slice d0 xs0.length e0, xs0)] ∧ W.grownBy w' none

set_option maxRecDepth 8000 in
set_option maxHeartbeats 4000000 in
theorem toArbiter_g (W : World) (a0 : Option Addr) (n0 c0 : Nat) (i1 : Int) (i2 : Int) (xs0 : List Int) (H0 : ISl W a0 n0 xs0) (hl0 : n0 ≤ 1048576) :
    Calls Try.prog 27 #[abV a0 n0 c0 i1 i2] W (MadeArbiter xs0 i1 i2 W) := by
  have HI0 := Lib.hid H0
  clear H0
  unfold abV
  go_enter Try.func27, Try.ntmps27
  go_wp2_with fail
  go_at_call 48
  refine (toI_any _ _ _ _ _ (HI0.out.kept (gby_alloc (gby_alloc (gby_alloc (gby_refl _ _) _) _) _)) hl0).mono ?_
  rintro e w0 ⟨v0, rfl, o0, g0⟩
  have s0 := g0.size
  simp only [World.size_alloc] at s0 o0
  obtain ⟨d0, e0, rfl, o0⟩ := o0
  have hr := row_held g0 (heap_alloc_new _ _)
  simp only [World.size_alloc] at hr
  have hq := row_held g0 (W := ((W.alloc _).alloc _).alloc _) (b := W.heap.size + 1) (by rw [heap_alloc_old _ _ (by simp)]; exact heap_pair W _ _)
  have hp := row_held g0 (W := ((W.alloc _).alloc _).alloc _) (b := W.heap.size) (by rw [heap_alloc_old _ _ (by simp only [World.size_alloc]; omega), heap_alloc_old _ _ (by simp only [World.size_alloc]; omega)]; exact heap_alloc_new W _)
  have G0 := Lib.hid (gby_trans (gby_alloc (gby_alloc (gby_alloc (gby_refl W none) _) _) _) g0)
  have O0_0 := Lib.hid (show OwI w0 (W.heap.size + 1 + 1 + 1) w0.heap.size (.slice d0 xs0.length e0) xs0 from ⟨d0, e0, rfl, o0⟩)
  clear g0 o0
  obtain ⟨r0_, r1_, r2_⟩ := ab_row hr
  obtain ⟨q0_, q1_, q2_⟩ := ab_row hq
  obtain ⟨p0_, p1_, p2_⟩ := ab_row hp
  have f0_ := frozen_of_row w0 _ 0 _ _ hr
  have z0_ := frozen_of_row w0 _ 0 _ _ hq
  have f1_ := frozen_of_row w0 _ 1 _ _ hr
  have z1_ := frozen_of_row w0 _ 1 _ _ hq
  have f2_ := frozen_of_row w0 _ 2 _ _ hr
  have z2_ := frozen_of_row w0 _ 2 _ _ hq
  have HR0 := Lib.hid hr
  have HQ0 := Lib.hid hq
  have HP0 := Lib.hid hp
  clear hr hq hp
  go_wp2
  refine bodyPost_ret (v := abV d0 xs0.length e0 i1 i2) (by simp [results, go_sem, abV, q0_, q1_, q2_]) rfl ⟨d0, e0, rfl, ?_, ?_⟩
  · have hk : Chg w0 w0 W.heap.size (W.heap.size + 3) := chg_gby (gby_refl _ _) _ _
    have o0 := O0_0.out
    refine OwS.down (lo := W.heap.size + 1 + 1 + 1) (OwS.up (hi := w0.heap.size) (OwS.kept (w := w0) (lo' := W.heap.size) (hi' := W.heap.size + 3) ?_ ?_ (.inr (by omega))) (by simp)) (by omega)
    · repeat (with_reducible refine chg_setp ?_ _ (by dsimp only; omega) (by dsimp only; omega) _)
      exact chg_gby (gby_refl _ _) _ _
    · exact owS_one o0 (by omega)
  · repeat (with_reducible refine gby_setnew ?_ _ (by dsimp only; omega) _)
    exact G0.out

set_option maxHeartbeats 2000000 in
theorem eqArbiter_g (W : World) (a0 : Option Addr) (n0 c0 : Nat) (i1 : Int) (i2 : Int) (a0' : Option Addr) (c0' : Nat) (xs0 : List Int) (H0 : ISl W a0 n0 xs0) (K0 : ISl W a0' n0 xs0) (hl0 : n0 ≤ 1048576) :
    Calls Try.prog 30 #[abV a0 n0 c0 i1 i2, abV a0' n0 c0' i1 i2] W (AnsN (.bool true) W) := by
  have HI0 := Lib.hid H0
  have HJ0 := Lib.hid K0
  clear H0 K0
  unfold abV
  have bk1 : (i1 != i1) = false := by simp
  have bk2 : (i2 != i2) = false := by simp
  have G_ := Lib.hid (gby_alloc (gby_alloc (gby_refl W none) (.cells #[] 0 (0, 0))) (.cells #[] 0 (0, 0)))
  clear G_
  go_enter Try.func30, Try.ntmps30
  go_wp2_with fail
  go_at_call 37
  refine (eqInts_any _ _ _ _ _ _ _ xs0 xs0 (HI0.out.kept (gby_alloc (gby_alloc (gby_refl _ _) _) _)) (HJ0.out.kept (gby_alloc (gby_alloc (gby_refl _ _) _) _)) hl0 (by omega)).mono ?_
  rintro e w0 ⟨rfl, d0⟩
  rw [show decide (xs0 = xs0) = true from decide_eq_true rfl]
  have hp := row_held (d0.gby none) (W := (W.alloc _).alloc _) (b := W.heap.size) (by rw [heap_alloc_old _ _ (by simp)]; exact heap_alloc_new W _)
  have hq := row_held (d0.gby none) (W := (W.alloc _).alloc _) (b := W.heap.size + 1) (heap_pair W _ _)
  have G0 := Lib.hid (gby_trans (gby_alloc (gby_alloc (gby_refl W none) _) _) (d0.gby none))
  clear d0
  obtain ⟨p0_, p1_, p2_⟩ := ab_row hp
  obtain ⟨p0'_, p1'_, p2'_⟩ := ab_row hq
  have HP0 := Lib.hid hp
  have HQ0 := Lib.hid hq
  clear hp hq
  go_wp2
  go_ret
  exact ⟨rfl, G0.out⟩

set_option maxHeartbeats 2000000 in
theorem markArbiter_g (w : World) (lo hi m : Nat) (a0 : Option Addr) (n0 c0 : Nat) (i1 : Int) (i2 : Int) (xs0 : List Int) (h1 : OwS w lo hi [(.slice a0 n0 c0, xs0)]) (hhi : hi ≤ w.heap.size) (hl0 : xs0.length ≤ 1048576) (hm2 : m ≤ 100000000) :
    Calls Try.prog 32 #[abV a0 n0 c0 i1 i2, .int .i64 (m : Int)] w (fun e w' => e = .returned (.int .i64 ((m + xs0.length : Nat) : Int)) ∧ OwS w' lo hi [(.slice a0 n0 c0, marksI m xs0.length)] ∧ Chg w w' lo hi) := by
  obtain ⟨md0, le0, lu0, oo0, h0r⟩ := h1
  have hend : md0 ≤ hi := h0r
  have OO0 := Lib.hid oo0
  clear oo0 h0r
  unfold abV
  go_enter Try.func32, Try.ntmps32
  go_wp2_with fail
  go_at_call 38
  refine (mkI_any _ lo md0 m _ xs0 (OO0.out.grow (gby_alloc (gby_refl _ _) _)) (by omega) (by omega)).mono ?_
  rintro e w0 ⟨rfl, o0, c0⟩
  have hp := c0.keep (heap_alloc_new w _) (.inr (by omega))
  have C0 := Lib.hid (chg_wide (chg_trans (chg_gby (gby_alloc (gby_refl w none) _) lo md0) c0) (lo' := lo) (hi' := hi) (by omega) (by omega))
  have Q0_0 := Lib.hid o0
  obtain ⟨p0_, p1_, p2_⟩ := ab_row hp
  have HP0 := Lib.hid hp
  clear hp o0 c0
  go_wp2
  go_ret
  exact ⟨rfl, ⟨md0, by omega, by omega, Q0_0.out, hend⟩, C0.out⟩

set_option maxHeartbeats 2000000 in
theorem heldArbiter_g (w : World) (m : Nat) (a0 : Option Addr) (n0 c0 : Nat) (i1 : Int) (i2 : Int) (k0 : Nat) (h0 : RdI w (.slice a0 n0 c0) (marksI m k0)) (hl0 : k0 ≤ 1048576) (hm2 : m ≤ 100000000) :
    Calls Try.prog 34 #[abV a0 n0 c0 i1 i2, .int .i64 (m : Int)] w (AnsN (.int .i64 ((m + k0 : Nat) : Int)) w) := by
  have H0 := Lib.hid h0
  clear h0
  have ng0 : ¬ (((m + k0 : Nat) : Int) < 0) := by omega
  unfold abV
  go_enter Try.func34, Try.ntmps34
  go_wp2_with fail
  go_at_call 39
  refine (hdI_any _ m k0 _ (H0.out.kept (gby_alloc (gby_refl _ _) _)) (by omega) (by omega)).mono ?_
  rintro e w0 ⟨rfl, d0⟩
  have hp := row_held (d0.gby none) (heap_alloc_new w _)
  have G0 := Lib.hid (gby_trans (gby_alloc (gby_refl w none) _) (d0.gby none))
  obtain ⟨p0_, p1_, p2_⟩ := ab_row hp
  have HP0 := Lib.hid hp
  clear hp d0
  go_wp2
  go_ret
  exact ⟨rfl, G0.out⟩

set_option maxRecDepth 100000 in
theorem cellsKArbiter : Try.prog.cellsOf 41 = 3 := by kernel_rfl

set_option maxRecDepth 100000 in
theorem cellsKIArbiter : Try.prog.cellsOf 3 = 1 := by kernel_rfl

set_option maxRecDepth 100000 in
theorem cellsKSArbiter : Try.prog.cellsOf 22 = 1 := by kernel_rfl

theorem islKArbiter {H : Type} {enc : TypeId × Value → H} {W : World} {base fuel : Nat} {cs : List Value} {x : DataW H × List MemPlace} (h : DataW.trod enc Try.prog W base (fun _ => true) true fuel 22 cs = some x) :
    ∃ a len cap xs, cs = [.slice a len cap] ∧ ISl W a len xs ∧ len ≤ 9223372036854775807 := by
  rcases open_ints Try.underlying22 Try.underlying3 cellsKIArbiter h with ⟨hcs, _⟩ | ⟨x, l, c, zs, hcs, _, hl, hm, hz, _, hcell, _⟩
  · exact ⟨none, 0, 0, [], hcs, ⟨rfl, .inl rfl⟩, by omega⟩
  · unfold maxLen at hm
    have hzl : zs.length = c := by simpa using hz
    refine ⟨some x, l, c, zs.take l, hcs, ⟨by simp; omega, ?_⟩, by omega⟩
    by_cases h0 : l = 0
    · exact .inl h0
    · obtain ⟨b, off, spot⟩ := x
      have hc := hcell 0 (by omega)
      have hspot : spot = none := by simpa [Addr.add] using World.cell?_spot hc
      subst hspot
      refine .inr ⟨b, off, rfl, fun k hk => ?_⟩
      have := hcell k (by omega)
      have e : (Addr.mk b off none).add k = ⟨b, off + k, none⟩ := by
        unfold Addr.add; split
        · rename_i hk0; have : k = 0 := by simpa using hk0
          subst this; rfl
        · rfl
      rw [e] at this
      rw [this]
      congr 2
      rw [List.getD_eq_getElem?_getD, List.getD_eq_getElem?_getD, List.getElem?_take, if_pos hk]

set_option maxRecDepth 100000 in
theorem openArbiter_g {H : Type} {enc : TypeId × Value → H} {W : World} {base : Nat} {v : Value} {d : DataW H} {ps : List MemPlace} (hw : Value.okWide Try.prog W .any base 41 v) (h : DataW.Trod enc Try.prog W 0 (fun _ => true) true 41 v d ps) :
    ∃ a0 n0 c0 xs0 i1 i2, v = abV a0 n0 c0 i1 i2 ∧ ISl W a0 n0 xs0 ∧ n0 ≤ 9223372036854775807 := by
  obtain ⟨cs, rfl, hsz⟩ := okWide_struct Try.underlying41 hw
  rw [cellsKArbiter] at hsz
  obtain ⟨L⟩ := cs
  match L, hsz with
  | [x0, x1, x2], _ =>
  obtain ⟨fuel, hf⟩ := h
  obtain ⟨ys, n, _, _, _, hlen, hfld⟩ := DataW.trod_struct Try.underlying41 hf
  match ys, hlen with
  | [y0, y1, y2], _ =>
  obtain ⟨a0, n0, c0, xs0, e0, hi0, hc0⟩ := islKArbiter (hfld 0 _ rfl)
  obtain ⟨i1, e1, _, _⟩ := DataW.trod_int Try.underlying3 (hfld 1 _ rfl)
  obtain ⟨i2, e2, _, _⟩ := DataW.trod_int Try.underlying3 (hfld 2 _ rfl)
  simp [Value.cells, cellsKIArbiter, cellsKSArbiter] at e0 e1 e2
  subst e0 e1 e2
  exact ⟨a0, n0, c0, xs0, i1, i2, rfl, hi0, hc0⟩

/-- .. and a bool -/
def MadeArbiterB (xs0 : List Int) (i1 : Int) (i2 : Int) (b : Bool) (W : World) (e : Ending) (w' : World) : Prop := ∃ (d0 : Option Addr) (e0 : Nat), e = .returned (.tuple #[abV d0 xs0.length e0 i1 i2, .bool b]) ∧ OwS w' W.heap.size w'.heap.size [(.slice d0 xs0.length e0, xs0)] ∧ W.grownBy w' none

/-- .. and a number -/
def MadeArbiterN (xs0 : List Int) (i1 : Int) (i2 : Int) (r : Int) (W : World) (e : Ending) (w' : World) : Prop := ∃ (d0 : Option Addr) (e0 : Nat), e = .returned (.tuple #[abV d0 xs0.length e0 i1 i2, .int .i64 r]) ∧ OwS w' W.heap.size w'.heap.size [(.slice d0 xs0.length e0, xs0)] ∧ W.grownBy w' none

end Go.Proofs.Ytgagbhkidponnad
