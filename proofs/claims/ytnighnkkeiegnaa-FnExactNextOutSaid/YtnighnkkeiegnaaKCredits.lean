/-
  Credits on the law's side: measured, copied, compared, marked, held, opened.
-/
import Derived.Test.YtnighnkkeiegnaaOwS
import Derived.ProofKit
import Derived.OpenShut
import Derived.ChangeSame
import Derived.Deep.Matrix
namespace Go.Proofs.Ytnighnkkeiegnaa
open Go Go.RowKit Go.ChangeShapes Go.WideShapes Go.ChangeAt

/-- a value of Credits -/
def crV (a0 : Option Addr) (n0 c0 : Nat) (a1 : Option Addr) (n1 c1 : Nat) : Value := .agg #[.slice a0 n0 c0, .slice a1 n1 c1]

theorem cr_row {w : World} {b : Nat} {a0 a1 : Option Addr} {n0 c0 n1 c1 : Nat} {ty : TypeId} (h : w.heap[b]? = some (.cells #[.slice a0 n0 c0, .slice a1 n1 c1] ty (0, 0))) :
    w.cell? ⟨b, 0, none⟩ = some (.slice a0 n0 c0) ∧ w.cell? ⟨b, 1, none⟩ = some (.slice a1 n1 c1) :=
  ⟨cell_of_row w b 0 _ _ _ h, cell_of_row w b 1 _ _ _ h⟩

set_option maxHeartbeats 2000000 in
theorem szCredits_g (W : World) (n : Int) (a0 : Option Addr) (n0 c0 : Nat) (a1 : Option Addr) (n1 c1 : Nat) (hn : n ≤ 1048576) (h0 : 0 ≤ n) (hc0 : n0 ≤ 9223372036854775807) (hc1 : n1 ≤ 9223372036854775807) :
    Calls Try.prog 58 #[crV a0 n0 c0 a1 n1 c1, .int .i64 n] W (AnsN (.int .i64 (lessN n (n0 + n1))) W) := by
  unfold crV
  by_cases h0_ : n - (n0 : Int) < 0
  · have hm1 : (-1 : Int) < 0 := by omega
    rw [show lessN n (n0 + n1) = -1 from if_pos (by omega)]
    go_enter Try.func58, Try.ntmps58
    go_wp2
    go_ret
    exact ⟨rfl, gby_alloc (gby_refl _ _) _⟩
  by_cases h1_ : n - (n0 : Int) - (n1 : Int) < 0
  · have hm1 : (-1 : Int) < 0 := by omega
    rw [show lessN n (n0 + n1) = -1 from if_pos (by omega)]
    go_enter Try.func58, Try.ntmps58
    go_wp2
    go_ret
    exact ⟨rfl, gby_alloc (gby_refl _ _) _⟩
  rw [show lessN n (n0 + n1) = n - (n0 : Int) - (n1 : Int) from (if_neg (by omega)).trans (by omega)]
  go_enter Try.func58, Try.ntmps58
  go_wp2
  go_ret
  exact ⟨rfl, gby_alloc (gby_refl _ _) _⟩

/-- a Credits whose slices lie in new memory -/
def MadeCredits (xs0 : List Int) (xs1 : List Int) (W : World) (e : Ending) (w' : World) : Prop := ∃ (d0 : Option Addr) (e0 : Nat), ∃ (d1 : Option Addr) (e1 : Nat), e = .returned (crV d0 xs0.length e0 d1 xs1.length e1) ∧ OwS w' W.heap.size w'.heap.size [(.slice d0 xs0.length e0, xs0), (.slice d1 xs1.length e1, xs1)] ∧ W.grownBy w' none

set_option maxRecDepth 8000 in
set_option maxHeartbeats 4000000 in
theorem toCredits_g (W : World) (a0 : Option Addr) (n0 c0 : Nat) (a1 : Option Addr) (n1 c1 : Nat) (xs0 : List Int) (xs1 : List Int) (H0 : ISl W a0 n0 xs0) (H1 : ISl W a1 n1 xs1) (hl0 : n0 ≤ 1048576) (hl1 : n1 ≤ 1048576) :
    Calls Try.prog 62 #[crV a0 n0 c0 a1 n1 c1] W (MadeCredits xs0 xs1 W) := by
  have HI0 := Lib.hid H0
  have HI1 := Lib.hid H1
  clear H0 H1
  unfold crV
  go_enter Try.func62, Try.ntmps62
  go_wp2_with fail
  go_at_call 24
  refine (toI_any _ _ _ _ _ (HI0.out.kept (gby_alloc (gby_alloc (gby_alloc (gby_refl _ _) _) _) _)) hl0).mono ?_
  rintro e w0 ⟨v0, rfl, o0, g0⟩
  have s0 := g0.size
  simp only [World.size_alloc] at s0 o0
  obtain ⟨d0, e0, rfl, o0⟩ := o0
  have hr := row_held g0 (heap_alloc_new _ _)
  simp only [World.size_alloc] at hr
  have hq := row_held g0 (W := ((W.alloc _).alloc _).alloc _) (b := W.heap.size + 1) (by rw [heap_alloc_old _ _ (by simp)]; exact heap_pair W _ _)
  have hp := row_held g0 (W := ((W.alloc _).alloc _).alloc _) (b := W.heap.size) (by rw [heap_alloc_old _ _ (by simp only [World.size_alloc]; omega), heap_alloc_old _ _ (by simp only [World.size_alloc]; omega)]; exact heap_alloc_new W _)
  have G0 := Lib.hid (gby_trans (gby_alloc (gby_alloc (gby_alloc (gby_refl W none) _) _) _) g0)
  have O0_0 := Lib.hid (show OwI w0 (W.heap.size + 1 + 1 + 1) w0.heap.size (.slice d0 xs0.length e0) xs0 from ⟨d0, e0, rfl, o0⟩)
  clear g0 o0
  obtain ⟨r0_, r1_⟩ := cr_row hr
  obtain ⟨q0_, q1_⟩ := cr_row hq
  obtain ⟨p0_, p1_⟩ := cr_row hp
  have f0_ := frozen_of_row w0 _ 0 _ _ hr
  have z0_ := frozen_of_row w0 _ 0 _ _ hq
  have f1_ := frozen_of_row w0 _ 1 _ _ hr
  have z1_ := frozen_of_row w0 _ 1 _ _ hq
  have HR0 := Lib.hid hr
  have HQ0 := Lib.hid hq
  have HP0 := Lib.hid hp
  clear hr hq hp
  go_wp2_with fail
  go_at_call 24
  have hset : W.grownBy (w0.setCell ⟨W.heap.size + 1 + 1, 0, none⟩ (.slice d0 xs0.length e0)) none := gby_setnew G0.out _ (by dsimp only; omega) _
  have cset : Chg w0 (w0.setCell ⟨W.heap.size + 1 + 1, 0, none⟩ (.slice d0 xs0.length e0)) W.heap.size (W.heap.size + 3) := chg_setp (chg_gby (gby_refl _ _) _ _) _ (by dsimp only; omega) (by dsimp only; omega) _
  refine (toI_any _ _ _ _ _ (HI1.out.kept hset) hl1).mono ?_
  rintro e w1 ⟨v1, rfl, o1, g1⟩
  have s1 := g1.size
  simp only [World.size_setCell] at s1 o1
  obtain ⟨d1, e1, rfl, o1⟩ := o1
  have hr : w1.heap[_]? = some (Obj.cells #[.slice d0 xs0.length e0, .slice none 0 0] _ (0, 0)) := row_held g1 (heap_setCell_same w0 _ 0 _ _ _ HR0.out)
  have hq := row_held g1 (set_far HQ0.out (by dsimp only; omega))
  have hp := row_held g1 (set_far HP0.out (by dsimp only; omega))
  have G1 := Lib.hid (gby_trans hset g1)
  have O1_1 := Lib.hid (show OwI w1 w0.heap.size w1.heap.size (.slice d1 xs1.length e1) xs1 from ⟨d1, e1, rfl, o1⟩)
  have O0_1 := Lib.hid (O0_0.out.kept (chg_trans cset (chg_gby g1 _ _)) (.inr (by omega)))
  clear O0_0
  clear g1 o1 hset cset
  clear r0_ r1_ q0_ q1_ p0_ p1_ f0_ f1_ z0_ z1_
  obtain ⟨r0_, r1_⟩ := cr_row hr
  obtain ⟨q0_, q1_⟩ := cr_row hq
  obtain ⟨p0_, p1_⟩ := cr_row hp
  have f0_ := frozen_of_row w1 _ 0 _ _ hr
  have z0_ := frozen_of_row w1 _ 0 _ _ hq
  have f1_ := frozen_of_row w1 _ 1 _ _ hr
  have z1_ := frozen_of_row w1 _ 1 _ _ hq
  have HR1 := Lib.hid hr
  have HQ1 := Lib.hid hq
  have HP1 := Lib.hid hp
  clear hr hq hp
  go_wp2
  refine bodyPost_ret (v := crV d0 xs0.length e0 d1 xs1.length e1) (by simp [results, go_sem, crV, q0_, q1_]) rfl ⟨d0, e0, d1, e1, rfl, ?_, ?_⟩
  · have hk : Chg w1 w1 W.heap.size (W.heap.size + 3) := chg_gby (gby_refl _ _) _ _
    have o0 := O0_1.out
    have o1 := O1_1.out
    refine OwS.down (lo := W.heap.size + 1 + 1 + 1) (OwS.up (hi := w1.heap.size) (OwS.kept (w := w1) (lo' := W.heap.size) (hi' := W.heap.size + 3) ?_ ?_ (.inr (by omega))) (by simp)) (by omega)
    · repeat (with_reducible refine chg_setp ?_ _ (by dsimp only; omega) (by dsimp only; omega) _)
      exact chg_gby (gby_refl _ _) _ _
    · exact owS_cons o0 (by omega) (owS_one o1 (by omega))
  · repeat (with_reducible refine gby_setnew ?_ _ (by dsimp only; omega) _)
    exact G1.out

set_option maxHeartbeats 2000000 in
theorem eqCredits_g (W : World) (a0 : Option Addr) (n0 c0 : Nat) (a1 : Option Addr) (n1 c1 : Nat) (a0' : Option Addr) (c0' : Nat) (a1' : Option Addr) (c1' : Nat) (xs0 : List Int) (xs1 : List Int) (H0 : ISl W a0 n0 xs0) (K0 : ISl W a0' n0 xs0) (hl0 : n0 ≤ 1048576) (H1 : ISl W a1 n1 xs1) (K1 : ISl W a1' n1 xs1) (hl1 : n1 ≤ 1048576) :
    Calls Try.prog 65 #[crV a0 n0 c0 a1 n1 c1, crV a0' n0 c0' a1' n1 c1'] W (AnsN (.bool true) W) := by
  have HI0 := Lib.hid H0
  have HJ0 := Lib.hid K0
  have HI1 := Lib.hid H1
  have HJ1 := Lib.hid K1
  clear H0 K0 H1 K1
  unfold crV

  have G_ := Lib.hid (gby_alloc (gby_alloc (gby_refl W none) (.cells #[] 0 (0, 0))) (.cells #[] 0 (0, 0)))
  clear G_
  go_enter Try.func65, Try.ntmps65
  go_wp2_with fail
  go_at_call 27
  refine (eqInts_any _ _ _ _ _ _ _ xs0 xs0 (HI0.out.kept (gby_alloc (gby_alloc (gby_refl _ _) _) _)) (HJ0.out.kept (gby_alloc (gby_alloc (gby_refl _ _) _) _)) hl0 (by omega)).mono ?_
  rintro e w0 ⟨rfl, d0⟩
  rw [show decide (xs0 = xs0) = true from decide_eq_true rfl]
  have hp := row_held (d0.gby none) (W := (W.alloc _).alloc _) (b := W.heap.size) (by rw [heap_alloc_old _ _ (by simp)]; exact heap_alloc_new W _)
  have hq := row_held (d0.gby none) (W := (W.alloc _).alloc _) (b := W.heap.size + 1) (heap_pair W _ _)
  have G0 := Lib.hid (gby_trans (gby_alloc (gby_alloc (gby_refl W none) _) _) (d0.gby none))
  clear d0
  obtain ⟨p0_, p1_⟩ := cr_row hp
  obtain ⟨p0'_, p1'_⟩ := cr_row hq
  have HP0 := Lib.hid hp
  have HQ0 := Lib.hid hq
  clear hp hq
  go_wp2_with fail
  go_at_call 27
  refine (eqInts_any _ _ _ _ _ _ _ xs1 xs1 (HI1.out.kept G0.out) (HJ1.out.kept G0.out) hl1 (by omega)).mono ?_
  rintro e w1 ⟨rfl, d1⟩
  rw [show decide (xs1 = xs1) = true from decide_eq_true rfl]
  have hp := row_held (d1.gby none) HP0.out
  have hq := row_held (d1.gby none) HQ0.out
  have G1 := Lib.hid (gby_trans G0.out (d1.gby none))
  clear p0_ p1_ p0'_ p1'_
  clear d1
  obtain ⟨p0_, p1_⟩ := cr_row hp
  obtain ⟨p0'_, p1'_⟩ := cr_row hq
  have HP1 := Lib.hid hp
  have HQ1 := Lib.hid hq
  clear hp hq
  go_wp2
  go_ret
  exact ⟨rfl, G1.out⟩

set_option maxHeartbeats 2000000 in
theorem markCredits_g (w : World) (lo hi m : Nat) (a0 : Option Addr) (n0 c0 : Nat) (a1 : Option Addr) (n1 c1 : Nat) (xs0 : List Int) (xs1 : List Int) (h1 : OwS w lo hi [(.slice a0 n0 c0, xs0), (.slice a1 n1 c1, xs1)]) (hhi : hi ≤ w.heap.size) (hl0 : xs0.length ≤ 1048576) (hl1 : xs1.length ≤ 1048576) (hm2 : m ≤ 100000000) :
    Calls Try.prog 88 #[crV a0 n0 c0 a1 n1 c1, .int .i64 (m : Int)] w (fun e w' => e = .returned (.int .i64 ((m + xs0.length + xs1.length : Nat) : Int)) ∧ OwS w' lo hi [(.slice a0 n0 c0, marksI m xs0.length), (.slice a1 n1 c1, marksI (m + xs0.length) xs1.length)] ∧ Chg w w' lo hi) := by
  obtain ⟨md0, le0, lu0, oo0, h0r⟩ := h1
  obtain ⟨md1, le1, lu1, oo1, h1r⟩ := h0r
  have hend : md1 ≤ hi := h1r
  have OO0 := Lib.hid oo0
  have OO1 := Lib.hid oo1
  clear oo0 oo1 h1r
  unfold crV
  go_enter Try.func88, Try.ntmps88
  go_wp2_with fail
  go_at_call 94
  refine (mkI_any _ lo md0 m _ xs0 (OO0.out.grow (gby_alloc (gby_refl _ _) _)) (by omega) (by omega)).mono ?_
  rintro e w0 ⟨rfl, o0, c0⟩
  have hp := c0.keep (heap_alloc_new w _) (.inr (by omega))
  have C0 := Lib.hid (chg_wide (chg_trans (chg_gby (gby_alloc (gby_refl w none) _) lo md0) c0) (lo' := lo) (hi' := hi) (by omega) (by omega))
  have OO1_0 := Lib.hid ((OO1.out.grow (gby_alloc (gby_refl _ _) _)).kept c0 (by omega))
  have Q0_0 := Lib.hid o0
  obtain ⟨p0_, p1_⟩ := cr_row hp
  have HP0 := Lib.hid hp
  clear hp o0 c0
  go_wp2_with fail
  go_at_call 94
  refine (mkI_any _ md0 md1 (m + xs0.length) _ xs1 OO1_0.out (by omega) (by omega)).mono ?_
  rintro e w1 ⟨rfl, o1, c1⟩
  have hp := c1.keep HP0.out (.inr (by omega))
  have C1 := Lib.hid (chg_trans C0.out (chg_wide c1 (lo' := lo) (hi' := hi) (by omega) (by omega)))
  have Q0_1 := Lib.hid (Q0_0.out.kept c1 (by omega))
  clear p0_ p1_
  have Q1_1 := Lib.hid o1
  obtain ⟨p0_, p1_⟩ := cr_row hp
  have HP1 := Lib.hid hp
  clear hp o1 c1
  go_wp2
  go_ret
  exact ⟨rfl, ⟨md0, by omega, by omega, Q0_1.out, ⟨md1, by omega, by omega, Q1_1.out, hend⟩⟩, C1.out⟩

set_option maxHeartbeats 2000000 in
theorem heldCredits_g (w : World) (m : Nat) (a0 : Option Addr) (n0 c0 : Nat) (a1 : Option Addr) (n1 c1 : Nat) (k0 : Nat) (k1 : Nat) (h0 : RdI w (.slice a0 n0 c0) (marksI m k0)) (h1 : RdI w (.slice a1 n1 c1) (marksI (m + k0) k1)) (hl0 : k0 ≤ 1048576) (hl1 : k1 ≤ 1048576) (hm2 : m ≤ 100000000) :
    Calls Try.prog 89 #[crV a0 n0 c0 a1 n1 c1, .int .i64 (m : Int)] w (AnsN (.int .i64 ((m + k0 + k1 : Nat) : Int)) w) := by
  have H0 := Lib.hid h0
  have H1 := Lib.hid h1
  clear h0 h1
  have ng0 : ¬ (((m + k0 : Nat) : Int) < 0) := by omega
  have ng1 : ¬ (((m + k0 + k1 : Nat) : Int) < 0) := by omega
  unfold crV
  go_enter Try.func89, Try.ntmps89
  go_wp2_with fail
  go_at_call 96
  refine (hdI_any _ m k0 _ (H0.out.kept (gby_alloc (gby_refl _ _) _)) (by omega) (by omega)).mono ?_
  rintro e w0 ⟨rfl, d0⟩
  have hp := row_held (d0.gby none) (heap_alloc_new w _)
  have G0 := Lib.hid (gby_trans (gby_alloc (gby_refl w none) _) (d0.gby none))
  obtain ⟨p0_, p1_⟩ := cr_row hp
  have HP0 := Lib.hid hp
  clear hp d0
  go_wp2_with fail
  go_at_call 96
  refine (hdI_any _ (m + k0) k1 _ (H1.out.kept G0.out) (by omega) (by omega)).mono ?_
  rintro e w1 ⟨rfl, d1⟩
  have hp := row_held (d1.gby none) HP0.out
  have G1 := Lib.hid (gby_trans G0.out (d1.gby none))
  clear p0_ p1_
  obtain ⟨p0_, p1_⟩ := cr_row hp
  have HP1 := Lib.hid hp
  clear hp d1
  go_wp2
  go_ret
  exact ⟨rfl, G1.out⟩

set_option maxRecDepth 100000 in
theorem cellsKCredits : Try.prog.cellsOf 25 = 2 := by kernel_rfl

set_option maxRecDepth 100000 in
theorem cellsKICredits : Try.prog.cellsOf 3 = 1 := by kernel_rfl

set_option maxRecDepth 100000 in
theorem cellsKSCredits : Try.prog.cellsOf 23 = 1 := by kernel_rfl

theorem islKCredits {H : Type} {enc : TypeId × Value → H} {W : World} {base fuel : Nat} {cs : List Value} {x : DataW H × List MemPlace} (h : DataW.trod enc Try.prog W base (fun _ => true) true fuel 23 cs = some x) :
    ∃ a len cap xs, cs = [.slice a len cap] ∧ ISl W a len xs ∧ len ≤ 9223372036854775807 := by
  rcases open_ints Try.underlying23 Try.underlying3 cellsKICredits h with ⟨hcs, _⟩ | ⟨x, l, c, zs, hcs, _, hl, hm, hz, _, hcell, _⟩
  · exact ⟨none, 0, 0, [], hcs, ⟨rfl, .inl rfl⟩, by omega⟩
  · unfold maxLen at hm
    have hzl : zs.length = c := by simpa using hz
    refine ⟨some x, l, c, zs.take l, hcs, ⟨by simp; omega, ?_⟩, by omega⟩
    by_cases h0 : l = 0
    · exact .inl h0
    · obtain ⟨b, off, spot⟩ := x
      have hc := hcell 0 (by omega)
      have hspot : spot = none := by simpa [Addr.add] using World.cell?_spot hc
      subst hspot
      refine .inr ⟨b, off, rfl, fun k hk => ?_⟩
      have := hcell k (by omega)
      have e : (Addr.mk b off none).add k = ⟨b, off + k, none⟩ := by
        unfold Addr.add; split
        · rename_i hk0; have : k = 0 := by simpa using hk0
          subst this; rfl
        · rfl
      rw [e] at this
      rw [this]
      congr 2
      rw [List.getD_eq_getElem?_getD, List.getD_eq_getElem?_getD, List.getElem?_take, if_pos hk]

set_option maxRecDepth 100000 in
theorem openCredits_g {H : Type} {enc : TypeId × Value → H} {W : World} {base : Nat} {v : Value} {d : DataW H} {ps : List MemPlace} (hw : Value.okWide Try.prog W .any base 25 v) (h : DataW.Trod enc Try.prog W 0 (fun _ => true) true 25 v d ps) :
    ∃ a0 n0 c0 xs0 a1 n1 c1 xs1, v = crV a0 n0 c0 a1 n1 c1 ∧ ISl W a0 n0 xs0 ∧ n0 ≤ 9223372036854775807 ∧ ISl W a1 n1 xs1 ∧ n1 ≤ 9223372036854775807 := by
  obtain ⟨cs, rfl, hsz⟩ := okWide_struct Try.underlying25 hw
  rw [cellsKCredits] at hsz
  obtain ⟨L⟩ := cs
  match L, hsz with
  | [x0, x1], _ =>
  obtain ⟨fuel, hf⟩ := h
  obtain ⟨ys, n, _, _, _, hlen, hfld⟩ := DataW.trod_struct Try.underlying25 hf
  match ys, hlen with
  | [y0, y1], _ =>
  obtain ⟨a0, n0, c0, xs0, e0, hi0, hc0⟩ := islKCredits (hfld 0 _ rfl)
  obtain ⟨a1, n1, c1, xs1, e1, hi1, hc1⟩ := islKCredits (hfld 1 _ rfl)
  simp [Value.cells, cellsKSCredits] at e0 e1
  subst e0 e1
  exact ⟨a0, n0, c0, xs0, a1, n1, c1, xs1, rfl, hi0, hc0, hi1, hc1⟩

/-- .. and a bool -/
def MadeCreditsB (xs0 : List Int) (xs1 : List Int) (b : Bool) (W : World) (e : Ending) (w' : World) : Prop := ∃ (d0 : Option Addr) (e0 : Nat), ∃ (d1 : Option Addr) (e1 : Nat), e = .returned (.tuple #[crV d0 xs0.length e0 d1 xs1.length e1, .bool b]) ∧ OwS w' W.heap.size w'.heap.size [(.slice d0 xs0.length e0, xs0), (.slice d1 xs1.length e1, xs1)] ∧ W.grownBy w' none

/-- .. and a number -/
def MadeCreditsN (xs0 : List Int) (xs1 : List Int) (r : Int) (W : World) (e : Ending) (w' : World) : Prop := ∃ (d0 : Option Addr) (e0 : Nat), ∃ (d1 : Option Addr) (e1 : Nat), e = .returned (.tuple #[crV d0 xs0.length e0 d1 xs1.length e1, .int .i64 r]) ∧ OwS w' W.heap.size w'.heap.size [(.slice d0 xs0.length e0, xs0), (.slice d1 xs1.length e1, xs1)] ∧ W.grownBy w' none

end Go.Proofs.Ytnighnkkeiegnaa
