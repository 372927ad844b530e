/-
  Numbers on the law's side: measured, copied, compared, marked, held, opened.
-/
import Derived.Test.YtgmpehccklifdacOwS
import Derived.ProofKit
import Derived.OpenShut
import Derived.ChangeSame
import Derived.Deep.Matrix
namespace Go.Proofs.Ytgmpehccklifdac
open Go Go.RowKit Go.ChangeShapes Go.WideShapes Go.ChangeAt

/-- a value of Numbers -/
def nbV (a0 : Option Addr) (n0 c0 : Nat) (a1 : Option Addr) (n1 c1 : Nat) (a2 : Option Addr) (n2 c2 : Nat) : Value := .agg #[.slice a0 n0 c0, .slice a1 n1 c1, .slice a2 n2 c2]

theorem nb_row {w : World} {b : Nat} {a0 a1 a2 : Option Addr} {n0 c0 n1 c1 n2 c2 : Nat} {ty : TypeId} (h : w.heap[b]? = some (.cells #[.slice a0 n0 c0, .slice a1 n1 c1, .slice a2 n2 c2] ty (0, 0))) :
    w.cell? ⟨b, 0, none⟩ = some (.slice a0 n0 c0) ∧ w.cell? ⟨b, 1, none⟩ = some (.slice a1 n1 c1) ∧ w.cell? ⟨b, 2, none⟩ = some (.slice a2 n2 c2) :=
  ⟨cell_of_row w b 0 _ _ _ h, cell_of_row w b 1 _ _ _ h, cell_of_row w b 2 _ _ _ h⟩

set_option maxHeartbeats 2000000 in
theorem szNumbers_g (W : World) (n : Int) (a0 : Option Addr) (n0 c0 : Nat) (a1 : Option Addr) (n1 c1 : Nat) (a2 : Option Addr) (n2 c2 : Nat) (hn : n ≤ 1048576) (h0 : 0 ≤ n) (hc0 : n0 ≤ 9223372036854775807) (hc1 : n1 ≤ 9223372036854775807) (hc2 : n2 ≤ 9223372036854775807) :
    Calls Try.prog 40 #[nbV a0 n0 c0 a1 n1 c1 a2 n2 c2, .int .i64 n] W (AnsN (.int .i64 (lessN n (n0 + n1 + n2))) W) := by
  unfold nbV
  by_cases h0_ : n - (n0 : Int) < 0
  · have hm1 : (-1 : Int) < 0 := by omega
    rw [show lessN n (n0 + n1 + n2) = -1 from if_pos (by omega)]
    go_enter Try.func40, Try.ntmps40
    go_wp2
    go_ret
    exact ⟨rfl, gby_alloc (gby_refl _ _) _⟩
  by_cases h1_ : n - (n0 : Int) - (n1 : Int) < 0
  · have hm1 : (-1 : Int) < 0 := by omega
    rw [show lessN n (n0 + n1 + n2) = -1 from if_pos (by omega)]
    go_enter Try.func40, Try.ntmps40
    go_wp2
    go_ret
    exact ⟨rfl, gby_alloc (gby_refl _ _) _⟩
  by_cases h2_ : n - (n0 : Int) - (n1 : Int) - (n2 : Int) < 0
  · have hm1 : (-1 : Int) < 0 := by omega
    rw [show lessN n (n0 + n1 + n2) = -1 from if_pos (by omega)]
    go_enter Try.func40, Try.ntmps40
    go_wp2
    go_ret
    exact ⟨rfl, gby_alloc (gby_refl _ _) _⟩
  rw [show lessN n (n0 + n1 + n2) = n - (n0 : Int) - (n1 : Int) - (n2 : Int) from (if_neg (by omega)).trans (by omega)]
  go_enter Try.func40, Try.ntmps40
  go_wp2
  go_ret
  exact ⟨rfl, gby_alloc (gby_refl _ _) _⟩

/-- a Numbers whose slices lie in new memory -/
def MadeNumbers (xs0 : List Int) (xs1 : List Int) (xs2 : List Int) (W : World) (e : Ending) (w' : World) : Prop := ∃ (d0 : Option Addr) (e0 : Nat), ∃ (d1 : Option Addr) (e1 : Nat), ∃ (d2 : Option Addr) (e2 : Nat), e = .returned (nbV d0 xs0.length e0 d1 xs1.length e1 d2 xs2.length e2) ∧ OwS w' W.heap.size w'.heap.size [(.slice d0 xs0.length e0, xs0), (.slice d1 xs1.length e1, xs1), (.slice d2 xs2.length e2, xs2)] ∧ W.grownBy w' none

set_option maxRecDepth 8000 in
set_option maxHeartbeats 4000000 in
theorem toNumbers_g (W : World) (a0 : Option Addr) (n0 c0 : Nat) (a1 : Option Addr) (n1 c1 : Nat) (a2 : Option Addr) (n2 c2 : Nat) (xs0 : List Int) (xs1 : List Int) (xs2 : List Int) (H0 : ISl W a0 n0 xs0) (H1 : ISl W a1 n1 xs1) (H2 : ISl W a2 n2 xs2) (hl0 : n0 ≤ 1048576) (hl1 : n1 ≤ 1048576) (hl2 : n2 ≤ 1048576) :
    Calls Try.prog 42 #[nbV a0 n0 c0 a1 n1 c1 a2 n2 c2] W (MadeNumbers xs0 xs1 xs2 W) := by
  have HI0 := Lib.hid H0
  have HI1 := Lib.hid H1
  have HI2 := Lib.hid H2
  clear H0 H1 H2
  unfold nbV
  go_enter Try.func42, Try.ntmps42
  go_wp2_with fail
  go_at_call 21
  refine (toI_any _ _ _ _ _ (HI0.out.kept (gby_alloc (gby_alloc (gby_alloc (gby_refl _ _) _) _) _)) hl0).mono ?_
  rintro e w0 ⟨v0, rfl, o0, g0⟩
  have s0 := g0.size
  simp only [World.size_alloc] at s0 o0
  obtain ⟨d0, e0, rfl, o0⟩ := o0
  have hr := row_held g0 (heap_alloc_new _ _)
  simp only [World.size_alloc] at hr
  have hq := row_held g0 (W := ((W.alloc _).alloc _).alloc _) (b := W.heap.size + 1) (by rw [heap_alloc_old _ _ (by simp)]; exact heap_pair W _ _)
  have hp := row_held g0 (W := ((W.alloc _).alloc _).alloc _) (b := W.heap.size) (by rw [heap_alloc_old _ _ (by simp only [World.size_alloc]; omega), heap_alloc_old _ _ (by simp only [World.size_alloc]; omega)]; exact heap_alloc_new W _)
  have G0 := Lib.hid (gby_trans (gby_alloc (gby_alloc (gby_alloc (gby_refl W none) _) _) _) g0)
  have O0_0 := Lib.hid (show OwI w0 (W.heap.size + 1 + 1 + 1) w0.heap.size (.slice d0 xs0.length e0) xs0 from ⟨d0, e0, rfl, o0⟩)
  clear g0 o0
  obtain ⟨r0_, r1_, r2_⟩ := nb_row hr
  obtain ⟨q0_, q1_, q2_⟩ := nb_row hq
  obtain ⟨p0_, p1_, p2_⟩ := nb_row hp
  have f0_ := frozen_of_row w0 _ 0 _ _ hr
  have z0_ := frozen_of_row w0 _ 0 _ _ hq
  have f1_ := frozen_of_row w0 _ 1 _ _ hr
  have z1_ := frozen_of_row w0 _ 1 _ _ hq
  have f2_ := frozen_of_row w0 _ 2 _ _ hr
  have z2_ := frozen_of_row w0 _ 2 _ _ hq
  have HR0 := Lib.hid hr
  have HQ0 := Lib.hid hq
  have HP0 := Lib.hid hp
  clear hr hq hp
  go_wp2_with fail
  go_at_call 21
  have hset : W.grownBy (w0.setCell ⟨W.heap.size + 1 + 1, 0, none⟩ (.slice d0 xs0.length e0)) none := gby_setnew G0.out _ (by dsimp only; omega) _
  have cset : Chg w0 (w0.setCell ⟨W.heap.size + 1 + 1, 0, none⟩ (.slice d0 xs0.length e0)) W.heap.size (W.heap.size + 3) := chg_setp (chg_gby (gby_refl _ _) _ _) _ (by dsimp only; omega) (by dsimp only; omega) _
  refine (toI_any _ _ _ _ _ (HI1.out.kept hset) hl1).mono ?_
  rintro e w1 ⟨v1, rfl, o1, g1⟩
  have s1 := g1.size
  simp only [World.size_setCell] at s1 o1
  obtain ⟨d1, e1, rfl, o1⟩ := o1
  have hr : w1.heap[_]? = some (Obj.cells #[.slice d0 xs0.length e0, .slice none 0 0, .slice none 0 0] _ (0, 0)) := row_held g1 (heap_setCell_same w0 _ 0 _ _ _ HR0.out)
  have hq := row_held g1 (set_far HQ0.out (by dsimp only; omega))
  have hp := row_held g1 (set_far HP0.out (by dsimp only; omega))
  have G1 := Lib.hid (gby_trans hset g1)
  have O1_1 := Lib.hid (show OwI w1 w0.heap.size w1.heap.size (.slice d1 xs1.length e1) xs1 from ⟨d1, e1, rfl, o1⟩)
  have O0_1 := Lib.hid (O0_0.out.kept (chg_trans cset (chg_gby g1 _ _)) (.inr (by omega)))
  clear O0_0
  clear g1 o1 hset cset
  clear r0_ r1_ r2_ q0_ q1_ q2_ p0_ p1_ p2_ f0_ f1_ f2_ z0_ z1_ z2_
  obtain ⟨r0_, r1_, r2_⟩ := nb_row hr
  obtain ⟨q0_, q1_, q2_⟩ := nb_row hq
  obtain ⟨p0_, p1_, p2_⟩ := nb_row hp
  have f0_ := frozen_of_row w1 _ 0 _ _ hr
  have z0_ := frozen_of_row w1 _ 0 _ _ hq
  have f1_ := frozen_of_row w1 _ 1 _ _ hr
  have z1_ := frozen_of_row w1 _ 1 _ _ hq
  have f2_ := frozen_of_row w1 _ 2 _ _ hr
  have z2_ := frozen_of_row w1 _ 2 _ _ hq
  have HR1 := Lib.hid hr
  have HQ1 := Lib.hid hq
  have HP1 := Lib.hid hp
  clear hr hq hp
  go_wp2_with fail
  go_at_call 21
  have hset : W.grownBy (w1.setCell ⟨W.heap.size + 1 + 1, 1, none⟩ (.slice d1 xs1.length e1)) none := gby_setnew G1.out _ (by dsimp only; omega) _
  have cset : Chg w1 (w1.setCell ⟨W.heap.size + 1 + 1, 1, none⟩ (.slice d1 xs1.length e1)) W.heap.size (W.heap.size + 3) := chg_setp (chg_gby (gby_refl _ _) _ _) _ (by dsimp only; omega) (by dsimp only; omega) _
  refine (toI_any _ _ _ _ _ (HI2.out.kept hset) hl2).mono ?_
  rintro e w2 ⟨v2, rfl, o2, g2⟩
  have s2 := g2.size
  simp only [World.size_setCell] at s2 o2
  obtain ⟨d2, e2, rfl, o2⟩ := o2
  have hr : w2.heap[_]? = some (Obj.cells #[.slice d0 xs0.length e0, .slice d1 xs1.length e1, .slice none 0 0] _ (0, 0)) := row_held g2 (heap_setCell_same w1 _ 1 _ _ _ HR1.out)
  have hq := row_held g2 (set_far HQ1.out (by dsimp only; omega))
  have hp := row_held g2 (set_far HP1.out (by dsimp only; omega))
  have G2 := Lib.hid (gby_trans hset g2)
  have O2_2 := Lib.hid (show OwI w2 w1.heap.size w2.heap.size (.slice d2 xs2.length e2) xs2 from ⟨d2, e2, rfl, o2⟩)
  have O0_2 := Lib.hid (O0_1.out.kept (chg_trans cset (chg_gby g2 _ _)) (.inr (by omega)))
  clear O0_1
  have O1_2 := Lib.hid (O1_1.out.kept (chg_trans cset (chg_gby g2 _ _)) (.inr (by omega)))
  clear O1_1
  clear g2 o2 hset cset
  clear r0_ r1_ r2_ q0_ q1_ q2_ p0_ p1_ p2_ f0_ f1_ f2_ z0_ z1_ z2_
  obtain ⟨r0_, r1_, r2_⟩ := nb_row hr
  obtain ⟨q0_, q1_, q2_⟩ := nb_row hq
  obtain ⟨p0_, p1_, p2_⟩ := nb_row hp
  have f0_ := frozen_of_row w2 _ 0 _ _ hr
  have z0_ := frozen_of_row w2 _ 0 _ _ hq
  have f1_ := frozen_of_row w2 _ 1 _ _ hr
  have z1_ := frozen_of_row w2 _ 1 _ _ hq
  have f2_ := frozen_of_row w2 _ 2 _ _ hr
  have z2_ := frozen_of_row w2 _ 2 _ _ hq
  have HR2 := Lib.hid hr
  have HQ2 := Lib.hid hq
  have HP2 := Lib.hid hp
  clear hr hq hp
  go_wp2
  refine bodyPost_ret (v := nbV d0 xs0.length e0 d1 xs1.length e1 d2 xs2.length e2) (by simp [results, go_sem, nbV, q0_, q1_, q2_]) rfl ⟨d0, e0, d1, e1, d2, e2, rfl, ?_, ?_⟩
  · have hk : Chg w2 w2 W.heap.size (W.heap.size + 3) := chg_gby (gby_refl _ _) _ _
    have o0 := O0_2.out
    have o1 := O1_2.out
    have o2 := O2_2.out
    refine OwS.down (lo := W.heap.size + 1 + 1 + 1) (OwS.up (hi := w2.heap.size) (OwS.kept (w := w2) (lo' := W.heap.size) (hi' := W.heap.size + 3) ?_ ?_ (.inr (by omega))) (by simp)) (by omega)
    · repeat (with_reducible refine chg_setp ?_ _ (by dsimp only; omega) (by dsimp only; omega) _)
      exact chg_gby (gby_refl _ _) _ _
    · exact owS_cons o0 (by omega) (owS_cons o1 (by omega) (owS_one o2 (by omega)))
  · repeat (with_reducible refine gby_setnew ?_ _ (by dsimp only; omega) _)
    exact G2.out

set_option maxHeartbeats 2000000 in
theorem eqNumbers_g (W : World) (a0 : Option Addr) (n0 c0 : Nat) (a1 : Option Addr) (n1 c1 : Nat) (a2 : Option Addr) (n2 c2 : Nat) (a0' : Option Addr) (c0' : Nat) (a1' : Option Addr) (c1' : Nat) (a2' : Option Addr) (c2' : Nat) (xs0 : List Int) (xs1 : List Int) (xs2 : List Int) (H0 : ISl W a0 n0 xs0) (K0 : ISl W a0' n0 xs0) (hl0 : n0 ≤ 1048576) (H1 : ISl W a1 n1 xs1) (K1 : ISl W a1' n1 xs1) (hl1 : n1 ≤ 1048576) (H2 : ISl W a2 n2 xs2) (K2 : ISl W a2' n2 xs2) (hl2 : n2 ≤ 1048576) :
    Calls Try.prog 44 #[nbV a0 n0 c0 a1 n1 c1 a2 n2 c2, nbV a0' n0 c0' a1' n1 c1' a2' n2 c2'] W (AnsN (.bool true) W) := by
  have HI0 := Lib.hid H0
  have HJ0 := Lib.hid K0
  have HI1 := Lib.hid H1
  have HJ1 := Lib.hid K1
  have HI2 := Lib.hid H2
  have HJ2 := Lib.hid K2
  clear H0 K0 H1 K1 H2 K2
  unfold nbV

  have G_ := Lib.hid (gby_alloc (gby_alloc (gby_refl W none) (.cells #[] 0 (0, 0))) (.cells #[] 0 (0, 0)))
  clear G_
  go_enter Try.func44, Try.ntmps44
  go_wp2_with fail
  go_at_call 23
  refine (eqInts_any _ _ _ _ _ _ _ xs0 xs0 (HI0.out.kept (gby_alloc (gby_alloc (gby_refl _ _) _) _)) (HJ0.out.kept (gby_alloc (gby_alloc (gby_refl _ _) _) _)) hl0 (by omega)).mono ?_
  rintro e w0 ⟨rfl, d0⟩
  rw [show decide (xs0 = xs0) = true from decide_eq_true rfl]
  have hp := row_held (d0.gby none) (W := (W.alloc _).alloc _) (b := W.heap.size) (by rw [heap_alloc_old _ _ (by simp)]; exact heap_alloc_new W _)
  have hq := row_held (d0.gby none) (W := (W.alloc _).alloc _) (b := W.heap.size + 1) (heap_pair W _ _)
  have G0 := Lib.hid (gby_trans (gby_alloc (gby_alloc (gby_refl W none) _) _) (d0.gby none))
  clear d0
  obtain ⟨p0_, p1_, p2_⟩ := nb_row hp
  obtain ⟨p0'_, p1'_, p2'_⟩ := nb_row hq
  have HP0 := Lib.hid hp
  have HQ0 := Lib.hid hq
  clear hp hq
  go_wp2_with fail
  go_at_call 23
  refine (eqInts_any _ _ _ _ _ _ _ xs1 xs1 (HI1.out.kept G0.out) (HJ1.out.kept G0.out) hl1 (by omega)).mono ?_
  rintro e w1 ⟨rfl, d1⟩
  rw [show decide (xs1 = xs1) = true from decide_eq_true rfl]
  have hp := row_held (d1.gby none) HP0.out
  have hq := row_held (d1.gby none) HQ0.out
  have G1 := Lib.hid (gby_trans G0.out (d1.gby none))
  clear p0_ p1_ p2_ p0'_ p1'_ p2'_
  clear d1
  obtain ⟨p0_, p1_, p2_⟩ := nb_row hp
  obtain ⟨p0'_, p1'_, p2'_⟩ := nb_row hq
  have HP1 := Lib.hid hp
  have HQ1 := Lib.hid hq
  clear hp hq
  go_wp2_with fail
  go_at_call 23
  refine (eqInts_any _ _ _ _ _ _ _ xs2 xs2 (HI2.out.kept G1.out) (HJ2.out.kept G1.out) hl2 (by omega)).mono ?_
  rintro e w2 ⟨rfl, d2⟩
  rw [show decide (xs2 = xs2) = true from decide_eq_true rfl]
  have hp := row_held (d2.gby none) HP1.out
  have hq := row_held (d2.gby none) HQ1.out
  have G2 := Lib.hid (gby_trans G1.out (d2.gby none))
  clear p0_ p1_ p2_ p0'_ p1'_ p2'_
  clear d2
  obtain ⟨p0_, p1_, p2_⟩ := nb_row hp
  obtain ⟨p0'_, p1'_, p2'_⟩ := nb_row hq
  have HP2 := Lib.hid hp
  have HQ2 := Lib.hid hq
  clear hp hq
  go_wp2
  go_ret
  exact ⟨rfl, G2.out⟩

set_option maxRecDepth 100000 in
theorem cellsKNumbers : Try.prog.cellsOf 53 = 3 := by kernel_rfl

set_option maxRecDepth 100000 in
theorem cellsKINumbers : Try.prog.cellsOf 3 = 1 := by kernel_rfl

set_option maxRecDepth 100000 in
theorem cellsKSNumbers : Try.prog.cellsOf 22 = 1 := by kernel_rfl

theorem islKNumbers {H : Type} {enc : TypeId × Value → H} {W : World} {base fuel : Nat} {cs : List Value} {x : DataW H × List MemPlace} (h : DataW.trod enc Try.prog W base (fun _ => true) true fuel 22 cs = some x) :
    ∃ a len cap xs, cs = [.slice a len cap] ∧ ISl W a len xs ∧ len ≤ 9223372036854775807 := by
  rcases open_ints Try.underlying22 Try.underlying3 cellsKINumbers h with ⟨hcs, _⟩ | ⟨x, l, c, zs, hcs, _, hl, hm, hz, _, hcell, _⟩
  · exact ⟨none, 0, 0, [], hcs, ⟨rfl, .inl rfl⟩, by omega⟩
  · unfold maxLen at hm
    have hzl : zs.length = c := by simpa using hz
    refine ⟨some x, l, c, zs.take l, hcs, ⟨by simp; omega, ?_⟩, by omega⟩
    by_cases h0 : l = 0
    · exact .inl h0
    · obtain ⟨b, off, spot⟩ := x
      have hc := hcell 0 (by omega)
      have hspot : spot = none := by simpa [Addr.add] using World.cell?_spot hc
      subst hspot
      refine .inr ⟨b, off, rfl, fun k hk => ?_⟩
      have := hcell k (by omega)
      have e : (Addr.mk b off none).add k = ⟨b, off + k, none⟩ := by
        unfold Addr.add; split
        · rename_i hk0; have : k = 0 := by simpa using hk0
          subst this; rfl
        · rfl
      rw [e] at this
      rw [this]
      congr 2
      rw [List.getD_eq_getElem?_getD, List.getD_eq_getElem?_getD, List.getElem?_take, if_pos hk]

set_option maxRecDepth 100000 in
theorem openNumbers_g {H : Type} {enc : TypeId × Value → H} {W : World} {base : Nat} {v : Value} {d : DataW H} {ps : List MemPlace} (hw : Value.okWide Try.prog W .any base 53 v) (h : DataW.Trod enc Try.prog W 0 (fun _ => true) true 53 v d ps) :
    ∃ a0 n0 c0 xs0 a1 n1 c1 xs1 a2 n2 c2 xs2, v = nbV a0 n0 c0 a1 n1 c1 a2 n2 c2 ∧ ISl W a0 n0 xs0 ∧ n0 ≤ 9223372036854775807 ∧ ISl W a1 n1 xs1 ∧ n1 ≤ 9223372036854775807 ∧ ISl W a2 n2 xs2 ∧ n2 ≤ 9223372036854775807 := by
  obtain ⟨cs, rfl, hsz⟩ := okWide_struct Try.underlying53 hw
  rw [cellsKNumbers] at hsz
  obtain ⟨L⟩ := cs
  match L, hsz with
  | [x0, x1, x2], _ =>
  obtain ⟨fuel, hf⟩ := h
  obtain ⟨ys, n, _, _, _, hlen, hfld⟩ := DataW.trod_struct Try.underlying53 hf
  match ys, hlen with
  | [y0, y1, y2], _ =>
  obtain ⟨a0, n0, c0, xs0, e0, hi0, hc0⟩ := islKNumbers (hfld 0 _ rfl)
  obtain ⟨a1, n1, c1, xs1, e1, hi1, hc1⟩ := islKNumbers (hfld 1 _ rfl)
  obtain ⟨a2, n2, c2, xs2, e2, hi2, hc2⟩ := islKNumbers (hfld 2 _ rfl)
  simp [Value.cells, cellsKSNumbers] at e0 e1 e2
  subst e0 e1 e2
  exact ⟨a0, n0, c0, xs0, a1, n1, c1, xs1, a2, n2, c2, xs2, rfl, hi0, hc0, hi1, hc1, hi2, hc2⟩

/-- .. and a bool -/
def MadeNumbersB (xs0 : List Int) (xs1 : List Int) (xs2 : List Int) (b : Bool) (W : World) (e : Ending) (w' : World) : Prop := ∃ (d0 : Option Addr) (e0 : Nat), ∃ (d1 : Option Addr) (e1 : Nat), ∃ (d2 : Option Addr) (e2 : Nat), e = .returned (.tuple #[nbV d0 xs0.length e0 d1 xs1.length e1 d2 xs2.length e2, .bool b]) ∧ OwS w' W.heap.size w'.heap.size [(.slice d0 xs0.length e0, xs0), (.slice d1 xs1.length e1, xs1), (.slice d2 xs2.length e2, xs2)] ∧ W.grownBy w' none

/-- .. and a number -/
def MadeNumbersN (xs0 : List Int) (xs1 : List Int) (xs2 : List Int) (r : Int) (W : World) (e : Ending) (w' : World) : Prop := ∃ (d0 : Option Addr) (e0 : Nat), ∃ (d1 : Option Addr) (e1 : Nat), ∃ (d2 : Option Addr) (e2 : Nat), e = .returned (.tuple #[nbV d0 xs0.length e0 d1 xs1.length e1 d2 xs2.length e2, .int .i64 r]) ∧ OwS w' W.heap.size w'.heap.size [(.slice d0 xs0.length e0, xs0), (.slice d1 xs1.length e1, xs1), (.slice d2 xs2.length e2, xs2)] ∧ W.grownBy w' none

end Go.Proofs.Ytgmpehccklifdac
