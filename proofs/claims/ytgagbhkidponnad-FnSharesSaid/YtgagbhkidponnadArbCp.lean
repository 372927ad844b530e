/-
  Arbiters copied, on both sides.
-/
import Derived.Test.YtgagbhkidponnadQArbiter
import Derived.Test.YtgagbhkidponnadSetI
import Derived.Test.YtgagbhkidponnadClone
import Derived.Test.YtgagbhkidponnadStepApp
import Derived.Deep.RegionHeld3
namespace Go.Proofs.Ytgagbhkidponnad
open Go Go.RowKit
set_option linter.unusedVariables false

theorem far1a {w : World} {b j : Nat} {v : Value} {p : Addr} {x : Value} (h : w.cell? ⟨b, j, none⟩ = some v) (hp : b ≠ p.block) : (w.setCell p x).cell? ⟨b, j, none⟩ = some v := by
  rw [World.cell?_setCell_far _ _ _ _ (fun e => hp e.symm)]; exact h

set_option maxHeartbeats 2000000 in
theorem copiedArb_d (W : World) (t l : Int) (v : Value) (xs : List Int) (H : RdL shI W v xs) (hl : szL shI xs ≤ 1048576) : Calls Try.prog 59 #[vArbiter v t l] W (NewArbiter xs t l W) := by
  have HSL := Lib.hid H
  have HMX := Lib.hid H.max
  rw [szL_I] at hl
  obtain ⟨a1, n1, c1, rfl⟩ := RdL.form H
  have hn1 : n1 = xs.length := by obtain ⟨_, _, e, _⟩ := H; injection e
  have HE1 := Lib.hid hn1
  have hnb : n1 ≤ 1048576 := by omega
  clear H hn1 hl
  unfold vArbiter
  go_enter Try.func59, Try.ntmps59
  have rA1_ := Lib.hid (show (((W.alloc (.cells #[.slice a1 n1 c1, .int .i64 t, .int .i64 l] 44)).alloc (.cells #[.slice none 0 0, .int .i64 0, .int .i64 0] 44))).heap[W.heap.size]? = some (.cells #[.slice a1 n1 c1, .int .i64 t, .int .i64 l] 44 (0, 0)) from by rw [heap_alloc_old _ _ (by simp only [World.size_alloc]; omega)]; exact heap_alloc_new _ _)
  have rR2_ := Lib.hid (show (((W.alloc (.cells #[.slice a1 n1 c1, .int .i64 t, .int .i64 l] 44)).alloc (.cells #[.slice none 0 0, .int .i64 0, .int .i64 0] 44))).heap[W.heap.size + 1]? = some (.cells #[.slice none 0 0, .int .i64 0, .int .i64 0] 44 (0, 0)) from by exact heap_pair _ _ _)
  have G3_ := Lib.hid (show (W).grownBy (((W.alloc (.cells #[.slice a1 n1 c1, .int .i64 t, .int .i64 l] 44)).alloc (.cells #[.slice none 0 0, .int .i64 0, .int .i64 0] 44))) none from (gby_alloc (gby_alloc (gby_refl _ _) _) _))
  have A_0_ : (((W.alloc (.cells #[.slice a1 n1 c1, .int .i64 t, .int .i64 l] 44)).alloc (.cells #[.slice none 0 0, .int .i64 0, .int .i64 0] 44))).cell? ⟨W.heap.size, 0, none⟩ = some (.slice a1 n1 c1) := cell_of_row _ _ 0 _ _ _ rA1_.out
  have A_1_ : (((W.alloc (.cells #[.slice a1 n1 c1, .int .i64 t, .int .i64 l] 44)).alloc (.cells #[.slice none 0 0, .int .i64 0, .int .i64 0] 44))).cell? ⟨W.heap.size, 1, none⟩ = some (.int .i64 t) := cell_of_row _ _ 1 _ _ _ rA1_.out
  have A_2_ : (((W.alloc (.cells #[.slice a1 n1 c1, .int .i64 t, .int .i64 l] 44)).alloc (.cells #[.slice none 0 0, .int .i64 0, .int .i64 0] 44))).cell? ⟨W.heap.size, 2, none⟩ = some (.int .i64 l) := cell_of_row _ _ 2 _ _ _ rA1_.out
  have R_0_ : (((W.alloc (.cells #[.slice a1 n1 c1, .int .i64 t, .int .i64 l] 44)).alloc (.cells #[.slice none 0 0, .int .i64 0, .int .i64 0] 44))).cell? ⟨W.heap.size + 1, 0, none⟩ = some (.slice none 0 0) := cell_of_row _ _ 0 _ _ _ rR2_.out
  have R_1_ : (((W.alloc (.cells #[.slice a1 n1 c1, .int .i64 t, .int .i64 l] 44)).alloc (.cells #[.slice none 0 0, .int .i64 0, .int .i64 0] 44))).cell? ⟨W.heap.size + 1, 1, none⟩ = some (.int .i64 0) := cell_of_row _ _ 1 _ _ _ rR2_.out
  have R_2_ : (((W.alloc (.cells #[.slice a1 n1 c1, .int .i64 t, .int .i64 l] 44)).alloc (.cells #[.slice none 0 0, .int .i64 0, .int .i64 0] 44))).cell? ⟨W.heap.size + 1, 2, none⟩ = some (.int .i64 0) := cell_of_row _ _ 2 _ _ _ rR2_.out
  go_wp2_with fail
  go_at_call 63
  refine (clone_any _ _ xs (rdI_in (HSL.out.grow G3_.out)) (by have := HE1.out; omega)).mono ?_
  rintro e w1 ⟨v2_, rfl, o_, g⟩
  have hsw1 := g.size
  try simp only [World.size_alloc] at hsw1 o_
  have o2_ := owI_out HMX.out o_
  obtain ⟨qp, qn, qc, hv_⟩ := RdL.form o2_.rd
  subst hv_
  have qo := Lib.hid o2_
  clear o_ o2_
  clear A_0_ A_1_ A_2_ R_0_ R_1_ R_2_
  have rA4_ := Lib.hid (show (w1).heap[W.heap.size]? = some (.cells #[.slice a1 n1 c1, .int .i64 t, .int .i64 l] 44 (0, 0)) from row_held g rA1_.out)
  clear rA1_
  have rR5_ := Lib.hid (show (w1).heap[W.heap.size + 1]? = some (.cells #[.slice none 0 0, .int .i64 0, .int .i64 0] 44 (0, 0)) from row_held g rR2_.out)
  clear rR2_
  have G6_ := Lib.hid (show (W).grownBy (w1) none from gby_trans G3_.out g)
  clear g
  have A_0_ : (w1).cell? ⟨W.heap.size, 0, none⟩ = some (.slice a1 n1 c1) := cell_of_row _ _ 0 _ _ _ rA4_.out
  have A_1_ : (w1).cell? ⟨W.heap.size, 1, none⟩ = some (.int .i64 t) := cell_of_row _ _ 1 _ _ _ rA4_.out
  have A_2_ : (w1).cell? ⟨W.heap.size, 2, none⟩ = some (.int .i64 l) := cell_of_row _ _ 2 _ _ _ rA4_.out
  have Af0_ : (w1).frozen? ⟨W.heap.size, 0, none⟩ = false := frozen_of_row _ _ 0 _ _ rA4_.out
  have Af1_ : (w1).frozen? ⟨W.heap.size, 1, none⟩ = false := frozen_of_row _ _ 1 _ _ rA4_.out
  have Af2_ : (w1).frozen? ⟨W.heap.size, 2, none⟩ = false := frozen_of_row _ _ 2 _ _ rA4_.out
  have R_0_ : (w1).cell? ⟨W.heap.size + 1, 0, none⟩ = some (.slice none 0 0) := cell_of_row _ _ 0 _ _ _ rR5_.out
  have R_1_ : (w1).cell? ⟨W.heap.size + 1, 1, none⟩ = some (.int .i64 0) := cell_of_row _ _ 1 _ _ _ rR5_.out
  have R_2_ : (w1).cell? ⟨W.heap.size + 1, 2, none⟩ = some (.int .i64 0) := cell_of_row _ _ 2 _ _ _ rR5_.out
  have ha2_ := Lib.hid (show ((w1.setCell ⟨W.heap.size, 0, none⟩ (.slice qp qn qc))).heap[W.heap.size]? = some (.cells #[.slice qp qn qc, .int .i64 t, .int .i64 l] 44 (0, 0)) from heap_setCell_same _ _ 0 _ _ _ rA4_.out)
  have y0_ : ((w1.setCell ⟨W.heap.size, 0, none⟩ (.slice qp qn qc))).cell? ⟨W.heap.size, 0, none⟩ = some (.slice qp qn qc) := cell_of_row _ _ 0 _ _ _ ha2_.out
  have y1_ : ((w1.setCell ⟨W.heap.size, 0, none⟩ (.slice qp qn qc))).cell? ⟨W.heap.size, 1, none⟩ = some (.int .i64 t) := cell_of_row _ _ 1 _ _ _ ha2_.out
  have y2_ : ((w1.setCell ⟨W.heap.size, 0, none⟩ (.slice qp qn qc))).cell? ⟨W.heap.size, 2, none⟩ = some (.int .i64 l) := cell_of_row _ _ 2 _ _ _ ha2_.out
  have rR7_ := Lib.hid (show ((w1.setCell ⟨W.heap.size, 0, none⟩ (.slice qp qn qc))).heap[W.heap.size + 1]? = some (.cells #[.slice none 0 0, .int .i64 0, .int .i64 0] 44 (0, 0)) from (set_far rR5_.out (by dsimp only; omega)))
  clear rR5_
  have rA8_ := Lib.hid (show ((w1.setCell ⟨W.heap.size, 0, none⟩ (.slice qp qn qc))).heap[W.heap.size]? = some (.cells #[.slice qp qn qc, .int .i64 t, .int .i64 l] 44 (0, 0)) from (heap_setCell_same _ _ 0 _ _ _ rA4_.out))
  clear rA4_
  have G9_ := Lib.hid (show (W).grownBy ((w1.setCell ⟨W.heap.size, 0, none⟩ (.slice qp qn qc))) none from (gby_setnew G6_.out _ (by dsimp only; omega) _))
  have A_0_ : ((w1.setCell ⟨W.heap.size, 0, none⟩ (.slice qp qn qc))).cell? ⟨W.heap.size, 0, none⟩ = some (.slice qp qn qc) := cell_of_row _ _ 0 _ _ _ rA8_.out
  have A_1_ : ((w1.setCell ⟨W.heap.size, 0, none⟩ (.slice qp qn qc))).cell? ⟨W.heap.size, 1, none⟩ = some (.int .i64 t) := cell_of_row _ _ 1 _ _ _ rA8_.out
  have A_2_ : ((w1.setCell ⟨W.heap.size, 0, none⟩ (.slice qp qn qc))).cell? ⟨W.heap.size, 2, none⟩ = some (.int .i64 l) := cell_of_row _ _ 2 _ _ _ rA8_.out
  have R_0_ : ((w1.setCell ⟨W.heap.size, 0, none⟩ (.slice qp qn qc))).cell? ⟨W.heap.size + 1, 0, none⟩ = some (.slice none 0 0) := cell_of_row _ _ 0 _ _ _ rR7_.out
  have R_1_ : ((w1.setCell ⟨W.heap.size, 0, none⟩ (.slice qp qn qc))).cell? ⟨W.heap.size + 1, 1, none⟩ = some (.int .i64 0) := cell_of_row _ _ 1 _ _ _ rR7_.out
  have R_2_ : ((w1.setCell ⟨W.heap.size, 0, none⟩ (.slice qp qn qc))).cell? ⟨W.heap.size + 1, 2, none⟩ = some (.int .i64 0) := cell_of_row _ _ 2 _ _ _ rR7_.out
  have Rf0_ : ((w1.setCell ⟨W.heap.size, 0, none⟩ (.slice qp qn qc))).frozen? ⟨W.heap.size + 1, 0, none⟩ = false := frozen_of_row _ _ 0 _ _ rR7_.out
  have Rf1_ : ((w1.setCell ⟨W.heap.size, 0, none⟩ (.slice qp qn qc))).frozen? ⟨W.heap.size + 1, 1, none⟩ = false := frozen_of_row _ _ 1 _ _ rR7_.out
  have Rf2_ : ((w1.setCell ⟨W.heap.size, 0, none⟩ (.slice qp qn qc))).frozen? ⟨W.heap.size + 1, 2, none⟩ = false := frozen_of_row _ _ 2 _ _ rR7_.out
  have zr_ := Lib.hid (show (((((w1.setCell ⟨W.heap.size, 0, none⟩ (.slice qp qn qc)).setCell ⟨W.heap.size + 1, 0, none⟩ (.slice qp qn qc)).setCell ⟨W.heap.size + 1, 1, none⟩ (.int .i64 t)).setCell ⟨W.heap.size + 1, 2, none⟩ (.int .i64 l))).heap[W.heap.size + 1]? = some (.cells #[.slice qp qn qc, .int .i64 t, .int .i64 l] 44 (0, 0)) from (heap_setCell_same _ _ 2 _ _ _ (heap_setCell_same _ _ 1 _ _ _ (heap_setCell_same _ _ 0 _ _ _ rR7_.out))))
  have z0_ : (((((w1.setCell ⟨W.heap.size, 0, none⟩ (.slice qp qn qc)).setCell ⟨W.heap.size + 1, 0, none⟩ (.slice qp qn qc)).setCell ⟨W.heap.size + 1, 1, none⟩ (.int .i64 t)).setCell ⟨W.heap.size + 1, 2, none⟩ (.int .i64 l))).cell? ⟨W.heap.size + 1, 0, none⟩ = some (.slice qp qn qc) := cell_of_row _ _ 0 _ _ _ zr_.out
  have z1_ : (((((w1.setCell ⟨W.heap.size, 0, none⟩ (.slice qp qn qc)).setCell ⟨W.heap.size + 1, 0, none⟩ (.slice qp qn qc)).setCell ⟨W.heap.size + 1, 1, none⟩ (.int .i64 t)).setCell ⟨W.heap.size + 1, 2, none⟩ (.int .i64 l))).cell? ⟨W.heap.size + 1, 1, none⟩ = some (.int .i64 t) := cell_of_row _ _ 1 _ _ _ zr_.out
  have z2_ : (((((w1.setCell ⟨W.heap.size, 0, none⟩ (.slice qp qn qc)).setCell ⟨W.heap.size + 1, 0, none⟩ (.slice qp qn qc)).setCell ⟨W.heap.size + 1, 1, none⟩ (.int .i64 t)).setCell ⟨W.heap.size + 1, 2, none⟩ (.int .i64 l))).cell? ⟨W.heap.size + 1, 2, none⟩ = some (.int .i64 l) := cell_of_row _ _ 2 _ _ _ zr_.out
  go_wp2
  refine bodyPost_ret (v := .agg #[.slice qp qn qc, .int .i64 t, .int .i64 l]) (by simp [results, go_sem, z0_, z1_, z2_]) rfl ⟨_, rfl, ?_, ?_⟩
  · exact OwU.wide (lo := W.heap.size + 1 + 1) (by omega) (by simp only [World.size_setCell]; omega) (OwU.keep (chg_one _ _ _ _) (.inr (by omega)) (OwU.keep (chg_one _ _ _ _) (.inr (by omega)) (OwU.keep (chg_one _ _ _ _) (.inr (by omega)) (OwU.one (OwL.keep qo.out (chg_one _ _ _ _) (.inr (by omega)))))))
  · exact (gby_setnew (gby_setnew (gby_setnew G9_.out _ (by dsimp only; omega) _) _ (by dsimp only; omega) _) _ (by dsimp only; omega) _)

set_option maxRecDepth 8000 in
set_option maxHeartbeats 2000000 in
theorem l18Copy_d (W : World) (t l : Int) (v : Value) (xs : List Int) (H : RdL shI W v xs) (hl : szL shI xs ≤ 1048576) : Calls Try.prog 57 #[vArbiter v t l] W (NewArbiter xs t l W) := by
  have HSL := Lib.hid H
  have HMX := Lib.hid H.max
  rw [szL_I] at hl
  obtain ⟨a1, n1, c1, rfl⟩ := RdL.form H
  have hn1 : n1 = xs.length := by obtain ⟨_, _, e, _⟩ := H; injection e
  have HE1 := Lib.hid hn1
  have hnb : n1 ≤ 1048576 := by omega
  obtain ⟨a9_, c9_, e9_, hi9_, hc9_⟩ := rdI_in H
  injection e9_ with e1_ e2_ e3_
  subst e1_ e3_
  rw [← e2_] at hi9_ hc9_
  have HIS := Lib.hid hi9_
  have HNO := Lib.hid hc9_.1
  clear H hn1 hl hi9_ hc9_ e2_
  unfold vArbiter
  go_enter Try.func57, Try.ntmps57
  have rA1_ := Lib.hid (show (((W.alloc (.cells #[.slice a1 n1 c1, .int .i64 t, .int .i64 l] 44)).alloc (.cells #[.slice none 0 0, .int .i64 0, .int .i64 0] 44))).heap[W.heap.size]? = some (.cells #[.slice a1 n1 c1, .int .i64 t, .int .i64 l] 44 (0, 0)) from by rw [heap_alloc_old _ _ (by simp only [World.size_alloc]; omega)]; exact heap_alloc_new _ _)
  have rR2_ := Lib.hid (show (((W.alloc (.cells #[.slice a1 n1 c1, .int .i64 t, .int .i64 l] 44)).alloc (.cells #[.slice none 0 0, .int .i64 0, .int .i64 0] 44))).heap[W.heap.size + 1]? = some (.cells #[.slice none 0 0, .int .i64 0, .int .i64 0] 44 (0, 0)) from by exact heap_pair _ _ _)
  have G3_ := Lib.hid (show (W).grownBy (((W.alloc (.cells #[.slice a1 n1 c1, .int .i64 t, .int .i64 l] 44)).alloc (.cells #[.slice none 0 0, .int .i64 0, .int .i64 0] 44))) none from (gby_alloc (gby_alloc (gby_refl _ _) _) _))
  have A_0_ : (((W.alloc (.cells #[.slice a1 n1 c1, .int .i64 t, .int .i64 l] 44)).alloc (.cells #[.slice none 0 0, .int .i64 0, .int .i64 0] 44))).cell? ⟨W.heap.size, 0, none⟩ = some (.slice a1 n1 c1) := cell_of_row _ _ 0 _ _ _ rA1_.out
  have A_1_ : (((W.alloc (.cells #[.slice a1 n1 c1, .int .i64 t, .int .i64 l] 44)).alloc (.cells #[.slice none 0 0, .int .i64 0, .int .i64 0] 44))).cell? ⟨W.heap.size, 1, none⟩ = some (.int .i64 t) := cell_of_row _ _ 1 _ _ _ rA1_.out
  have A_2_ : (((W.alloc (.cells #[.slice a1 n1 c1, .int .i64 t, .int .i64 l] 44)).alloc (.cells #[.slice none 0 0, .int .i64 0, .int .i64 0] 44))).cell? ⟨W.heap.size, 2, none⟩ = some (.int .i64 l) := cell_of_row _ _ 2 _ _ _ rA1_.out
  have R_0_ : (((W.alloc (.cells #[.slice a1 n1 c1, .int .i64 t, .int .i64 l] 44)).alloc (.cells #[.slice none 0 0, .int .i64 0, .int .i64 0] 44))).cell? ⟨W.heap.size + 1, 0, none⟩ = some (.slice none 0 0) := cell_of_row _ _ 0 _ _ _ rR2_.out
  have R_1_ : (((W.alloc (.cells #[.slice a1 n1 c1, .int .i64 t, .int .i64 l] 44)).alloc (.cells #[.slice none 0 0, .int .i64 0, .int .i64 0] 44))).cell? ⟨W.heap.size + 1, 1, none⟩ = some (.int .i64 0) := cell_of_row _ _ 1 _ _ _ rR2_.out
  have R_2_ : (((W.alloc (.cells #[.slice a1 n1 c1, .int .i64 t, .int .i64 l] 44)).alloc (.cells #[.slice none 0 0, .int .i64 0, .int .i64 0] 44))).cell? ⟨W.heap.size + 1, 2, none⟩ = some (.int .i64 0) := cell_of_row _ _ 2 _ _ _ rR2_.out
  have HSI := Lib.hid (rdI_in HSL.out)
  go_wp2_with fail
  go_region_held3 (fun w' => w'.cell? ⟨W.heap.size, 0, none⟩ = some (.slice a1 n1 c1) ∧ w'.cell? ⟨W.heap.size, 1, none⟩ = some (.int .i64 t) ∧ w'.cell? ⟨W.heap.size, 2, none⟩ = some (.int .i64 l))
    (first | exact ⟨A_0_, A_1_, A_2_⟩ | exact ⟨ka0, ka1, ka2⟩ | exact ⟨far1a (far1a (far1a ka0 (by simp)) (by simp)) (by simp), far1a (far1a (far1a ka1 (by simp)) (by simp)) (by simp), far1a (far1a (far1a ka2 (by simp)) (by simp)) (by simp)⟩ | go_keep)
    (first
      | (refine step_clone_isl _ (by rfl) _ _ (by rfl) _ (by rfl) (by first | exact heap_trip W _ _ _ | exact row_held (by repeat (first | exact gby_refl _ _ | (with_reducible refine gby_alloc ?_ _) | (with_reducible refine gby_drew ?_))) (heap_trip W _ _ _)) a1 n1 c1 xs (by rfl) (HIS.out.kept (by repeat (first | exact gby_alloc (gby_alloc (gby_refl _ _) _) _ | (with_reducible refine gby_alloc ?_ _) | (with_reducible refine gby_drew ?_)))) HNO.out (by omega) ?_; intro gA cA wA oA hgA hA sA; have AA : wA.heap[W.heap.size]? = some (.cells #[.slice a1 n1 c1, .int .i64 t, .int .i64 l] 44 (0, 0)) := (hgA.block _ (by first | (simp; done) | (simp; omega)) (by first | (simp; done) | (simp; omega))).trans (row_held (by repeat (first | exact gby_refl _ _ | (with_reducible refine gby_alloc ?_ _) | (with_reducible refine gby_drew ?_))) rA1_.out); have ZA : wA.heap[W.heap.size + 1]? = some (.cells #[.slice none 0 0, .int .i64 0, .int .i64 0] 44 (0, 0)) := (hgA.block _ (by first | (simp; done) | (simp; omega)) (by first | (simp; done) | (simp; omega))).trans (row_held (by repeat (first | exact gby_refl _ _ | (with_reducible refine gby_alloc ?_ _) | (with_reducible refine gby_drew ?_))) rR2_.out); have ka0 : wA.cell? ⟨W.heap.size, 0, none⟩ = some (.slice a1 n1 c1) := cell_of_row _ _ 0 _ _ _ AA; have ka1 : wA.cell? ⟨W.heap.size, 1, none⟩ = some (.int .i64 t) := cell_of_row _ _ 1 _ _ _ AA; have ka2 : wA.cell? ⟨W.heap.size, 2, none⟩ = some (.int .i64 l) := cell_of_row _ _ 2 _ _ _ AA; have zr0 : wA.cell? ⟨W.heap.size + 1, 0, none⟩ = some (.slice none 0 0) := cell_of_row _ _ 0 _ _ _ ZA; have zf0 := frozen_of_row wA _ 0 _ _ ZA; have zr1 : wA.cell? ⟨W.heap.size + 1, 1, none⟩ = some (.int .i64 0) := cell_of_row _ _ 1 _ _ _ ZA; have zf1 := frozen_of_row wA _ 1 _ _ ZA; have zr2 : wA.cell? ⟨W.heap.size + 1, 2, none⟩ = some (.int .i64 0) := cell_of_row _ _ 2 _ _ _ ZA; have zf2 := frozen_of_row wA _ 2 _ _ ZA)
      | fail)
  all_goals
    have hz := hgA.size
    have HOA := Lib.hid oA
    have HGA := Lib.hid (show W.grownBy wA none from gby_new (by repeat (first | exact G3_.out | (with_reducible refine gby_alloc ?_ _) | (with_reducible refine gby_drew ?_))) hgA (fun i hi => by obtain rfl := Option.some.inj (show some (W.heap.size + 1 + 1) = some i from hi); omega))
    have hga : W.heap.size + 1 + 1 ≤ gA := by rcases hA with e | e <;> (try simp at e) <;> omega
    have zr_ := Lib.hid (show ((((wA.setCell ⟨W.heap.size + 1, 0, none⟩ (.slice (some ⟨gA, 0, none⟩) n1 cA)).setCell ⟨W.heap.size + 1, 1, none⟩ (.int .i64 t)).setCell ⟨W.heap.size + 1, 2, none⟩ (.int .i64 l))).heap[W.heap.size + 1]? = some (.cells #[.slice (some ⟨gA, 0, none⟩) n1 cA, .int .i64 t, .int .i64 l] 44 (0, 0)) from (heap_setCell_same _ _ 2 _ _ _ (heap_setCell_same _ _ 1 _ _ _ (heap_setCell_same _ _ 0 _ _ _ ZA))))

    have z0_ : ((((wA.setCell ⟨W.heap.size + 1, 0, none⟩ (.slice (some ⟨gA, 0, none⟩) n1 cA)).setCell ⟨W.heap.size + 1, 1, none⟩ (.int .i64 t)).setCell ⟨W.heap.size + 1, 2, none⟩ (.int .i64 l))).cell? ⟨W.heap.size + 1, 0, none⟩ = some (.slice (some ⟨gA, 0, none⟩) n1 cA) := cell_of_row _ _ 0 _ _ _ zr_.out
    have z1_ : ((((wA.setCell ⟨W.heap.size + 1, 0, none⟩ (.slice (some ⟨gA, 0, none⟩) n1 cA)).setCell ⟨W.heap.size + 1, 1, none⟩ (.int .i64 t)).setCell ⟨W.heap.size + 1, 2, none⟩ (.int .i64 l))).cell? ⟨W.heap.size + 1, 1, none⟩ = some (.int .i64 t) := cell_of_row _ _ 1 _ _ _ zr_.out
    have z2_ : ((((wA.setCell ⟨W.heap.size + 1, 0, none⟩ (.slice (some ⟨gA, 0, none⟩) n1 cA)).setCell ⟨W.heap.size + 1, 1, none⟩ (.int .i64 t)).setCell ⟨W.heap.size + 1, 2, none⟩ (.int .i64 l))).cell? ⟨W.heap.size + 1, 2, none⟩ = some (.int .i64 l) := cell_of_row _ _ 2 _ _ _ zr_.out
    go_wp2
    refine bodyPost_ret (v := .agg #[.slice (some ⟨gA, 0, none⟩) n1 cA, .int .i64 t, .int .i64 l]) (by simp [results, go_sem, z0_, z1_, z2_]) rfl ⟨_, rfl, ?_, ?_⟩
    · exact OwU.one (OwL.wide (OwL.keep (OwL.keep (OwL.keep HOA.out (chg_one _ _ _ _) (.inr (by omega))) (chg_one _ _ _ _) (.inr (by omega))) (chg_one _ _ _ _) (.inr (by omega))) (by omega) (by simp only [World.size_setCell]; omega))
    · exact (gby_setnew (gby_setnew (gby_setnew HGA.out _ (by dsimp only; omega) _) _ (by dsimp only; omega) _) _ (by dsimp only; omega) _)

end Go.Proofs.Ytgagbhkidponnad
