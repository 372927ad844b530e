/-
  Logs copied, on both sides.
-/
import Derived.Test.YtgagbhkidponnadLog
import Derived.Test.YtgagbhkidponnadSetI
import Derived.Test.YtgagbhkidponnadClone
namespace Go.Proofs.Ytgagbhkidponnad
open Go Go.RowKit
set_option linter.unusedVariables false

set_option maxHeartbeats 2000000 in
theorem copiedLog_d (W : World) (st ma fi : Int) (v : Value) (xs : List Int) (H : RdL shI W v xs) (hl : szL shI xs ≤ 1048576) : Calls Try.prog 49 #[vLog st ma fi v] W (NewLog st ma fi xs W) := by
  have HSL := Lib.hid H
  have HMX := Lib.hid H.max
  rw [szL_I] at hl
  obtain ⟨a1, n1, c1, rfl⟩ := RdL.form H
  have hn1 : n1 = xs.length := by obtain ⟨_, _, e, _⟩ := H; injection e
  have HE1 := Lib.hid hn1
  have hnb : n1 ≤ 1048576 := by omega
  clear H hn1 hl
  unfold vLog
  go_enter Try.func49, Try.ntmps49
  have rA1_ := Lib.hid (show (((W.alloc (.cells #[.int .i64 st, .int .i64 ma, .int .i64 fi, .slice a1 n1 c1] 26)).alloc (.cells #[.int .i64 0, .int .i64 0, .int .i64 0, .slice none 0 0] 26))).heap[W.heap.size]? = some (.cells #[.int .i64 st, .int .i64 ma, .int .i64 fi, .slice a1 n1 c1] 26 (0, 0)) from by rw [heap_alloc_old _ _ (by simp only [World.size_alloc]; omega)]; exact heap_alloc_new _ _)
  have rR2_ := Lib.hid (show (((W.alloc (.cells #[.int .i64 st, .int .i64 ma, .int .i64 fi, .slice a1 n1 c1] 26)).alloc (.cells #[.int .i64 0, .int .i64 0, .int .i64 0, .slice none 0 0] 26))).heap[W.heap.size + 1]? = some (.cells #[.int .i64 0, .int .i64 0, .int .i64 0, .slice none 0 0] 26 (0, 0)) from by exact heap_pair _ _ _)
  have G3_ := Lib.hid (show (W).grownBy (((W.alloc (.cells #[.int .i64 st, .int .i64 ma, .int .i64 fi, .slice a1 n1 c1] 26)).alloc (.cells #[.int .i64 0, .int .i64 0, .int .i64 0, .slice none 0 0] 26))) none from (gby_alloc (gby_alloc (gby_refl _ _) _) _))
  have A_0_ : (((W.alloc (.cells #[.int .i64 st, .int .i64 ma, .int .i64 fi, .slice a1 n1 c1] 26)).alloc (.cells #[.int .i64 0, .int .i64 0, .int .i64 0, .slice none 0 0] 26))).cell? ⟨W.heap.size, 0, none⟩ = some (.int .i64 st) := cell_of_row _ _ 0 _ _ _ rA1_.out
  have A_1_ : (((W.alloc (.cells #[.int .i64 st, .int .i64 ma, .int .i64 fi, .slice a1 n1 c1] 26)).alloc (.cells #[.int .i64 0, .int .i64 0, .int .i64 0, .slice none 0 0] 26))).cell? ⟨W.heap.size, 1, none⟩ = some (.int .i64 ma) := cell_of_row _ _ 1 _ _ _ rA1_.out
  have A_2_ : (((W.alloc (.cells #[.int .i64 st, .int .i64 ma, .int .i64 fi, .slice a1 n1 c1] 26)).alloc (.cells #[.int .i64 0, .int .i64 0, .int .i64 0, .slice none 0 0] 26))).cell? ⟨W.heap.size, 2, none⟩ = some (.int .i64 fi) := cell_of_row _ _ 2 _ _ _ rA1_.out
  have A_3_ : (((W.alloc (.cells #[.int .i64 st, .int .i64 ma, .int .i64 fi, .slice a1 n1 c1] 26)).alloc (.cells #[.int .i64 0, .int .i64 0, .int .i64 0, .slice none 0 0] 26))).cell? ⟨W.heap.size, 3, none⟩ = some (.slice a1 n1 c1) := cell_of_row _ _ 3 _ _ _ rA1_.out
  have R_0_ : (((W.alloc (.cells #[.int .i64 st, .int .i64 ma, .int .i64 fi, .slice a1 n1 c1] 26)).alloc (.cells #[.int .i64 0, .int .i64 0, .int .i64 0, .slice none 0 0] 26))).cell? ⟨W.heap.size + 1, 0, none⟩ = some (.int .i64 0) := cell_of_row _ _ 0 _ _ _ rR2_.out
  have R_1_ : (((W.alloc (.cells #[.int .i64 st, .int .i64 ma, .int .i64 fi, .slice a1 n1 c1] 26)).alloc (.cells #[.int .i64 0, .int .i64 0, .int .i64 0, .slice none 0 0] 26))).cell? ⟨W.heap.size + 1, 1, none⟩ = some (.int .i64 0) := cell_of_row _ _ 1 _ _ _ rR2_.out
  have R_2_ : (((W.alloc (.cells #[.int .i64 st, .int .i64 ma, .int .i64 fi, .slice a1 n1 c1] 26)).alloc (.cells #[.int .i64 0, .int .i64 0, .int .i64 0, .slice none 0 0] 26))).cell? ⟨W.heap.size + 1, 2, none⟩ = some (.int .i64 0) := cell_of_row _ _ 2 _ _ _ rR2_.out
  have R_3_ : (((W.alloc (.cells #[.int .i64 st, .int .i64 ma, .int .i64 fi, .slice a1 n1 c1] 26)).alloc (.cells #[.int .i64 0, .int .i64 0, .int .i64 0, .slice none 0 0] 26))).cell? ⟨W.heap.size + 1, 3, none⟩ = some (.slice none 0 0) := cell_of_row _ _ 3 _ _ _ rR2_.out
  go_wp2_with fail
  go_at_call 63
  refine (clone_any _ _ xs (rdI_in (HSL.out.grow G3_.out)) (by have := HE1.out; omega)).mono ?_
  rintro e w1 ⟨v2_, rfl, o_, g⟩
  have hsw1 := g.size
  try simp only [World.size_alloc] at hsw1 o_
  have o2_ := owI_out HMX.out o_
  obtain ⟨qp, qn, qc, hv_⟩ := RdL.form o2_.rd
  subst hv_
  have qo := Lib.hid o2_
  clear o_ o2_
  clear A_0_ A_1_ A_2_ A_3_ R_0_ R_1_ R_2_ R_3_
  have rA4_ := Lib.hid (show (w1).heap[W.heap.size]? = some (.cells #[.int .i64 st, .int .i64 ma, .int .i64 fi, .slice a1 n1 c1] 26 (0, 0)) from row_held g rA1_.out)
  clear rA1_
  have rR5_ := Lib.hid (show (w1).heap[W.heap.size + 1]? = some (.cells #[.int .i64 0, .int .i64 0, .int .i64 0, .slice none 0 0] 26 (0, 0)) from row_held g rR2_.out)
  clear rR2_
  have G6_ := Lib.hid (show (W).grownBy (w1) none from gby_trans G3_.out g)
  clear g
  have A_0_ : (w1).cell? ⟨W.heap.size, 0, none⟩ = some (.int .i64 st) := cell_of_row _ _ 0 _ _ _ rA4_.out
  have A_1_ : (w1).cell? ⟨W.heap.size, 1, none⟩ = some (.int .i64 ma) := cell_of_row _ _ 1 _ _ _ rA4_.out
  have A_2_ : (w1).cell? ⟨W.heap.size, 2, none⟩ = some (.int .i64 fi) := cell_of_row _ _ 2 _ _ _ rA4_.out
  have A_3_ : (w1).cell? ⟨W.heap.size, 3, none⟩ = some (.slice a1 n1 c1) := cell_of_row _ _ 3 _ _ _ rA4_.out
  have Af0_ : (w1).frozen? ⟨W.heap.size, 0, none⟩ = false := frozen_of_row _ _ 0 _ _ rA4_.out
  have Af1_ : (w1).frozen? ⟨W.heap.size, 1, none⟩ = false := frozen_of_row _ _ 1 _ _ rA4_.out
  have Af2_ : (w1).frozen? ⟨W.heap.size, 2, none⟩ = false := frozen_of_row _ _ 2 _ _ rA4_.out
  have Af3_ : (w1).frozen? ⟨W.heap.size, 3, none⟩ = false := frozen_of_row _ _ 3 _ _ rA4_.out
  have R_0_ : (w1).cell? ⟨W.heap.size + 1, 0, none⟩ = some (.int .i64 0) := cell_of_row _ _ 0 _ _ _ rR5_.out
  have R_1_ : (w1).cell? ⟨W.heap.size + 1, 1, none⟩ = some (.int .i64 0) := cell_of_row _ _ 1 _ _ _ rR5_.out
  have R_2_ : (w1).cell? ⟨W.heap.size + 1, 2, none⟩ = some (.int .i64 0) := cell_of_row _ _ 2 _ _ _ rR5_.out
  have R_3_ : (w1).cell? ⟨W.heap.size + 1, 3, none⟩ = some (.slice none 0 0) := cell_of_row _ _ 3 _ _ _ rR5_.out
  skip
  have ha2_ := Lib.hid (show ((w1.setCell ⟨W.heap.size, 3, none⟩ (.slice qp qn qc))).heap[W.heap.size]? = some (.cells #[.int .i64 st, .int .i64 ma, .int .i64 fi, .slice qp qn qc] 26 (0, 0)) from heap_setCell_same _ _ 3 _ _ _ rA4_.out)
  have y0_ : ((w1.setCell ⟨W.heap.size, 3, none⟩ (.slice qp qn qc))).cell? ⟨W.heap.size, 0, none⟩ = some (.int .i64 st) := cell_of_row _ _ 0 _ _ _ ha2_.out
  have y1_ : ((w1.setCell ⟨W.heap.size, 3, none⟩ (.slice qp qn qc))).cell? ⟨W.heap.size, 1, none⟩ = some (.int .i64 ma) := cell_of_row _ _ 1 _ _ _ ha2_.out
  have y2_ : ((w1.setCell ⟨W.heap.size, 3, none⟩ (.slice qp qn qc))).cell? ⟨W.heap.size, 2, none⟩ = some (.int .i64 fi) := cell_of_row _ _ 2 _ _ _ ha2_.out
  have y3_ : ((w1.setCell ⟨W.heap.size, 3, none⟩ (.slice qp qn qc))).cell? ⟨W.heap.size, 3, none⟩ = some (.slice qp qn qc) := cell_of_row _ _ 3 _ _ _ ha2_.out
  have rR7_ := Lib.hid (show ((w1.setCell ⟨W.heap.size, 3, none⟩ (.slice qp qn qc))).heap[W.heap.size + 1]? = some (.cells #[.int .i64 0, .int .i64 0, .int .i64 0, .slice none 0 0] 26 (0, 0)) from (set_far rR5_.out (by dsimp only; omega)))
  clear rR5_
  have rA8_ := Lib.hid (show ((w1.setCell ⟨W.heap.size, 3, none⟩ (.slice qp qn qc))).heap[W.heap.size]? = some (.cells #[.int .i64 st, .int .i64 ma, .int .i64 fi, .slice qp qn qc] 26 (0, 0)) from (heap_setCell_same _ _ 3 _ _ _ rA4_.out))
  clear rA4_
  have G9_ := Lib.hid (show (W).grownBy ((w1.setCell ⟨W.heap.size, 3, none⟩ (.slice qp qn qc))) none from (gby_setnew G6_.out _ (by dsimp only; omega) _))
  have A_0_ : ((w1.setCell ⟨W.heap.size, 3, none⟩ (.slice qp qn qc))).cell? ⟨W.heap.size, 0, none⟩ = some (.int .i64 st) := cell_of_row _ _ 0 _ _ _ rA8_.out
  have A_1_ : ((w1.setCell ⟨W.heap.size, 3, none⟩ (.slice qp qn qc))).cell? ⟨W.heap.size, 1, none⟩ = some (.int .i64 ma) := cell_of_row _ _ 1 _ _ _ rA8_.out
  have A_2_ : ((w1.setCell ⟨W.heap.size, 3, none⟩ (.slice qp qn qc))).cell? ⟨W.heap.size, 2, none⟩ = some (.int .i64 fi) := cell_of_row _ _ 2 _ _ _ rA8_.out
  have A_3_ : ((w1.setCell ⟨W.heap.size, 3, none⟩ (.slice qp qn qc))).cell? ⟨W.heap.size, 3, none⟩ = some (.slice qp qn qc) := cell_of_row _ _ 3 _ _ _ rA8_.out
  have R_0_ : ((w1.setCell ⟨W.heap.size, 3, none⟩ (.slice qp qn qc))).cell? ⟨W.heap.size + 1, 0, none⟩ = some (.int .i64 0) := cell_of_row _ _ 0 _ _ _ rR7_.out
  have R_1_ : ((w1.setCell ⟨W.heap.size, 3, none⟩ (.slice qp qn qc))).cell? ⟨W.heap.size + 1, 1, none⟩ = some (.int .i64 0) := cell_of_row _ _ 1 _ _ _ rR7_.out
  have R_2_ : ((w1.setCell ⟨W.heap.size, 3, none⟩ (.slice qp qn qc))).cell? ⟨W.heap.size + 1, 2, none⟩ = some (.int .i64 0) := cell_of_row _ _ 2 _ _ _ rR7_.out
  have R_3_ : ((w1.setCell ⟨W.heap.size, 3, none⟩ (.slice qp qn qc))).cell? ⟨W.heap.size + 1, 3, none⟩ = some (.slice none 0 0) := cell_of_row _ _ 3 _ _ _ rR7_.out
  have Rf0_ : ((w1.setCell ⟨W.heap.size, 3, none⟩ (.slice qp qn qc))).frozen? ⟨W.heap.size + 1, 0, none⟩ = false := frozen_of_row _ _ 0 _ _ rR7_.out
  have Rf1_ : ((w1.setCell ⟨W.heap.size, 3, none⟩ (.slice qp qn qc))).frozen? ⟨W.heap.size + 1, 1, none⟩ = false := frozen_of_row _ _ 1 _ _ rR7_.out
  have Rf2_ : ((w1.setCell ⟨W.heap.size, 3, none⟩ (.slice qp qn qc))).frozen? ⟨W.heap.size + 1, 2, none⟩ = false := frozen_of_row _ _ 2 _ _ rR7_.out
  have Rf3_ : ((w1.setCell ⟨W.heap.size, 3, none⟩ (.slice qp qn qc))).frozen? ⟨W.heap.size + 1, 3, none⟩ = false := frozen_of_row _ _ 3 _ _ rR7_.out
  have zr_ := Lib.hid (show ((((((w1.setCell ⟨W.heap.size, 3, none⟩ (.slice qp qn qc)).setCell ⟨W.heap.size + 1, 0, none⟩ (.int .i64 st)).setCell ⟨W.heap.size + 1, 1, none⟩ (.int .i64 ma)).setCell ⟨W.heap.size + 1, 2, none⟩ (.int .i64 fi)).setCell ⟨W.heap.size + 1, 3, none⟩ (.slice qp qn qc))).heap[W.heap.size + 1]? = some (.cells #[.int .i64 st, .int .i64 ma, .int .i64 fi, .slice qp qn qc] 26 (0, 0)) from (heap_setCell_same _ _ 3 _ _ _ (heap_setCell_same _ _ 2 _ _ _ (heap_setCell_same _ _ 1 _ _ _ (heap_setCell_same _ _ 0 _ _ _ rR7_.out)))))
  have z0_ : ((((((w1.setCell ⟨W.heap.size, 3, none⟩ (.slice qp qn qc)).setCell ⟨W.heap.size + 1, 0, none⟩ (.int .i64 st)).setCell ⟨W.heap.size + 1, 1, none⟩ (.int .i64 ma)).setCell ⟨W.heap.size + 1, 2, none⟩ (.int .i64 fi)).setCell ⟨W.heap.size + 1, 3, none⟩ (.slice qp qn qc))).cell? ⟨W.heap.size + 1, 0, none⟩ = some (.int .i64 st) := cell_of_row _ _ 0 _ _ _ zr_.out
  have z1_ : ((((((w1.setCell ⟨W.heap.size, 3, none⟩ (.slice qp qn qc)).setCell ⟨W.heap.size + 1, 0, none⟩ (.int .i64 st)).setCell ⟨W.heap.size + 1, 1, none⟩ (.int .i64 ma)).setCell ⟨W.heap.size + 1, 2, none⟩ (.int .i64 fi)).setCell ⟨W.heap.size + 1, 3, none⟩ (.slice qp qn qc))).cell? ⟨W.heap.size + 1, 1, none⟩ = some (.int .i64 ma) := cell_of_row _ _ 1 _ _ _ zr_.out
  have z2_ : ((((((w1.setCell ⟨W.heap.size, 3, none⟩ (.slice qp qn qc)).setCell ⟨W.heap.size + 1, 0, none⟩ (.int .i64 st)).setCell ⟨W.heap.size + 1, 1, none⟩ (.int .i64 ma)).setCell ⟨W.heap.size + 1, 2, none⟩ (.int .i64 fi)).setCell ⟨W.heap.size + 1, 3, none⟩ (.slice qp qn qc))).cell? ⟨W.heap.size + 1, 2, none⟩ = some (.int .i64 fi) := cell_of_row _ _ 2 _ _ _ zr_.out
  have z3_ : ((((((w1.setCell ⟨W.heap.size, 3, none⟩ (.slice qp qn qc)).setCell ⟨W.heap.size + 1, 0, none⟩ (.int .i64 st)).setCell ⟨W.heap.size + 1, 1, none⟩ (.int .i64 ma)).setCell ⟨W.heap.size + 1, 2, none⟩ (.int .i64 fi)).setCell ⟨W.heap.size + 1, 3, none⟩ (.slice qp qn qc))).cell? ⟨W.heap.size + 1, 3, none⟩ = some (.slice qp qn qc) := cell_of_row _ _ 3 _ _ _ zr_.out
  go_wp2
  refine bodyPost_ret (v := .agg #[.int .i64 st, .int .i64 ma, .int .i64 fi, .slice qp qn qc]) (by simp [results, go_sem, z0_, z1_, z2_, z3_]) rfl ⟨_, rfl, ?_, ?_⟩
  · exact OwU.wide (lo := W.heap.size + 1 + 1) (by omega) (by simp only [World.size_setCell]; omega) (OwU.keep (chg_one _ _ _ _) (.inr (by omega)) (OwU.keep (chg_one _ _ _ _) (.inr (by omega)) (OwU.keep (chg_one _ _ _ _) (.inr (by omega)) (OwU.keep (chg_one _ _ _ _) (.inr (by omega)) (OwU.one (OwL.keep qo.out (chg_one _ _ _ _) (.inr (by omega))))))))
  · exact (gby_setnew (gby_setnew (gby_setnew (gby_setnew G9_.out _ (by dsimp only; omega) _) _ (by dsimp only; omega) _) _ (by dsimp only; omega) _) _ (by dsimp only; omega) _)

set_option maxRecDepth 8000 in
set_option maxHeartbeats 2000000 in
theorem copyLog_d (W : World) (st ma fi : Int) (v : Value) (xs : List Int) (H : RdL shI W v xs) (hl : szL shI xs ≤ 1048576) : Calls Try.prog 45 #[vLog st ma fi v] W (NewLog st ma fi xs W) := by
  have HSL := Lib.hid H
  have HMX := Lib.hid H.max
  rw [szL_I] at hl
  obtain ⟨a1, n1, c1, rfl⟩ := RdL.form H
  have hn1 : n1 = xs.length := by obtain ⟨_, _, e, _⟩ := H; injection e
  have HE1 := Lib.hid hn1
  have hnb : n1 ≤ 1048576 := by omega
  clear H hn1 hl
  unfold vLog
  go_enter Try.func45, Try.ntmps45
  have rA1_ := Lib.hid (show (((W.alloc (.cells #[.int .i64 st, .int .i64 ma, .int .i64 fi, .slice a1 n1 c1] 26)).alloc (.cells #[.int .i64 0, .int .i64 0, .int .i64 0, .slice none 0 0] 26))).heap[W.heap.size]? = some (.cells #[.int .i64 st, .int .i64 ma, .int .i64 fi, .slice a1 n1 c1] 26 (0, 0)) from by rw [heap_alloc_old _ _ (by simp only [World.size_alloc]; omega)]; exact heap_alloc_new _ _)
  have rR2_ := Lib.hid (show (((W.alloc (.cells #[.int .i64 st, .int .i64 ma, .int .i64 fi, .slice a1 n1 c1] 26)).alloc (.cells #[.int .i64 0, .int .i64 0, .int .i64 0, .slice none 0 0] 26))).heap[W.heap.size + 1]? = some (.cells #[.int .i64 0, .int .i64 0, .int .i64 0, .slice none 0 0] 26 (0, 0)) from by exact heap_pair _ _ _)
  have G3_ := Lib.hid (show (W).grownBy (((W.alloc (.cells #[.int .i64 st, .int .i64 ma, .int .i64 fi, .slice a1 n1 c1] 26)).alloc (.cells #[.int .i64 0, .int .i64 0, .int .i64 0, .slice none 0 0] 26))) none from (gby_alloc (gby_alloc (gby_refl _ _) _) _))
  have A_0_ : (((W.alloc (.cells #[.int .i64 st, .int .i64 ma, .int .i64 fi, .slice a1 n1 c1] 26)).alloc (.cells #[.int .i64 0, .int .i64 0, .int .i64 0, .slice none 0 0] 26))).cell? ⟨W.heap.size, 0, none⟩ = some (.int .i64 st) := cell_of_row _ _ 0 _ _ _ rA1_.out
  have A_1_ : (((W.alloc (.cells #[.int .i64 st, .int .i64 ma, .int .i64 fi, .slice a1 n1 c1] 26)).alloc (.cells #[.int .i64 0, .int .i64 0, .int .i64 0, .slice none 0 0] 26))).cell? ⟨W.heap.size, 1, none⟩ = some (.int .i64 ma) := cell_of_row _ _ 1 _ _ _ rA1_.out
  have A_2_ : (((W.alloc (.cells #[.int .i64 st, .int .i64 ma, .int .i64 fi, .slice a1 n1 c1] 26)).alloc (.cells #[.int .i64 0, .int .i64 0, .int .i64 0, .slice none 0 0] 26))).cell? ⟨W.heap.size, 2, none⟩ = some (.int .i64 fi) := cell_of_row _ _ 2 _ _ _ rA1_.out
  have A_3_ : (((W.alloc (.cells #[.int .i64 st, .int .i64 ma, .int .i64 fi, .slice a1 n1 c1] 26)).alloc (.cells #[.int .i64 0, .int .i64 0, .int .i64 0, .slice none 0 0] 26))).cell? ⟨W.heap.size, 3, none⟩ = some (.slice a1 n1 c1) := cell_of_row _ _ 3 _ _ _ rA1_.out
  have R_0_ : (((W.alloc (.cells #[.int .i64 st, .int .i64 ma, .int .i64 fi, .slice a1 n1 c1] 26)).alloc (.cells #[.int .i64 0, .int .i64 0, .int .i64 0, .slice none 0 0] 26))).cell? ⟨W.heap.size + 1, 0, none⟩ = some (.int .i64 0) := cell_of_row _ _ 0 _ _ _ rR2_.out
  have R_1_ : (((W.alloc (.cells #[.int .i64 st, .int .i64 ma, .int .i64 fi, .slice a1 n1 c1] 26)).alloc (.cells #[.int .i64 0, .int .i64 0, .int .i64 0, .slice none 0 0] 26))).cell? ⟨W.heap.size + 1, 1, none⟩ = some (.int .i64 0) := cell_of_row _ _ 1 _ _ _ rR2_.out
  have R_2_ : (((W.alloc (.cells #[.int .i64 st, .int .i64 ma, .int .i64 fi, .slice a1 n1 c1] 26)).alloc (.cells #[.int .i64 0, .int .i64 0, .int .i64 0, .slice none 0 0] 26))).cell? ⟨W.heap.size + 1, 2, none⟩ = some (.int .i64 0) := cell_of_row _ _ 2 _ _ _ rR2_.out
  have R_3_ : (((W.alloc (.cells #[.int .i64 st, .int .i64 ma, .int .i64 fi, .slice a1 n1 c1] 26)).alloc (.cells #[.int .i64 0, .int .i64 0, .int .i64 0, .slice none 0 0] 26))).cell? ⟨W.heap.size + 1, 3, none⟩ = some (.slice none 0 0) := cell_of_row _ _ 3 _ _ _ rR2_.out
  clear A_0_ A_1_ A_2_ A_3_ R_0_ R_1_ R_2_ R_3_
  have al_ : (((W.alloc (.cells #[.int .i64 st, .int .i64 ma, .int .i64 fi, .slice a1 n1 c1] 26)).alloc (.cells #[.int .i64 0, .int .i64 0, .int .i64 0, .slice none 0 0] 26))).grownBy ((((W.alloc (.cells #[.int .i64 st, .int .i64 ma, .int .i64 fi, .slice a1 n1 c1] 26)).alloc (.cells #[.int .i64 0, .int .i64 0, .int .i64 0, .slice none 0 0] 26))).alloc (.cells #[.int .i64 st, .int .i64 ma, .int .i64 fi, .slice a1 n1 c1] 26)) none := gby_alloc (gby_refl _ _) _
  have rA4_ := Lib.hid (show ((((W.alloc (.cells #[.int .i64 st, .int .i64 ma, .int .i64 fi, .slice a1 n1 c1] 26)).alloc (.cells #[.int .i64 0, .int .i64 0, .int .i64 0, .slice none 0 0] 26)).alloc (.cells #[.int .i64 st, .int .i64 ma, .int .i64 fi, .slice a1 n1 c1] 26))).heap[W.heap.size]? = some (.cells #[.int .i64 st, .int .i64 ma, .int .i64 fi, .slice a1 n1 c1] 26 (0, 0)) from row_held al_ rA1_.out)
  clear rA1_
  have rR5_ := Lib.hid (show ((((W.alloc (.cells #[.int .i64 st, .int .i64 ma, .int .i64 fi, .slice a1 n1 c1] 26)).alloc (.cells #[.int .i64 0, .int .i64 0, .int .i64 0, .slice none 0 0] 26)).alloc (.cells #[.int .i64 st, .int .i64 ma, .int .i64 fi, .slice a1 n1 c1] 26))).heap[W.heap.size + 1]? = some (.cells #[.int .i64 0, .int .i64 0, .int .i64 0, .slice none 0 0] 26 (0, 0)) from row_held al_ rR2_.out)
  clear rR2_
  have G6_ := Lib.hid (show (W).grownBy ((((W.alloc (.cells #[.int .i64 st, .int .i64 ma, .int .i64 fi, .slice a1 n1 c1] 26)).alloc (.cells #[.int .i64 0, .int .i64 0, .int .i64 0, .slice none 0 0] 26)).alloc (.cells #[.int .i64 st, .int .i64 ma, .int .i64 fi, .slice a1 n1 c1] 26))) none from gby_trans G3_.out al_)
  have rX7_ := Lib.hid (show ((((W.alloc (.cells #[.int .i64 st, .int .i64 ma, .int .i64 fi, .slice a1 n1 c1] 26)).alloc (.cells #[.int .i64 0, .int .i64 0, .int .i64 0, .slice none 0 0] 26)).alloc (.cells #[.int .i64 st, .int .i64 ma, .int .i64 fi, .slice a1 n1 c1] 26))).heap[W.heap.size + 1 + 1]? = some (.cells #[.int .i64 st, .int .i64 ma, .int .i64 fi, .slice a1 n1 c1] 26 (0, 0)) from by first | exact heap_alloc_new _ _ | exact heap_pair _ _ _ | exact heap_trip _ _ _ _)
  clear al_
  have A_0_ : ((((W.alloc (.cells #[.int .i64 st, .int .i64 ma, .int .i64 fi, .slice a1 n1 c1] 26)).alloc (.cells #[.int .i64 0, .int .i64 0, .int .i64 0, .slice none 0 0] 26)).alloc (.cells #[.int .i64 st, .int .i64 ma, .int .i64 fi, .slice a1 n1 c1] 26))).cell? ⟨W.heap.size, 0, none⟩ = some (.int .i64 st) := cell_of_row _ _ 0 _ _ _ rA4_.out
  have A_1_ : ((((W.alloc (.cells #[.int .i64 st, .int .i64 ma, .int .i64 fi, .slice a1 n1 c1] 26)).alloc (.cells #[.int .i64 0, .int .i64 0, .int .i64 0, .slice none 0 0] 26)).alloc (.cells #[.int .i64 st, .int .i64 ma, .int .i64 fi, .slice a1 n1 c1] 26))).cell? ⟨W.heap.size, 1, none⟩ = some (.int .i64 ma) := cell_of_row _ _ 1 _ _ _ rA4_.out
  have A_2_ : ((((W.alloc (.cells #[.int .i64 st, .int .i64 ma, .int .i64 fi, .slice a1 n1 c1] 26)).alloc (.cells #[.int .i64 0, .int .i64 0, .int .i64 0, .slice none 0 0] 26)).alloc (.cells #[.int .i64 st, .int .i64 ma, .int .i64 fi, .slice a1 n1 c1] 26))).cell? ⟨W.heap.size, 2, none⟩ = some (.int .i64 fi) := cell_of_row _ _ 2 _ _ _ rA4_.out
  have A_3_ : ((((W.alloc (.cells #[.int .i64 st, .int .i64 ma, .int .i64 fi, .slice a1 n1 c1] 26)).alloc (.cells #[.int .i64 0, .int .i64 0, .int .i64 0, .slice none 0 0] 26)).alloc (.cells #[.int .i64 st, .int .i64 ma, .int .i64 fi, .slice a1 n1 c1] 26))).cell? ⟨W.heap.size, 3, none⟩ = some (.slice a1 n1 c1) := cell_of_row _ _ 3 _ _ _ rA4_.out
  have R_0_ : ((((W.alloc (.cells #[.int .i64 st, .int .i64 ma, .int .i64 fi, .slice a1 n1 c1] 26)).alloc (.cells #[.int .i64 0, .int .i64 0, .int .i64 0, .slice none 0 0] 26)).alloc (.cells #[.int .i64 st, .int .i64 ma, .int .i64 fi, .slice a1 n1 c1] 26))).cell? ⟨W.heap.size + 1, 0, none⟩ = some (.int .i64 0) := cell_of_row _ _ 0 _ _ _ rR5_.out
  have R_1_ : ((((W.alloc (.cells #[.int .i64 st, .int .i64 ma, .int .i64 fi, .slice a1 n1 c1] 26)).alloc (.cells #[.int .i64 0, .int .i64 0, .int .i64 0, .slice none 0 0] 26)).alloc (.cells #[.int .i64 st, .int .i64 ma, .int .i64 fi, .slice a1 n1 c1] 26))).cell? ⟨W.heap.size + 1, 1, none⟩ = some (.int .i64 0) := cell_of_row _ _ 1 _ _ _ rR5_.out
  have R_2_ : ((((W.alloc (.cells #[.int .i64 st, .int .i64 ma, .int .i64 fi, .slice a1 n1 c1] 26)).alloc (.cells #[.int .i64 0, .int .i64 0, .int .i64 0, .slice none 0 0] 26)).alloc (.cells #[.int .i64 st, .int .i64 ma, .int .i64 fi, .slice a1 n1 c1] 26))).cell? ⟨W.heap.size + 1, 2, none⟩ = some (.int .i64 0) := cell_of_row _ _ 2 _ _ _ rR5_.out
  have R_3_ : ((((W.alloc (.cells #[.int .i64 st, .int .i64 ma, .int .i64 fi, .slice a1 n1 c1] 26)).alloc (.cells #[.int .i64 0, .int .i64 0, .int .i64 0, .slice none 0 0] 26)).alloc (.cells #[.int .i64 st, .int .i64 ma, .int .i64 fi, .slice a1 n1 c1] 26))).cell? ⟨W.heap.size + 1, 3, none⟩ = some (.slice none 0 0) := cell_of_row _ _ 3 _ _ _ rR5_.out
  have X_0_ : ((((W.alloc (.cells #[.int .i64 st, .int .i64 ma, .int .i64 fi, .slice a1 n1 c1] 26)).alloc (.cells #[.int .i64 0, .int .i64 0, .int .i64 0, .slice none 0 0] 26)).alloc (.cells #[.int .i64 st, .int .i64 ma, .int .i64 fi, .slice a1 n1 c1] 26))).cell? ⟨W.heap.size + 1 + 1, 0, none⟩ = some (.int .i64 st) := cell_of_row _ _ 0 _ _ _ rX7_.out
  have X_1_ : ((((W.alloc (.cells #[.int .i64 st, .int .i64 ma, .int .i64 fi, .slice a1 n1 c1] 26)).alloc (.cells #[.int .i64 0, .int .i64 0, .int .i64 0, .slice none 0 0] 26)).alloc (.cells #[.int .i64 st, .int .i64 ma, .int .i64 fi, .slice a1 n1 c1] 26))).cell? ⟨W.heap.size + 1 + 1, 1, none⟩ = some (.int .i64 ma) := cell_of_row _ _ 1 _ _ _ rX7_.out
  have X_2_ : ((((W.alloc (.cells #[.int .i64 st, .int .i64 ma, .int .i64 fi, .slice a1 n1 c1] 26)).alloc (.cells #[.int .i64 0, .int .i64 0, .int .i64 0, .slice none 0 0] 26)).alloc (.cells #[.int .i64 st, .int .i64 ma, .int .i64 fi, .slice a1 n1 c1] 26))).cell? ⟨W.heap.size + 1 + 1, 2, none⟩ = some (.int .i64 fi) := cell_of_row _ _ 2 _ _ _ rX7_.out
  have X_3_ : ((((W.alloc (.cells #[.int .i64 st, .int .i64 ma, .int .i64 fi, .slice a1 n1 c1] 26)).alloc (.cells #[.int .i64 0, .int .i64 0, .int .i64 0, .slice none 0 0] 26)).alloc (.cells #[.int .i64 st, .int .i64 ma, .int .i64 fi, .slice a1 n1 c1] 26))).cell? ⟨W.heap.size + 1 + 1, 3, none⟩ = some (.slice a1 n1 c1) := cell_of_row _ _ 3 _ _ _ rX7_.out
  have hsz_ : ((((W.alloc (.cells #[.int .i64 st, .int .i64 ma, .int .i64 fi, .slice a1 n1 c1] 26)).alloc (.cells #[.int .i64 0, .int .i64 0, .int .i64 0, .slice none 0 0] 26)).alloc (.cells #[.int .i64 st, .int .i64 ma, .int .i64 fi, .slice a1 n1 c1] 26))).heap.size = W.heap.size + 1 + 1 + 1 := by simp only [World.size_alloc]
  go_wp2_with (at_builtin; refine wpList_append_plain plainI slTI _ rfl _ _ rfl (W.heap.size + 1 + 1 + 1) _ 0 [] rfl (own_emptyP (by rw [← hsz_]; exact heap_alloc_new _ _) (Nat.le_refl _)) a1 n1 c1 xs rfl (HSL.out.grow (gby_alloc G6_.out _)) (by omega) (by simp) ?_; intro v2_ w2 hown2 hg2; have HO1 := Lib.hid hown2; have HG1 := Lib.hid (gby_new (gby_alloc (gby_refl ((((W.alloc (.cells #[.int .i64 st, .int .i64 ma, .int .i64 fi, .slice a1 n1 c1] 26)).alloc (.cells #[.int .i64 0, .int .i64 0, .int .i64 0, .slice none 0 0] 26)).alloc (.cells #[.int .i64 st, .int .i64 ma, .int .i64 fi, .slice a1 n1 c1] 26))) none) _) hg2 (fun i hi => by obtain rfl := Option.some.inj (show some (W.heap.size + 1 + 1 + 1) = some i from hi); simp)); clear hown2 hg2; have hs1 := HG1.out.size; (try simp only [World.size_setCell, World.size_alloc] at hs1); have o_ := owP_row (s := shI) _ plainI.len plainI.ow HMX.out (show w2.ownsRow (W.heap.size + 1 + 1 + 1) 3 1 v2_ (xs).length ((xs).flatMap (fun x => [.int .i64 x])) by have q := HO1.out; rw [Nat.zero_add, List.nil_append] at q; rw [← HE1.out]; exact q); obtain ⟨qp, qn, qc, hv_⟩ := RdL.form o_.rd; subst hv_; have qo := Lib.hid o_; clear o_; have xr_ := Lib.hid (row_held HG1.out rX7_.out); have rr_ := Lib.hid (row_held HG1.out rR5_.out); have xf_ : w2.frozen? ⟨W.heap.size + 1 + 1, 3, none⟩ = false := frozen_of_row _ _ 3 _ _ xr_.out; have rf0_ : w2.frozen? ⟨W.heap.size + 1, 0, none⟩ = false := frozen_of_row _ _ 0 _ _ rr_.out; have rf1_ : w2.frozen? ⟨W.heap.size + 1, 1, none⟩ = false := frozen_of_row _ _ 1 _ _ rr_.out; have rf2_ : w2.frozen? ⟨W.heap.size + 1, 2, none⟩ = false := frozen_of_row _ _ 2 _ _ rr_.out; have rf3_ : w2.frozen? ⟨W.heap.size + 1, 3, none⟩ = false := frozen_of_row _ _ 3 _ _ rr_.out; have xc0_ : w2.cell? ⟨W.heap.size + 1 + 1, 0, none⟩ = some (.int .i64 st) := cell_of_row _ _ 0 _ _ _ xr_.out; have xc1_ : w2.cell? ⟨W.heap.size + 1 + 1, 1, none⟩ = some (.int .i64 ma) := cell_of_row _ _ 1 _ _ _ xr_.out; have xc2_ : w2.cell? ⟨W.heap.size + 1 + 1, 2, none⟩ = some (.int .i64 fi) := cell_of_row _ _ 2 _ _ _ xr_.out; have xc3_ : w2.cell? ⟨W.heap.size + 1 + 1, 3, none⟩ = some (.slice a1 n1 c1) := cell_of_row _ _ 3 _ _ _ xr_.out; have xq_ := Lib.hid (show (w2.setCell ⟨W.heap.size + 1 + 1, 3, none⟩ (.slice qp qn qc)).heap[W.heap.size + 1 + 1]? = some (.cells #[.int .i64 st, .int .i64 ma, .int .i64 fi, .slice qp qn qc] 26 (0, 0)) from heap_setCell_same _ _ 3 _ _ _ xr_.out); have xd0_ : (w2.setCell ⟨W.heap.size + 1 + 1, 3, none⟩ (.slice qp qn qc)).cell? ⟨W.heap.size + 1 + 1, 0, none⟩ = some (.int .i64 st) := cell_of_row _ _ 0 _ _ _ xq_.out; have xd1_ : (w2.setCell ⟨W.heap.size + 1 + 1, 3, none⟩ (.slice qp qn qc)).cell? ⟨W.heap.size + 1 + 1, 1, none⟩ = some (.int .i64 ma) := cell_of_row _ _ 1 _ _ _ xq_.out; have xd2_ : (w2.setCell ⟨W.heap.size + 1 + 1, 3, none⟩ (.slice qp qn qc)).cell? ⟨W.heap.size + 1 + 1, 2, none⟩ = some (.int .i64 fi) := cell_of_row _ _ 2 _ _ _ xq_.out; have xd3_ : (w2.setCell ⟨W.heap.size + 1 + 1, 3, none⟩ (.slice qp qn qc)).cell? ⟨W.heap.size + 1 + 1, 3, none⟩ = some (.slice qp qn qc) := cell_of_row _ _ 3 _ _ _ xq_.out; have rr2_ := Lib.hid (show (w2.setCell ⟨W.heap.size + 1 + 1, 3, none⟩ (.slice qp qn qc)).heap[W.heap.size + 1]? = some (.cells #[.int .i64 0, .int .i64 0, .int .i64 0, .slice none 0 0] 26 (0, 0)) from set_far rr_.out (by dsimp only; omega)); have rc0_ : w2.cell? ⟨W.heap.size + 1, 0, none⟩ = some (.int .i64 0) := cell_of_row _ _ 0 _ _ _ rr_.out; have rc1_ : w2.cell? ⟨W.heap.size + 1, 1, none⟩ = some (.int .i64 0) := cell_of_row _ _ 1 _ _ _ rr_.out; have rc2_ : w2.cell? ⟨W.heap.size + 1, 2, none⟩ = some (.int .i64 0) := cell_of_row _ _ 2 _ _ _ rr_.out; have rc3_ : w2.cell? ⟨W.heap.size + 1, 3, none⟩ = some (.slice none 0 0) := cell_of_row _ _ 3 _ _ _ rr_.out; have rd0_ : (w2.setCell ⟨W.heap.size + 1 + 1, 3, none⟩ (.slice qp qn qc)).cell? ⟨W.heap.size + 1, 0, none⟩ = some (.int .i64 0) := cell_of_row _ _ 0 _ _ _ rr2_.out; have rd1_ : (w2.setCell ⟨W.heap.size + 1 + 1, 3, none⟩ (.slice qp qn qc)).cell? ⟨W.heap.size + 1, 1, none⟩ = some (.int .i64 0) := cell_of_row _ _ 1 _ _ _ rr2_.out; have rd2_ : (w2.setCell ⟨W.heap.size + 1 + 1, 3, none⟩ (.slice qp qn qc)).cell? ⟨W.heap.size + 1, 2, none⟩ = some (.int .i64 0) := cell_of_row _ _ 2 _ _ _ rr2_.out; have rd3_ : (w2.setCell ⟨W.heap.size + 1 + 1, 3, none⟩ (.slice qp qn qc)).cell? ⟨W.heap.size + 1, 3, none⟩ = some (.slice none 0 0) := cell_of_row _ _ 3 _ _ _ rr2_.out; have re0_ : (w2.setCell ⟨W.heap.size + 1 + 1, 3, none⟩ (.slice qp qn qc)).frozen? ⟨W.heap.size + 1, 0, none⟩ = false := frozen_of_row _ _ 0 _ _ rr2_.out; have re1_ : (w2.setCell ⟨W.heap.size + 1 + 1, 3, none⟩ (.slice qp qn qc)).frozen? ⟨W.heap.size + 1, 1, none⟩ = false := frozen_of_row _ _ 1 _ _ rr2_.out; have re2_ : (w2.setCell ⟨W.heap.size + 1 + 1, 3, none⟩ (.slice qp qn qc)).frozen? ⟨W.heap.size + 1, 2, none⟩ = false := frozen_of_row _ _ 2 _ _ rr2_.out; have re3_ : (w2.setCell ⟨W.heap.size + 1 + 1, 3, none⟩ (.slice qp qn qc)).frozen? ⟨W.heap.size + 1, 3, none⟩ = false := frozen_of_row _ _ 3 _ _ rr2_.out)
  clear A_0_ A_1_ A_2_ A_3_ R_0_ R_1_ R_2_ R_3_ X_0_ X_1_ X_2_ X_3_
  have rA8_ := Lib.hid (show (w2).heap[W.heap.size]? = some (.cells #[.int .i64 st, .int .i64 ma, .int .i64 fi, .slice a1 n1 c1] 26 (0, 0)) from row_held HG1.out rA4_.out)
  clear rA4_
  have rR9_ := Lib.hid (show (w2).heap[W.heap.size + 1]? = some (.cells #[.int .i64 0, .int .i64 0, .int .i64 0, .slice none 0 0] 26 (0, 0)) from row_held HG1.out rR5_.out)
  clear rR5_
  have rX10_ := Lib.hid (show (w2).heap[W.heap.size + 1 + 1]? = some (.cells #[.int .i64 st, .int .i64 ma, .int .i64 fi, .slice a1 n1 c1] 26 (0, 0)) from row_held HG1.out rX7_.out)
  clear rX7_
  have G11_ := Lib.hid (show (W).grownBy (w2) none from gby_trans G6_.out HG1.out)
  have rA12_ := Lib.hid (show ((w2.setCell ⟨W.heap.size + 1 + 1, 3, none⟩ (.slice qp qn qc))).heap[W.heap.size]? = some (.cells #[.int .i64 st, .int .i64 ma, .int .i64 fi, .slice a1 n1 c1] 26 (0, 0)) from (set_far rA8_.out (by dsimp only; omega)))
  clear rA8_
  have rR13_ := Lib.hid (show ((w2.setCell ⟨W.heap.size + 1 + 1, 3, none⟩ (.slice qp qn qc))).heap[W.heap.size + 1]? = some (.cells #[.int .i64 0, .int .i64 0, .int .i64 0, .slice none 0 0] 26 (0, 0)) from (set_far rR9_.out (by dsimp only; omega)))
  clear rR9_
  have rX14_ := Lib.hid (show ((w2.setCell ⟨W.heap.size + 1 + 1, 3, none⟩ (.slice qp qn qc))).heap[W.heap.size + 1 + 1]? = some (.cells #[.int .i64 st, .int .i64 ma, .int .i64 fi, .slice qp qn qc] 26 (0, 0)) from (heap_setCell_same _ _ 3 _ _ _ rX10_.out))
  clear rX10_
  have G15_ := Lib.hid (show (W).grownBy ((w2.setCell ⟨W.heap.size + 1 + 1, 3, none⟩ (.slice qp qn qc))) none from (gby_setnew G11_.out _ (by dsimp only; omega) _))
  have A_0_ : ((w2.setCell ⟨W.heap.size + 1 + 1, 3, none⟩ (.slice qp qn qc))).cell? ⟨W.heap.size, 0, none⟩ = some (.int .i64 st) := cell_of_row _ _ 0 _ _ _ rA12_.out
  have A_1_ : ((w2.setCell ⟨W.heap.size + 1 + 1, 3, none⟩ (.slice qp qn qc))).cell? ⟨W.heap.size, 1, none⟩ = some (.int .i64 ma) := cell_of_row _ _ 1 _ _ _ rA12_.out
  have A_2_ : ((w2.setCell ⟨W.heap.size + 1 + 1, 3, none⟩ (.slice qp qn qc))).cell? ⟨W.heap.size, 2, none⟩ = some (.int .i64 fi) := cell_of_row _ _ 2 _ _ _ rA12_.out
  have A_3_ : ((w2.setCell ⟨W.heap.size + 1 + 1, 3, none⟩ (.slice qp qn qc))).cell? ⟨W.heap.size, 3, none⟩ = some (.slice a1 n1 c1) := cell_of_row _ _ 3 _ _ _ rA12_.out
  have R_0_ : ((w2.setCell ⟨W.heap.size + 1 + 1, 3, none⟩ (.slice qp qn qc))).cell? ⟨W.heap.size + 1, 0, none⟩ = some (.int .i64 0) := cell_of_row _ _ 0 _ _ _ rR13_.out
  have R_1_ : ((w2.setCell ⟨W.heap.size + 1 + 1, 3, none⟩ (.slice qp qn qc))).cell? ⟨W.heap.size + 1, 1, none⟩ = some (.int .i64 0) := cell_of_row _ _ 1 _ _ _ rR13_.out
  have R_2_ : ((w2.setCell ⟨W.heap.size + 1 + 1, 3, none⟩ (.slice qp qn qc))).cell? ⟨W.heap.size + 1, 2, none⟩ = some (.int .i64 0) := cell_of_row _ _ 2 _ _ _ rR13_.out
  have R_3_ : ((w2.setCell ⟨W.heap.size + 1 + 1, 3, none⟩ (.slice qp qn qc))).cell? ⟨W.heap.size + 1, 3, none⟩ = some (.slice none 0 0) := cell_of_row _ _ 3 _ _ _ rR13_.out
  have Rf0_ : ((w2.setCell ⟨W.heap.size + 1 + 1, 3, none⟩ (.slice qp qn qc))).frozen? ⟨W.heap.size + 1, 0, none⟩ = false := frozen_of_row _ _ 0 _ _ rR13_.out
  have Rf1_ : ((w2.setCell ⟨W.heap.size + 1 + 1, 3, none⟩ (.slice qp qn qc))).frozen? ⟨W.heap.size + 1, 1, none⟩ = false := frozen_of_row _ _ 1 _ _ rR13_.out
  have Rf2_ : ((w2.setCell ⟨W.heap.size + 1 + 1, 3, none⟩ (.slice qp qn qc))).frozen? ⟨W.heap.size + 1, 2, none⟩ = false := frozen_of_row _ _ 2 _ _ rR13_.out
  have Rf3_ : ((w2.setCell ⟨W.heap.size + 1 + 1, 3, none⟩ (.slice qp qn qc))).frozen? ⟨W.heap.size + 1, 3, none⟩ = false := frozen_of_row _ _ 3 _ _ rR13_.out
  have X_0_ : ((w2.setCell ⟨W.heap.size + 1 + 1, 3, none⟩ (.slice qp qn qc))).cell? ⟨W.heap.size + 1 + 1, 0, none⟩ = some (.int .i64 st) := cell_of_row _ _ 0 _ _ _ rX14_.out
  have X_1_ : ((w2.setCell ⟨W.heap.size + 1 + 1, 3, none⟩ (.slice qp qn qc))).cell? ⟨W.heap.size + 1 + 1, 1, none⟩ = some (.int .i64 ma) := cell_of_row _ _ 1 _ _ _ rX14_.out
  have X_2_ : ((w2.setCell ⟨W.heap.size + 1 + 1, 3, none⟩ (.slice qp qn qc))).cell? ⟨W.heap.size + 1 + 1, 2, none⟩ = some (.int .i64 fi) := cell_of_row _ _ 2 _ _ _ rX14_.out
  have X_3_ : ((w2.setCell ⟨W.heap.size + 1 + 1, 3, none⟩ (.slice qp qn qc))).cell? ⟨W.heap.size + 1 + 1, 3, none⟩ = some (.slice qp qn qc) := cell_of_row _ _ 3 _ _ _ rX14_.out
  have zr_ := Lib.hid (show ((((((w2.setCell ⟨W.heap.size + 1 + 1, 3, none⟩ (.slice qp qn qc)).setCell ⟨W.heap.size + 1, 0, none⟩ (.int .i64 st)).setCell ⟨W.heap.size + 1, 1, none⟩ (.int .i64 ma)).setCell ⟨W.heap.size + 1, 2, none⟩ (.int .i64 fi)).setCell ⟨W.heap.size + 1, 3, none⟩ (.slice qp qn qc))).heap[W.heap.size + 1]? = some (.cells #[.int .i64 st, .int .i64 ma, .int .i64 fi, .slice qp qn qc] 26 (0, 0)) from (heap_setCell_same _ _ 3 _ _ _ (heap_setCell_same _ _ 2 _ _ _ (heap_setCell_same _ _ 1 _ _ _ (heap_setCell_same _ _ 0 _ _ _ rR13_.out)))))
  have z0_ : ((((((w2.setCell ⟨W.heap.size + 1 + 1, 3, none⟩ (.slice qp qn qc)).setCell ⟨W.heap.size + 1, 0, none⟩ (.int .i64 st)).setCell ⟨W.heap.size + 1, 1, none⟩ (.int .i64 ma)).setCell ⟨W.heap.size + 1, 2, none⟩ (.int .i64 fi)).setCell ⟨W.heap.size + 1, 3, none⟩ (.slice qp qn qc))).cell? ⟨W.heap.size + 1, 0, none⟩ = some (.int .i64 st) := cell_of_row _ _ 0 _ _ _ zr_.out
  have z1_ : ((((((w2.setCell ⟨W.heap.size + 1 + 1, 3, none⟩ (.slice qp qn qc)).setCell ⟨W.heap.size + 1, 0, none⟩ (.int .i64 st)).setCell ⟨W.heap.size + 1, 1, none⟩ (.int .i64 ma)).setCell ⟨W.heap.size + 1, 2, none⟩ (.int .i64 fi)).setCell ⟨W.heap.size + 1, 3, none⟩ (.slice qp qn qc))).cell? ⟨W.heap.size + 1, 1, none⟩ = some (.int .i64 ma) := cell_of_row _ _ 1 _ _ _ zr_.out
  have z2_ : ((((((w2.setCell ⟨W.heap.size + 1 + 1, 3, none⟩ (.slice qp qn qc)).setCell ⟨W.heap.size + 1, 0, none⟩ (.int .i64 st)).setCell ⟨W.heap.size + 1, 1, none⟩ (.int .i64 ma)).setCell ⟨W.heap.size + 1, 2, none⟩ (.int .i64 fi)).setCell ⟨W.heap.size + 1, 3, none⟩ (.slice qp qn qc))).cell? ⟨W.heap.size + 1, 2, none⟩ = some (.int .i64 fi) := cell_of_row _ _ 2 _ _ _ zr_.out
  have z3_ : ((((((w2.setCell ⟨W.heap.size + 1 + 1, 3, none⟩ (.slice qp qn qc)).setCell ⟨W.heap.size + 1, 0, none⟩ (.int .i64 st)).setCell ⟨W.heap.size + 1, 1, none⟩ (.int .i64 ma)).setCell ⟨W.heap.size + 1, 2, none⟩ (.int .i64 fi)).setCell ⟨W.heap.size + 1, 3, none⟩ (.slice qp qn qc))).cell? ⟨W.heap.size + 1, 3, none⟩ = some (.slice qp qn qc) := cell_of_row _ _ 3 _ _ _ zr_.out
  go_wp2
  refine bodyPost_ret (v := .agg #[.int .i64 st, .int .i64 ma, .int .i64 fi, .slice qp qn qc]) (by simp [results, go_sem, z0_, z1_, z2_, z3_]) rfl ⟨_, rfl, ?_, ?_⟩
  · exact OwU.wide (lo := W.heap.size + 1 + 1 + 1) (by omega) (by simp only [World.size_setCell]; omega) (OwU.keep (chg_one _ _ _ _) (.inr (by omega)) (OwU.keep (chg_one _ _ _ _) (.inr (by omega)) (OwU.keep (chg_one _ _ _ _) (.inr (by omega)) (OwU.keep (chg_one _ _ _ _) (.inr (by omega)) (OwU.one (OwL.keep qo.out (chg_one _ _ _ _) (.inr (by omega))))))))
  · exact (gby_setnew (gby_setnew (gby_setnew (gby_setnew G15_.out _ (by dsimp only; omega) _) _ (by dsimp only; omega) _) _ (by dsimp only; omega) _) _ (by dsimp only; omega) _)

end Go.Proofs.Ytgagbhkidponnad
