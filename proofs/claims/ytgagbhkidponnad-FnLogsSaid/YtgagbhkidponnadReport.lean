/-
  ReportError, on both sides.
-/
import Derived.Test.YtgagbhkidponnadLogCp
import Derived.StillTailTactics
import Derived.Test.YtgagbhkidponnadRReportError
namespace Go.Proofs.Ytgagbhkidponnad
open Go Go.RowKit
set_option linter.unusedVariables false

set_option maxRecDepth 8000 in
set_option maxHeartbeats 2000000 in
theorem specReport_bad (W : World) (st ma fi : Int) (v : Value) (xs : List Int) (k : Int) (H : RdL shI W v xs) (hl : szL shI xs ≤ 1048576) (hb : ¬ LOk st ma fi xs) : Calls Try.prog 12 #[vLog st ma fi v, .int .i64 k] W (ResIReportError st ma fi xs (-1) W) := by
  have HSL := Lib.hid H
  have HL := Lib.hid hl
  obtain ⟨a1, n1, c1, rfl⟩ := RdL.form H
  clear H hl
  unfold vLog
  have HOK := Lib.hid hb
  clear hb
  go_enter Try.func12, Try.ntmps12
  have rA1_ := Lib.hid (show (((W.alloc (.cells #[.int .i64 st, .int .i64 ma, .int .i64 fi, .slice a1 n1 c1] 26)).alloc (.cells #[.int .i64 0, .int .i64 0, .int .i64 0, .slice none 0 0] 26))).heap[W.heap.size]? = some (.cells #[.int .i64 st, .int .i64 ma, .int .i64 fi, .slice a1 n1 c1] 26 (0, 0)) from by rw [heap_alloc_old _ _ (by simp only [World.size_alloc]; omega)]; exact heap_alloc_new _ _)
  have rR2_ := Lib.hid (show (((W.alloc (.cells #[.int .i64 st, .int .i64 ma, .int .i64 fi, .slice a1 n1 c1] 26)).alloc (.cells #[.int .i64 0, .int .i64 0, .int .i64 0, .slice none 0 0] 26))).heap[W.heap.size + 1]? = some (.cells #[.int .i64 0, .int .i64 0, .int .i64 0, .slice none 0 0] 26 (0, 0)) from by exact heap_pair _ _ _)
  have G3_ := Lib.hid (show (W).grownBy (((W.alloc (.cells #[.int .i64 st, .int .i64 ma, .int .i64 fi, .slice a1 n1 c1] 26)).alloc (.cells #[.int .i64 0, .int .i64 0, .int .i64 0, .slice none 0 0] 26))) none from (gby_alloc (gby_alloc (gby_refl _ _) _) _))
  have A_0_ : (((W.alloc (.cells #[.int .i64 st, .int .i64 ma, .int .i64 fi, .slice a1 n1 c1] 26)).alloc (.cells #[.int .i64 0, .int .i64 0, .int .i64 0, .slice none 0 0] 26))).cell? ⟨W.heap.size, 0, none⟩ = some (.int .i64 st) := cell_of_row _ _ 0 _ _ _ rA1_.out
  have A_1_ : (((W.alloc (.cells #[.int .i64 st, .int .i64 ma, .int .i64 fi, .slice a1 n1 c1] 26)).alloc (.cells #[.int .i64 0, .int .i64 0, .int .i64 0, .slice none 0 0] 26))).cell? ⟨W.heap.size, 1, none⟩ = some (.int .i64 ma) := cell_of_row _ _ 1 _ _ _ rA1_.out
  have A_2_ : (((W.alloc (.cells #[.int .i64 st, .int .i64 ma, .int .i64 fi, .slice a1 n1 c1] 26)).alloc (.cells #[.int .i64 0, .int .i64 0, .int .i64 0, .slice none 0 0] 26))).cell? ⟨W.heap.size, 2, none⟩ = some (.int .i64 fi) := cell_of_row _ _ 2 _ _ _ rA1_.out
  have A_3_ : (((W.alloc (.cells #[.int .i64 st, .int .i64 ma, .int .i64 fi, .slice a1 n1 c1] 26)).alloc (.cells #[.int .i64 0, .int .i64 0, .int .i64 0, .slice none 0 0] 26))).cell? ⟨W.heap.size, 3, none⟩ = some (.slice a1 n1 c1) := cell_of_row _ _ 3 _ _ _ rA1_.out
  have R_0_ : (((W.alloc (.cells #[.int .i64 st, .int .i64 ma, .int .i64 fi, .slice a1 n1 c1] 26)).alloc (.cells #[.int .i64 0, .int .i64 0, .int .i64 0, .slice none 0 0] 26))).cell? ⟨W.heap.size + 1, 0, none⟩ = some (.int .i64 0) := cell_of_row _ _ 0 _ _ _ rR2_.out
  have R_1_ : (((W.alloc (.cells #[.int .i64 st, .int .i64 ma, .int .i64 fi, .slice a1 n1 c1] 26)).alloc (.cells #[.int .i64 0, .int .i64 0, .int .i64 0, .slice none 0 0] 26))).cell? ⟨W.heap.size + 1, 1, none⟩ = some (.int .i64 0) := cell_of_row _ _ 1 _ _ _ rR2_.out
  have R_2_ : (((W.alloc (.cells #[.int .i64 st, .int .i64 ma, .int .i64 fi, .slice a1 n1 c1] 26)).alloc (.cells #[.int .i64 0, .int .i64 0, .int .i64 0, .slice none 0 0] 26))).cell? ⟨W.heap.size + 1, 2, none⟩ = some (.int .i64 0) := cell_of_row _ _ 2 _ _ _ rR2_.out
  have R_3_ : (((W.alloc (.cells #[.int .i64 st, .int .i64 ma, .int .i64 fi, .slice a1 n1 c1] 26)).alloc (.cells #[.int .i64 0, .int .i64 0, .int .i64 0, .slice none 0 0] 26))).cell? ⟨W.heap.size + 1, 3, none⟩ = some (.slice none 0 0) := cell_of_row _ _ 3 _ _ _ rR2_.out
  go_wp2_with fail
  go_at_call 45
  refine (copyLog_d _ _ _ _ _ xs (HSL.out.grow G3_.out) HL.out).mono ?_
  rintro e w1 ⟨d, rfl, o, g⟩
  have sz_ := g.size
  try simp only [World.size_alloc] at sz_ o
  clear A_0_ A_1_ A_2_ A_3_ R_0_ R_1_ R_2_ R_3_
  have rA4_ := Lib.hid (show (w1).heap[W.heap.size]? = some (.cells #[.int .i64 st, .int .i64 ma, .int .i64 fi, .slice a1 n1 c1] 26 (0, 0)) from row_held g rA1_.out)
  clear rA1_
  have rR5_ := Lib.hid (show (w1).heap[W.heap.size + 1]? = some (.cells #[.int .i64 0, .int .i64 0, .int .i64 0, .slice none 0 0] 26 (0, 0)) from row_held g rR2_.out)
  clear rR2_
  have G6_ := Lib.hid (show (W).grownBy (w1) none from gby_trans G3_.out g)
  clear g
  obtain ⟨qp, qn, qc, hv2⟩ := RdL.form (OwU.rd o)
  subst hv2
  unfold vLog
  have oC7_ := Lib.hid (show OwU (w1) (W.heap.size + 1 + 1) (w1.heap.size) [] [own shI (.slice qp qn qc) xs] from o)
  clear o
  have al_ : (w1).grownBy ((w1).alloc (.cells #[.int .i64 st, .int .i64 ma, .int .i64 fi, .slice qp qn qc] 26)) none := gby_alloc (gby_refl _ _) _
  have rA8_ := Lib.hid (show ((w1.alloc (.cells #[.int .i64 st, .int .i64 ma, .int .i64 fi, .slice qp qn qc] 26))).heap[W.heap.size]? = some (.cells #[.int .i64 st, .int .i64 ma, .int .i64 fi, .slice a1 n1 c1] 26 (0, 0)) from row_held al_ rA4_.out)
  clear rA4_
  have rR9_ := Lib.hid (show ((w1.alloc (.cells #[.int .i64 st, .int .i64 ma, .int .i64 fi, .slice qp qn qc] 26))).heap[W.heap.size + 1]? = some (.cells #[.int .i64 0, .int .i64 0, .int .i64 0, .slice none 0 0] 26 (0, 0)) from row_held al_ rR5_.out)
  clear rR5_
  have oC10_ := Lib.hid (show OwU ((w1.alloc (.cells #[.int .i64 st, .int .i64 ma, .int .i64 fi, .slice qp qn qc] 26))) (W.heap.size + 1 + 1) (w1.heap.size) [] [own shI (.slice qp qn qc) xs] from OwU.grow oC7_.out al_)
  clear oC7_
  have G11_ := Lib.hid (show (W).grownBy ((w1.alloc (.cells #[.int .i64 st, .int .i64 ma, .int .i64 fi, .slice qp qn qc] 26))) none from gby_trans G6_.out al_)
  have rX12_ := Lib.hid (show ((w1.alloc (.cells #[.int .i64 st, .int .i64 ma, .int .i64 fi, .slice qp qn qc] 26))).heap[w1.heap.size]? = some (.cells #[.int .i64 st, .int .i64 ma, .int .i64 fi, .slice qp qn qc] 26 (0, 0)) from heap_alloc_new _ _)
  clear al_
  have A_0_ : ((w1.alloc (.cells #[.int .i64 st, .int .i64 ma, .int .i64 fi, .slice qp qn qc] 26))).cell? ⟨W.heap.size, 0, none⟩ = some (.int .i64 st) := cell_of_row _ _ 0 _ _ _ rA8_.out
  have A_1_ : ((w1.alloc (.cells #[.int .i64 st, .int .i64 ma, .int .i64 fi, .slice qp qn qc] 26))).cell? ⟨W.heap.size, 1, none⟩ = some (.int .i64 ma) := cell_of_row _ _ 1 _ _ _ rA8_.out
  have A_2_ : ((w1.alloc (.cells #[.int .i64 st, .int .i64 ma, .int .i64 fi, .slice qp qn qc] 26))).cell? ⟨W.heap.size, 2, none⟩ = some (.int .i64 fi) := cell_of_row _ _ 2 _ _ _ rA8_.out
  have A_3_ : ((w1.alloc (.cells #[.int .i64 st, .int .i64 ma, .int .i64 fi, .slice qp qn qc] 26))).cell? ⟨W.heap.size, 3, none⟩ = some (.slice a1 n1 c1) := cell_of_row _ _ 3 _ _ _ rA8_.out
  have R_0_ : ((w1.alloc (.cells #[.int .i64 st, .int .i64 ma, .int .i64 fi, .slice qp qn qc] 26))).cell? ⟨W.heap.size + 1, 0, none⟩ = some (.int .i64 0) := cell_of_row _ _ 0 _ _ _ rR9_.out
  have R_1_ : ((w1.alloc (.cells #[.int .i64 st, .int .i64 ma, .int .i64 fi, .slice qp qn qc] 26))).cell? ⟨W.heap.size + 1, 1, none⟩ = some (.int .i64 0) := cell_of_row _ _ 1 _ _ _ rR9_.out
  have R_2_ : ((w1.alloc (.cells #[.int .i64 st, .int .i64 ma, .int .i64 fi, .slice qp qn qc] 26))).cell? ⟨W.heap.size + 1, 2, none⟩ = some (.int .i64 0) := cell_of_row _ _ 2 _ _ _ rR9_.out
  have R_3_ : ((w1.alloc (.cells #[.int .i64 st, .int .i64 ma, .int .i64 fi, .slice qp qn qc] 26))).cell? ⟨W.heap.size + 1, 3, none⟩ = some (.slice none 0 0) := cell_of_row _ _ 3 _ _ _ rR9_.out
  have X_0_ : ((w1.alloc (.cells #[.int .i64 st, .int .i64 ma, .int .i64 fi, .slice qp qn qc] 26))).cell? ⟨w1.heap.size, 0, none⟩ = some (.int .i64 st) := cell_of_row _ _ 0 _ _ _ rX12_.out
  have X_1_ : ((w1.alloc (.cells #[.int .i64 st, .int .i64 ma, .int .i64 fi, .slice qp qn qc] 26))).cell? ⟨w1.heap.size, 1, none⟩ = some (.int .i64 ma) := cell_of_row _ _ 1 _ _ _ rX12_.out
  have X_2_ : ((w1.alloc (.cells #[.int .i64 st, .int .i64 ma, .int .i64 fi, .slice qp qn qc] 26))).cell? ⟨w1.heap.size, 2, none⟩ = some (.int .i64 fi) := cell_of_row _ _ 2 _ _ _ rX12_.out
  have X_3_ : ((w1.alloc (.cells #[.int .i64 st, .int .i64 ma, .int .i64 fi, .slice qp qn qc] 26))).cell? ⟨w1.heap.size, 3, none⟩ = some (.slice qp qn qc) := cell_of_row _ _ 3 _ _ _ rX12_.out
  go_wp2_with fail
  go_at_call 46
  refine (specLog_no _ _ _ _ _ xs (HSL.out.grow G11_.out) HL.out HOK.out).mono ?_
  rintro e w2 ⟨rfl, g⟩
  have szl_ := g.size
  try simp only [World.size_setCell, World.size_alloc] at szl_
  clear A_0_ A_1_ A_2_ A_3_ R_0_ R_1_ R_2_ R_3_ X_0_ X_1_ X_2_ X_3_
  have rA13_ := Lib.hid (show (w2).heap[W.heap.size]? = some (.cells #[.int .i64 st, .int .i64 ma, .int .i64 fi, .slice a1 n1 c1] 26 (0, 0)) from row_held g rA8_.out)
  clear rA8_
  have rR14_ := Lib.hid (show (w2).heap[W.heap.size + 1]? = some (.cells #[.int .i64 0, .int .i64 0, .int .i64 0, .slice none 0 0] 26 (0, 0)) from row_held g rR9_.out)
  clear rR9_
  have rX15_ := Lib.hid (show (w2).heap[w1.heap.size]? = some (.cells #[.int .i64 st, .int .i64 ma, .int .i64 fi, .slice qp qn qc] 26 (0, 0)) from row_held g rX12_.out)
  clear rX12_
  have oC16_ := Lib.hid (show OwU (w2) (W.heap.size + 1 + 1) (w1.heap.size) [] [own shI (.slice qp qn qc) xs] from OwU.grow oC10_.out g)
  clear oC10_
  have G17_ := Lib.hid (show (W).grownBy (w2) none from gby_trans G11_.out g)
  clear g
  have A_0_ : (w2).cell? ⟨W.heap.size, 0, none⟩ = some (.int .i64 st) := cell_of_row _ _ 0 _ _ _ rA13_.out
  have A_1_ : (w2).cell? ⟨W.heap.size, 1, none⟩ = some (.int .i64 ma) := cell_of_row _ _ 1 _ _ _ rA13_.out
  have A_2_ : (w2).cell? ⟨W.heap.size, 2, none⟩ = some (.int .i64 fi) := cell_of_row _ _ 2 _ _ _ rA13_.out
  have A_3_ : (w2).cell? ⟨W.heap.size, 3, none⟩ = some (.slice a1 n1 c1) := cell_of_row _ _ 3 _ _ _ rA13_.out
  have R_0_ : (w2).cell? ⟨W.heap.size + 1, 0, none⟩ = some (.int .i64 0) := cell_of_row _ _ 0 _ _ _ rR14_.out
  have R_1_ : (w2).cell? ⟨W.heap.size + 1, 1, none⟩ = some (.int .i64 0) := cell_of_row _ _ 1 _ _ _ rR14_.out
  have R_2_ : (w2).cell? ⟨W.heap.size + 1, 2, none⟩ = some (.int .i64 0) := cell_of_row _ _ 2 _ _ _ rR14_.out
  have R_3_ : (w2).cell? ⟨W.heap.size + 1, 3, none⟩ = some (.slice none 0 0) := cell_of_row _ _ 3 _ _ _ rR14_.out
  have X_0_ : (w2).cell? ⟨w1.heap.size, 0, none⟩ = some (.int .i64 st) := cell_of_row _ _ 0 _ _ _ rX15_.out
  have X_1_ : (w2).cell? ⟨w1.heap.size, 1, none⟩ = some (.int .i64 ma) := cell_of_row _ _ 1 _ _ _ rX15_.out
  have X_2_ : (w2).cell? ⟨w1.heap.size, 2, none⟩ = some (.int .i64 fi) := cell_of_row _ _ 2 _ _ _ rX15_.out
  have X_3_ : (w2).cell? ⟨w1.heap.size, 3, none⟩ = some (.slice qp qn qc) := cell_of_row _ _ 3 _ _ _ rX15_.out
  clear A_0_ A_1_ A_2_ A_3_ R_0_ R_1_ R_2_ R_3_ X_0_ X_1_ X_2_ X_3_
  have A_0_ : (w2).cell? ⟨W.heap.size, 0, none⟩ = some (.int .i64 st) := cell_of_row _ _ 0 _ _ _ rA13_.out
  have A_1_ : (w2).cell? ⟨W.heap.size, 1, none⟩ = some (.int .i64 ma) := cell_of_row _ _ 1 _ _ _ rA13_.out
  have A_2_ : (w2).cell? ⟨W.heap.size, 2, none⟩ = some (.int .i64 fi) := cell_of_row _ _ 2 _ _ _ rA13_.out
  have A_3_ : (w2).cell? ⟨W.heap.size, 3, none⟩ = some (.slice a1 n1 c1) := cell_of_row _ _ 3 _ _ _ rA13_.out
  have R_0_ : (w2).cell? ⟨W.heap.size + 1, 0, none⟩ = some (.int .i64 0) := cell_of_row _ _ 0 _ _ _ rR14_.out
  have R_1_ : (w2).cell? ⟨W.heap.size + 1, 1, none⟩ = some (.int .i64 0) := cell_of_row _ _ 1 _ _ _ rR14_.out
  have R_2_ : (w2).cell? ⟨W.heap.size + 1, 2, none⟩ = some (.int .i64 0) := cell_of_row _ _ 2 _ _ _ rR14_.out
  have R_3_ : (w2).cell? ⟨W.heap.size + 1, 3, none⟩ = some (.slice none 0 0) := cell_of_row _ _ 3 _ _ _ rR14_.out
  have Rf0_ : (w2).frozen? ⟨W.heap.size + 1, 0, none⟩ = false := frozen_of_row _ _ 0 _ _ rR14_.out
  have Rf1_ : (w2).frozen? ⟨W.heap.size + 1, 1, none⟩ = false := frozen_of_row _ _ 1 _ _ rR14_.out
  have Rf2_ : (w2).frozen? ⟨W.heap.size + 1, 2, none⟩ = false := frozen_of_row _ _ 2 _ _ rR14_.out
  have Rf3_ : (w2).frozen? ⟨W.heap.size + 1, 3, none⟩ = false := frozen_of_row _ _ 3 _ _ rR14_.out
  have X_0_ : (w2).cell? ⟨w1.heap.size, 0, none⟩ = some (.int .i64 st) := cell_of_row _ _ 0 _ _ _ rX15_.out
  have X_1_ : (w2).cell? ⟨w1.heap.size, 1, none⟩ = some (.int .i64 ma) := cell_of_row _ _ 1 _ _ _ rX15_.out
  have X_2_ : (w2).cell? ⟨w1.heap.size, 2, none⟩ = some (.int .i64 fi) := cell_of_row _ _ 2 _ _ _ rX15_.out
  have X_3_ : (w2).cell? ⟨w1.heap.size, 3, none⟩ = some (.slice qp qn qc) := cell_of_row _ _ 3 _ _ _ rX15_.out
  have zr_ := Lib.hid (show (((((w2.setCell ⟨W.heap.size + 1, 0, none⟩ (.int .i64 st)).setCell ⟨W.heap.size + 1, 1, none⟩ (.int .i64 ma)).setCell ⟨W.heap.size + 1, 2, none⟩ (.int .i64 fi)).setCell ⟨W.heap.size + 1, 3, none⟩ (.slice qp qn qc))).heap[W.heap.size + 1]? = some (.cells #[.int .i64 st, .int .i64 ma, .int .i64 fi, .slice qp qn qc] 26 (0, 0)) from (heap_setCell_same _ _ 3 _ _ _ (heap_setCell_same _ _ 2 _ _ _ (heap_setCell_same _ _ 1 _ _ _ (heap_setCell_same _ _ 0 _ _ _ rR14_.out)))))
  have z0_ : (((((w2.setCell ⟨W.heap.size + 1, 0, none⟩ (.int .i64 st)).setCell ⟨W.heap.size + 1, 1, none⟩ (.int .i64 ma)).setCell ⟨W.heap.size + 1, 2, none⟩ (.int .i64 fi)).setCell ⟨W.heap.size + 1, 3, none⟩ (.slice qp qn qc))).cell? ⟨W.heap.size + 1, 0, none⟩ = some (.int .i64 st) := cell_of_row _ _ 0 _ _ _ zr_.out
  have z1_ : (((((w2.setCell ⟨W.heap.size + 1, 0, none⟩ (.int .i64 st)).setCell ⟨W.heap.size + 1, 1, none⟩ (.int .i64 ma)).setCell ⟨W.heap.size + 1, 2, none⟩ (.int .i64 fi)).setCell ⟨W.heap.size + 1, 3, none⟩ (.slice qp qn qc))).cell? ⟨W.heap.size + 1, 1, none⟩ = some (.int .i64 ma) := cell_of_row _ _ 1 _ _ _ zr_.out
  have z2_ : (((((w2.setCell ⟨W.heap.size + 1, 0, none⟩ (.int .i64 st)).setCell ⟨W.heap.size + 1, 1, none⟩ (.int .i64 ma)).setCell ⟨W.heap.size + 1, 2, none⟩ (.int .i64 fi)).setCell ⟨W.heap.size + 1, 3, none⟩ (.slice qp qn qc))).cell? ⟨W.heap.size + 1, 2, none⟩ = some (.int .i64 fi) := cell_of_row _ _ 2 _ _ _ zr_.out
  have z3_ : (((((w2.setCell ⟨W.heap.size + 1, 0, none⟩ (.int .i64 st)).setCell ⟨W.heap.size + 1, 1, none⟩ (.int .i64 ma)).setCell ⟨W.heap.size + 1, 2, none⟩ (.int .i64 fi)).setCell ⟨W.heap.size + 1, 3, none⟩ (.slice qp qn qc))).cell? ⟨W.heap.size + 1, 3, none⟩ = some (.slice qp qn qc) := cell_of_row _ _ 3 _ _ _ zr_.out
  go_wp2
  refine bodyPost_ret (v := .tuple #[.agg #[.int .i64 st, .int .i64 ma, .int .i64 fi, .slice qp qn qc], .int .i64 (-1)]) (by simp [results, go_sem, z0_, z1_, z2_, z3_]) rfl ⟨_, rfl, ?_, ?_⟩
  · exact OwU.wide (lo := W.heap.size + 1 + 1) (by omega) (by simp only [World.size_setCell]; omega) (OwU.keep (chg_one _ _ _ _) (.inr (by omega)) (OwU.keep (chg_one _ _ _ _) (.inr (by omega)) (OwU.keep (chg_one _ _ _ _) (.inr (by omega)) (OwU.keep (chg_one _ _ _ _) (.inr (by omega)) oC16_.out))))
  · exact (gby_setnew (gby_setnew (gby_setnew (gby_setnew G17_.out _ (by dsimp only; omega) _) _ (by dsimp only; omega) _) _ (by dsimp only; omega) _) _ (by dsimp only; omega) _)

set_option maxRecDepth 8000 in
set_option maxHeartbeats 2000000 in
theorem specReport_out (W : World) (st ma fi : Int) (v : Value) (xs : List Int) (k : Int) (H : RdL shI W v xs) (hl : szL shI xs ≤ 1048576) (hb : LOk st ma fi xs) (hk : k < 0 ∨ 15 < k) : Calls Try.prog 12 #[vLog st ma fi v, .int .i64 k] W (ResIReportError st ma fi xs (-1) W) := by
  have HSL := Lib.hid H
  have HL := Lib.hid hl
  obtain ⟨a1, n1, c1, rfl⟩ := RdL.form H
  clear H hl
  unfold vLog
  have HOK := Lib.hid hb
  have HK := Lib.hid hk
  clear hk
  clear hb
  go_enter Try.func12, Try.ntmps12
  have rA1_ := Lib.hid (show (((W.alloc (.cells #[.int .i64 st, .int .i64 ma, .int .i64 fi, .slice a1 n1 c1] 26)).alloc (.cells #[.int .i64 0, .int .i64 0, .int .i64 0, .slice none 0 0] 26))).heap[W.heap.size]? = some (.cells #[.int .i64 st, .int .i64 ma, .int .i64 fi, .slice a1 n1 c1] 26 (0, 0)) from by rw [heap_alloc_old _ _ (by simp only [World.size_alloc]; omega)]; exact heap_alloc_new _ _)
  have rR2_ := Lib.hid (show (((W.alloc (.cells #[.int .i64 st, .int .i64 ma, .int .i64 fi, .slice a1 n1 c1] 26)).alloc (.cells #[.int .i64 0, .int .i64 0, .int .i64 0, .slice none 0 0] 26))).heap[W.heap.size + 1]? = some (.cells #[.int .i64 0, .int .i64 0, .int .i64 0, .slice none 0 0] 26 (0, 0)) from by exact heap_pair _ _ _)
  have G3_ := Lib.hid (show (W).grownBy (((W.alloc (.cells #[.int .i64 st, .int .i64 ma, .int .i64 fi, .slice a1 n1 c1] 26)).alloc (.cells #[.int .i64 0, .int .i64 0, .int .i64 0, .slice none 0 0] 26))) none from (gby_alloc (gby_alloc (gby_refl _ _) _) _))
  have A_0_ : (((W.alloc (.cells #[.int .i64 st, .int .i64 ma, .int .i64 fi, .slice a1 n1 c1] 26)).alloc (.cells #[.int .i64 0, .int .i64 0, .int .i64 0, .slice none 0 0] 26))).cell? ⟨W.heap.size, 0, none⟩ = some (.int .i64 st) := cell_of_row _ _ 0 _ _ _ rA1_.out
  have A_1_ : (((W.alloc (.cells #[.int .i64 st, .int .i64 ma, .int .i64 fi, .slice a1 n1 c1] 26)).alloc (.cells #[.int .i64 0, .int .i64 0, .int .i64 0, .slice none 0 0] 26))).cell? ⟨W.heap.size, 1, none⟩ = some (.int .i64 ma) := cell_of_row _ _ 1 _ _ _ rA1_.out
  have A_2_ : (((W.alloc (.cells #[.int .i64 st, .int .i64 ma, .int .i64 fi, .slice a1 n1 c1] 26)).alloc (.cells #[.int .i64 0, .int .i64 0, .int .i64 0, .slice none 0 0] 26))).cell? ⟨W.heap.size, 2, none⟩ = some (.int .i64 fi) := cell_of_row _ _ 2 _ _ _ rA1_.out
  have A_3_ : (((W.alloc (.cells #[.int .i64 st, .int .i64 ma, .int .i64 fi, .slice a1 n1 c1] 26)).alloc (.cells #[.int .i64 0, .int .i64 0, .int .i64 0, .slice none 0 0] 26))).cell? ⟨W.heap.size, 3, none⟩ = some (.slice a1 n1 c1) := cell_of_row _ _ 3 _ _ _ rA1_.out
  have R_0_ : (((W.alloc (.cells #[.int .i64 st, .int .i64 ma, .int .i64 fi, .slice a1 n1 c1] 26)).alloc (.cells #[.int .i64 0, .int .i64 0, .int .i64 0, .slice none 0 0] 26))).cell? ⟨W.heap.size + 1, 0, none⟩ = some (.int .i64 0) := cell_of_row _ _ 0 _ _ _ rR2_.out
  have R_1_ : (((W.alloc (.cells #[.int .i64 st, .int .i64 ma, .int .i64 fi, .slice a1 n1 c1] 26)).alloc (.cells #[.int .i64 0, .int .i64 0, .int .i64 0, .slice none 0 0] 26))).cell? ⟨W.heap.size + 1, 1, none⟩ = some (.int .i64 0) := cell_of_row _ _ 1 _ _ _ rR2_.out
  have R_2_ : (((W.alloc (.cells #[.int .i64 st, .int .i64 ma, .int .i64 fi, .slice a1 n1 c1] 26)).alloc (.cells #[.int .i64 0, .int .i64 0, .int .i64 0, .slice none 0 0] 26))).cell? ⟨W.heap.size + 1, 2, none⟩ = some (.int .i64 0) := cell_of_row _ _ 2 _ _ _ rR2_.out
  have R_3_ : (((W.alloc (.cells #[.int .i64 st, .int .i64 ma, .int .i64 fi, .slice a1 n1 c1] 26)).alloc (.cells #[.int .i64 0, .int .i64 0, .int .i64 0, .slice none 0 0] 26))).cell? ⟨W.heap.size + 1, 3, none⟩ = some (.slice none 0 0) := cell_of_row _ _ 3 _ _ _ rR2_.out
  go_wp2_with fail
  go_at_call 45
  refine (copyLog_d _ _ _ _ _ xs (HSL.out.grow G3_.out) HL.out).mono ?_
  rintro e w1 ⟨d, rfl, o, g⟩
  have sz_ := g.size
  try simp only [World.size_alloc] at sz_ o
  clear A_0_ A_1_ A_2_ A_3_ R_0_ R_1_ R_2_ R_3_
  have rA4_ := Lib.hid (show (w1).heap[W.heap.size]? = some (.cells #[.int .i64 st, .int .i64 ma, .int .i64 fi, .slice a1 n1 c1] 26 (0, 0)) from row_held g rA1_.out)
  clear rA1_
  have rR5_ := Lib.hid (show (w1).heap[W.heap.size + 1]? = some (.cells #[.int .i64 0, .int .i64 0, .int .i64 0, .slice none 0 0] 26 (0, 0)) from row_held g rR2_.out)
  clear rR2_
  have G6_ := Lib.hid (show (W).grownBy (w1) none from gby_trans G3_.out g)
  clear g
  obtain ⟨qp, qn, qc, hv2⟩ := RdL.form (OwU.rd o)
  subst hv2
  unfold vLog
  have oC7_ := Lib.hid (show OwU (w1) (W.heap.size + 1 + 1) (w1.heap.size) [] [own shI (.slice qp qn qc) xs] from o)
  clear o
  have al_ : (w1).grownBy ((w1).alloc (.cells #[.int .i64 st, .int .i64 ma, .int .i64 fi, .slice qp qn qc] 26)) none := gby_alloc (gby_refl _ _) _
  have rA8_ := Lib.hid (show ((w1.alloc (.cells #[.int .i64 st, .int .i64 ma, .int .i64 fi, .slice qp qn qc] 26))).heap[W.heap.size]? = some (.cells #[.int .i64 st, .int .i64 ma, .int .i64 fi, .slice a1 n1 c1] 26 (0, 0)) from row_held al_ rA4_.out)
  clear rA4_
  have rR9_ := Lib.hid (show ((w1.alloc (.cells #[.int .i64 st, .int .i64 ma, .int .i64 fi, .slice qp qn qc] 26))).heap[W.heap.size + 1]? = some (.cells #[.int .i64 0, .int .i64 0, .int .i64 0, .slice none 0 0] 26 (0, 0)) from row_held al_ rR5_.out)
  clear rR5_
  have oC10_ := Lib.hid (show OwU ((w1.alloc (.cells #[.int .i64 st, .int .i64 ma, .int .i64 fi, .slice qp qn qc] 26))) (W.heap.size + 1 + 1) (w1.heap.size) [] [own shI (.slice qp qn qc) xs] from OwU.grow oC7_.out al_)
  clear oC7_
  have G11_ := Lib.hid (show (W).grownBy ((w1.alloc (.cells #[.int .i64 st, .int .i64 ma, .int .i64 fi, .slice qp qn qc] 26))) none from gby_trans G6_.out al_)
  have rX12_ := Lib.hid (show ((w1.alloc (.cells #[.int .i64 st, .int .i64 ma, .int .i64 fi, .slice qp qn qc] 26))).heap[w1.heap.size]? = some (.cells #[.int .i64 st, .int .i64 ma, .int .i64 fi, .slice qp qn qc] 26 (0, 0)) from heap_alloc_new _ _)
  clear al_
  have A_0_ : ((w1.alloc (.cells #[.int .i64 st, .int .i64 ma, .int .i64 fi, .slice qp qn qc] 26))).cell? ⟨W.heap.size, 0, none⟩ = some (.int .i64 st) := cell_of_row _ _ 0 _ _ _ rA8_.out
  have A_1_ : ((w1.alloc (.cells #[.int .i64 st, .int .i64 ma, .int .i64 fi, .slice qp qn qc] 26))).cell? ⟨W.heap.size, 1, none⟩ = some (.int .i64 ma) := cell_of_row _ _ 1 _ _ _ rA8_.out
  have A_2_ : ((w1.alloc (.cells #[.int .i64 st, .int .i64 ma, .int .i64 fi, .slice qp qn qc] 26))).cell? ⟨W.heap.size, 2, none⟩ = some (.int .i64 fi) := cell_of_row _ _ 2 _ _ _ rA8_.out
  have A_3_ : ((w1.alloc (.cells #[.int .i64 st, .int .i64 ma, .int .i64 fi, .slice qp qn qc] 26))).cell? ⟨W.heap.size, 3, none⟩ = some (.slice a1 n1 c1) := cell_of_row _ _ 3 _ _ _ rA8_.out
  have R_0_ : ((w1.alloc (.cells #[.int .i64 st, .int .i64 ma, .int .i64 fi, .slice qp qn qc] 26))).cell? ⟨W.heap.size + 1, 0, none⟩ = some (.int .i64 0) := cell_of_row _ _ 0 _ _ _ rR9_.out
  have R_1_ : ((w1.alloc (.cells #[.int .i64 st, .int .i64 ma, .int .i64 fi, .slice qp qn qc] 26))).cell? ⟨W.heap.size + 1, 1, none⟩ = some (.int .i64 0) := cell_of_row _ _ 1 _ _ _ rR9_.out
  have R_2_ : ((w1.alloc (.cells #[.int .i64 st, .int .i64 ma, .int .i64 fi, .slice qp qn qc] 26))).cell? ⟨W.heap.size + 1, 2, none⟩ = some (.int .i64 0) := cell_of_row _ _ 2 _ _ _ rR9_.out
  have R_3_ : ((w1.alloc (.cells #[.int .i64 st, .int .i64 ma, .int .i64 fi, .slice qp qn qc] 26))).cell? ⟨W.heap.size + 1, 3, none⟩ = some (.slice none 0 0) := cell_of_row _ _ 3 _ _ _ rR9_.out
  have X_0_ : ((w1.alloc (.cells #[.int .i64 st, .int .i64 ma, .int .i64 fi, .slice qp qn qc] 26))).cell? ⟨w1.heap.size, 0, none⟩ = some (.int .i64 st) := cell_of_row _ _ 0 _ _ _ rX12_.out
  have X_1_ : ((w1.alloc (.cells #[.int .i64 st, .int .i64 ma, .int .i64 fi, .slice qp qn qc] 26))).cell? ⟨w1.heap.size, 1, none⟩ = some (.int .i64 ma) := cell_of_row _ _ 1 _ _ _ rX12_.out
  have X_2_ : ((w1.alloc (.cells #[.int .i64 st, .int .i64 ma, .int .i64 fi, .slice qp qn qc] 26))).cell? ⟨w1.heap.size, 2, none⟩ = some (.int .i64 fi) := cell_of_row _ _ 2 _ _ _ rX12_.out
  have X_3_ : ((w1.alloc (.cells #[.int .i64 st, .int .i64 ma, .int .i64 fi, .slice qp qn qc] 26))).cell? ⟨w1.heap.size, 3, none⟩ = some (.slice qp qn qc) := cell_of_row _ _ 3 _ _ _ rX12_.out
  go_wp2_with fail
  go_at_call 46
  refine (specLog_yes _ _ _ _ _ xs (HSL.out.grow G11_.out) HL.out HOK.out).mono ?_
  rintro e w2 ⟨rfl, g⟩
  have szl_ := g.size
  try simp only [World.size_setCell, World.size_alloc] at szl_
  clear A_0_ A_1_ A_2_ A_3_ R_0_ R_1_ R_2_ R_3_ X_0_ X_1_ X_2_ X_3_
  have rA13_ := Lib.hid (show (w2).heap[W.heap.size]? = some (.cells #[.int .i64 st, .int .i64 ma, .int .i64 fi, .slice a1 n1 c1] 26 (0, 0)) from row_held g rA8_.out)
  clear rA8_
  have rR14_ := Lib.hid (show (w2).heap[W.heap.size + 1]? = some (.cells #[.int .i64 0, .int .i64 0, .int .i64 0, .slice none 0 0] 26 (0, 0)) from row_held g rR9_.out)
  clear rR9_
  have rX15_ := Lib.hid (show (w2).heap[w1.heap.size]? = some (.cells #[.int .i64 st, .int .i64 ma, .int .i64 fi, .slice qp qn qc] 26 (0, 0)) from row_held g rX12_.out)
  clear rX12_
  have oC16_ := Lib.hid (show OwU (w2) (W.heap.size + 1 + 1) (w1.heap.size) [] [own shI (.slice qp qn qc) xs] from OwU.grow oC10_.out g)
  clear oC10_
  have G17_ := Lib.hid (show (W).grownBy (w2) none from gby_trans G11_.out g)
  clear g
  have A_0_ : (w2).cell? ⟨W.heap.size, 0, none⟩ = some (.int .i64 st) := cell_of_row _ _ 0 _ _ _ rA13_.out
  have A_1_ : (w2).cell? ⟨W.heap.size, 1, none⟩ = some (.int .i64 ma) := cell_of_row _ _ 1 _ _ _ rA13_.out
  have A_2_ : (w2).cell? ⟨W.heap.size, 2, none⟩ = some (.int .i64 fi) := cell_of_row _ _ 2 _ _ _ rA13_.out
  have A_3_ : (w2).cell? ⟨W.heap.size, 3, none⟩ = some (.slice a1 n1 c1) := cell_of_row _ _ 3 _ _ _ rA13_.out
  have R_0_ : (w2).cell? ⟨W.heap.size + 1, 0, none⟩ = some (.int .i64 0) := cell_of_row _ _ 0 _ _ _ rR14_.out
  have R_1_ : (w2).cell? ⟨W.heap.size + 1, 1, none⟩ = some (.int .i64 0) := cell_of_row _ _ 1 _ _ _ rR14_.out
  have R_2_ : (w2).cell? ⟨W.heap.size + 1, 2, none⟩ = some (.int .i64 0) := cell_of_row _ _ 2 _ _ _ rR14_.out
  have R_3_ : (w2).cell? ⟨W.heap.size + 1, 3, none⟩ = some (.slice none 0 0) := cell_of_row _ _ 3 _ _ _ rR14_.out
  have X_0_ : (w2).cell? ⟨w1.heap.size, 0, none⟩ = some (.int .i64 st) := cell_of_row _ _ 0 _ _ _ rX15_.out
  have X_1_ : (w2).cell? ⟨w1.heap.size, 1, none⟩ = some (.int .i64 ma) := cell_of_row _ _ 1 _ _ _ rX15_.out
  have X_2_ : (w2).cell? ⟨w1.heap.size, 2, none⟩ = some (.int .i64 fi) := cell_of_row _ _ 2 _ _ _ rX15_.out
  have X_3_ : (w2).cell? ⟨w1.heap.size, 3, none⟩ = some (.slice qp qn qc) := cell_of_row _ _ 3 _ _ _ rX15_.out
  go_wp2_with fail
  go_at_call 47
  refine (in_no _ _ _ _ HK.out).mono ?_
  rintro e w3_ ⟨rfl, rfl⟩
  clear A_0_ A_1_ A_2_ A_3_ R_0_ R_1_ R_2_ R_3_ X_0_ X_1_ X_2_ X_3_
  have A_0_ : (w2).cell? ⟨W.heap.size, 0, none⟩ = some (.int .i64 st) := cell_of_row _ _ 0 _ _ _ rA13_.out
  have A_1_ : (w2).cell? ⟨W.heap.size, 1, none⟩ = some (.int .i64 ma) := cell_of_row _ _ 1 _ _ _ rA13_.out
  have A_2_ : (w2).cell? ⟨W.heap.size, 2, none⟩ = some (.int .i64 fi) := cell_of_row _ _ 2 _ _ _ rA13_.out
  have A_3_ : (w2).cell? ⟨W.heap.size, 3, none⟩ = some (.slice a1 n1 c1) := cell_of_row _ _ 3 _ _ _ rA13_.out
  have R_0_ : (w2).cell? ⟨W.heap.size + 1, 0, none⟩ = some (.int .i64 0) := cell_of_row _ _ 0 _ _ _ rR14_.out
  have R_1_ : (w2).cell? ⟨W.heap.size + 1, 1, none⟩ = some (.int .i64 0) := cell_of_row _ _ 1 _ _ _ rR14_.out
  have R_2_ : (w2).cell? ⟨W.heap.size + 1, 2, none⟩ = some (.int .i64 0) := cell_of_row _ _ 2 _ _ _ rR14_.out
  have R_3_ : (w2).cell? ⟨W.heap.size + 1, 3, none⟩ = some (.slice none 0 0) := cell_of_row _ _ 3 _ _ _ rR14_.out
  have Rf0_ : (w2).frozen? ⟨W.heap.size + 1, 0, none⟩ = false := frozen_of_row _ _ 0 _ _ rR14_.out
  have Rf1_ : (w2).frozen? ⟨W.heap.size + 1, 1, none⟩ = false := frozen_of_row _ _ 1 _ _ rR14_.out
  have Rf2_ : (w2).frozen? ⟨W.heap.size + 1, 2, none⟩ = false := frozen_of_row _ _ 2 _ _ rR14_.out
  have Rf3_ : (w2).frozen? ⟨W.heap.size + 1, 3, none⟩ = false := frozen_of_row _ _ 3 _ _ rR14_.out
  have X_0_ : (w2).cell? ⟨w1.heap.size, 0, none⟩ = some (.int .i64 st) := cell_of_row _ _ 0 _ _ _ rX15_.out
  have X_1_ : (w2).cell? ⟨w1.heap.size, 1, none⟩ = some (.int .i64 ma) := cell_of_row _ _ 1 _ _ _ rX15_.out
  have X_2_ : (w2).cell? ⟨w1.heap.size, 2, none⟩ = some (.int .i64 fi) := cell_of_row _ _ 2 _ _ _ rX15_.out
  have X_3_ : (w2).cell? ⟨w1.heap.size, 3, none⟩ = some (.slice qp qn qc) := cell_of_row _ _ 3 _ _ _ rX15_.out
  have zr_ := Lib.hid (show (((((w2.setCell ⟨W.heap.size + 1, 0, none⟩ (.int .i64 st)).setCell ⟨W.heap.size + 1, 1, none⟩ (.int .i64 ma)).setCell ⟨W.heap.size + 1, 2, none⟩ (.int .i64 fi)).setCell ⟨W.heap.size + 1, 3, none⟩ (.slice qp qn qc))).heap[W.heap.size + 1]? = some (.cells #[.int .i64 st, .int .i64 ma, .int .i64 fi, .slice qp qn qc] 26 (0, 0)) from (heap_setCell_same _ _ 3 _ _ _ (heap_setCell_same _ _ 2 _ _ _ (heap_setCell_same _ _ 1 _ _ _ (heap_setCell_same _ _ 0 _ _ _ rR14_.out)))))
  have z0_ : (((((w2.setCell ⟨W.heap.size + 1, 0, none⟩ (.int .i64 st)).setCell ⟨W.heap.size + 1, 1, none⟩ (.int .i64 ma)).setCell ⟨W.heap.size + 1, 2, none⟩ (.int .i64 fi)).setCell ⟨W.heap.size + 1, 3, none⟩ (.slice qp qn qc))).cell? ⟨W.heap.size + 1, 0, none⟩ = some (.int .i64 st) := cell_of_row _ _ 0 _ _ _ zr_.out
  have z1_ : (((((w2.setCell ⟨W.heap.size + 1, 0, none⟩ (.int .i64 st)).setCell ⟨W.heap.size + 1, 1, none⟩ (.int .i64 ma)).setCell ⟨W.heap.size + 1, 2, none⟩ (.int .i64 fi)).setCell ⟨W.heap.size + 1, 3, none⟩ (.slice qp qn qc))).cell? ⟨W.heap.size + 1, 1, none⟩ = some (.int .i64 ma) := cell_of_row _ _ 1 _ _ _ zr_.out
  have z2_ : (((((w2.setCell ⟨W.heap.size + 1, 0, none⟩ (.int .i64 st)).setCell ⟨W.heap.size + 1, 1, none⟩ (.int .i64 ma)).setCell ⟨W.heap.size + 1, 2, none⟩ (.int .i64 fi)).setCell ⟨W.heap.size + 1, 3, none⟩ (.slice qp qn qc))).cell? ⟨W.heap.size + 1, 2, none⟩ = some (.int .i64 fi) := cell_of_row _ _ 2 _ _ _ zr_.out
  have z3_ : (((((w2.setCell ⟨W.heap.size + 1, 0, none⟩ (.int .i64 st)).setCell ⟨W.heap.size + 1, 1, none⟩ (.int .i64 ma)).setCell ⟨W.heap.size + 1, 2, none⟩ (.int .i64 fi)).setCell ⟨W.heap.size + 1, 3, none⟩ (.slice qp qn qc))).cell? ⟨W.heap.size + 1, 3, none⟩ = some (.slice qp qn qc) := cell_of_row _ _ 3 _ _ _ zr_.out
  go_wp2
  refine bodyPost_ret (v := .tuple #[.agg #[.int .i64 st, .int .i64 ma, .int .i64 fi, .slice qp qn qc], .int .i64 (-1)]) (by simp [results, go_sem, z0_, z1_, z2_, z3_]) rfl ⟨_, rfl, ?_, ?_⟩
  · exact OwU.wide (lo := W.heap.size + 1 + 1) (by omega) (by simp only [World.size_setCell]; omega) (OwU.keep (chg_one _ _ _ _) (.inr (by omega)) (OwU.keep (chg_one _ _ _ _) (.inr (by omega)) (OwU.keep (chg_one _ _ _ _) (.inr (by omega)) (OwU.keep (chg_one _ _ _ _) (.inr (by omega)) oC16_.out))))
  · exact (gby_setnew (gby_setnew (gby_setnew (gby_setnew G17_.out _ (by dsimp only; omega) _) _ (by dsimp only; omega) _) _ (by dsimp only; omega) _) _ (by dsimp only; omega) _)

set_option maxRecDepth 8000 in
set_option maxHeartbeats 2000000 in
theorem implReport_bad (W : World) (st ma fi : Int) (v : Value) (xs : List Int) (k : Int) (H : RdL shI W v xs) (hl : szL shI xs ≤ 1048576) (hb : ¬ LOk st ma fi xs) : Calls Try.prog 14 #[vLog st ma fi v, .int .i64 k] W (ResIReportError st ma fi xs (-1) W) := by
  have HSL := Lib.hid H
  have HL := Lib.hid hl
  obtain ⟨a1, n1, c1, rfl⟩ := RdL.form H
  clear H hl
  unfold vLog
  have HOK := Lib.hid hb
  clear hb
  go_enter Try.func14, Try.ntmps14
  have rA1_ := Lib.hid (show (((W.alloc (.cells #[.int .i64 st, .int .i64 ma, .int .i64 fi, .slice a1 n1 c1] 26)).alloc (.cells #[.int .i64 0, .int .i64 0, .int .i64 0, .slice none 0 0] 26))).heap[W.heap.size]? = some (.cells #[.int .i64 st, .int .i64 ma, .int .i64 fi, .slice a1 n1 c1] 26 (0, 0)) from by rw [heap_alloc_old _ _ (by simp only [World.size_alloc]; omega)]; exact heap_alloc_new _ _)
  have rR2_ := Lib.hid (show (((W.alloc (.cells #[.int .i64 st, .int .i64 ma, .int .i64 fi, .slice a1 n1 c1] 26)).alloc (.cells #[.int .i64 0, .int .i64 0, .int .i64 0, .slice none 0 0] 26))).heap[W.heap.size + 1]? = some (.cells #[.int .i64 0, .int .i64 0, .int .i64 0, .slice none 0 0] 26 (0, 0)) from by exact heap_pair _ _ _)
  have G3_ := Lib.hid (show (W).grownBy (((W.alloc (.cells #[.int .i64 st, .int .i64 ma, .int .i64 fi, .slice a1 n1 c1] 26)).alloc (.cells #[.int .i64 0, .int .i64 0, .int .i64 0, .slice none 0 0] 26))) none from (gby_alloc (gby_alloc (gby_refl _ _) _) _))
  have A_0_ : (((W.alloc (.cells #[.int .i64 st, .int .i64 ma, .int .i64 fi, .slice a1 n1 c1] 26)).alloc (.cells #[.int .i64 0, .int .i64 0, .int .i64 0, .slice none 0 0] 26))).cell? ⟨W.heap.size, 0, none⟩ = some (.int .i64 st) := cell_of_row _ _ 0 _ _ _ rA1_.out
  have A_1_ : (((W.alloc (.cells #[.int .i64 st, .int .i64 ma, .int .i64 fi, .slice a1 n1 c1] 26)).alloc (.cells #[.int .i64 0, .int .i64 0, .int .i64 0, .slice none 0 0] 26))).cell? ⟨W.heap.size, 1, none⟩ = some (.int .i64 ma) := cell_of_row _ _ 1 _ _ _ rA1_.out
  have A_2_ : (((W.alloc (.cells #[.int .i64 st, .int .i64 ma, .int .i64 fi, .slice a1 n1 c1] 26)).alloc (.cells #[.int .i64 0, .int .i64 0, .int .i64 0, .slice none 0 0] 26))).cell? ⟨W.heap.size, 2, none⟩ = some (.int .i64 fi) := cell_of_row _ _ 2 _ _ _ rA1_.out
  have A_3_ : (((W.alloc (.cells #[.int .i64 st, .int .i64 ma, .int .i64 fi, .slice a1 n1 c1] 26)).alloc (.cells #[.int .i64 0, .int .i64 0, .int .i64 0, .slice none 0 0] 26))).cell? ⟨W.heap.size, 3, none⟩ = some (.slice a1 n1 c1) := cell_of_row _ _ 3 _ _ _ rA1_.out
  have R_0_ : (((W.alloc (.cells #[.int .i64 st, .int .i64 ma, .int .i64 fi, .slice a1 n1 c1] 26)).alloc (.cells #[.int .i64 0, .int .i64 0, .int .i64 0, .slice none 0 0] 26))).cell? ⟨W.heap.size + 1, 0, none⟩ = some (.int .i64 0) := cell_of_row _ _ 0 _ _ _ rR2_.out
  have R_1_ : (((W.alloc (.cells #[.int .i64 st, .int .i64 ma, .int .i64 fi, .slice a1 n1 c1] 26)).alloc (.cells #[.int .i64 0, .int .i64 0, .int .i64 0, .slice none 0 0] 26))).cell? ⟨W.heap.size + 1, 1, none⟩ = some (.int .i64 0) := cell_of_row _ _ 1 _ _ _ rR2_.out
  have R_2_ : (((W.alloc (.cells #[.int .i64 st, .int .i64 ma, .int .i64 fi, .slice a1 n1 c1] 26)).alloc (.cells #[.int .i64 0, .int .i64 0, .int .i64 0, .slice none 0 0] 26))).cell? ⟨W.heap.size + 1, 2, none⟩ = some (.int .i64 0) := cell_of_row _ _ 2 _ _ _ rR2_.out
  have R_3_ : (((W.alloc (.cells #[.int .i64 st, .int .i64 ma, .int .i64 fi, .slice a1 n1 c1] 26)).alloc (.cells #[.int .i64 0, .int .i64 0, .int .i64 0, .slice none 0 0] 26))).cell? ⟨W.heap.size + 1, 3, none⟩ = some (.slice none 0 0) := cell_of_row _ _ 3 _ _ _ rR2_.out
  go_wp2_with fail
  go_at_call 49
  refine (copiedLog_d _ _ _ _ _ xs (HSL.out.grow G3_.out) HL.out).mono ?_
  rintro e w1 ⟨d, rfl, o, g⟩
  have sz_ := g.size
  try simp only [World.size_alloc] at sz_ o
  clear A_0_ A_1_ A_2_ A_3_ R_0_ R_1_ R_2_ R_3_
  have rA4_ := Lib.hid (show (w1).heap[W.heap.size]? = some (.cells #[.int .i64 st, .int .i64 ma, .int .i64 fi, .slice a1 n1 c1] 26 (0, 0)) from row_held g rA1_.out)
  clear rA1_
  have rR5_ := Lib.hid (show (w1).heap[W.heap.size + 1]? = some (.cells #[.int .i64 0, .int .i64 0, .int .i64 0, .slice none 0 0] 26 (0, 0)) from row_held g rR2_.out)
  clear rR2_
  have G6_ := Lib.hid (show (W).grownBy (w1) none from gby_trans G3_.out g)
  clear g
  obtain ⟨qp, qn, qc, hv2⟩ := RdL.form (OwU.rd o)
  subst hv2
  unfold vLog
  have oC7_ := Lib.hid (show OwU (w1) (W.heap.size + 1 + 1) (w1.heap.size) [] [own shI (.slice qp qn qc) xs] from o)
  clear o
  have A_0_ : (w1).cell? ⟨W.heap.size, 0, none⟩ = some (.int .i64 st) := cell_of_row _ _ 0 _ _ _ rA4_.out
  have A_1_ : (w1).cell? ⟨W.heap.size, 1, none⟩ = some (.int .i64 ma) := cell_of_row _ _ 1 _ _ _ rA4_.out
  have A_2_ : (w1).cell? ⟨W.heap.size, 2, none⟩ = some (.int .i64 fi) := cell_of_row _ _ 2 _ _ _ rA4_.out
  have A_3_ : (w1).cell? ⟨W.heap.size, 3, none⟩ = some (.slice a1 n1 c1) := cell_of_row _ _ 3 _ _ _ rA4_.out
  have Af0_ : (w1).frozen? ⟨W.heap.size, 0, none⟩ = false := frozen_of_row _ _ 0 _ _ rA4_.out
  have Af1_ : (w1).frozen? ⟨W.heap.size, 1, none⟩ = false := frozen_of_row _ _ 1 _ _ rA4_.out
  have Af2_ : (w1).frozen? ⟨W.heap.size, 2, none⟩ = false := frozen_of_row _ _ 2 _ _ rA4_.out
  have Af3_ : (w1).frozen? ⟨W.heap.size, 3, none⟩ = false := frozen_of_row _ _ 3 _ _ rA4_.out
  have R_0_ : (w1).cell? ⟨W.heap.size + 1, 0, none⟩ = some (.int .i64 0) := cell_of_row _ _ 0 _ _ _ rR5_.out
  have R_1_ : (w1).cell? ⟨W.heap.size + 1, 1, none⟩ = some (.int .i64 0) := cell_of_row _ _ 1 _ _ _ rR5_.out
  have R_2_ : (w1).cell? ⟨W.heap.size + 1, 2, none⟩ = some (.int .i64 0) := cell_of_row _ _ 2 _ _ _ rR5_.out
  have R_3_ : (w1).cell? ⟨W.heap.size + 1, 3, none⟩ = some (.slice none 0 0) := cell_of_row _ _ 3 _ _ _ rR5_.out
  go_wp2_with fail
  go_at_call 23
  clear A_0_ A_1_ A_2_ A_3_ Af0_ Af1_ Af2_ Af3_ R_0_ R_1_ R_2_ R_3_
  have rR8_ := Lib.hid (show (((((w1.setCell ⟨W.heap.size, 0, none⟩ (.int .i64 st)).setCell ⟨W.heap.size, 1, none⟩ (.int .i64 ma)).setCell ⟨W.heap.size, 2, none⟩ (.int .i64 fi)).setCell ⟨W.heap.size, 3, none⟩ (.slice qp qn qc))).heap[W.heap.size + 1]? = some (.cells #[.int .i64 0, .int .i64 0, .int .i64 0, .slice none 0 0] 26 (0, 0)) from (set_far (set_far (set_far (set_far rR5_.out (by dsimp only; omega)) (by dsimp only; omega)) (by dsimp only; omega)) (by dsimp only; omega)))
  clear rR5_
  have rA9_ := Lib.hid (show (((((w1.setCell ⟨W.heap.size, 0, none⟩ (.int .i64 st)).setCell ⟨W.heap.size, 1, none⟩ (.int .i64 ma)).setCell ⟨W.heap.size, 2, none⟩ (.int .i64 fi)).setCell ⟨W.heap.size, 3, none⟩ (.slice qp qn qc))).heap[W.heap.size]? = some (.cells #[.int .i64 st, .int .i64 ma, .int .i64 fi, .slice qp qn qc] 26 (0, 0)) from (heap_setCell_same _ _ 3 _ _ _ (heap_setCell_same _ _ 2 _ _ _ (heap_setCell_same _ _ 1 _ _ _ (heap_setCell_same _ _ 0 _ _ _ rA4_.out)))))
  clear rA4_
  have oC10_ := Lib.hid (show OwU (((((w1.setCell ⟨W.heap.size, 0, none⟩ (.int .i64 st)).setCell ⟨W.heap.size, 1, none⟩ (.int .i64 ma)).setCell ⟨W.heap.size, 2, none⟩ (.int .i64 fi)).setCell ⟨W.heap.size, 3, none⟩ (.slice qp qn qc))) (W.heap.size + 1 + 1) (w1.heap.size) [] [own shI (.slice qp qn qc) xs] from (OwU.keep (chg_one _ _ _ _) (by omega) (OwU.keep (chg_one _ _ _ _) (by omega) (OwU.keep (chg_one _ _ _ _) (by omega) (OwU.keep (chg_one _ _ _ _) (by omega) oC7_.out)))))
  clear oC7_
  have G11_ := Lib.hid (show (W).grownBy (((((w1.setCell ⟨W.heap.size, 0, none⟩ (.int .i64 st)).setCell ⟨W.heap.size, 1, none⟩ (.int .i64 ma)).setCell ⟨W.heap.size, 2, none⟩ (.int .i64 fi)).setCell ⟨W.heap.size, 3, none⟩ (.slice qp qn qc))) none from (gby_setnew (gby_setnew (gby_setnew (gby_setnew G6_.out _ (by dsimp only; omega) _) _ (by dsimp only; omega) _) _ (by dsimp only; omega) _) _ (by dsimp only; omega) _))
  have A_0_ : (((((w1.setCell ⟨W.heap.size, 0, none⟩ (.int .i64 st)).setCell ⟨W.heap.size, 1, none⟩ (.int .i64 ma)).setCell ⟨W.heap.size, 2, none⟩ (.int .i64 fi)).setCell ⟨W.heap.size, 3, none⟩ (.slice qp qn qc))).cell? ⟨W.heap.size, 0, none⟩ = some (.int .i64 st) := cell_of_row _ _ 0 _ _ _ rA9_.out
  have A_1_ : (((((w1.setCell ⟨W.heap.size, 0, none⟩ (.int .i64 st)).setCell ⟨W.heap.size, 1, none⟩ (.int .i64 ma)).setCell ⟨W.heap.size, 2, none⟩ (.int .i64 fi)).setCell ⟨W.heap.size, 3, none⟩ (.slice qp qn qc))).cell? ⟨W.heap.size, 1, none⟩ = some (.int .i64 ma) := cell_of_row _ _ 1 _ _ _ rA9_.out
  have A_2_ : (((((w1.setCell ⟨W.heap.size, 0, none⟩ (.int .i64 st)).setCell ⟨W.heap.size, 1, none⟩ (.int .i64 ma)).setCell ⟨W.heap.size, 2, none⟩ (.int .i64 fi)).setCell ⟨W.heap.size, 3, none⟩ (.slice qp qn qc))).cell? ⟨W.heap.size, 2, none⟩ = some (.int .i64 fi) := cell_of_row _ _ 2 _ _ _ rA9_.out
  have A_3_ : (((((w1.setCell ⟨W.heap.size, 0, none⟩ (.int .i64 st)).setCell ⟨W.heap.size, 1, none⟩ (.int .i64 ma)).setCell ⟨W.heap.size, 2, none⟩ (.int .i64 fi)).setCell ⟨W.heap.size, 3, none⟩ (.slice qp qn qc))).cell? ⟨W.heap.size, 3, none⟩ = some (.slice qp qn qc) := cell_of_row _ _ 3 _ _ _ rA9_.out
  have R_0_ : (((((w1.setCell ⟨W.heap.size, 0, none⟩ (.int .i64 st)).setCell ⟨W.heap.size, 1, none⟩ (.int .i64 ma)).setCell ⟨W.heap.size, 2, none⟩ (.int .i64 fi)).setCell ⟨W.heap.size, 3, none⟩ (.slice qp qn qc))).cell? ⟨W.heap.size + 1, 0, none⟩ = some (.int .i64 0) := cell_of_row _ _ 0 _ _ _ rR8_.out
  have R_1_ : (((((w1.setCell ⟨W.heap.size, 0, none⟩ (.int .i64 st)).setCell ⟨W.heap.size, 1, none⟩ (.int .i64 ma)).setCell ⟨W.heap.size, 2, none⟩ (.int .i64 fi)).setCell ⟨W.heap.size, 3, none⟩ (.slice qp qn qc))).cell? ⟨W.heap.size + 1, 1, none⟩ = some (.int .i64 0) := cell_of_row _ _ 1 _ _ _ rR8_.out
  have R_2_ : (((((w1.setCell ⟨W.heap.size, 0, none⟩ (.int .i64 st)).setCell ⟨W.heap.size, 1, none⟩ (.int .i64 ma)).setCell ⟨W.heap.size, 2, none⟩ (.int .i64 fi)).setCell ⟨W.heap.size, 3, none⟩ (.slice qp qn qc))).cell? ⟨W.heap.size + 1, 2, none⟩ = some (.int .i64 0) := cell_of_row _ _ 2 _ _ _ rR8_.out
  have R_3_ : (((((w1.setCell ⟨W.heap.size, 0, none⟩ (.int .i64 st)).setCell ⟨W.heap.size, 1, none⟩ (.int .i64 ma)).setCell ⟨W.heap.size, 2, none⟩ (.int .i64 fi)).setCell ⟨W.heap.size, 3, none⟩ (.slice qp qn qc))).cell? ⟨W.heap.size + 1, 3, none⟩ = some (.slice none 0 0) := cell_of_row _ _ 3 _ _ _ rR8_.out
  refine (implLog_no _ _ _ _ _ xs (OwU.rd oC10_.out) HL.out HOK.out).mono ?_
  rintro e w2 ⟨rfl, g⟩
  have szl_ := g.size
  try simp only [World.size_setCell, World.size_alloc] at szl_
  clear A_0_ A_1_ A_2_ A_3_ R_0_ R_1_ R_2_ R_3_
  have rA12_ := Lib.hid (show (w2).heap[W.heap.size]? = some (.cells #[.int .i64 st, .int .i64 ma, .int .i64 fi, .slice qp qn qc] 26 (0, 0)) from row_held g rA9_.out)
  clear rA9_
  have rR13_ := Lib.hid (show (w2).heap[W.heap.size + 1]? = some (.cells #[.int .i64 0, .int .i64 0, .int .i64 0, .slice none 0 0] 26 (0, 0)) from row_held g rR8_.out)
  clear rR8_
  have oC14_ := Lib.hid (show OwU (w2) (W.heap.size + 1 + 1) (w1.heap.size) [] [own shI (.slice qp qn qc) xs] from OwU.grow oC10_.out g)
  clear oC10_
  have G15_ := Lib.hid (show (W).grownBy (w2) none from gby_trans G11_.out g)
  clear g
  have A_0_ : (w2).cell? ⟨W.heap.size, 0, none⟩ = some (.int .i64 st) := cell_of_row _ _ 0 _ _ _ rA12_.out
  have A_1_ : (w2).cell? ⟨W.heap.size, 1, none⟩ = some (.int .i64 ma) := cell_of_row _ _ 1 _ _ _ rA12_.out
  have A_2_ : (w2).cell? ⟨W.heap.size, 2, none⟩ = some (.int .i64 fi) := cell_of_row _ _ 2 _ _ _ rA12_.out
  have A_3_ : (w2).cell? ⟨W.heap.size, 3, none⟩ = some (.slice qp qn qc) := cell_of_row _ _ 3 _ _ _ rA12_.out
  have R_0_ : (w2).cell? ⟨W.heap.size + 1, 0, none⟩ = some (.int .i64 0) := cell_of_row _ _ 0 _ _ _ rR13_.out
  have R_1_ : (w2).cell? ⟨W.heap.size + 1, 1, none⟩ = some (.int .i64 0) := cell_of_row _ _ 1 _ _ _ rR13_.out
  have R_2_ : (w2).cell? ⟨W.heap.size + 1, 2, none⟩ = some (.int .i64 0) := cell_of_row _ _ 2 _ _ _ rR13_.out
  have R_3_ : (w2).cell? ⟨W.heap.size + 1, 3, none⟩ = some (.slice none 0 0) := cell_of_row _ _ 3 _ _ _ rR13_.out
  clear A_0_ A_1_ A_2_ A_3_ R_0_ R_1_ R_2_ R_3_
  have A_0_ : (w2).cell? ⟨W.heap.size, 0, none⟩ = some (.int .i64 st) := cell_of_row _ _ 0 _ _ _ rA12_.out
  have A_1_ : (w2).cell? ⟨W.heap.size, 1, none⟩ = some (.int .i64 ma) := cell_of_row _ _ 1 _ _ _ rA12_.out
  have A_2_ : (w2).cell? ⟨W.heap.size, 2, none⟩ = some (.int .i64 fi) := cell_of_row _ _ 2 _ _ _ rA12_.out
  have A_3_ : (w2).cell? ⟨W.heap.size, 3, none⟩ = some (.slice qp qn qc) := cell_of_row _ _ 3 _ _ _ rA12_.out
  have R_0_ : (w2).cell? ⟨W.heap.size + 1, 0, none⟩ = some (.int .i64 0) := cell_of_row _ _ 0 _ _ _ rR13_.out
  have R_1_ : (w2).cell? ⟨W.heap.size + 1, 1, none⟩ = some (.int .i64 0) := cell_of_row _ _ 1 _ _ _ rR13_.out
  have R_2_ : (w2).cell? ⟨W.heap.size + 1, 2, none⟩ = some (.int .i64 0) := cell_of_row _ _ 2 _ _ _ rR13_.out
  have R_3_ : (w2).cell? ⟨W.heap.size + 1, 3, none⟩ = some (.slice none 0 0) := cell_of_row _ _ 3 _ _ _ rR13_.out
  have Rf0_ : (w2).frozen? ⟨W.heap.size + 1, 0, none⟩ = false := frozen_of_row _ _ 0 _ _ rR13_.out
  have Rf1_ : (w2).frozen? ⟨W.heap.size + 1, 1, none⟩ = false := frozen_of_row _ _ 1 _ _ rR13_.out
  have Rf2_ : (w2).frozen? ⟨W.heap.size + 1, 2, none⟩ = false := frozen_of_row _ _ 2 _ _ rR13_.out
  have Rf3_ : (w2).frozen? ⟨W.heap.size + 1, 3, none⟩ = false := frozen_of_row _ _ 3 _ _ rR13_.out
  have zr_ := Lib.hid (show (((((w2.setCell ⟨W.heap.size + 1, 0, none⟩ (.int .i64 st)).setCell ⟨W.heap.size + 1, 1, none⟩ (.int .i64 ma)).setCell ⟨W.heap.size + 1, 2, none⟩ (.int .i64 fi)).setCell ⟨W.heap.size + 1, 3, none⟩ (.slice qp qn qc))).heap[W.heap.size + 1]? = some (.cells #[.int .i64 st, .int .i64 ma, .int .i64 fi, .slice qp qn qc] 26 (0, 0)) from (heap_setCell_same _ _ 3 _ _ _ (heap_setCell_same _ _ 2 _ _ _ (heap_setCell_same _ _ 1 _ _ _ (heap_setCell_same _ _ 0 _ _ _ rR13_.out)))))
  have z0_ : (((((w2.setCell ⟨W.heap.size + 1, 0, none⟩ (.int .i64 st)).setCell ⟨W.heap.size + 1, 1, none⟩ (.int .i64 ma)).setCell ⟨W.heap.size + 1, 2, none⟩ (.int .i64 fi)).setCell ⟨W.heap.size + 1, 3, none⟩ (.slice qp qn qc))).cell? ⟨W.heap.size + 1, 0, none⟩ = some (.int .i64 st) := cell_of_row _ _ 0 _ _ _ zr_.out
  have z1_ : (((((w2.setCell ⟨W.heap.size + 1, 0, none⟩ (.int .i64 st)).setCell ⟨W.heap.size + 1, 1, none⟩ (.int .i64 ma)).setCell ⟨W.heap.size + 1, 2, none⟩ (.int .i64 fi)).setCell ⟨W.heap.size + 1, 3, none⟩ (.slice qp qn qc))).cell? ⟨W.heap.size + 1, 1, none⟩ = some (.int .i64 ma) := cell_of_row _ _ 1 _ _ _ zr_.out
  have z2_ : (((((w2.setCell ⟨W.heap.size + 1, 0, none⟩ (.int .i64 st)).setCell ⟨W.heap.size + 1, 1, none⟩ (.int .i64 ma)).setCell ⟨W.heap.size + 1, 2, none⟩ (.int .i64 fi)).setCell ⟨W.heap.size + 1, 3, none⟩ (.slice qp qn qc))).cell? ⟨W.heap.size + 1, 2, none⟩ = some (.int .i64 fi) := cell_of_row _ _ 2 _ _ _ zr_.out
  have z3_ : (((((w2.setCell ⟨W.heap.size + 1, 0, none⟩ (.int .i64 st)).setCell ⟨W.heap.size + 1, 1, none⟩ (.int .i64 ma)).setCell ⟨W.heap.size + 1, 2, none⟩ (.int .i64 fi)).setCell ⟨W.heap.size + 1, 3, none⟩ (.slice qp qn qc))).cell? ⟨W.heap.size + 1, 3, none⟩ = some (.slice qp qn qc) := cell_of_row _ _ 3 _ _ _ zr_.out
  go_wp2
  refine bodyPost_ret (v := .tuple #[.agg #[.int .i64 st, .int .i64 ma, .int .i64 fi, .slice qp qn qc], .int .i64 (-1)]) (by simp [results, go_sem, z0_, z1_, z2_, z3_]) rfl ⟨_, rfl, ?_, ?_⟩
  · exact OwU.wide (lo := W.heap.size + 1 + 1) (by omega) (by simp only [World.size_setCell]; omega) (OwU.keep (chg_one _ _ _ _) (.inr (by omega)) (OwU.keep (chg_one _ _ _ _) (.inr (by omega)) (OwU.keep (chg_one _ _ _ _) (.inr (by omega)) (OwU.keep (chg_one _ _ _ _) (.inr (by omega)) oC14_.out))))
  · exact (gby_setnew (gby_setnew (gby_setnew (gby_setnew G15_.out _ (by dsimp only; omega) _) _ (by dsimp only; omega) _) _ (by dsimp only; omega) _) _ (by dsimp only; omega) _)

set_option maxRecDepth 8000 in
set_option maxHeartbeats 2000000 in
theorem implReport_out (W : World) (st ma fi : Int) (v : Value) (xs : List Int) (k : Int) (H : RdL shI W v xs) (hl : szL shI xs ≤ 1048576) (hb : LOk st ma fi xs) (hk : k < 0 ∨ 15 < k) : Calls Try.prog 14 #[vLog st ma fi v, .int .i64 k] W (ResIReportError st ma fi xs (-1) W) := by
  have HSL := Lib.hid H
  have HL := Lib.hid hl
  obtain ⟨a1, n1, c1, rfl⟩ := RdL.form H
  clear H hl
  unfold vLog
  have HOK := Lib.hid hb
  have HK := Lib.hid hk
  clear hk
  clear hb
  go_enter Try.func14, Try.ntmps14
  have rA1_ := Lib.hid (show (((W.alloc (.cells #[.int .i64 st, .int .i64 ma, .int .i64 fi, .slice a1 n1 c1] 26)).alloc (.cells #[.int .i64 0, .int .i64 0, .int .i64 0, .slice none 0 0] 26))).heap[W.heap.size]? = some (.cells #[.int .i64 st, .int .i64 ma, .int .i64 fi, .slice a1 n1 c1] 26 (0, 0)) from by rw [heap_alloc_old _ _ (by simp only [World.size_alloc]; omega)]; exact heap_alloc_new _ _)
  have rR2_ := Lib.hid (show (((W.alloc (.cells #[.int .i64 st, .int .i64 ma, .int .i64 fi, .slice a1 n1 c1] 26)).alloc (.cells #[.int .i64 0, .int .i64 0, .int .i64 0, .slice none 0 0] 26))).heap[W.heap.size + 1]? = some (.cells #[.int .i64 0, .int .i64 0, .int .i64 0, .slice none 0 0] 26 (0, 0)) from by exact heap_pair _ _ _)
  have G3_ := Lib.hid (show (W).grownBy (((W.alloc (.cells #[.int .i64 st, .int .i64 ma, .int .i64 fi, .slice a1 n1 c1] 26)).alloc (.cells #[.int .i64 0, .int .i64 0, .int .i64 0, .slice none 0 0] 26))) none from (gby_alloc (gby_alloc (gby_refl _ _) _) _))
  have A_0_ : (((W.alloc (.cells #[.int .i64 st, .int .i64 ma, .int .i64 fi, .slice a1 n1 c1] 26)).alloc (.cells #[.int .i64 0, .int .i64 0, .int .i64 0, .slice none 0 0] 26))).cell? ⟨W.heap.size, 0, none⟩ = some (.int .i64 st) := cell_of_row _ _ 0 _ _ _ rA1_.out
  have A_1_ : (((W.alloc (.cells #[.int .i64 st, .int .i64 ma, .int .i64 fi, .slice a1 n1 c1] 26)).alloc (.cells #[.int .i64 0, .int .i64 0, .int .i64 0, .slice none 0 0] 26))).cell? ⟨W.heap.size, 1, none⟩ = some (.int .i64 ma) := cell_of_row _ _ 1 _ _ _ rA1_.out
  have A_2_ : (((W.alloc (.cells #[.int .i64 st, .int .i64 ma, .int .i64 fi, .slice a1 n1 c1] 26)).alloc (.cells #[.int .i64 0, .int .i64 0, .int .i64 0, .slice none 0 0] 26))).cell? ⟨W.heap.size, 2, none⟩ = some (.int .i64 fi) := cell_of_row _ _ 2 _ _ _ rA1_.out
  have A_3_ : (((W.alloc (.cells #[.int .i64 st, .int .i64 ma, .int .i64 fi, .slice a1 n1 c1] 26)).alloc (.cells #[.int .i64 0, .int .i64 0, .int .i64 0, .slice none 0 0] 26))).cell? ⟨W.heap.size, 3, none⟩ = some (.slice a1 n1 c1) := cell_of_row _ _ 3 _ _ _ rA1_.out
  have R_0_ : (((W.alloc (.cells #[.int .i64 st, .int .i64 ma, .int .i64 fi, .slice a1 n1 c1] 26)).alloc (.cells #[.int .i64 0, .int .i64 0, .int .i64 0, .slice none 0 0] 26))).cell? ⟨W.heap.size + 1, 0, none⟩ = some (.int .i64 0) := cell_of_row _ _ 0 _ _ _ rR2_.out
  have R_1_ : (((W.alloc (.cells #[.int .i64 st, .int .i64 ma, .int .i64 fi, .slice a1 n1 c1] 26)).alloc (.cells #[.int .i64 0, .int .i64 0, .int .i64 0, .slice none 0 0] 26))).cell? ⟨W.heap.size + 1, 1, none⟩ = some (.int .i64 0) := cell_of_row _ _ 1 _ _ _ rR2_.out
  have R_2_ : (((W.alloc (.cells #[.int .i64 st, .int .i64 ma, .int .i64 fi, .slice a1 n1 c1] 26)).alloc (.cells #[.int .i64 0, .int .i64 0, .int .i64 0, .slice none 0 0] 26))).cell? ⟨W.heap.size + 1, 2, none⟩ = some (.int .i64 0) := cell_of_row _ _ 2 _ _ _ rR2_.out
  have R_3_ : (((W.alloc (.cells #[.int .i64 st, .int .i64 ma, .int .i64 fi, .slice a1 n1 c1] 26)).alloc (.cells #[.int .i64 0, .int .i64 0, .int .i64 0, .slice none 0 0] 26))).cell? ⟨W.heap.size + 1, 3, none⟩ = some (.slice none 0 0) := cell_of_row _ _ 3 _ _ _ rR2_.out
  go_wp2_with fail
  go_at_call 49
  refine (copiedLog_d _ _ _ _ _ xs (HSL.out.grow G3_.out) HL.out).mono ?_
  rintro e w1 ⟨d, rfl, o, g⟩
  have sz_ := g.size
  try simp only [World.size_alloc] at sz_ o
  clear A_0_ A_1_ A_2_ A_3_ R_0_ R_1_ R_2_ R_3_
  have rA4_ := Lib.hid (show (w1).heap[W.heap.size]? = some (.cells #[.int .i64 st, .int .i64 ma, .int .i64 fi, .slice a1 n1 c1] 26 (0, 0)) from row_held g rA1_.out)
  clear rA1_
  have rR5_ := Lib.hid (show (w1).heap[W.heap.size + 1]? = some (.cells #[.int .i64 0, .int .i64 0, .int .i64 0, .slice none 0 0] 26 (0, 0)) from row_held g rR2_.out)
  clear rR2_
  have G6_ := Lib.hid (show (W).grownBy (w1) none from gby_trans G3_.out g)
  clear g
  obtain ⟨qp, qn, qc, hv2⟩ := RdL.form (OwU.rd o)
  subst hv2
  unfold vLog
  have oC7_ := Lib.hid (show OwU (w1) (W.heap.size + 1 + 1) (w1.heap.size) [] [own shI (.slice qp qn qc) xs] from o)
  clear o
  have A_0_ : (w1).cell? ⟨W.heap.size, 0, none⟩ = some (.int .i64 st) := cell_of_row _ _ 0 _ _ _ rA4_.out
  have A_1_ : (w1).cell? ⟨W.heap.size, 1, none⟩ = some (.int .i64 ma) := cell_of_row _ _ 1 _ _ _ rA4_.out
  have A_2_ : (w1).cell? ⟨W.heap.size, 2, none⟩ = some (.int .i64 fi) := cell_of_row _ _ 2 _ _ _ rA4_.out
  have A_3_ : (w1).cell? ⟨W.heap.size, 3, none⟩ = some (.slice a1 n1 c1) := cell_of_row _ _ 3 _ _ _ rA4_.out
  have Af0_ : (w1).frozen? ⟨W.heap.size, 0, none⟩ = false := frozen_of_row _ _ 0 _ _ rA4_.out
  have Af1_ : (w1).frozen? ⟨W.heap.size, 1, none⟩ = false := frozen_of_row _ _ 1 _ _ rA4_.out
  have Af2_ : (w1).frozen? ⟨W.heap.size, 2, none⟩ = false := frozen_of_row _ _ 2 _ _ rA4_.out
  have Af3_ : (w1).frozen? ⟨W.heap.size, 3, none⟩ = false := frozen_of_row _ _ 3 _ _ rA4_.out
  have R_0_ : (w1).cell? ⟨W.heap.size + 1, 0, none⟩ = some (.int .i64 0) := cell_of_row _ _ 0 _ _ _ rR5_.out
  have R_1_ : (w1).cell? ⟨W.heap.size + 1, 1, none⟩ = some (.int .i64 0) := cell_of_row _ _ 1 _ _ _ rR5_.out
  have R_2_ : (w1).cell? ⟨W.heap.size + 1, 2, none⟩ = some (.int .i64 0) := cell_of_row _ _ 2 _ _ _ rR5_.out
  have R_3_ : (w1).cell? ⟨W.heap.size + 1, 3, none⟩ = some (.slice none 0 0) := cell_of_row _ _ 3 _ _ _ rR5_.out
  go_wp2_with fail
  go_at_call 23
  clear A_0_ A_1_ A_2_ A_3_ Af0_ Af1_ Af2_ Af3_ R_0_ R_1_ R_2_ R_3_
  have rR8_ := Lib.hid (show (((((w1.setCell ⟨W.heap.size, 0, none⟩ (.int .i64 st)).setCell ⟨W.heap.size, 1, none⟩ (.int .i64 ma)).setCell ⟨W.heap.size, 2, none⟩ (.int .i64 fi)).setCell ⟨W.heap.size, 3, none⟩ (.slice qp qn qc))).heap[W.heap.size + 1]? = some (.cells #[.int .i64 0, .int .i64 0, .int .i64 0, .slice none 0 0] 26 (0, 0)) from (set_far (set_far (set_far (set_far rR5_.out (by dsimp only; omega)) (by dsimp only; omega)) (by dsimp only; omega)) (by dsimp only; omega)))
  clear rR5_
  have rA9_ := Lib.hid (show (((((w1.setCell ⟨W.heap.size, 0, none⟩ (.int .i64 st)).setCell ⟨W.heap.size, 1, none⟩ (.int .i64 ma)).setCell ⟨W.heap.size, 2, none⟩ (.int .i64 fi)).setCell ⟨W.heap.size, 3, none⟩ (.slice qp qn qc))).heap[W.heap.size]? = some (.cells #[.int .i64 st, .int .i64 ma, .int .i64 fi, .slice qp qn qc] 26 (0, 0)) from (heap_setCell_same _ _ 3 _ _ _ (heap_setCell_same _ _ 2 _ _ _ (heap_setCell_same _ _ 1 _ _ _ (heap_setCell_same _ _ 0 _ _ _ rA4_.out)))))
  clear rA4_
  have oC10_ := Lib.hid (show OwU (((((w1.setCell ⟨W.heap.size, 0, none⟩ (.int .i64 st)).setCell ⟨W.heap.size, 1, none⟩ (.int .i64 ma)).setCell ⟨W.heap.size, 2, none⟩ (.int .i64 fi)).setCell ⟨W.heap.size, 3, none⟩ (.slice qp qn qc))) (W.heap.size + 1 + 1) (w1.heap.size) [] [own shI (.slice qp qn qc) xs] from (OwU.keep (chg_one _ _ _ _) (by omega) (OwU.keep (chg_one _ _ _ _) (by omega) (OwU.keep (chg_one _ _ _ _) (by omega) (OwU.keep (chg_one _ _ _ _) (by omega) oC7_.out)))))
  clear oC7_
  have G11_ := Lib.hid (show (W).grownBy (((((w1.setCell ⟨W.heap.size, 0, none⟩ (.int .i64 st)).setCell ⟨W.heap.size, 1, none⟩ (.int .i64 ma)).setCell ⟨W.heap.size, 2, none⟩ (.int .i64 fi)).setCell ⟨W.heap.size, 3, none⟩ (.slice qp qn qc))) none from (gby_setnew (gby_setnew (gby_setnew (gby_setnew G6_.out _ (by dsimp only; omega) _) _ (by dsimp only; omega) _) _ (by dsimp only; omega) _) _ (by dsimp only; omega) _))
  have A_0_ : (((((w1.setCell ⟨W.heap.size, 0, none⟩ (.int .i64 st)).setCell ⟨W.heap.size, 1, none⟩ (.int .i64 ma)).setCell ⟨W.heap.size, 2, none⟩ (.int .i64 fi)).setCell ⟨W.heap.size, 3, none⟩ (.slice qp qn qc))).cell? ⟨W.heap.size, 0, none⟩ = some (.int .i64 st) := cell_of_row _ _ 0 _ _ _ rA9_.out
  have A_1_ : (((((w1.setCell ⟨W.heap.size, 0, none⟩ (.int .i64 st)).setCell ⟨W.heap.size, 1, none⟩ (.int .i64 ma)).setCell ⟨W.heap.size, 2, none⟩ (.int .i64 fi)).setCell ⟨W.heap.size, 3, none⟩ (.slice qp qn qc))).cell? ⟨W.heap.size, 1, none⟩ = some (.int .i64 ma) := cell_of_row _ _ 1 _ _ _ rA9_.out
  have A_2_ : (((((w1.setCell ⟨W.heap.size, 0, none⟩ (.int .i64 st)).setCell ⟨W.heap.size, 1, none⟩ (.int .i64 ma)).setCell ⟨W.heap.size, 2, none⟩ (.int .i64 fi)).setCell ⟨W.heap.size, 3, none⟩ (.slice qp qn qc))).cell? ⟨W.heap.size, 2, none⟩ = some (.int .i64 fi) := cell_of_row _ _ 2 _ _ _ rA9_.out
  have A_3_ : (((((w1.setCell ⟨W.heap.size, 0, none⟩ (.int .i64 st)).setCell ⟨W.heap.size, 1, none⟩ (.int .i64 ma)).setCell ⟨W.heap.size, 2, none⟩ (.int .i64 fi)).setCell ⟨W.heap.size, 3, none⟩ (.slice qp qn qc))).cell? ⟨W.heap.size, 3, none⟩ = some (.slice qp qn qc) := cell_of_row _ _ 3 _ _ _ rA9_.out
  have R_0_ : (((((w1.setCell ⟨W.heap.size, 0, none⟩ (.int .i64 st)).setCell ⟨W.heap.size, 1, none⟩ (.int .i64 ma)).setCell ⟨W.heap.size, 2, none⟩ (.int .i64 fi)).setCell ⟨W.heap.size, 3, none⟩ (.slice qp qn qc))).cell? ⟨W.heap.size + 1, 0, none⟩ = some (.int .i64 0) := cell_of_row _ _ 0 _ _ _ rR8_.out
  have R_1_ : (((((w1.setCell ⟨W.heap.size, 0, none⟩ (.int .i64 st)).setCell ⟨W.heap.size, 1, none⟩ (.int .i64 ma)).setCell ⟨W.heap.size, 2, none⟩ (.int .i64 fi)).setCell ⟨W.heap.size, 3, none⟩ (.slice qp qn qc))).cell? ⟨W.heap.size + 1, 1, none⟩ = some (.int .i64 0) := cell_of_row _ _ 1 _ _ _ rR8_.out
  have R_2_ : (((((w1.setCell ⟨W.heap.size, 0, none⟩ (.int .i64 st)).setCell ⟨W.heap.size, 1, none⟩ (.int .i64 ma)).setCell ⟨W.heap.size, 2, none⟩ (.int .i64 fi)).setCell ⟨W.heap.size, 3, none⟩ (.slice qp qn qc))).cell? ⟨W.heap.size + 1, 2, none⟩ = some (.int .i64 0) := cell_of_row _ _ 2 _ _ _ rR8_.out
  have R_3_ : (((((w1.setCell ⟨W.heap.size, 0, none⟩ (.int .i64 st)).setCell ⟨W.heap.size, 1, none⟩ (.int .i64 ma)).setCell ⟨W.heap.size, 2, none⟩ (.int .i64 fi)).setCell ⟨W.heap.size, 3, none⟩ (.slice qp qn qc))).cell? ⟨W.heap.size + 1, 3, none⟩ = some (.slice none 0 0) := cell_of_row _ _ 3 _ _ _ rR8_.out
  refine (implLog_yes _ _ _ _ _ xs (OwU.rd oC10_.out) HL.out HOK.out).mono ?_
  rintro e w2 ⟨rfl, g⟩
  have szl_ := g.size
  try simp only [World.size_setCell, World.size_alloc] at szl_
  clear A_0_ A_1_ A_2_ A_3_ R_0_ R_1_ R_2_ R_3_
  have rA12_ := Lib.hid (show (w2).heap[W.heap.size]? = some (.cells #[.int .i64 st, .int .i64 ma, .int .i64 fi, .slice qp qn qc] 26 (0, 0)) from row_held g rA9_.out)
  clear rA9_
  have rR13_ := Lib.hid (show (w2).heap[W.heap.size + 1]? = some (.cells #[.int .i64 0, .int .i64 0, .int .i64 0, .slice none 0 0] 26 (0, 0)) from row_held g rR8_.out)
  clear rR8_
  have oC14_ := Lib.hid (show OwU (w2) (W.heap.size + 1 + 1) (w1.heap.size) [] [own shI (.slice qp qn qc) xs] from OwU.grow oC10_.out g)
  clear oC10_
  have G15_ := Lib.hid (show (W).grownBy (w2) none from gby_trans G11_.out g)
  clear g
  have A_0_ : (w2).cell? ⟨W.heap.size, 0, none⟩ = some (.int .i64 st) := cell_of_row _ _ 0 _ _ _ rA12_.out
  have A_1_ : (w2).cell? ⟨W.heap.size, 1, none⟩ = some (.int .i64 ma) := cell_of_row _ _ 1 _ _ _ rA12_.out
  have A_2_ : (w2).cell? ⟨W.heap.size, 2, none⟩ = some (.int .i64 fi) := cell_of_row _ _ 2 _ _ _ rA12_.out
  have A_3_ : (w2).cell? ⟨W.heap.size, 3, none⟩ = some (.slice qp qn qc) := cell_of_row _ _ 3 _ _ _ rA12_.out
  have R_0_ : (w2).cell? ⟨W.heap.size + 1, 0, none⟩ = some (.int .i64 0) := cell_of_row _ _ 0 _ _ _ rR13_.out
  have R_1_ : (w2).cell? ⟨W.heap.size + 1, 1, none⟩ = some (.int .i64 0) := cell_of_row _ _ 1 _ _ _ rR13_.out
  have R_2_ : (w2).cell? ⟨W.heap.size + 1, 2, none⟩ = some (.int .i64 0) := cell_of_row _ _ 2 _ _ _ rR13_.out
  have R_3_ : (w2).cell? ⟨W.heap.size + 1, 3, none⟩ = some (.slice none 0 0) := cell_of_row _ _ 3 _ _ _ rR13_.out
  go_wp2_with fail
  go_at_call 50
  refine (rng_no _ _ _ _ HK.out).mono ?_
  rintro e w3_ ⟨rfl, rfl⟩
  clear A_0_ A_1_ A_2_ A_3_ R_0_ R_1_ R_2_ R_3_
  have A_0_ : (w2).cell? ⟨W.heap.size, 0, none⟩ = some (.int .i64 st) := cell_of_row _ _ 0 _ _ _ rA12_.out
  have A_1_ : (w2).cell? ⟨W.heap.size, 1, none⟩ = some (.int .i64 ma) := cell_of_row _ _ 1 _ _ _ rA12_.out
  have A_2_ : (w2).cell? ⟨W.heap.size, 2, none⟩ = some (.int .i64 fi) := cell_of_row _ _ 2 _ _ _ rA12_.out
  have A_3_ : (w2).cell? ⟨W.heap.size, 3, none⟩ = some (.slice qp qn qc) := cell_of_row _ _ 3 _ _ _ rA12_.out
  have R_0_ : (w2).cell? ⟨W.heap.size + 1, 0, none⟩ = some (.int .i64 0) := cell_of_row _ _ 0 _ _ _ rR13_.out
  have R_1_ : (w2).cell? ⟨W.heap.size + 1, 1, none⟩ = some (.int .i64 0) := cell_of_row _ _ 1 _ _ _ rR13_.out
  have R_2_ : (w2).cell? ⟨W.heap.size + 1, 2, none⟩ = some (.int .i64 0) := cell_of_row _ _ 2 _ _ _ rR13_.out
  have R_3_ : (w2).cell? ⟨W.heap.size + 1, 3, none⟩ = some (.slice none 0 0) := cell_of_row _ _ 3 _ _ _ rR13_.out
  have Rf0_ : (w2).frozen? ⟨W.heap.size + 1, 0, none⟩ = false := frozen_of_row _ _ 0 _ _ rR13_.out
  have Rf1_ : (w2).frozen? ⟨W.heap.size + 1, 1, none⟩ = false := frozen_of_row _ _ 1 _ _ rR13_.out
  have Rf2_ : (w2).frozen? ⟨W.heap.size + 1, 2, none⟩ = false := frozen_of_row _ _ 2 _ _ rR13_.out
  have Rf3_ : (w2).frozen? ⟨W.heap.size + 1, 3, none⟩ = false := frozen_of_row _ _ 3 _ _ rR13_.out
  have zr_ := Lib.hid (show (((((w2.setCell ⟨W.heap.size + 1, 0, none⟩ (.int .i64 st)).setCell ⟨W.heap.size + 1, 1, none⟩ (.int .i64 ma)).setCell ⟨W.heap.size + 1, 2, none⟩ (.int .i64 fi)).setCell ⟨W.heap.size + 1, 3, none⟩ (.slice qp qn qc))).heap[W.heap.size + 1]? = some (.cells #[.int .i64 st, .int .i64 ma, .int .i64 fi, .slice qp qn qc] 26 (0, 0)) from (heap_setCell_same _ _ 3 _ _ _ (heap_setCell_same _ _ 2 _ _ _ (heap_setCell_same _ _ 1 _ _ _ (heap_setCell_same _ _ 0 _ _ _ rR13_.out)))))
  have z0_ : (((((w2.setCell ⟨W.heap.size + 1, 0, none⟩ (.int .i64 st)).setCell ⟨W.heap.size + 1, 1, none⟩ (.int .i64 ma)).setCell ⟨W.heap.size + 1, 2, none⟩ (.int .i64 fi)).setCell ⟨W.heap.size + 1, 3, none⟩ (.slice qp qn qc))).cell? ⟨W.heap.size + 1, 0, none⟩ = some (.int .i64 st) := cell_of_row _ _ 0 _ _ _ zr_.out
  have z1_ : (((((w2.setCell ⟨W.heap.size + 1, 0, none⟩ (.int .i64 st)).setCell ⟨W.heap.size + 1, 1, none⟩ (.int .i64 ma)).setCell ⟨W.heap.size + 1, 2, none⟩ (.int .i64 fi)).setCell ⟨W.heap.size + 1, 3, none⟩ (.slice qp qn qc))).cell? ⟨W.heap.size + 1, 1, none⟩ = some (.int .i64 ma) := cell_of_row _ _ 1 _ _ _ zr_.out
  have z2_ : (((((w2.setCell ⟨W.heap.size + 1, 0, none⟩ (.int .i64 st)).setCell ⟨W.heap.size + 1, 1, none⟩ (.int .i64 ma)).setCell ⟨W.heap.size + 1, 2, none⟩ (.int .i64 fi)).setCell ⟨W.heap.size + 1, 3, none⟩ (.slice qp qn qc))).cell? ⟨W.heap.size + 1, 2, none⟩ = some (.int .i64 fi) := cell_of_row _ _ 2 _ _ _ zr_.out
  have z3_ : (((((w2.setCell ⟨W.heap.size + 1, 0, none⟩ (.int .i64 st)).setCell ⟨W.heap.size + 1, 1, none⟩ (.int .i64 ma)).setCell ⟨W.heap.size + 1, 2, none⟩ (.int .i64 fi)).setCell ⟨W.heap.size + 1, 3, none⟩ (.slice qp qn qc))).cell? ⟨W.heap.size + 1, 3, none⟩ = some (.slice qp qn qc) := cell_of_row _ _ 3 _ _ _ zr_.out
  go_wp2
  refine bodyPost_ret (v := .tuple #[.agg #[.int .i64 st, .int .i64 ma, .int .i64 fi, .slice qp qn qc], .int .i64 (-1)]) (by simp [results, go_sem, z0_, z1_, z2_, z3_]) rfl ⟨_, rfl, ?_, ?_⟩
  · exact OwU.wide (lo := W.heap.size + 1 + 1) (by omega) (by simp only [World.size_setCell]; omega) (OwU.keep (chg_one _ _ _ _) (.inr (by omega)) (OwU.keep (chg_one _ _ _ _) (.inr (by omega)) (OwU.keep (chg_one _ _ _ _) (.inr (by omega)) (OwU.keep (chg_one _ _ _ _) (.inr (by omega)) oC14_.out))))
  · exact (gby_setnew (gby_setnew (gby_setnew (gby_setnew G15_.out _ (by dsimp only; omega) _) _ (by dsimp only; omega) _) _ (by dsimp only; omega) _) _ (by dsimp only; omega) _)

theorem cell_lt9 {w : World} {a : Addr} {v : Value} (h : w.cell? a = some v) : a.block < w.heap.size := by
  cases e : w.heap[a.block]? with
  | none => simp [World.cell?, e] at h
  | some o => exact (Array.getElem?_eq_some_iff.1 e).1

set_option maxRecDepth 8000 in
set_option maxHeartbeats 2000000 in
theorem implReport_11 (W : World) (st : Int) (man kn : Nat) (fi : Int) (v : Value) (xs : List Int) (H : RdL shI W v xs) (hl : szL shI xs ≤ 1048576) (hb : LOk st man fi xs) (hma : man ≤ 65535) (hk : kn ≤ 15) (hs0 : (st == 0) = false) (hbit : Hid (bitB man kn = true)) : Calls Try.prog 14 #[vLog st man fi v, .int .i64 (kn : Int)] W (ResIReportError (bits .or .i64 st (wrap64 (2 ^ kn))) man fi xs (-1) W) := by
  have HSL := Lib.hid H
  have HL := Lib.hid hl
  obtain ⟨a1, n1, c1, rfl⟩ := RdL.form H
  clear H hl
  unfold vLog
  have HOK := Lib.hid hb
  clear hb
  have i1_ : (0 : Int) ≤ (kn : Int) := by omega
  have i2_ : ((kn : Int)).toNat = kn := by omega
  have i3_ : (kn : Int) ≤ 64 := by omega
  go_enter Try.func14, Try.ntmps14
  have rA1_ := Lib.hid (show (((W.alloc (.cells #[.int .i64 st, .int .i64 (man : Int), .int .i64 fi, .slice a1 n1 c1] 26)).alloc (.cells #[.int .i64 0, .int .i64 0, .int .i64 0, .slice none 0 0] 26))).heap[W.heap.size]? = some (.cells #[.int .i64 st, .int .i64 (man : Int), .int .i64 fi, .slice a1 n1 c1] 26 (0, 0)) from by rw [heap_alloc_old _ _ (by simp only [World.size_alloc]; omega)]; exact heap_alloc_new _ _)
  have rR2_ := Lib.hid (show (((W.alloc (.cells #[.int .i64 st, .int .i64 (man : Int), .int .i64 fi, .slice a1 n1 c1] 26)).alloc (.cells #[.int .i64 0, .int .i64 0, .int .i64 0, .slice none 0 0] 26))).heap[W.heap.size + 1]? = some (.cells #[.int .i64 0, .int .i64 0, .int .i64 0, .slice none 0 0] 26 (0, 0)) from by exact heap_pair _ _ _)
  have G3_ := Lib.hid (show (W).grownBy (((W.alloc (.cells #[.int .i64 st, .int .i64 (man : Int), .int .i64 fi, .slice a1 n1 c1] 26)).alloc (.cells #[.int .i64 0, .int .i64 0, .int .i64 0, .slice none 0 0] 26))) none from (gby_alloc (gby_alloc (gby_refl _ _) _) _))
  have A_0_ : (((W.alloc (.cells #[.int .i64 st, .int .i64 (man : Int), .int .i64 fi, .slice a1 n1 c1] 26)).alloc (.cells #[.int .i64 0, .int .i64 0, .int .i64 0, .slice none 0 0] 26))).cell? ⟨W.heap.size, 0, none⟩ = some (.int .i64 st) := cell_of_row _ _ 0 _ _ _ rA1_.out
  have A_1_ : (((W.alloc (.cells #[.int .i64 st, .int .i64 (man : Int), .int .i64 fi, .slice a1 n1 c1] 26)).alloc (.cells #[.int .i64 0, .int .i64 0, .int .i64 0, .slice none 0 0] 26))).cell? ⟨W.heap.size, 1, none⟩ = some (.int .i64 (man : Int)) := cell_of_row _ _ 1 _ _ _ rA1_.out
  have A_2_ : (((W.alloc (.cells #[.int .i64 st, .int .i64 (man : Int), .int .i64 fi, .slice a1 n1 c1] 26)).alloc (.cells #[.int .i64 0, .int .i64 0, .int .i64 0, .slice none 0 0] 26))).cell? ⟨W.heap.size, 2, none⟩ = some (.int .i64 fi) := cell_of_row _ _ 2 _ _ _ rA1_.out
  have A_3_ : (((W.alloc (.cells #[.int .i64 st, .int .i64 (man : Int), .int .i64 fi, .slice a1 n1 c1] 26)).alloc (.cells #[.int .i64 0, .int .i64 0, .int .i64 0, .slice none 0 0] 26))).cell? ⟨W.heap.size, 3, none⟩ = some (.slice a1 n1 c1) := cell_of_row _ _ 3 _ _ _ rA1_.out
  have R_0_ : (((W.alloc (.cells #[.int .i64 st, .int .i64 (man : Int), .int .i64 fi, .slice a1 n1 c1] 26)).alloc (.cells #[.int .i64 0, .int .i64 0, .int .i64 0, .slice none 0 0] 26))).cell? ⟨W.heap.size + 1, 0, none⟩ = some (.int .i64 0) := cell_of_row _ _ 0 _ _ _ rR2_.out
  have R_1_ : (((W.alloc (.cells #[.int .i64 st, .int .i64 (man : Int), .int .i64 fi, .slice a1 n1 c1] 26)).alloc (.cells #[.int .i64 0, .int .i64 0, .int .i64 0, .slice none 0 0] 26))).cell? ⟨W.heap.size + 1, 1, none⟩ = some (.int .i64 0) := cell_of_row _ _ 1 _ _ _ rR2_.out
  have R_2_ : (((W.alloc (.cells #[.int .i64 st, .int .i64 (man : Int), .int .i64 fi, .slice a1 n1 c1] 26)).alloc (.cells #[.int .i64 0, .int .i64 0, .int .i64 0, .slice none 0 0] 26))).cell? ⟨W.heap.size + 1, 2, none⟩ = some (.int .i64 0) := cell_of_row _ _ 2 _ _ _ rR2_.out
  have R_3_ : (((W.alloc (.cells #[.int .i64 st, .int .i64 (man : Int), .int .i64 fi, .slice a1 n1 c1] 26)).alloc (.cells #[.int .i64 0, .int .i64 0, .int .i64 0, .slice none 0 0] 26))).cell? ⟨W.heap.size + 1, 3, none⟩ = some (.slice none 0 0) := cell_of_row _ _ 3 _ _ _ rR2_.out
  go_wp2_with fail
  go_at_call 49
  refine (copiedLog_d _ _ _ _ _ xs (HSL.out.grow G3_.out) HL.out).mono ?_
  rintro e w1 ⟨d, rfl, o, g⟩
  have sz_ := g.size
  try simp only [World.size_alloc] at sz_ o
  clear A_0_ A_1_ A_2_ A_3_ R_0_ R_1_ R_2_ R_3_
  have rA4_ := Lib.hid (show (w1).heap[W.heap.size]? = some (.cells #[.int .i64 st, .int .i64 (man : Int), .int .i64 fi, .slice a1 n1 c1] 26 (0, 0)) from row_held g rA1_.out)
  clear rA1_
  have rR5_ := Lib.hid (show (w1).heap[W.heap.size + 1]? = some (.cells #[.int .i64 0, .int .i64 0, .int .i64 0, .slice none 0 0] 26 (0, 0)) from row_held g rR2_.out)
  clear rR2_
  have G6_ := Lib.hid (show (W).grownBy (w1) none from gby_trans G3_.out g)
  clear g
  obtain ⟨qp, qn, qc, hv2⟩ := RdL.form (OwU.rd o)
  subst hv2
  unfold vLog
  have oC7_ := Lib.hid (show OwU (w1) (W.heap.size + 1 + 1) (w1.heap.size) [] [own shI (.slice qp qn qc) xs] from o)
  clear o
  have A_0_ : (w1).cell? ⟨W.heap.size, 0, none⟩ = some (.int .i64 st) := cell_of_row _ _ 0 _ _ _ rA4_.out
  have A_1_ : (w1).cell? ⟨W.heap.size, 1, none⟩ = some (.int .i64 (man : Int)) := cell_of_row _ _ 1 _ _ _ rA4_.out
  have A_2_ : (w1).cell? ⟨W.heap.size, 2, none⟩ = some (.int .i64 fi) := cell_of_row _ _ 2 _ _ _ rA4_.out
  have A_3_ : (w1).cell? ⟨W.heap.size, 3, none⟩ = some (.slice a1 n1 c1) := cell_of_row _ _ 3 _ _ _ rA4_.out
  have Af0_ : (w1).frozen? ⟨W.heap.size, 0, none⟩ = false := frozen_of_row _ _ 0 _ _ rA4_.out
  have Af1_ : (w1).frozen? ⟨W.heap.size, 1, none⟩ = false := frozen_of_row _ _ 1 _ _ rA4_.out
  have Af2_ : (w1).frozen? ⟨W.heap.size, 2, none⟩ = false := frozen_of_row _ _ 2 _ _ rA4_.out
  have Af3_ : (w1).frozen? ⟨W.heap.size, 3, none⟩ = false := frozen_of_row _ _ 3 _ _ rA4_.out
  have R_0_ : (w1).cell? ⟨W.heap.size + 1, 0, none⟩ = some (.int .i64 0) := cell_of_row _ _ 0 _ _ _ rR5_.out
  have R_1_ : (w1).cell? ⟨W.heap.size + 1, 1, none⟩ = some (.int .i64 0) := cell_of_row _ _ 1 _ _ _ rR5_.out
  have R_2_ : (w1).cell? ⟨W.heap.size + 1, 2, none⟩ = some (.int .i64 0) := cell_of_row _ _ 2 _ _ _ rR5_.out
  have R_3_ : (w1).cell? ⟨W.heap.size + 1, 3, none⟩ = some (.slice none 0 0) := cell_of_row _ _ 3 _ _ _ rR5_.out
  go_wp2_with fail
  go_at_call 23
  clear A_0_ A_1_ A_2_ A_3_ Af0_ Af1_ Af2_ Af3_ R_0_ R_1_ R_2_ R_3_
  have rR8_ := Lib.hid (show (((((w1.setCell ⟨W.heap.size, 0, none⟩ (.int .i64 st)).setCell ⟨W.heap.size, 1, none⟩ (.int .i64 (man : Int))).setCell ⟨W.heap.size, 2, none⟩ (.int .i64 fi)).setCell ⟨W.heap.size, 3, none⟩ (.slice qp qn qc))).heap[W.heap.size + 1]? = some (.cells #[.int .i64 0, .int .i64 0, .int .i64 0, .slice none 0 0] 26 (0, 0)) from (set_far (set_far (set_far (set_far rR5_.out (by dsimp only; omega)) (by dsimp only; omega)) (by dsimp only; omega)) (by dsimp only; omega)))
  clear rR5_
  have rA9_ := Lib.hid (show (((((w1.setCell ⟨W.heap.size, 0, none⟩ (.int .i64 st)).setCell ⟨W.heap.size, 1, none⟩ (.int .i64 (man : Int))).setCell ⟨W.heap.size, 2, none⟩ (.int .i64 fi)).setCell ⟨W.heap.size, 3, none⟩ (.slice qp qn qc))).heap[W.heap.size]? = some (.cells #[.int .i64 st, .int .i64 (man : Int), .int .i64 fi, .slice qp qn qc] 26 (0, 0)) from (heap_setCell_same _ _ 3 _ _ _ (heap_setCell_same _ _ 2 _ _ _ (heap_setCell_same _ _ 1 _ _ _ (heap_setCell_same _ _ 0 _ _ _ rA4_.out)))))
  clear rA4_
  have oC10_ := Lib.hid (show OwU (((((w1.setCell ⟨W.heap.size, 0, none⟩ (.int .i64 st)).setCell ⟨W.heap.size, 1, none⟩ (.int .i64 (man : Int))).setCell ⟨W.heap.size, 2, none⟩ (.int .i64 fi)).setCell ⟨W.heap.size, 3, none⟩ (.slice qp qn qc))) (W.heap.size + 1 + 1) (w1.heap.size) [] [own shI (.slice qp qn qc) xs] from (OwU.keep (chg_one _ _ _ _) (by omega) (OwU.keep (chg_one _ _ _ _) (by omega) (OwU.keep (chg_one _ _ _ _) (by omega) (OwU.keep (chg_one _ _ _ _) (by omega) oC7_.out)))))
  clear oC7_
  have G11_ := Lib.hid (show (W).grownBy (((((w1.setCell ⟨W.heap.size, 0, none⟩ (.int .i64 st)).setCell ⟨W.heap.size, 1, none⟩ (.int .i64 (man : Int))).setCell ⟨W.heap.size, 2, none⟩ (.int .i64 fi)).setCell ⟨W.heap.size, 3, none⟩ (.slice qp qn qc))) none from (gby_setnew (gby_setnew (gby_setnew (gby_setnew G6_.out _ (by dsimp only; omega) _) _ (by dsimp only; omega) _) _ (by dsimp only; omega) _) _ (by dsimp only; omega) _))
  have A_0_ : (((((w1.setCell ⟨W.heap.size, 0, none⟩ (.int .i64 st)).setCell ⟨W.heap.size, 1, none⟩ (.int .i64 (man : Int))).setCell ⟨W.heap.size, 2, none⟩ (.int .i64 fi)).setCell ⟨W.heap.size, 3, none⟩ (.slice qp qn qc))).cell? ⟨W.heap.size, 0, none⟩ = some (.int .i64 st) := cell_of_row _ _ 0 _ _ _ rA9_.out
  have A_1_ : (((((w1.setCell ⟨W.heap.size, 0, none⟩ (.int .i64 st)).setCell ⟨W.heap.size, 1, none⟩ (.int .i64 (man : Int))).setCell ⟨W.heap.size, 2, none⟩ (.int .i64 fi)).setCell ⟨W.heap.size, 3, none⟩ (.slice qp qn qc))).cell? ⟨W.heap.size, 1, none⟩ = some (.int .i64 (man : Int)) := cell_of_row _ _ 1 _ _ _ rA9_.out
  have A_2_ : (((((w1.setCell ⟨W.heap.size, 0, none⟩ (.int .i64 st)).setCell ⟨W.heap.size, 1, none⟩ (.int .i64 (man : Int))).setCell ⟨W.heap.size, 2, none⟩ (.int .i64 fi)).setCell ⟨W.heap.size, 3, none⟩ (.slice qp qn qc))).cell? ⟨W.heap.size, 2, none⟩ = some (.int .i64 fi) := cell_of_row _ _ 2 _ _ _ rA9_.out
  have A_3_ : (((((w1.setCell ⟨W.heap.size, 0, none⟩ (.int .i64 st)).setCell ⟨W.heap.size, 1, none⟩ (.int .i64 (man : Int))).setCell ⟨W.heap.size, 2, none⟩ (.int .i64 fi)).setCell ⟨W.heap.size, 3, none⟩ (.slice qp qn qc))).cell? ⟨W.heap.size, 3, none⟩ = some (.slice qp qn qc) := cell_of_row _ _ 3 _ _ _ rA9_.out
  have R_0_ : (((((w1.setCell ⟨W.heap.size, 0, none⟩ (.int .i64 st)).setCell ⟨W.heap.size, 1, none⟩ (.int .i64 (man : Int))).setCell ⟨W.heap.size, 2, none⟩ (.int .i64 fi)).setCell ⟨W.heap.size, 3, none⟩ (.slice qp qn qc))).cell? ⟨W.heap.size + 1, 0, none⟩ = some (.int .i64 0) := cell_of_row _ _ 0 _ _ _ rR8_.out
  have R_1_ : (((((w1.setCell ⟨W.heap.size, 0, none⟩ (.int .i64 st)).setCell ⟨W.heap.size, 1, none⟩ (.int .i64 (man : Int))).setCell ⟨W.heap.size, 2, none⟩ (.int .i64 fi)).setCell ⟨W.heap.size, 3, none⟩ (.slice qp qn qc))).cell? ⟨W.heap.size + 1, 1, none⟩ = some (.int .i64 0) := cell_of_row _ _ 1 _ _ _ rR8_.out
  have R_2_ : (((((w1.setCell ⟨W.heap.size, 0, none⟩ (.int .i64 st)).setCell ⟨W.heap.size, 1, none⟩ (.int .i64 (man : Int))).setCell ⟨W.heap.size, 2, none⟩ (.int .i64 fi)).setCell ⟨W.heap.size, 3, none⟩ (.slice qp qn qc))).cell? ⟨W.heap.size + 1, 2, none⟩ = some (.int .i64 0) := cell_of_row _ _ 2 _ _ _ rR8_.out
  have R_3_ : (((((w1.setCell ⟨W.heap.size, 0, none⟩ (.int .i64 st)).setCell ⟨W.heap.size, 1, none⟩ (.int .i64 (man : Int))).setCell ⟨W.heap.size, 2, none⟩ (.int .i64 fi)).setCell ⟨W.heap.size, 3, none⟩ (.slice qp qn qc))).cell? ⟨W.heap.size + 1, 3, none⟩ = some (.slice none 0 0) := cell_of_row _ _ 3 _ _ _ rR8_.out
  refine (implLog_yes _ _ _ _ _ xs (OwU.rd oC10_.out) HL.out HOK.out).mono ?_
  rintro e w2 ⟨rfl, g⟩
  have szl_ := g.size
  try simp only [World.size_setCell, World.size_alloc] at szl_
  clear A_0_ A_1_ A_2_ A_3_ R_0_ R_1_ R_2_ R_3_
  have rA12_ := Lib.hid (show (w2).heap[W.heap.size]? = some (.cells #[.int .i64 st, .int .i64 (man : Int), .int .i64 fi, .slice qp qn qc] 26 (0, 0)) from row_held g rA9_.out)
  clear rA9_
  have rR13_ := Lib.hid (show (w2).heap[W.heap.size + 1]? = some (.cells #[.int .i64 0, .int .i64 0, .int .i64 0, .slice none 0 0] 26 (0, 0)) from row_held g rR8_.out)
  clear rR8_
  have oC14_ := Lib.hid (show OwU (w2) (W.heap.size + 1 + 1) (w1.heap.size) [] [own shI (.slice qp qn qc) xs] from OwU.grow oC10_.out g)
  clear oC10_
  have G15_ := Lib.hid (show (W).grownBy (w2) none from gby_trans G11_.out g)
  clear g
  have A_0_ : (w2).cell? ⟨W.heap.size, 0, none⟩ = some (.int .i64 st) := cell_of_row _ _ 0 _ _ _ rA12_.out
  have A_1_ : (w2).cell? ⟨W.heap.size, 1, none⟩ = some (.int .i64 (man : Int)) := cell_of_row _ _ 1 _ _ _ rA12_.out
  have A_2_ : (w2).cell? ⟨W.heap.size, 2, none⟩ = some (.int .i64 fi) := cell_of_row _ _ 2 _ _ _ rA12_.out
  have A_3_ : (w2).cell? ⟨W.heap.size, 3, none⟩ = some (.slice qp qn qc) := cell_of_row _ _ 3 _ _ _ rA12_.out
  have R_0_ : (w2).cell? ⟨W.heap.size + 1, 0, none⟩ = some (.int .i64 0) := cell_of_row _ _ 0 _ _ _ rR13_.out
  have R_1_ : (w2).cell? ⟨W.heap.size + 1, 1, none⟩ = some (.int .i64 0) := cell_of_row _ _ 1 _ _ _ rR13_.out
  have R_2_ : (w2).cell? ⟨W.heap.size + 1, 2, none⟩ = some (.int .i64 0) := cell_of_row _ _ 2 _ _ _ rR13_.out
  have R_3_ : (w2).cell? ⟨W.heap.size + 1, 3, none⟩ = some (.slice none 0 0) := cell_of_row _ _ 3 _ _ _ rR13_.out
  go_wp2_with fail
  go_at_call 50
  refine (rng_yes _ _ _ _ (by omega) (by omega)).mono ?_
  rintro e w3_ ⟨rfl, rfl⟩
  clear A_0_ A_1_ A_2_ A_3_ R_0_ R_1_ R_2_ R_3_
  have A_0_ : (w2).cell? ⟨W.heap.size, 0, none⟩ = some (.int .i64 st) := cell_of_row _ _ 0 _ _ _ rA12_.out
  have A_1_ : (w2).cell? ⟨W.heap.size, 1, none⟩ = some (.int .i64 (man : Int)) := cell_of_row _ _ 1 _ _ _ rA12_.out
  have A_2_ : (w2).cell? ⟨W.heap.size, 2, none⟩ = some (.int .i64 fi) := cell_of_row _ _ 2 _ _ _ rA12_.out
  have A_3_ : (w2).cell? ⟨W.heap.size, 3, none⟩ = some (.slice qp qn qc) := cell_of_row _ _ 3 _ _ _ rA12_.out
  have Af0_ : (w2).frozen? ⟨W.heap.size, 0, none⟩ = false := frozen_of_row _ _ 0 _ _ rA12_.out
  have Af1_ : (w2).frozen? ⟨W.heap.size, 1, none⟩ = false := frozen_of_row _ _ 1 _ _ rA12_.out
  have Af2_ : (w2).frozen? ⟨W.heap.size, 2, none⟩ = false := frozen_of_row _ _ 2 _ _ rA12_.out
  have Af3_ : (w2).frozen? ⟨W.heap.size, 3, none⟩ = false := frozen_of_row _ _ 3 _ _ rA12_.out
  have R_0_ : (w2).cell? ⟨W.heap.size + 1, 0, none⟩ = some (.int .i64 0) := cell_of_row _ _ 0 _ _ _ rR13_.out
  have R_1_ : (w2).cell? ⟨W.heap.size + 1, 1, none⟩ = some (.int .i64 0) := cell_of_row _ _ 1 _ _ _ rR13_.out
  have R_2_ : (w2).cell? ⟨W.heap.size + 1, 2, none⟩ = some (.int .i64 0) := cell_of_row _ _ 2 _ _ _ rR13_.out
  have R_3_ : (w2).cell? ⟨W.heap.size + 1, 3, none⟩ = some (.slice none 0 0) := cell_of_row _ _ 3 _ _ _ rR13_.out
  go_wp2_with fail
  go_still_tail 6, (by kernel_rfl)
  change wpList _ _ _ _ _ (w2).drew
  have gd_ : (w2).grownBy (w2).drew none := gby_drew (gby_refl _ _)
  generalize (w2).drew = wd1 at gd_ ⊢
  have szwd1 := gd_.size
  try simp only [World.size_setCell, World.size_alloc] at szwd1
  have rA16_ := Lib.hid (show (wd1).heap[W.heap.size]? = some (.cells #[.int .i64 st, .int .i64 (man : Int), .int .i64 fi, .slice qp qn qc] 26 (0, 0)) from row_held gd_ rA12_.out)
  clear rA12_
  have rR17_ := Lib.hid (show (wd1).heap[W.heap.size + 1]? = some (.cells #[.int .i64 0, .int .i64 0, .int .i64 0, .slice none 0 0] 26 (0, 0)) from row_held gd_ rR13_.out)
  clear rR13_
  have oC18_ := Lib.hid (show OwU (wd1) (W.heap.size + 1 + 1) (w1.heap.size) [] [own shI (.slice qp qn qc) xs] from OwU.grow oC14_.out gd_)
  clear oC14_
  have G19_ := Lib.hid (show (W).grownBy (wd1) none from gby_trans G15_.out gd_)
  clear gd_
  have A_0_ : (wd1).cell? ⟨W.heap.size, 0, none⟩ = some (.int .i64 st) := cell_of_row _ _ 0 _ _ _ rA16_.out
  have A_1_ : (wd1).cell? ⟨W.heap.size, 1, none⟩ = some (.int .i64 (man : Int)) := cell_of_row _ _ 1 _ _ _ rA16_.out
  have A_2_ : (wd1).cell? ⟨W.heap.size, 2, none⟩ = some (.int .i64 fi) := cell_of_row _ _ 2 _ _ _ rA16_.out
  have A_3_ : (wd1).cell? ⟨W.heap.size, 3, none⟩ = some (.slice qp qn qc) := cell_of_row _ _ 3 _ _ _ rA16_.out
  have Af0_ : (wd1).frozen? ⟨W.heap.size, 0, none⟩ = false := frozen_of_row _ _ 0 _ _ rA16_.out
  have Af1_ : (wd1).frozen? ⟨W.heap.size, 1, none⟩ = false := frozen_of_row _ _ 1 _ _ rA16_.out
  have Af2_ : (wd1).frozen? ⟨W.heap.size, 2, none⟩ = false := frozen_of_row _ _ 2 _ _ rA16_.out
  have Af3_ : (wd1).frozen? ⟨W.heap.size, 3, none⟩ = false := frozen_of_row _ _ 3 _ _ rA16_.out
  have R_0_ : (wd1).cell? ⟨W.heap.size + 1, 0, none⟩ = some (.int .i64 0) := cell_of_row _ _ 0 _ _ _ rR17_.out
  have R_1_ : (wd1).cell? ⟨W.heap.size + 1, 1, none⟩ = some (.int .i64 0) := cell_of_row _ _ 1 _ _ _ rR17_.out
  have R_2_ : (wd1).cell? ⟨W.heap.size + 1, 2, none⟩ = some (.int .i64 0) := cell_of_row _ _ 2 _ _ _ rR17_.out
  have R_3_ : (wd1).cell? ⟨W.heap.size + 1, 3, none⟩ = some (.slice none 0 0) := cell_of_row _ _ 3 _ _ _ rR17_.out
  go_wp2_with fail
  go_at_call 51
  clear A_0_ A_1_ A_2_ A_3_ Af0_ Af1_ Af2_ Af3_ R_0_ R_1_ R_2_ R_3_
  have rR20_ := Lib.hid (show ((wd1.setCell ⟨W.heap.size, 0, none⟩ (.int .i64 (bits .or .i64 st (wrap64 (2 ^ kn)))))).heap[W.heap.size + 1]? = some (.cells #[.int .i64 0, .int .i64 0, .int .i64 0, .slice none 0 0] 26 (0, 0)) from (set_far rR17_.out (by dsimp only; omega)))
  clear rR17_
  have rA21_ := Lib.hid (show ((wd1.setCell ⟨W.heap.size, 0, none⟩ (.int .i64 (bits .or .i64 st (wrap64 (2 ^ kn)))))).heap[W.heap.size]? = some (.cells #[.int .i64 (bits .or .i64 st (wrap64 (2 ^ kn))), .int .i64 (man : Int), .int .i64 fi, .slice qp qn qc] 26 (0, 0)) from (heap_setCell_same _ _ 0 _ _ _ rA16_.out))
  clear rA16_
  have oC22_ := Lib.hid (show OwU ((wd1.setCell ⟨W.heap.size, 0, none⟩ (.int .i64 (bits .or .i64 st (wrap64 (2 ^ kn)))))) (W.heap.size + 1 + 1) (w1.heap.size) [] [own shI (.slice qp qn qc) xs] from (OwU.keep (chg_one _ _ _ _) (by omega) oC18_.out))
  clear oC18_
  have G23_ := Lib.hid (show (W).grownBy ((wd1.setCell ⟨W.heap.size, 0, none⟩ (.int .i64 (bits .or .i64 st (wrap64 (2 ^ kn)))))) none from (gby_setnew G19_.out _ (by dsimp only; omega) _))
  have A_0_ : ((wd1.setCell ⟨W.heap.size, 0, none⟩ (.int .i64 (bits .or .i64 st (wrap64 (2 ^ kn)))))).cell? ⟨W.heap.size, 0, none⟩ = some (.int .i64 (bits .or .i64 st (wrap64 (2 ^ kn)))) := cell_of_row _ _ 0 _ _ _ rA21_.out
  have A_1_ : ((wd1.setCell ⟨W.heap.size, 0, none⟩ (.int .i64 (bits .or .i64 st (wrap64 (2 ^ kn)))))).cell? ⟨W.heap.size, 1, none⟩ = some (.int .i64 (man : Int)) := cell_of_row _ _ 1 _ _ _ rA21_.out
  have A_2_ : ((wd1.setCell ⟨W.heap.size, 0, none⟩ (.int .i64 (bits .or .i64 st (wrap64 (2 ^ kn)))))).cell? ⟨W.heap.size, 2, none⟩ = some (.int .i64 fi) := cell_of_row _ _ 2 _ _ _ rA21_.out
  have A_3_ : ((wd1.setCell ⟨W.heap.size, 0, none⟩ (.int .i64 (bits .or .i64 st (wrap64 (2 ^ kn)))))).cell? ⟨W.heap.size, 3, none⟩ = some (.slice qp qn qc) := cell_of_row _ _ 3 _ _ _ rA21_.out
  have R_0_ : ((wd1.setCell ⟨W.heap.size, 0, none⟩ (.int .i64 (bits .or .i64 st (wrap64 (2 ^ kn)))))).cell? ⟨W.heap.size + 1, 0, none⟩ = some (.int .i64 0) := cell_of_row _ _ 0 _ _ _ rR20_.out
  have R_1_ : ((wd1.setCell ⟨W.heap.size, 0, none⟩ (.int .i64 (bits .or .i64 st (wrap64 (2 ^ kn)))))).cell? ⟨W.heap.size + 1, 1, none⟩ = some (.int .i64 0) := cell_of_row _ _ 1 _ _ _ rR20_.out
  have R_2_ : ((wd1.setCell ⟨W.heap.size, 0, none⟩ (.int .i64 (bits .or .i64 st (wrap64 (2 ^ kn)))))).cell? ⟨W.heap.size + 1, 2, none⟩ = some (.int .i64 0) := cell_of_row _ _ 2 _ _ _ rR20_.out
  have R_3_ : ((wd1.setCell ⟨W.heap.size, 0, none⟩ (.int .i64 (bits .or .i64 st (wrap64 (2 ^ kn)))))).cell? ⟨W.heap.size + 1, 3, none⟩ = some (.slice none 0 0) := cell_of_row _ _ 3 _ _ _ rR20_.out
  refine (show Calls _ _ _ _ (Ans (.bool true) _) from by rw [← hbit.out]; exact hasErr_in man kn _ hma hk).mono ?_
  rintro e w4 ⟨rfl, hd⟩
  have g := hd.gby none
  clear hd
  have sze_ := g.size
  try simp only [World.size_setCell, World.size_alloc] at sze_
  clear A_0_ A_1_ A_2_ A_3_ R_0_ R_1_ R_2_ R_3_
  have rA24_ := Lib.hid (show (w4).heap[W.heap.size]? = some (.cells #[.int .i64 (bits .or .i64 st (wrap64 (2 ^ kn))), .int .i64 (man : Int), .int .i64 fi, .slice qp qn qc] 26 (0, 0)) from row_held g rA21_.out)
  clear rA21_
  have rR25_ := Lib.hid (show (w4).heap[W.heap.size + 1]? = some (.cells #[.int .i64 0, .int .i64 0, .int .i64 0, .slice none 0 0] 26 (0, 0)) from row_held g rR20_.out)
  clear rR20_
  have oC26_ := Lib.hid (show OwU (w4) (W.heap.size + 1 + 1) (w1.heap.size) [] [own shI (.slice qp qn qc) xs] from OwU.grow oC22_.out g)
  clear oC22_
  have G27_ := Lib.hid (show (W).grownBy (w4) none from gby_trans G23_.out g)
  clear g
  have A_0_ : (w4).cell? ⟨W.heap.size, 0, none⟩ = some (.int .i64 (bits .or .i64 st (wrap64 (2 ^ kn)))) := cell_of_row _ _ 0 _ _ _ rA24_.out
  have A_1_ : (w4).cell? ⟨W.heap.size, 1, none⟩ = some (.int .i64 (man : Int)) := cell_of_row _ _ 1 _ _ _ rA24_.out
  have A_2_ : (w4).cell? ⟨W.heap.size, 2, none⟩ = some (.int .i64 fi) := cell_of_row _ _ 2 _ _ _ rA24_.out
  have A_3_ : (w4).cell? ⟨W.heap.size, 3, none⟩ = some (.slice qp qn qc) := cell_of_row _ _ 3 _ _ _ rA24_.out
  have R_0_ : (w4).cell? ⟨W.heap.size + 1, 0, none⟩ = some (.int .i64 0) := cell_of_row _ _ 0 _ _ _ rR25_.out
  have R_1_ : (w4).cell? ⟨W.heap.size + 1, 1, none⟩ = some (.int .i64 0) := cell_of_row _ _ 1 _ _ _ rR25_.out
  have R_2_ : (w4).cell? ⟨W.heap.size + 1, 2, none⟩ = some (.int .i64 0) := cell_of_row _ _ 2 _ _ _ rR25_.out
  have R_3_ : (w4).cell? ⟨W.heap.size + 1, 3, none⟩ = some (.slice none 0 0) := cell_of_row _ _ 3 _ _ _ rR25_.out
  clear A_0_ A_1_ A_2_ A_3_ R_0_ R_1_ R_2_ R_3_
  have A_0_ : (w4).cell? ⟨W.heap.size, 0, none⟩ = some (.int .i64 (bits .or .i64 st (wrap64 (2 ^ kn)))) := cell_of_row _ _ 0 _ _ _ rA24_.out
  have A_1_ : (w4).cell? ⟨W.heap.size, 1, none⟩ = some (.int .i64 (man : Int)) := cell_of_row _ _ 1 _ _ _ rA24_.out
  have A_2_ : (w4).cell? ⟨W.heap.size, 2, none⟩ = some (.int .i64 fi) := cell_of_row _ _ 2 _ _ _ rA24_.out
  have A_3_ : (w4).cell? ⟨W.heap.size, 3, none⟩ = some (.slice qp qn qc) := cell_of_row _ _ 3 _ _ _ rA24_.out
  have R_0_ : (w4).cell? ⟨W.heap.size + 1, 0, none⟩ = some (.int .i64 0) := cell_of_row _ _ 0 _ _ _ rR25_.out
  have R_1_ : (w4).cell? ⟨W.heap.size + 1, 1, none⟩ = some (.int .i64 0) := cell_of_row _ _ 1 _ _ _ rR25_.out
  have R_2_ : (w4).cell? ⟨W.heap.size + 1, 2, none⟩ = some (.int .i64 0) := cell_of_row _ _ 2 _ _ _ rR25_.out
  have R_3_ : (w4).cell? ⟨W.heap.size + 1, 3, none⟩ = some (.slice none 0 0) := cell_of_row _ _ 3 _ _ _ rR25_.out
  have Rf0_ : (w4).frozen? ⟨W.heap.size + 1, 0, none⟩ = false := frozen_of_row _ _ 0 _ _ rR25_.out
  have Rf1_ : (w4).frozen? ⟨W.heap.size + 1, 1, none⟩ = false := frozen_of_row _ _ 1 _ _ rR25_.out
  have Rf2_ : (w4).frozen? ⟨W.heap.size + 1, 2, none⟩ = false := frozen_of_row _ _ 2 _ _ rR25_.out
  have Rf3_ : (w4).frozen? ⟨W.heap.size + 1, 3, none⟩ = false := frozen_of_row _ _ 3 _ _ rR25_.out
  have zr_ := Lib.hid (show (((((w4.setCell ⟨W.heap.size + 1, 0, none⟩ (.int .i64 (bits .or .i64 st (wrap64 (2 ^ kn))))).setCell ⟨W.heap.size + 1, 1, none⟩ (.int .i64 (man : Int))).setCell ⟨W.heap.size + 1, 2, none⟩ (.int .i64 fi)).setCell ⟨W.heap.size + 1, 3, none⟩ (.slice qp qn qc))).heap[W.heap.size + 1]? = some (.cells #[.int .i64 (bits .or .i64 st (wrap64 (2 ^ kn))), .int .i64 (man : Int), .int .i64 fi, .slice qp qn qc] 26 (0, 0)) from (heap_setCell_same _ _ 3 _ _ _ (heap_setCell_same _ _ 2 _ _ _ (heap_setCell_same _ _ 1 _ _ _ (heap_setCell_same _ _ 0 _ _ _ rR25_.out)))))
  have z0_ : (((((w4.setCell ⟨W.heap.size + 1, 0, none⟩ (.int .i64 (bits .or .i64 st (wrap64 (2 ^ kn))))).setCell ⟨W.heap.size + 1, 1, none⟩ (.int .i64 (man : Int))).setCell ⟨W.heap.size + 1, 2, none⟩ (.int .i64 fi)).setCell ⟨W.heap.size + 1, 3, none⟩ (.slice qp qn qc))).cell? ⟨W.heap.size + 1, 0, none⟩ = some (.int .i64 (bits .or .i64 st (wrap64 (2 ^ kn)))) := cell_of_row _ _ 0 _ _ _ zr_.out
  have z1_ : (((((w4.setCell ⟨W.heap.size + 1, 0, none⟩ (.int .i64 (bits .or .i64 st (wrap64 (2 ^ kn))))).setCell ⟨W.heap.size + 1, 1, none⟩ (.int .i64 (man : Int))).setCell ⟨W.heap.size + 1, 2, none⟩ (.int .i64 fi)).setCell ⟨W.heap.size + 1, 3, none⟩ (.slice qp qn qc))).cell? ⟨W.heap.size + 1, 1, none⟩ = some (.int .i64 (man : Int)) := cell_of_row _ _ 1 _ _ _ zr_.out
  have z2_ : (((((w4.setCell ⟨W.heap.size + 1, 0, none⟩ (.int .i64 (bits .or .i64 st (wrap64 (2 ^ kn))))).setCell ⟨W.heap.size + 1, 1, none⟩ (.int .i64 (man : Int))).setCell ⟨W.heap.size + 1, 2, none⟩ (.int .i64 fi)).setCell ⟨W.heap.size + 1, 3, none⟩ (.slice qp qn qc))).cell? ⟨W.heap.size + 1, 2, none⟩ = some (.int .i64 fi) := cell_of_row _ _ 2 _ _ _ zr_.out
  have z3_ : (((((w4.setCell ⟨W.heap.size + 1, 0, none⟩ (.int .i64 (bits .or .i64 st (wrap64 (2 ^ kn))))).setCell ⟨W.heap.size + 1, 1, none⟩ (.int .i64 (man : Int))).setCell ⟨W.heap.size + 1, 2, none⟩ (.int .i64 fi)).setCell ⟨W.heap.size + 1, 3, none⟩ (.slice qp qn qc))).cell? ⟨W.heap.size + 1, 3, none⟩ = some (.slice qp qn qc) := cell_of_row _ _ 3 _ _ _ zr_.out
  go_wp2
  refine bodyPost_ret (v := .tuple #[.agg #[.int .i64 (bits .or .i64 st (wrap64 (2 ^ kn))), .int .i64 (man : Int), .int .i64 fi, .slice qp qn qc], (.int .i64 (-1))]) (by simp [results, go_sem, z0_, z1_, z2_, z3_]) rfl ⟨_, rfl, ?_, ?_⟩
  · exact OwU.wide (lo := W.heap.size + 1 + 1) (by omega) (by simp only [World.size_setCell]; omega) (OwU.keep (chg_one _ _ _ _) (.inr (by omega)) (OwU.keep (chg_one _ _ _ _) (.inr (by omega)) (OwU.keep (chg_one _ _ _ _) (.inr (by omega)) (OwU.keep (chg_one _ _ _ _) (.inr (by omega)) oC26_.out))))
  · exact (gby_setnew (gby_setnew (gby_setnew (gby_setnew G27_.out _ (by dsimp only; omega) _) _ (by dsimp only; omega) _) _ (by dsimp only; omega) _) _ (by dsimp only; omega) _)

set_option maxRecDepth 8000 in
set_option maxHeartbeats 2000000 in
theorem implReport_10 (W : World) (st : Int) (man kn : Nat) (fi : Int) (v : Value) (xs : List Int) (H : RdL shI W v xs) (hl : szL shI xs ≤ 1048576) (hb : LOk st man fi xs) (hma : man ≤ 65535) (hk : kn ≤ 15) (hs0 : (st == 0) = false) (hbit : Hid (bitB man kn = false)) (sv : Int) (hsv : Hid (sv = xs.getD kn 0)) : Calls Try.prog 14 #[vLog st man fi v, .int .i64 (kn : Int)] W (ResIReportError (bits .or .i64 st (wrap64 (2 ^ kn))) man fi xs sv W) := by
  have HSL := Lib.hid H
  have HL := Lib.hid hl
  obtain ⟨a1, n1, c1, rfl⟩ := RdL.form H
  clear H hl
  unfold vLog
  have HOK := Lib.hid hb
  clear hb
  have i1_ : (0 : Int) ≤ (kn : Int) := by omega
  have i2_ : ((kn : Int)).toNat = kn := by omega
  have i3_ : (kn : Int) ≤ 64 := by omega
  go_enter Try.func14, Try.ntmps14
  have rA1_ := Lib.hid (show (((W.alloc (.cells #[.int .i64 st, .int .i64 (man : Int), .int .i64 fi, .slice a1 n1 c1] 26)).alloc (.cells #[.int .i64 0, .int .i64 0, .int .i64 0, .slice none 0 0] 26))).heap[W.heap.size]? = some (.cells #[.int .i64 st, .int .i64 (man : Int), .int .i64 fi, .slice a1 n1 c1] 26 (0, 0)) from by rw [heap_alloc_old _ _ (by simp only [World.size_alloc]; omega)]; exact heap_alloc_new _ _)
  have rR2_ := Lib.hid (show (((W.alloc (.cells #[.int .i64 st, .int .i64 (man : Int), .int .i64 fi, .slice a1 n1 c1] 26)).alloc (.cells #[.int .i64 0, .int .i64 0, .int .i64 0, .slice none 0 0] 26))).heap[W.heap.size + 1]? = some (.cells #[.int .i64 0, .int .i64 0, .int .i64 0, .slice none 0 0] 26 (0, 0)) from by exact heap_pair _ _ _)
  have G3_ := Lib.hid (show (W).grownBy (((W.alloc (.cells #[.int .i64 st, .int .i64 (man : Int), .int .i64 fi, .slice a1 n1 c1] 26)).alloc (.cells #[.int .i64 0, .int .i64 0, .int .i64 0, .slice none 0 0] 26))) none from (gby_alloc (gby_alloc (gby_refl _ _) _) _))
  have A_0_ : (((W.alloc (.cells #[.int .i64 st, .int .i64 (man : Int), .int .i64 fi, .slice a1 n1 c1] 26)).alloc (.cells #[.int .i64 0, .int .i64 0, .int .i64 0, .slice none 0 0] 26))).cell? ⟨W.heap.size, 0, none⟩ = some (.int .i64 st) := cell_of_row _ _ 0 _ _ _ rA1_.out
  have A_1_ : (((W.alloc (.cells #[.int .i64 st, .int .i64 (man : Int), .int .i64 fi, .slice a1 n1 c1] 26)).alloc (.cells #[.int .i64 0, .int .i64 0, .int .i64 0, .slice none 0 0] 26))).cell? ⟨W.heap.size, 1, none⟩ = some (.int .i64 (man : Int)) := cell_of_row _ _ 1 _ _ _ rA1_.out
  have A_2_ : (((W.alloc (.cells #[.int .i64 st, .int .i64 (man : Int), .int .i64 fi, .slice a1 n1 c1] 26)).alloc (.cells #[.int .i64 0, .int .i64 0, .int .i64 0, .slice none 0 0] 26))).cell? ⟨W.heap.size, 2, none⟩ = some (.int .i64 fi) := cell_of_row _ _ 2 _ _ _ rA1_.out
  have A_3_ : (((W.alloc (.cells #[.int .i64 st, .int .i64 (man : Int), .int .i64 fi, .slice a1 n1 c1] 26)).alloc (.cells #[.int .i64 0, .int .i64 0, .int .i64 0, .slice none 0 0] 26))).cell? ⟨W.heap.size, 3, none⟩ = some (.slice a1 n1 c1) := cell_of_row _ _ 3 _ _ _ rA1_.out
  have R_0_ : (((W.alloc (.cells #[.int .i64 st, .int .i64 (man : Int), .int .i64 fi, .slice a1 n1 c1] 26)).alloc (.cells #[.int .i64 0, .int .i64 0, .int .i64 0, .slice none 0 0] 26))).cell? ⟨W.heap.size + 1, 0, none⟩ = some (.int .i64 0) := cell_of_row _ _ 0 _ _ _ rR2_.out
  have R_1_ : (((W.alloc (.cells #[.int .i64 st, .int .i64 (man : Int), .int .i64 fi, .slice a1 n1 c1] 26)).alloc (.cells #[.int .i64 0, .int .i64 0, .int .i64 0, .slice none 0 0] 26))).cell? ⟨W.heap.size + 1, 1, none⟩ = some (.int .i64 0) := cell_of_row _ _ 1 _ _ _ rR2_.out
  have R_2_ : (((W.alloc (.cells #[.int .i64 st, .int .i64 (man : Int), .int .i64 fi, .slice a1 n1 c1] 26)).alloc (.cells #[.int .i64 0, .int .i64 0, .int .i64 0, .slice none 0 0] 26))).cell? ⟨W.heap.size + 1, 2, none⟩ = some (.int .i64 0) := cell_of_row _ _ 2 _ _ _ rR2_.out
  have R_3_ : (((W.alloc (.cells #[.int .i64 st, .int .i64 (man : Int), .int .i64 fi, .slice a1 n1 c1] 26)).alloc (.cells #[.int .i64 0, .int .i64 0, .int .i64 0, .slice none 0 0] 26))).cell? ⟨W.heap.size + 1, 3, none⟩ = some (.slice none 0 0) := cell_of_row _ _ 3 _ _ _ rR2_.out
  go_wp2_with fail
  go_at_call 49
  refine (copiedLog_d _ _ _ _ _ xs (HSL.out.grow G3_.out) HL.out).mono ?_
  rintro e w1 ⟨d, rfl, o, g⟩
  have sz_ := g.size
  try simp only [World.size_alloc] at sz_ o
  clear A_0_ A_1_ A_2_ A_3_ R_0_ R_1_ R_2_ R_3_
  have rA4_ := Lib.hid (show (w1).heap[W.heap.size]? = some (.cells #[.int .i64 st, .int .i64 (man : Int), .int .i64 fi, .slice a1 n1 c1] 26 (0, 0)) from row_held g rA1_.out)
  clear rA1_
  have rR5_ := Lib.hid (show (w1).heap[W.heap.size + 1]? = some (.cells #[.int .i64 0, .int .i64 0, .int .i64 0, .slice none 0 0] 26 (0, 0)) from row_held g rR2_.out)
  clear rR2_
  have G6_ := Lib.hid (show (W).grownBy (w1) none from gby_trans G3_.out g)
  clear g
  obtain ⟨qp, qn, qc, hv2⟩ := RdL.form (OwU.rd o)
  subst hv2
  unfold vLog
  have oC7_ := Lib.hid (show OwU (w1) (W.heap.size + 1 + 1) (w1.heap.size) [] [own shI (.slice qp qn qc) xs] from o)
  clear o
  have A_0_ : (w1).cell? ⟨W.heap.size, 0, none⟩ = some (.int .i64 st) := cell_of_row _ _ 0 _ _ _ rA4_.out
  have A_1_ : (w1).cell? ⟨W.heap.size, 1, none⟩ = some (.int .i64 (man : Int)) := cell_of_row _ _ 1 _ _ _ rA4_.out
  have A_2_ : (w1).cell? ⟨W.heap.size, 2, none⟩ = some (.int .i64 fi) := cell_of_row _ _ 2 _ _ _ rA4_.out
  have A_3_ : (w1).cell? ⟨W.heap.size, 3, none⟩ = some (.slice a1 n1 c1) := cell_of_row _ _ 3 _ _ _ rA4_.out
  have Af0_ : (w1).frozen? ⟨W.heap.size, 0, none⟩ = false := frozen_of_row _ _ 0 _ _ rA4_.out
  have Af1_ : (w1).frozen? ⟨W.heap.size, 1, none⟩ = false := frozen_of_row _ _ 1 _ _ rA4_.out
  have Af2_ : (w1).frozen? ⟨W.heap.size, 2, none⟩ = false := frozen_of_row _ _ 2 _ _ rA4_.out
  have Af3_ : (w1).frozen? ⟨W.heap.size, 3, none⟩ = false := frozen_of_row _ _ 3 _ _ rA4_.out
  have R_0_ : (w1).cell? ⟨W.heap.size + 1, 0, none⟩ = some (.int .i64 0) := cell_of_row _ _ 0 _ _ _ rR5_.out
  have R_1_ : (w1).cell? ⟨W.heap.size + 1, 1, none⟩ = some (.int .i64 0) := cell_of_row _ _ 1 _ _ _ rR5_.out
  have R_2_ : (w1).cell? ⟨W.heap.size + 1, 2, none⟩ = some (.int .i64 0) := cell_of_row _ _ 2 _ _ _ rR5_.out
  have R_3_ : (w1).cell? ⟨W.heap.size + 1, 3, none⟩ = some (.slice none 0 0) := cell_of_row _ _ 3 _ _ _ rR5_.out
  go_wp2_with fail
  go_at_call 23
  clear A_0_ A_1_ A_2_ A_3_ Af0_ Af1_ Af2_ Af3_ R_0_ R_1_ R_2_ R_3_
  have rR8_ := Lib.hid (show (((((w1.setCell ⟨W.heap.size, 0, none⟩ (.int .i64 st)).setCell ⟨W.heap.size, 1, none⟩ (.int .i64 (man : Int))).setCell ⟨W.heap.size, 2, none⟩ (.int .i64 fi)).setCell ⟨W.heap.size, 3, none⟩ (.slice qp qn qc))).heap[W.heap.size + 1]? = some (.cells #[.int .i64 0, .int .i64 0, .int .i64 0, .slice none 0 0] 26 (0, 0)) from (set_far (set_far (set_far (set_far rR5_.out (by dsimp only; omega)) (by dsimp only; omega)) (by dsimp only; omega)) (by dsimp only; omega)))
  clear rR5_
  have rA9_ := Lib.hid (show (((((w1.setCell ⟨W.heap.size, 0, none⟩ (.int .i64 st)).setCell ⟨W.heap.size, 1, none⟩ (.int .i64 (man : Int))).setCell ⟨W.heap.size, 2, none⟩ (.int .i64 fi)).setCell ⟨W.heap.size, 3, none⟩ (.slice qp qn qc))).heap[W.heap.size]? = some (.cells #[.int .i64 st, .int .i64 (man : Int), .int .i64 fi, .slice qp qn qc] 26 (0, 0)) from (heap_setCell_same _ _ 3 _ _ _ (heap_setCell_same _ _ 2 _ _ _ (heap_setCell_same _ _ 1 _ _ _ (heap_setCell_same _ _ 0 _ _ _ rA4_.out)))))
  clear rA4_
  have oC10_ := Lib.hid (show OwU (((((w1.setCell ⟨W.heap.size, 0, none⟩ (.int .i64 st)).setCell ⟨W.heap.size, 1, none⟩ (.int .i64 (man : Int))).setCell ⟨W.heap.size, 2, none⟩ (.int .i64 fi)).setCell ⟨W.heap.size, 3, none⟩ (.slice qp qn qc))) (W.heap.size + 1 + 1) (w1.heap.size) [] [own shI (.slice qp qn qc) xs] from (OwU.keep (chg_one _ _ _ _) (by omega) (OwU.keep (chg_one _ _ _ _) (by omega) (OwU.keep (chg_one _ _ _ _) (by omega) (OwU.keep (chg_one _ _ _ _) (by omega) oC7_.out)))))
  clear oC7_
  have G11_ := Lib.hid (show (W).grownBy (((((w1.setCell ⟨W.heap.size, 0, none⟩ (.int .i64 st)).setCell ⟨W.heap.size, 1, none⟩ (.int .i64 (man : Int))).setCell ⟨W.heap.size, 2, none⟩ (.int .i64 fi)).setCell ⟨W.heap.size, 3, none⟩ (.slice qp qn qc))) none from (gby_setnew (gby_setnew (gby_setnew (gby_setnew G6_.out _ (by dsimp only; omega) _) _ (by dsimp only; omega) _) _ (by dsimp only; omega) _) _ (by dsimp only; omega) _))
  have A_0_ : (((((w1.setCell ⟨W.heap.size, 0, none⟩ (.int .i64 st)).setCell ⟨W.heap.size, 1, none⟩ (.int .i64 (man : Int))).setCell ⟨W.heap.size, 2, none⟩ (.int .i64 fi)).setCell ⟨W.heap.size, 3, none⟩ (.slice qp qn qc))).cell? ⟨W.heap.size, 0, none⟩ = some (.int .i64 st) := cell_of_row _ _ 0 _ _ _ rA9_.out
  have A_1_ : (((((w1.setCell ⟨W.heap.size, 0, none⟩ (.int .i64 st)).setCell ⟨W.heap.size, 1, none⟩ (.int .i64 (man : Int))).setCell ⟨W.heap.size, 2, none⟩ (.int .i64 fi)).setCell ⟨W.heap.size, 3, none⟩ (.slice qp qn qc))).cell? ⟨W.heap.size, 1, none⟩ = some (.int .i64 (man : Int)) := cell_of_row _ _ 1 _ _ _ rA9_.out
  have A_2_ : (((((w1.setCell ⟨W.heap.size, 0, none⟩ (.int .i64 st)).setCell ⟨W.heap.size, 1, none⟩ (.int .i64 (man : Int))).setCell ⟨W.heap.size, 2, none⟩ (.int .i64 fi)).setCell ⟨W.heap.size, 3, none⟩ (.slice qp qn qc))).cell? ⟨W.heap.size, 2, none⟩ = some (.int .i64 fi) := cell_of_row _ _ 2 _ _ _ rA9_.out
  have A_3_ : (((((w1.setCell ⟨W.heap.size, 0, none⟩ (.int .i64 st)).setCell ⟨W.heap.size, 1, none⟩ (.int .i64 (man : Int))).setCell ⟨W.heap.size, 2, none⟩ (.int .i64 fi)).setCell ⟨W.heap.size, 3, none⟩ (.slice qp qn qc))).cell? ⟨W.heap.size, 3, none⟩ = some (.slice qp qn qc) := cell_of_row _ _ 3 _ _ _ rA9_.out
  have R_0_ : (((((w1.setCell ⟨W.heap.size, 0, none⟩ (.int .i64 st)).setCell ⟨W.heap.size, 1, none⟩ (.int .i64 (man : Int))).setCell ⟨W.heap.size, 2, none⟩ (.int .i64 fi)).setCell ⟨W.heap.size, 3, none⟩ (.slice qp qn qc))).cell? ⟨W.heap.size + 1, 0, none⟩ = some (.int .i64 0) := cell_of_row _ _ 0 _ _ _ rR8_.out
  have R_1_ : (((((w1.setCell ⟨W.heap.size, 0, none⟩ (.int .i64 st)).setCell ⟨W.heap.size, 1, none⟩ (.int .i64 (man : Int))).setCell ⟨W.heap.size, 2, none⟩ (.int .i64 fi)).setCell ⟨W.heap.size, 3, none⟩ (.slice qp qn qc))).cell? ⟨W.heap.size + 1, 1, none⟩ = some (.int .i64 0) := cell_of_row _ _ 1 _ _ _ rR8_.out
  have R_2_ : (((((w1.setCell ⟨W.heap.size, 0, none⟩ (.int .i64 st)).setCell ⟨W.heap.size, 1, none⟩ (.int .i64 (man : Int))).setCell ⟨W.heap.size, 2, none⟩ (.int .i64 fi)).setCell ⟨W.heap.size, 3, none⟩ (.slice qp qn qc))).cell? ⟨W.heap.size + 1, 2, none⟩ = some (.int .i64 0) := cell_of_row _ _ 2 _ _ _ rR8_.out
  have R_3_ : (((((w1.setCell ⟨W.heap.size, 0, none⟩ (.int .i64 st)).setCell ⟨W.heap.size, 1, none⟩ (.int .i64 (man : Int))).setCell ⟨W.heap.size, 2, none⟩ (.int .i64 fi)).setCell ⟨W.heap.size, 3, none⟩ (.slice qp qn qc))).cell? ⟨W.heap.size + 1, 3, none⟩ = some (.slice none 0 0) := cell_of_row _ _ 3 _ _ _ rR8_.out
  refine (implLog_yes _ _ _ _ _ xs (OwU.rd oC10_.out) HL.out HOK.out).mono ?_
  rintro e w2 ⟨rfl, g⟩
  have szl_ := g.size
  try simp only [World.size_setCell, World.size_alloc] at szl_
  clear A_0_ A_1_ A_2_ A_3_ R_0_ R_1_ R_2_ R_3_
  have rA12_ := Lib.hid (show (w2).heap[W.heap.size]? = some (.cells #[.int .i64 st, .int .i64 (man : Int), .int .i64 fi, .slice qp qn qc] 26 (0, 0)) from row_held g rA9_.out)
  clear rA9_
  have rR13_ := Lib.hid (show (w2).heap[W.heap.size + 1]? = some (.cells #[.int .i64 0, .int .i64 0, .int .i64 0, .slice none 0 0] 26 (0, 0)) from row_held g rR8_.out)
  clear rR8_
  have oC14_ := Lib.hid (show OwU (w2) (W.heap.size + 1 + 1) (w1.heap.size) [] [own shI (.slice qp qn qc) xs] from OwU.grow oC10_.out g)
  clear oC10_
  have G15_ := Lib.hid (show (W).grownBy (w2) none from gby_trans G11_.out g)
  clear g
  have A_0_ : (w2).cell? ⟨W.heap.size, 0, none⟩ = some (.int .i64 st) := cell_of_row _ _ 0 _ _ _ rA12_.out
  have A_1_ : (w2).cell? ⟨W.heap.size, 1, none⟩ = some (.int .i64 (man : Int)) := cell_of_row _ _ 1 _ _ _ rA12_.out
  have A_2_ : (w2).cell? ⟨W.heap.size, 2, none⟩ = some (.int .i64 fi) := cell_of_row _ _ 2 _ _ _ rA12_.out
  have A_3_ : (w2).cell? ⟨W.heap.size, 3, none⟩ = some (.slice qp qn qc) := cell_of_row _ _ 3 _ _ _ rA12_.out
  have R_0_ : (w2).cell? ⟨W.heap.size + 1, 0, none⟩ = some (.int .i64 0) := cell_of_row _ _ 0 _ _ _ rR13_.out
  have R_1_ : (w2).cell? ⟨W.heap.size + 1, 1, none⟩ = some (.int .i64 0) := cell_of_row _ _ 1 _ _ _ rR13_.out
  have R_2_ : (w2).cell? ⟨W.heap.size + 1, 2, none⟩ = some (.int .i64 0) := cell_of_row _ _ 2 _ _ _ rR13_.out
  have R_3_ : (w2).cell? ⟨W.heap.size + 1, 3, none⟩ = some (.slice none 0 0) := cell_of_row _ _ 3 _ _ _ rR13_.out
  go_wp2_with fail
  go_at_call 50
  refine (rng_yes _ _ _ _ (by omega) (by omega)).mono ?_
  rintro e w3_ ⟨rfl, rfl⟩
  clear A_0_ A_1_ A_2_ A_3_ R_0_ R_1_ R_2_ R_3_
  have A_0_ : (w2).cell? ⟨W.heap.size, 0, none⟩ = some (.int .i64 st) := cell_of_row _ _ 0 _ _ _ rA12_.out
  have A_1_ : (w2).cell? ⟨W.heap.size, 1, none⟩ = some (.int .i64 (man : Int)) := cell_of_row _ _ 1 _ _ _ rA12_.out
  have A_2_ : (w2).cell? ⟨W.heap.size, 2, none⟩ = some (.int .i64 fi) := cell_of_row _ _ 2 _ _ _ rA12_.out
  have A_3_ : (w2).cell? ⟨W.heap.size, 3, none⟩ = some (.slice qp qn qc) := cell_of_row _ _ 3 _ _ _ rA12_.out
  have Af0_ : (w2).frozen? ⟨W.heap.size, 0, none⟩ = false := frozen_of_row _ _ 0 _ _ rA12_.out
  have Af1_ : (w2).frozen? ⟨W.heap.size, 1, none⟩ = false := frozen_of_row _ _ 1 _ _ rA12_.out
  have Af2_ : (w2).frozen? ⟨W.heap.size, 2, none⟩ = false := frozen_of_row _ _ 2 _ _ rA12_.out
  have Af3_ : (w2).frozen? ⟨W.heap.size, 3, none⟩ = false := frozen_of_row _ _ 3 _ _ rA12_.out
  have R_0_ : (w2).cell? ⟨W.heap.size + 1, 0, none⟩ = some (.int .i64 0) := cell_of_row _ _ 0 _ _ _ rR13_.out
  have R_1_ : (w2).cell? ⟨W.heap.size + 1, 1, none⟩ = some (.int .i64 0) := cell_of_row _ _ 1 _ _ _ rR13_.out
  have R_2_ : (w2).cell? ⟨W.heap.size + 1, 2, none⟩ = some (.int .i64 0) := cell_of_row _ _ 2 _ _ _ rR13_.out
  have R_3_ : (w2).cell? ⟨W.heap.size + 1, 3, none⟩ = some (.slice none 0 0) := cell_of_row _ _ 3 _ _ _ rR13_.out
  go_wp2_with fail
  go_still_tail 6, (by kernel_rfl)
  change wpList _ _ _ _ _ (w2).drew
  have gd_ : (w2).grownBy (w2).drew none := gby_drew (gby_refl _ _)
  generalize (w2).drew = wd1 at gd_ ⊢
  have szwd1 := gd_.size
  try simp only [World.size_setCell, World.size_alloc] at szwd1
  have rA16_ := Lib.hid (show (wd1).heap[W.heap.size]? = some (.cells #[.int .i64 st, .int .i64 (man : Int), .int .i64 fi, .slice qp qn qc] 26 (0, 0)) from row_held gd_ rA12_.out)
  clear rA12_
  have rR17_ := Lib.hid (show (wd1).heap[W.heap.size + 1]? = some (.cells #[.int .i64 0, .int .i64 0, .int .i64 0, .slice none 0 0] 26 (0, 0)) from row_held gd_ rR13_.out)
  clear rR13_
  have oC18_ := Lib.hid (show OwU (wd1) (W.heap.size + 1 + 1) (w1.heap.size) [] [own shI (.slice qp qn qc) xs] from OwU.grow oC14_.out gd_)
  clear oC14_
  have G19_ := Lib.hid (show (W).grownBy (wd1) none from gby_trans G15_.out gd_)
  clear gd_
  have A_0_ : (wd1).cell? ⟨W.heap.size, 0, none⟩ = some (.int .i64 st) := cell_of_row _ _ 0 _ _ _ rA16_.out
  have A_1_ : (wd1).cell? ⟨W.heap.size, 1, none⟩ = some (.int .i64 (man : Int)) := cell_of_row _ _ 1 _ _ _ rA16_.out
  have A_2_ : (wd1).cell? ⟨W.heap.size, 2, none⟩ = some (.int .i64 fi) := cell_of_row _ _ 2 _ _ _ rA16_.out
  have A_3_ : (wd1).cell? ⟨W.heap.size, 3, none⟩ = some (.slice qp qn qc) := cell_of_row _ _ 3 _ _ _ rA16_.out
  have Af0_ : (wd1).frozen? ⟨W.heap.size, 0, none⟩ = false := frozen_of_row _ _ 0 _ _ rA16_.out
  have Af1_ : (wd1).frozen? ⟨W.heap.size, 1, none⟩ = false := frozen_of_row _ _ 1 _ _ rA16_.out
  have Af2_ : (wd1).frozen? ⟨W.heap.size, 2, none⟩ = false := frozen_of_row _ _ 2 _ _ rA16_.out
  have Af3_ : (wd1).frozen? ⟨W.heap.size, 3, none⟩ = false := frozen_of_row _ _ 3 _ _ rA16_.out
  have R_0_ : (wd1).cell? ⟨W.heap.size + 1, 0, none⟩ = some (.int .i64 0) := cell_of_row _ _ 0 _ _ _ rR17_.out
  have R_1_ : (wd1).cell? ⟨W.heap.size + 1, 1, none⟩ = some (.int .i64 0) := cell_of_row _ _ 1 _ _ _ rR17_.out
  have R_2_ : (wd1).cell? ⟨W.heap.size + 1, 2, none⟩ = some (.int .i64 0) := cell_of_row _ _ 2 _ _ _ rR17_.out
  have R_3_ : (wd1).cell? ⟨W.heap.size + 1, 3, none⟩ = some (.slice none 0 0) := cell_of_row _ _ 3 _ _ _ rR17_.out
  go_wp2_with fail
  go_at_call 51
  clear A_0_ A_1_ A_2_ A_3_ Af0_ Af1_ Af2_ Af3_ R_0_ R_1_ R_2_ R_3_
  have rR20_ := Lib.hid (show ((wd1.setCell ⟨W.heap.size, 0, none⟩ (.int .i64 (bits .or .i64 st (wrap64 (2 ^ kn)))))).heap[W.heap.size + 1]? = some (.cells #[.int .i64 0, .int .i64 0, .int .i64 0, .slice none 0 0] 26 (0, 0)) from (set_far rR17_.out (by dsimp only; omega)))
  clear rR17_
  have rA21_ := Lib.hid (show ((wd1.setCell ⟨W.heap.size, 0, none⟩ (.int .i64 (bits .or .i64 st (wrap64 (2 ^ kn)))))).heap[W.heap.size]? = some (.cells #[.int .i64 (bits .or .i64 st (wrap64 (2 ^ kn))), .int .i64 (man : Int), .int .i64 fi, .slice qp qn qc] 26 (0, 0)) from (heap_setCell_same _ _ 0 _ _ _ rA16_.out))
  clear rA16_
  have oC22_ := Lib.hid (show OwU ((wd1.setCell ⟨W.heap.size, 0, none⟩ (.int .i64 (bits .or .i64 st (wrap64 (2 ^ kn)))))) (W.heap.size + 1 + 1) (w1.heap.size) [] [own shI (.slice qp qn qc) xs] from (OwU.keep (chg_one _ _ _ _) (by omega) oC18_.out))
  clear oC18_
  have G23_ := Lib.hid (show (W).grownBy ((wd1.setCell ⟨W.heap.size, 0, none⟩ (.int .i64 (bits .or .i64 st (wrap64 (2 ^ kn)))))) none from (gby_setnew G19_.out _ (by dsimp only; omega) _))
  have A_0_ : ((wd1.setCell ⟨W.heap.size, 0, none⟩ (.int .i64 (bits .or .i64 st (wrap64 (2 ^ kn)))))).cell? ⟨W.heap.size, 0, none⟩ = some (.int .i64 (bits .or .i64 st (wrap64 (2 ^ kn)))) := cell_of_row _ _ 0 _ _ _ rA21_.out
  have A_1_ : ((wd1.setCell ⟨W.heap.size, 0, none⟩ (.int .i64 (bits .or .i64 st (wrap64 (2 ^ kn)))))).cell? ⟨W.heap.size, 1, none⟩ = some (.int .i64 (man : Int)) := cell_of_row _ _ 1 _ _ _ rA21_.out
  have A_2_ : ((wd1.setCell ⟨W.heap.size, 0, none⟩ (.int .i64 (bits .or .i64 st (wrap64 (2 ^ kn)))))).cell? ⟨W.heap.size, 2, none⟩ = some (.int .i64 fi) := cell_of_row _ _ 2 _ _ _ rA21_.out
  have A_3_ : ((wd1.setCell ⟨W.heap.size, 0, none⟩ (.int .i64 (bits .or .i64 st (wrap64 (2 ^ kn)))))).cell? ⟨W.heap.size, 3, none⟩ = some (.slice qp qn qc) := cell_of_row _ _ 3 _ _ _ rA21_.out
  have R_0_ : ((wd1.setCell ⟨W.heap.size, 0, none⟩ (.int .i64 (bits .or .i64 st (wrap64 (2 ^ kn)))))).cell? ⟨W.heap.size + 1, 0, none⟩ = some (.int .i64 0) := cell_of_row _ _ 0 _ _ _ rR20_.out
  have R_1_ : ((wd1.setCell ⟨W.heap.size, 0, none⟩ (.int .i64 (bits .or .i64 st (wrap64 (2 ^ kn)))))).cell? ⟨W.heap.size + 1, 1, none⟩ = some (.int .i64 0) := cell_of_row _ _ 1 _ _ _ rR20_.out
  have R_2_ : ((wd1.setCell ⟨W.heap.size, 0, none⟩ (.int .i64 (bits .or .i64 st (wrap64 (2 ^ kn)))))).cell? ⟨W.heap.size + 1, 2, none⟩ = some (.int .i64 0) := cell_of_row _ _ 2 _ _ _ rR20_.out
  have R_3_ : ((wd1.setCell ⟨W.heap.size, 0, none⟩ (.int .i64 (bits .or .i64 st (wrap64 (2 ^ kn)))))).cell? ⟨W.heap.size + 1, 3, none⟩ = some (.slice none 0 0) := cell_of_row _ _ 3 _ _ _ rR20_.out
  refine (show Calls _ _ _ _ (Ans (.bool false) _) from by rw [← hbit.out]; exact hasErr_in man kn _ hma hk).mono ?_
  rintro e w4 ⟨rfl, hd⟩
  have g := hd.gby none
  clear hd
  have sze_ := g.size
  try simp only [World.size_setCell, World.size_alloc] at sze_
  clear A_0_ A_1_ A_2_ A_3_ R_0_ R_1_ R_2_ R_3_
  have rA24_ := Lib.hid (show (w4).heap[W.heap.size]? = some (.cells #[.int .i64 (bits .or .i64 st (wrap64 (2 ^ kn))), .int .i64 (man : Int), .int .i64 fi, .slice qp qn qc] 26 (0, 0)) from row_held g rA21_.out)
  clear rA21_
  have rR25_ := Lib.hid (show (w4).heap[W.heap.size + 1]? = some (.cells #[.int .i64 0, .int .i64 0, .int .i64 0, .slice none 0 0] 26 (0, 0)) from row_held g rR20_.out)
  clear rR20_
  have oC26_ := Lib.hid (show OwU (w4) (W.heap.size + 1 + 1) (w1.heap.size) [] [own shI (.slice qp qn qc) xs] from OwU.grow oC22_.out g)
  clear oC22_
  have G27_ := Lib.hid (show (W).grownBy (w4) none from gby_trans G23_.out g)
  clear g
  have A_0_ : (w4).cell? ⟨W.heap.size, 0, none⟩ = some (.int .i64 (bits .or .i64 st (wrap64 (2 ^ kn)))) := cell_of_row _ _ 0 _ _ _ rA24_.out
  have A_1_ : (w4).cell? ⟨W.heap.size, 1, none⟩ = some (.int .i64 (man : Int)) := cell_of_row _ _ 1 _ _ _ rA24_.out
  have A_2_ : (w4).cell? ⟨W.heap.size, 2, none⟩ = some (.int .i64 fi) := cell_of_row _ _ 2 _ _ _ rA24_.out
  have A_3_ : (w4).cell? ⟨W.heap.size, 3, none⟩ = some (.slice qp qn qc) := cell_of_row _ _ 3 _ _ _ rA24_.out
  have R_0_ : (w4).cell? ⟨W.heap.size + 1, 0, none⟩ = some (.int .i64 0) := cell_of_row _ _ 0 _ _ _ rR25_.out
  have R_1_ : (w4).cell? ⟨W.heap.size + 1, 1, none⟩ = some (.int .i64 0) := cell_of_row _ _ 1 _ _ _ rR25_.out
  have R_2_ : (w4).cell? ⟨W.heap.size + 1, 2, none⟩ = some (.int .i64 0) := cell_of_row _ _ 2 _ _ _ rR25_.out
  have R_3_ : (w4).cell? ⟨W.heap.size + 1, 3, none⟩ = some (.slice none 0 0) := cell_of_row _ _ 3 _ _ _ rR25_.out
  have Rf0_ : (w4).frozen? ⟨W.heap.size + 1, 0, none⟩ = false := frozen_of_row _ _ 0 _ _ rR25_.out
  have Rf1_ : (w4).frozen? ⟨W.heap.size + 1, 1, none⟩ = false := frozen_of_row _ _ 1 _ _ rR25_.out
  have Rf2_ : (w4).frozen? ⟨W.heap.size + 1, 2, none⟩ = false := frozen_of_row _ _ 2 _ _ rR25_.out
  have Rf3_ : (w4).frozen? ⟨W.heap.size + 1, 3, none⟩ = false := frozen_of_row _ _ 3 _ _ rR25_.out
  go_wp2_with fail
  have hx16 : xs.length = 16 := HOK.out.2.2.1
  obtain ⟨la_, lb_, hla_, hlb_, _, how_, _⟩ := oC26_.out
  obtain ⟨a2_, cp2_, e2_, _, _, hpl_, _⟩ := how_
  injection e2_ with f1 f2 f3
  obtain ⟨a_, cp_, e_, hi_, _⟩ := rdI_in (OwU.rd oC26_.out)
  obtain ⟨_, hi_⟩ := hi_
  injection e_ with e1 e2 e3
  obtain ⟨b_, o_, ea_, hc_⟩ := hi_.resolve_left (by omega)
  rw [ea_] at e1
  rw [hx16] at e2
  have hpl2_ := hpl_ ⟨b_, o_, none⟩ (f1.symm.trans e1)
  dsimp only at hpl2_
  clear f1 f2 f3 hpl_ hlb_
  subst e1 e2
  have sc0_ := hc_ kn (by omega)
  have hnb1_ : ¬ b_ = W.heap.size + 1 := by omega
  have hnb2_ : ¬ W.heap.size + 1 = b_ := fun q => hnb1_ q.symm
  have sc_ := sc0_
  clear sc0_
  rw [← hsv.out] at sc_
  have hk16 : (kn : Int) < 16 := by omega
  have hk16n : kn < 16 := by omega
  clear hi_ ea_ e3 hc_ hx16
  go_region_with (fail)
  all_goals
    clear A_0_ A_1_ A_2_ A_3_ R_0_ R_1_ R_2_ R_3_ Rf0_ Rf1_ Rf2_ Rf3_
    have A_0_ : (w4).cell? ⟨W.heap.size, 0, none⟩ = some (.int .i64 (bits .or .i64 st (wrap64 (2 ^ kn)))) := cell_of_row _ _ 0 _ _ _ rA24_.out
    have A_1_ : (w4).cell? ⟨W.heap.size, 1, none⟩ = some (.int .i64 (man : Int)) := cell_of_row _ _ 1 _ _ _ rA24_.out
    have A_2_ : (w4).cell? ⟨W.heap.size, 2, none⟩ = some (.int .i64 fi) := cell_of_row _ _ 2 _ _ _ rA24_.out
    have A_3_ : (w4).cell? ⟨W.heap.size, 3, none⟩ = some (.slice (some ⟨b_, o_, none⟩) 16 qc) := cell_of_row _ _ 3 _ _ _ rA24_.out
    have R_0_ : (w4).cell? ⟨W.heap.size + 1, 0, none⟩ = some (.int .i64 0) := cell_of_row _ _ 0 _ _ _ rR25_.out
    have R_1_ : (w4).cell? ⟨W.heap.size + 1, 1, none⟩ = some (.int .i64 0) := cell_of_row _ _ 1 _ _ _ rR25_.out
    have R_2_ : (w4).cell? ⟨W.heap.size + 1, 2, none⟩ = some (.int .i64 0) := cell_of_row _ _ 2 _ _ _ rR25_.out
    have R_3_ : (w4).cell? ⟨W.heap.size + 1, 3, none⟩ = some (.slice none 0 0) := cell_of_row _ _ 3 _ _ _ rR25_.out
    have Rf0_ : (w4).frozen? ⟨W.heap.size + 1, 0, none⟩ = false := frozen_of_row _ _ 0 _ _ rR25_.out
    have Rf1_ : (w4).frozen? ⟨W.heap.size + 1, 1, none⟩ = false := frozen_of_row _ _ 1 _ _ rR25_.out
    have Rf2_ : (w4).frozen? ⟨W.heap.size + 1, 2, none⟩ = false := frozen_of_row _ _ 2 _ _ rR25_.out
    have Rf3_ : (w4).frozen? ⟨W.heap.size + 1, 3, none⟩ = false := frozen_of_row _ _ 3 _ _ rR25_.out
    have zr_ := Lib.hid (show (((((w4.setCell ⟨W.heap.size + 1, 0, none⟩ (.int .i64 (bits .or .i64 st (wrap64 (2 ^ kn))))).setCell ⟨W.heap.size + 1, 1, none⟩ (.int .i64 (man : Int))).setCell ⟨W.heap.size + 1, 2, none⟩ (.int .i64 fi)).setCell ⟨W.heap.size + 1, 3, none⟩ (.slice (some ⟨b_, o_, none⟩) 16 qc))).heap[W.heap.size + 1]? = some (.cells #[.int .i64 (bits .or .i64 st (wrap64 (2 ^ kn))), .int .i64 (man : Int), .int .i64 fi, .slice (some ⟨b_, o_, none⟩) 16 qc] 26 (0, 0)) from (heap_setCell_same _ _ 3 _ _ _ (heap_setCell_same _ _ 2 _ _ _ (heap_setCell_same _ _ 1 _ _ _ (heap_setCell_same _ _ 0 _ _ _ rR25_.out)))))
    have z0_ : (((((w4.setCell ⟨W.heap.size + 1, 0, none⟩ (.int .i64 (bits .or .i64 st (wrap64 (2 ^ kn))))).setCell ⟨W.heap.size + 1, 1, none⟩ (.int .i64 (man : Int))).setCell ⟨W.heap.size + 1, 2, none⟩ (.int .i64 fi)).setCell ⟨W.heap.size + 1, 3, none⟩ (.slice (some ⟨b_, o_, none⟩) 16 qc))).cell? ⟨W.heap.size + 1, 0, none⟩ = some (.int .i64 (bits .or .i64 st (wrap64 (2 ^ kn)))) := cell_of_row _ _ 0 _ _ _ zr_.out
    have z1_ : (((((w4.setCell ⟨W.heap.size + 1, 0, none⟩ (.int .i64 (bits .or .i64 st (wrap64 (2 ^ kn))))).setCell ⟨W.heap.size + 1, 1, none⟩ (.int .i64 (man : Int))).setCell ⟨W.heap.size + 1, 2, none⟩ (.int .i64 fi)).setCell ⟨W.heap.size + 1, 3, none⟩ (.slice (some ⟨b_, o_, none⟩) 16 qc))).cell? ⟨W.heap.size + 1, 1, none⟩ = some (.int .i64 (man : Int)) := cell_of_row _ _ 1 _ _ _ zr_.out
    have z2_ : (((((w4.setCell ⟨W.heap.size + 1, 0, none⟩ (.int .i64 (bits .or .i64 st (wrap64 (2 ^ kn))))).setCell ⟨W.heap.size + 1, 1, none⟩ (.int .i64 (man : Int))).setCell ⟨W.heap.size + 1, 2, none⟩ (.int .i64 fi)).setCell ⟨W.heap.size + 1, 3, none⟩ (.slice (some ⟨b_, o_, none⟩) 16 qc))).cell? ⟨W.heap.size + 1, 2, none⟩ = some (.int .i64 fi) := cell_of_row _ _ 2 _ _ _ zr_.out
    have z3_ : (((((w4.setCell ⟨W.heap.size + 1, 0, none⟩ (.int .i64 (bits .or .i64 st (wrap64 (2 ^ kn))))).setCell ⟨W.heap.size + 1, 1, none⟩ (.int .i64 (man : Int))).setCell ⟨W.heap.size + 1, 2, none⟩ (.int .i64 fi)).setCell ⟨W.heap.size + 1, 3, none⟩ (.slice (some ⟨b_, o_, none⟩) 16 qc))).cell? ⟨W.heap.size + 1, 3, none⟩ = some (.slice (some ⟨b_, o_, none⟩) 16 qc) := cell_of_row _ _ 3 _ _ _ zr_.out
    go_wp2
    refine bodyPost_ret (v := .tuple #[.agg #[.int .i64 (bits .or .i64 st (wrap64 (2 ^ kn))), .int .i64 (man : Int), .int .i64 fi, .slice (some ⟨b_, o_, none⟩) 16 qc], (.int .i64 sv)]) (by simp [results, go_sem, z0_, z1_, z2_, z3_]) rfl ⟨.slice (some ⟨b_, o_, none⟩) 16 qc, rfl, ?_, ?_⟩
    · exact OwU.wide (lo := W.heap.size + 1 + 1) (by omega) (by first | omega | (simp; omega) | simp) (OwU.grow (OwU.keep (chg_one _ _ _ _) (.inr (by omega)) (OwU.keep (chg_one _ _ _ _) (.inr (by omega)) (OwU.keep (chg_one _ _ _ _) (.inr (by omega)) (OwU.keep (chg_one _ _ _ _) (.inr (by omega)) oC26_.out)))) (gby_drew (gby_refl _ _)))
    · exact gby_drew (gby_setnew (gby_setnew (gby_setnew (gby_setnew G27_.out _ (by dsimp only; omega) _) _ (by dsimp only; omega) _) _ (by dsimp only; omega) _) _ (by dsimp only; omega) _)

set_option maxRecDepth 8000 in
set_option maxHeartbeats 2000000 in
theorem implReport_01 (W : World) (st : Int) (man kn : Nat) (fi : Int) (v : Value) (xs : List Int) (H : RdL shI W v xs) (hl : szL shI xs ≤ 1048576) (hb : LOk st man fi xs) (hma : man ≤ 65535) (hk : kn ≤ 15) (hs0 : (st == 0) = true) (hbit : Hid (bitB man kn = true)) : Calls Try.prog 14 #[vLog st man fi v, .int .i64 (kn : Int)] W (ResIReportError (bits .or .i64 st (wrap64 (2 ^ kn))) man (kn : Int) xs (-1) W) := by
  have HSL := Lib.hid H
  have HL := Lib.hid hl
  obtain ⟨a1, n1, c1, rfl⟩ := RdL.form H
  clear H hl
  unfold vLog
  have HOK := Lib.hid hb
  clear hb
  have i1_ : (0 : Int) ≤ (kn : Int) := by omega
  have i2_ : ((kn : Int)).toNat = kn := by omega
  have i3_ : (kn : Int) ≤ 64 := by omega
  go_enter Try.func14, Try.ntmps14
  have rA1_ := Lib.hid (show (((W.alloc (.cells #[.int .i64 st, .int .i64 (man : Int), .int .i64 fi, .slice a1 n1 c1] 26)).alloc (.cells #[.int .i64 0, .int .i64 0, .int .i64 0, .slice none 0 0] 26))).heap[W.heap.size]? = some (.cells #[.int .i64 st, .int .i64 (man : Int), .int .i64 fi, .slice a1 n1 c1] 26 (0, 0)) from by rw [heap_alloc_old _ _ (by simp only [World.size_alloc]; omega)]; exact heap_alloc_new _ _)
  have rR2_ := Lib.hid (show (((W.alloc (.cells #[.int .i64 st, .int .i64 (man : Int), .int .i64 fi, .slice a1 n1 c1] 26)).alloc (.cells #[.int .i64 0, .int .i64 0, .int .i64 0, .slice none 0 0] 26))).heap[W.heap.size + 1]? = some (.cells #[.int .i64 0, .int .i64 0, .int .i64 0, .slice none 0 0] 26 (0, 0)) from by exact heap_pair _ _ _)
  have G3_ := Lib.hid (show (W).grownBy (((W.alloc (.cells #[.int .i64 st, .int .i64 (man : Int), .int .i64 fi, .slice a1 n1 c1] 26)).alloc (.cells #[.int .i64 0, .int .i64 0, .int .i64 0, .slice none 0 0] 26))) none from (gby_alloc (gby_alloc (gby_refl _ _) _) _))
  have A_0_ : (((W.alloc (.cells #[.int .i64 st, .int .i64 (man : Int), .int .i64 fi, .slice a1 n1 c1] 26)).alloc (.cells #[.int .i64 0, .int .i64 0, .int .i64 0, .slice none 0 0] 26))).cell? ⟨W.heap.size, 0, none⟩ = some (.int .i64 st) := cell_of_row _ _ 0 _ _ _ rA1_.out
  have A_1_ : (((W.alloc (.cells #[.int .i64 st, .int .i64 (man : Int), .int .i64 fi, .slice a1 n1 c1] 26)).alloc (.cells #[.int .i64 0, .int .i64 0, .int .i64 0, .slice none 0 0] 26))).cell? ⟨W.heap.size, 1, none⟩ = some (.int .i64 (man : Int)) := cell_of_row _ _ 1 _ _ _ rA1_.out
  have A_2_ : (((W.alloc (.cells #[.int .i64 st, .int .i64 (man : Int), .int .i64 fi, .slice a1 n1 c1] 26)).alloc (.cells #[.int .i64 0, .int .i64 0, .int .i64 0, .slice none 0 0] 26))).cell? ⟨W.heap.size, 2, none⟩ = some (.int .i64 fi) := cell_of_row _ _ 2 _ _ _ rA1_.out
  have A_3_ : (((W.alloc (.cells #[.int .i64 st, .int .i64 (man : Int), .int .i64 fi, .slice a1 n1 c1] 26)).alloc (.cells #[.int .i64 0, .int .i64 0, .int .i64 0, .slice none 0 0] 26))).cell? ⟨W.heap.size, 3, none⟩ = some (.slice a1 n1 c1) := cell_of_row _ _ 3 _ _ _ rA1_.out
  have R_0_ : (((W.alloc (.cells #[.int .i64 st, .int .i64 (man : Int), .int .i64 fi, .slice a1 n1 c1] 26)).alloc (.cells #[.int .i64 0, .int .i64 0, .int .i64 0, .slice none 0 0] 26))).cell? ⟨W.heap.size + 1, 0, none⟩ = some (.int .i64 0) := cell_of_row _ _ 0 _ _ _ rR2_.out
  have R_1_ : (((W.alloc (.cells #[.int .i64 st, .int .i64 (man : Int), .int .i64 fi, .slice a1 n1 c1] 26)).alloc (.cells #[.int .i64 0, .int .i64 0, .int .i64 0, .slice none 0 0] 26))).cell? ⟨W.heap.size + 1, 1, none⟩ = some (.int .i64 0) := cell_of_row _ _ 1 _ _ _ rR2_.out
  have R_2_ : (((W.alloc (.cells #[.int .i64 st, .int .i64 (man : Int), .int .i64 fi, .slice a1 n1 c1] 26)).alloc (.cells #[.int .i64 0, .int .i64 0, .int .i64 0, .slice none 0 0] 26))).cell? ⟨W.heap.size + 1, 2, none⟩ = some (.int .i64 0) := cell_of_row _ _ 2 _ _ _ rR2_.out
  have R_3_ : (((W.alloc (.cells #[.int .i64 st, .int .i64 (man : Int), .int .i64 fi, .slice a1 n1 c1] 26)).alloc (.cells #[.int .i64 0, .int .i64 0, .int .i64 0, .slice none 0 0] 26))).cell? ⟨W.heap.size + 1, 3, none⟩ = some (.slice none 0 0) := cell_of_row _ _ 3 _ _ _ rR2_.out
  go_wp2_with fail
  go_at_call 49
  refine (copiedLog_d _ _ _ _ _ xs (HSL.out.grow G3_.out) HL.out).mono ?_
  rintro e w1 ⟨d, rfl, o, g⟩
  have sz_ := g.size
  try simp only [World.size_alloc] at sz_ o
  clear A_0_ A_1_ A_2_ A_3_ R_0_ R_1_ R_2_ R_3_
  have rA4_ := Lib.hid (show (w1).heap[W.heap.size]? = some (.cells #[.int .i64 st, .int .i64 (man : Int), .int .i64 fi, .slice a1 n1 c1] 26 (0, 0)) from row_held g rA1_.out)
  clear rA1_
  have rR5_ := Lib.hid (show (w1).heap[W.heap.size + 1]? = some (.cells #[.int .i64 0, .int .i64 0, .int .i64 0, .slice none 0 0] 26 (0, 0)) from row_held g rR2_.out)
  clear rR2_
  have G6_ := Lib.hid (show (W).grownBy (w1) none from gby_trans G3_.out g)
  clear g
  obtain ⟨qp, qn, qc, hv2⟩ := RdL.form (OwU.rd o)
  subst hv2
  unfold vLog
  have oC7_ := Lib.hid (show OwU (w1) (W.heap.size + 1 + 1) (w1.heap.size) [] [own shI (.slice qp qn qc) xs] from o)
  clear o
  have A_0_ : (w1).cell? ⟨W.heap.size, 0, none⟩ = some (.int .i64 st) := cell_of_row _ _ 0 _ _ _ rA4_.out
  have A_1_ : (w1).cell? ⟨W.heap.size, 1, none⟩ = some (.int .i64 (man : Int)) := cell_of_row _ _ 1 _ _ _ rA4_.out
  have A_2_ : (w1).cell? ⟨W.heap.size, 2, none⟩ = some (.int .i64 fi) := cell_of_row _ _ 2 _ _ _ rA4_.out
  have A_3_ : (w1).cell? ⟨W.heap.size, 3, none⟩ = some (.slice a1 n1 c1) := cell_of_row _ _ 3 _ _ _ rA4_.out
  have Af0_ : (w1).frozen? ⟨W.heap.size, 0, none⟩ = false := frozen_of_row _ _ 0 _ _ rA4_.out
  have Af1_ : (w1).frozen? ⟨W.heap.size, 1, none⟩ = false := frozen_of_row _ _ 1 _ _ rA4_.out
  have Af2_ : (w1).frozen? ⟨W.heap.size, 2, none⟩ = false := frozen_of_row _ _ 2 _ _ rA4_.out
  have Af3_ : (w1).frozen? ⟨W.heap.size, 3, none⟩ = false := frozen_of_row _ _ 3 _ _ rA4_.out
  have R_0_ : (w1).cell? ⟨W.heap.size + 1, 0, none⟩ = some (.int .i64 0) := cell_of_row _ _ 0 _ _ _ rR5_.out
  have R_1_ : (w1).cell? ⟨W.heap.size + 1, 1, none⟩ = some (.int .i64 0) := cell_of_row _ _ 1 _ _ _ rR5_.out
  have R_2_ : (w1).cell? ⟨W.heap.size + 1, 2, none⟩ = some (.int .i64 0) := cell_of_row _ _ 2 _ _ _ rR5_.out
  have R_3_ : (w1).cell? ⟨W.heap.size + 1, 3, none⟩ = some (.slice none 0 0) := cell_of_row _ _ 3 _ _ _ rR5_.out
  go_wp2_with fail
  go_at_call 23
  clear A_0_ A_1_ A_2_ A_3_ Af0_ Af1_ Af2_ Af3_ R_0_ R_1_ R_2_ R_3_
  have rR8_ := Lib.hid (show (((((w1.setCell ⟨W.heap.size, 0, none⟩ (.int .i64 st)).setCell ⟨W.heap.size, 1, none⟩ (.int .i64 (man : Int))).setCell ⟨W.heap.size, 2, none⟩ (.int .i64 fi)).setCell ⟨W.heap.size, 3, none⟩ (.slice qp qn qc))).heap[W.heap.size + 1]? = some (.cells #[.int .i64 0, .int .i64 0, .int .i64 0, .slice none 0 0] 26 (0, 0)) from (set_far (set_far (set_far (set_far rR5_.out (by dsimp only; omega)) (by dsimp only; omega)) (by dsimp only; omega)) (by dsimp only; omega)))
  clear rR5_
  have rA9_ := Lib.hid (show (((((w1.setCell ⟨W.heap.size, 0, none⟩ (.int .i64 st)).setCell ⟨W.heap.size, 1, none⟩ (.int .i64 (man : Int))).setCell ⟨W.heap.size, 2, none⟩ (.int .i64 fi)).setCell ⟨W.heap.size, 3, none⟩ (.slice qp qn qc))).heap[W.heap.size]? = some (.cells #[.int .i64 st, .int .i64 (man : Int), .int .i64 fi, .slice qp qn qc] 26 (0, 0)) from (heap_setCell_same _ _ 3 _ _ _ (heap_setCell_same _ _ 2 _ _ _ (heap_setCell_same _ _ 1 _ _ _ (heap_setCell_same _ _ 0 _ _ _ rA4_.out)))))
  clear rA4_
  have oC10_ := Lib.hid (show OwU (((((w1.setCell ⟨W.heap.size, 0, none⟩ (.int .i64 st)).setCell ⟨W.heap.size, 1, none⟩ (.int .i64 (man : Int))).setCell ⟨W.heap.size, 2, none⟩ (.int .i64 fi)).setCell ⟨W.heap.size, 3, none⟩ (.slice qp qn qc))) (W.heap.size + 1 + 1) (w1.heap.size) [] [own shI (.slice qp qn qc) xs] from (OwU.keep (chg_one _ _ _ _) (by omega) (OwU.keep (chg_one _ _ _ _) (by omega) (OwU.keep (chg_one _ _ _ _) (by omega) (OwU.keep (chg_one _ _ _ _) (by omega) oC7_.out)))))
  clear oC7_
  have G11_ := Lib.hid (show (W).grownBy (((((w1.setCell ⟨W.heap.size, 0, none⟩ (.int .i64 st)).setCell ⟨W.heap.size, 1, none⟩ (.int .i64 (man : Int))).setCell ⟨W.heap.size, 2, none⟩ (.int .i64 fi)).setCell ⟨W.heap.size, 3, none⟩ (.slice qp qn qc))) none from (gby_setnew (gby_setnew (gby_setnew (gby_setnew G6_.out _ (by dsimp only; omega) _) _ (by dsimp only; omega) _) _ (by dsimp only; omega) _) _ (by dsimp only; omega) _))
  have A_0_ : (((((w1.setCell ⟨W.heap.size, 0, none⟩ (.int .i64 st)).setCell ⟨W.heap.size, 1, none⟩ (.int .i64 (man : Int))).setCell ⟨W.heap.size, 2, none⟩ (.int .i64 fi)).setCell ⟨W.heap.size, 3, none⟩ (.slice qp qn qc))).cell? ⟨W.heap.size, 0, none⟩ = some (.int .i64 st) := cell_of_row _ _ 0 _ _ _ rA9_.out
  have A_1_ : (((((w1.setCell ⟨W.heap.size, 0, none⟩ (.int .i64 st)).setCell ⟨W.heap.size, 1, none⟩ (.int .i64 (man : Int))).setCell ⟨W.heap.size, 2, none⟩ (.int .i64 fi)).setCell ⟨W.heap.size, 3, none⟩ (.slice qp qn qc))).cell? ⟨W.heap.size, 1, none⟩ = some (.int .i64 (man : Int)) := cell_of_row _ _ 1 _ _ _ rA9_.out
  have A_2_ : (((((w1.setCell ⟨W.heap.size, 0, none⟩ (.int .i64 st)).setCell ⟨W.heap.size, 1, none⟩ (.int .i64 (man : Int))).setCell ⟨W.heap.size, 2, none⟩ (.int .i64 fi)).setCell ⟨W.heap.size, 3, none⟩ (.slice qp qn qc))).cell? ⟨W.heap.size, 2, none⟩ = some (.int .i64 fi) := cell_of_row _ _ 2 _ _ _ rA9_.out
  have A_3_ : (((((w1.setCell ⟨W.heap.size, 0, none⟩ (.int .i64 st)).setCell ⟨W.heap.size, 1, none⟩ (.int .i64 (man : Int))).setCell ⟨W.heap.size, 2, none⟩ (.int .i64 fi)).setCell ⟨W.heap.size, 3, none⟩ (.slice qp qn qc))).cell? ⟨W.heap.size, 3, none⟩ = some (.slice qp qn qc) := cell_of_row _ _ 3 _ _ _ rA9_.out
  have R_0_ : (((((w1.setCell ⟨W.heap.size, 0, none⟩ (.int .i64 st)).setCell ⟨W.heap.size, 1, none⟩ (.int .i64 (man : Int))).setCell ⟨W.heap.size, 2, none⟩ (.int .i64 fi)).setCell ⟨W.heap.size, 3, none⟩ (.slice qp qn qc))).cell? ⟨W.heap.size + 1, 0, none⟩ = some (.int .i64 0) := cell_of_row _ _ 0 _ _ _ rR8_.out
  have R_1_ : (((((w1.setCell ⟨W.heap.size, 0, none⟩ (.int .i64 st)).setCell ⟨W.heap.size, 1, none⟩ (.int .i64 (man : Int))).setCell ⟨W.heap.size, 2, none⟩ (.int .i64 fi)).setCell ⟨W.heap.size, 3, none⟩ (.slice qp qn qc))).cell? ⟨W.heap.size + 1, 1, none⟩ = some (.int .i64 0) := cell_of_row _ _ 1 _ _ _ rR8_.out
  have R_2_ : (((((w1.setCell ⟨W.heap.size, 0, none⟩ (.int .i64 st)).setCell ⟨W.heap.size, 1, none⟩ (.int .i64 (man : Int))).setCell ⟨W.heap.size, 2, none⟩ (.int .i64 fi)).setCell ⟨W.heap.size, 3, none⟩ (.slice qp qn qc))).cell? ⟨W.heap.size + 1, 2, none⟩ = some (.int .i64 0) := cell_of_row _ _ 2 _ _ _ rR8_.out
  have R_3_ : (((((w1.setCell ⟨W.heap.size, 0, none⟩ (.int .i64 st)).setCell ⟨W.heap.size, 1, none⟩ (.int .i64 (man : Int))).setCell ⟨W.heap.size, 2, none⟩ (.int .i64 fi)).setCell ⟨W.heap.size, 3, none⟩ (.slice qp qn qc))).cell? ⟨W.heap.size + 1, 3, none⟩ = some (.slice none 0 0) := cell_of_row _ _ 3 _ _ _ rR8_.out
  refine (implLog_yes _ _ _ _ _ xs (OwU.rd oC10_.out) HL.out HOK.out).mono ?_
  rintro e w2 ⟨rfl, g⟩
  have szl_ := g.size
  try simp only [World.size_setCell, World.size_alloc] at szl_
  clear A_0_ A_1_ A_2_ A_3_ R_0_ R_1_ R_2_ R_3_
  have rA12_ := Lib.hid (show (w2).heap[W.heap.size]? = some (.cells #[.int .i64 st, .int .i64 (man : Int), .int .i64 fi, .slice qp qn qc] 26 (0, 0)) from row_held g rA9_.out)
  clear rA9_
  have rR13_ := Lib.hid (show (w2).heap[W.heap.size + 1]? = some (.cells #[.int .i64 0, .int .i64 0, .int .i64 0, .slice none 0 0] 26 (0, 0)) from row_held g rR8_.out)
  clear rR8_
  have oC14_ := Lib.hid (show OwU (w2) (W.heap.size + 1 + 1) (w1.heap.size) [] [own shI (.slice qp qn qc) xs] from OwU.grow oC10_.out g)
  clear oC10_
  have G15_ := Lib.hid (show (W).grownBy (w2) none from gby_trans G11_.out g)
  clear g
  have A_0_ : (w2).cell? ⟨W.heap.size, 0, none⟩ = some (.int .i64 st) := cell_of_row _ _ 0 _ _ _ rA12_.out
  have A_1_ : (w2).cell? ⟨W.heap.size, 1, none⟩ = some (.int .i64 (man : Int)) := cell_of_row _ _ 1 _ _ _ rA12_.out
  have A_2_ : (w2).cell? ⟨W.heap.size, 2, none⟩ = some (.int .i64 fi) := cell_of_row _ _ 2 _ _ _ rA12_.out
  have A_3_ : (w2).cell? ⟨W.heap.size, 3, none⟩ = some (.slice qp qn qc) := cell_of_row _ _ 3 _ _ _ rA12_.out
  have R_0_ : (w2).cell? ⟨W.heap.size + 1, 0, none⟩ = some (.int .i64 0) := cell_of_row _ _ 0 _ _ _ rR13_.out
  have R_1_ : (w2).cell? ⟨W.heap.size + 1, 1, none⟩ = some (.int .i64 0) := cell_of_row _ _ 1 _ _ _ rR13_.out
  have R_2_ : (w2).cell? ⟨W.heap.size + 1, 2, none⟩ = some (.int .i64 0) := cell_of_row _ _ 2 _ _ _ rR13_.out
  have R_3_ : (w2).cell? ⟨W.heap.size + 1, 3, none⟩ = some (.slice none 0 0) := cell_of_row _ _ 3 _ _ _ rR13_.out
  go_wp2_with fail
  go_at_call 50
  refine (rng_yes _ _ _ _ (by omega) (by omega)).mono ?_
  rintro e w3_ ⟨rfl, rfl⟩
  clear A_0_ A_1_ A_2_ A_3_ R_0_ R_1_ R_2_ R_3_
  have A_0_ : (w2).cell? ⟨W.heap.size, 0, none⟩ = some (.int .i64 st) := cell_of_row _ _ 0 _ _ _ rA12_.out
  have A_1_ : (w2).cell? ⟨W.heap.size, 1, none⟩ = some (.int .i64 (man : Int)) := cell_of_row _ _ 1 _ _ _ rA12_.out
  have A_2_ : (w2).cell? ⟨W.heap.size, 2, none⟩ = some (.int .i64 fi) := cell_of_row _ _ 2 _ _ _ rA12_.out
  have A_3_ : (w2).cell? ⟨W.heap.size, 3, none⟩ = some (.slice qp qn qc) := cell_of_row _ _ 3 _ _ _ rA12_.out
  have Af0_ : (w2).frozen? ⟨W.heap.size, 0, none⟩ = false := frozen_of_row _ _ 0 _ _ rA12_.out
  have Af1_ : (w2).frozen? ⟨W.heap.size, 1, none⟩ = false := frozen_of_row _ _ 1 _ _ rA12_.out
  have Af2_ : (w2).frozen? ⟨W.heap.size, 2, none⟩ = false := frozen_of_row _ _ 2 _ _ rA12_.out
  have Af3_ : (w2).frozen? ⟨W.heap.size, 3, none⟩ = false := frozen_of_row _ _ 3 _ _ rA12_.out
  have R_0_ : (w2).cell? ⟨W.heap.size + 1, 0, none⟩ = some (.int .i64 0) := cell_of_row _ _ 0 _ _ _ rR13_.out
  have R_1_ : (w2).cell? ⟨W.heap.size + 1, 1, none⟩ = some (.int .i64 0) := cell_of_row _ _ 1 _ _ _ rR13_.out
  have R_2_ : (w2).cell? ⟨W.heap.size + 1, 2, none⟩ = some (.int .i64 0) := cell_of_row _ _ 2 _ _ _ rR13_.out
  have R_3_ : (w2).cell? ⟨W.heap.size + 1, 3, none⟩ = some (.slice none 0 0) := cell_of_row _ _ 3 _ _ _ rR13_.out
  go_wp2_with fail
  clear A_0_ A_1_ A_2_ A_3_ Af0_ Af1_ Af2_ Af3_ R_0_ R_1_ R_2_ R_3_
  have rR16_ := Lib.hid (show ((w2.setCell ⟨W.heap.size, 2, none⟩ (.int .i64 (kn : Int)))).heap[W.heap.size + 1]? = some (.cells #[.int .i64 0, .int .i64 0, .int .i64 0, .slice none 0 0] 26 (0, 0)) from (set_far rR13_.out (by dsimp only; omega)))
  clear rR13_
  have rA17_ := Lib.hid (show ((w2.setCell ⟨W.heap.size, 2, none⟩ (.int .i64 (kn : Int)))).heap[W.heap.size]? = some (.cells #[.int .i64 st, .int .i64 (man : Int), .int .i64 (kn : Int), .slice qp qn qc] 26 (0, 0)) from (heap_setCell_same _ _ 2 _ _ _ rA12_.out))
  clear rA12_
  have oC18_ := Lib.hid (show OwU ((w2.setCell ⟨W.heap.size, 2, none⟩ (.int .i64 (kn : Int)))) (W.heap.size + 1 + 1) (w1.heap.size) [] [own shI (.slice qp qn qc) xs] from (OwU.keep (chg_one _ _ _ _) (by omega) oC14_.out))
  clear oC14_
  have G19_ := Lib.hid (show (W).grownBy ((w2.setCell ⟨W.heap.size, 2, none⟩ (.int .i64 (kn : Int)))) none from (gby_setnew G15_.out _ (by dsimp only; omega) _))
  have szq_ : ((w2.setCell ⟨W.heap.size, 2, none⟩ (.int .i64 (kn : Int)))).heap.size = w2.heap.size := by simp only [World.size_setCell]
  generalize (w2.setCell ⟨W.heap.size, 2, none⟩ (.int .i64 (kn : Int))) = wq at rA17_ rR16_ oC18_ G19_ szq_ ⊢
  have A_0_ : (wq).cell? ⟨W.heap.size, 0, none⟩ = some (.int .i64 st) := cell_of_row _ _ 0 _ _ _ rA17_.out
  have A_1_ : (wq).cell? ⟨W.heap.size, 1, none⟩ = some (.int .i64 (man : Int)) := cell_of_row _ _ 1 _ _ _ rA17_.out
  have A_2_ : (wq).cell? ⟨W.heap.size, 2, none⟩ = some (.int .i64 (kn : Int)) := cell_of_row _ _ 2 _ _ _ rA17_.out
  have A_3_ : (wq).cell? ⟨W.heap.size, 3, none⟩ = some (.slice qp qn qc) := cell_of_row _ _ 3 _ _ _ rA17_.out
  have Af0_ : (wq).frozen? ⟨W.heap.size, 0, none⟩ = false := frozen_of_row _ _ 0 _ _ rA17_.out
  have Af1_ : (wq).frozen? ⟨W.heap.size, 1, none⟩ = false := frozen_of_row _ _ 1 _ _ rA17_.out
  have Af2_ : (wq).frozen? ⟨W.heap.size, 2, none⟩ = false := frozen_of_row _ _ 2 _ _ rA17_.out
  have Af3_ : (wq).frozen? ⟨W.heap.size, 3, none⟩ = false := frozen_of_row _ _ 3 _ _ rA17_.out
  have R_0_ : (wq).cell? ⟨W.heap.size + 1, 0, none⟩ = some (.int .i64 0) := cell_of_row _ _ 0 _ _ _ rR16_.out
  have R_1_ : (wq).cell? ⟨W.heap.size + 1, 1, none⟩ = some (.int .i64 0) := cell_of_row _ _ 1 _ _ _ rR16_.out
  have R_2_ : (wq).cell? ⟨W.heap.size + 1, 2, none⟩ = some (.int .i64 0) := cell_of_row _ _ 2 _ _ _ rR16_.out
  have R_3_ : (wq).cell? ⟨W.heap.size + 1, 3, none⟩ = some (.slice none 0 0) := cell_of_row _ _ 3 _ _ _ rR16_.out
  go_still_tail 6, (by kernel_rfl)
  change wpList _ _ _ _ _ (wq).drew
  have gd_ : (wq).grownBy (wq).drew none := gby_drew (gby_refl _ _)
  generalize (wq).drew = wd1 at gd_ ⊢
  have szwd1 := gd_.size
  try simp only [World.size_setCell, World.size_alloc] at szwd1
  have rA20_ := Lib.hid (show (wd1).heap[W.heap.size]? = some (.cells #[.int .i64 st, .int .i64 (man : Int), .int .i64 (kn : Int), .slice qp qn qc] 26 (0, 0)) from row_held gd_ rA17_.out)
  clear rA17_
  have rR21_ := Lib.hid (show (wd1).heap[W.heap.size + 1]? = some (.cells #[.int .i64 0, .int .i64 0, .int .i64 0, .slice none 0 0] 26 (0, 0)) from row_held gd_ rR16_.out)
  clear rR16_
  have oC22_ := Lib.hid (show OwU (wd1) (W.heap.size + 1 + 1) (w1.heap.size) [] [own shI (.slice qp qn qc) xs] from OwU.grow oC18_.out gd_)
  clear oC18_
  have G23_ := Lib.hid (show (W).grownBy (wd1) none from gby_trans G19_.out gd_)
  clear gd_
  have A_0_ : (wd1).cell? ⟨W.heap.size, 0, none⟩ = some (.int .i64 st) := cell_of_row _ _ 0 _ _ _ rA20_.out
  have A_1_ : (wd1).cell? ⟨W.heap.size, 1, none⟩ = some (.int .i64 (man : Int)) := cell_of_row _ _ 1 _ _ _ rA20_.out
  have A_2_ : (wd1).cell? ⟨W.heap.size, 2, none⟩ = some (.int .i64 (kn : Int)) := cell_of_row _ _ 2 _ _ _ rA20_.out
  have A_3_ : (wd1).cell? ⟨W.heap.size, 3, none⟩ = some (.slice qp qn qc) := cell_of_row _ _ 3 _ _ _ rA20_.out
  have Af0_ : (wd1).frozen? ⟨W.heap.size, 0, none⟩ = false := frozen_of_row _ _ 0 _ _ rA20_.out
  have Af1_ : (wd1).frozen? ⟨W.heap.size, 1, none⟩ = false := frozen_of_row _ _ 1 _ _ rA20_.out
  have Af2_ : (wd1).frozen? ⟨W.heap.size, 2, none⟩ = false := frozen_of_row _ _ 2 _ _ rA20_.out
  have Af3_ : (wd1).frozen? ⟨W.heap.size, 3, none⟩ = false := frozen_of_row _ _ 3 _ _ rA20_.out
  have R_0_ : (wd1).cell? ⟨W.heap.size + 1, 0, none⟩ = some (.int .i64 0) := cell_of_row _ _ 0 _ _ _ rR21_.out
  have R_1_ : (wd1).cell? ⟨W.heap.size + 1, 1, none⟩ = some (.int .i64 0) := cell_of_row _ _ 1 _ _ _ rR21_.out
  have R_2_ : (wd1).cell? ⟨W.heap.size + 1, 2, none⟩ = some (.int .i64 0) := cell_of_row _ _ 2 _ _ _ rR21_.out
  have R_3_ : (wd1).cell? ⟨W.heap.size + 1, 3, none⟩ = some (.slice none 0 0) := cell_of_row _ _ 3 _ _ _ rR21_.out
  go_wp2_with fail
  go_at_call 51
  clear A_0_ A_1_ A_2_ A_3_ Af0_ Af1_ Af2_ Af3_ R_0_ R_1_ R_2_ R_3_
  have rR24_ := Lib.hid (show ((wd1.setCell ⟨W.heap.size, 0, none⟩ (.int .i64 (bits .or .i64 st (wrap64 (2 ^ kn)))))).heap[W.heap.size + 1]? = some (.cells #[.int .i64 0, .int .i64 0, .int .i64 0, .slice none 0 0] 26 (0, 0)) from (set_far rR21_.out (by dsimp only; omega)))
  clear rR21_
  have rA25_ := Lib.hid (show ((wd1.setCell ⟨W.heap.size, 0, none⟩ (.int .i64 (bits .or .i64 st (wrap64 (2 ^ kn)))))).heap[W.heap.size]? = some (.cells #[.int .i64 (bits .or .i64 st (wrap64 (2 ^ kn))), .int .i64 (man : Int), .int .i64 (kn : Int), .slice qp qn qc] 26 (0, 0)) from (heap_setCell_same _ _ 0 _ _ _ rA20_.out))
  clear rA20_
  have oC26_ := Lib.hid (show OwU ((wd1.setCell ⟨W.heap.size, 0, none⟩ (.int .i64 (bits .or .i64 st (wrap64 (2 ^ kn)))))) (W.heap.size + 1 + 1) (w1.heap.size) [] [own shI (.slice qp qn qc) xs] from (OwU.keep (chg_one _ _ _ _) (by omega) oC22_.out))
  clear oC22_
  have G27_ := Lib.hid (show (W).grownBy ((wd1.setCell ⟨W.heap.size, 0, none⟩ (.int .i64 (bits .or .i64 st (wrap64 (2 ^ kn)))))) none from (gby_setnew G23_.out _ (by dsimp only; omega) _))
  have A_0_ : ((wd1.setCell ⟨W.heap.size, 0, none⟩ (.int .i64 (bits .or .i64 st (wrap64 (2 ^ kn)))))).cell? ⟨W.heap.size, 0, none⟩ = some (.int .i64 (bits .or .i64 st (wrap64 (2 ^ kn)))) := cell_of_row _ _ 0 _ _ _ rA25_.out
  have A_1_ : ((wd1.setCell ⟨W.heap.size, 0, none⟩ (.int .i64 (bits .or .i64 st (wrap64 (2 ^ kn)))))).cell? ⟨W.heap.size, 1, none⟩ = some (.int .i64 (man : Int)) := cell_of_row _ _ 1 _ _ _ rA25_.out
  have A_2_ : ((wd1.setCell ⟨W.heap.size, 0, none⟩ (.int .i64 (bits .or .i64 st (wrap64 (2 ^ kn)))))).cell? ⟨W.heap.size, 2, none⟩ = some (.int .i64 (kn : Int)) := cell_of_row _ _ 2 _ _ _ rA25_.out
  have A_3_ : ((wd1.setCell ⟨W.heap.size, 0, none⟩ (.int .i64 (bits .or .i64 st (wrap64 (2 ^ kn)))))).cell? ⟨W.heap.size, 3, none⟩ = some (.slice qp qn qc) := cell_of_row _ _ 3 _ _ _ rA25_.out
  have R_0_ : ((wd1.setCell ⟨W.heap.size, 0, none⟩ (.int .i64 (bits .or .i64 st (wrap64 (2 ^ kn)))))).cell? ⟨W.heap.size + 1, 0, none⟩ = some (.int .i64 0) := cell_of_row _ _ 0 _ _ _ rR24_.out
  have R_1_ : ((wd1.setCell ⟨W.heap.size, 0, none⟩ (.int .i64 (bits .or .i64 st (wrap64 (2 ^ kn)))))).cell? ⟨W.heap.size + 1, 1, none⟩ = some (.int .i64 0) := cell_of_row _ _ 1 _ _ _ rR24_.out
  have R_2_ : ((wd1.setCell ⟨W.heap.size, 0, none⟩ (.int .i64 (bits .or .i64 st (wrap64 (2 ^ kn)))))).cell? ⟨W.heap.size + 1, 2, none⟩ = some (.int .i64 0) := cell_of_row _ _ 2 _ _ _ rR24_.out
  have R_3_ : ((wd1.setCell ⟨W.heap.size, 0, none⟩ (.int .i64 (bits .or .i64 st (wrap64 (2 ^ kn)))))).cell? ⟨W.heap.size + 1, 3, none⟩ = some (.slice none 0 0) := cell_of_row _ _ 3 _ _ _ rR24_.out
  refine (show Calls _ _ _ _ (Ans (.bool true) _) from by rw [← hbit.out]; exact hasErr_in man kn _ hma hk).mono ?_
  rintro e w4 ⟨rfl, hd⟩
  have g := hd.gby none
  clear hd
  have sze_ := g.size
  try simp only [World.size_setCell, World.size_alloc] at sze_
  clear A_0_ A_1_ A_2_ A_3_ R_0_ R_1_ R_2_ R_3_
  have rA28_ := Lib.hid (show (w4).heap[W.heap.size]? = some (.cells #[.int .i64 (bits .or .i64 st (wrap64 (2 ^ kn))), .int .i64 (man : Int), .int .i64 (kn : Int), .slice qp qn qc] 26 (0, 0)) from row_held g rA25_.out)
  clear rA25_
  have rR29_ := Lib.hid (show (w4).heap[W.heap.size + 1]? = some (.cells #[.int .i64 0, .int .i64 0, .int .i64 0, .slice none 0 0] 26 (0, 0)) from row_held g rR24_.out)
  clear rR24_
  have oC30_ := Lib.hid (show OwU (w4) (W.heap.size + 1 + 1) (w1.heap.size) [] [own shI (.slice qp qn qc) xs] from OwU.grow oC26_.out g)
  clear oC26_
  have G31_ := Lib.hid (show (W).grownBy (w4) none from gby_trans G27_.out g)
  clear g
  have A_0_ : (w4).cell? ⟨W.heap.size, 0, none⟩ = some (.int .i64 (bits .or .i64 st (wrap64 (2 ^ kn)))) := cell_of_row _ _ 0 _ _ _ rA28_.out
  have A_1_ : (w4).cell? ⟨W.heap.size, 1, none⟩ = some (.int .i64 (man : Int)) := cell_of_row _ _ 1 _ _ _ rA28_.out
  have A_2_ : (w4).cell? ⟨W.heap.size, 2, none⟩ = some (.int .i64 (kn : Int)) := cell_of_row _ _ 2 _ _ _ rA28_.out
  have A_3_ : (w4).cell? ⟨W.heap.size, 3, none⟩ = some (.slice qp qn qc) := cell_of_row _ _ 3 _ _ _ rA28_.out
  have R_0_ : (w4).cell? ⟨W.heap.size + 1, 0, none⟩ = some (.int .i64 0) := cell_of_row _ _ 0 _ _ _ rR29_.out
  have R_1_ : (w4).cell? ⟨W.heap.size + 1, 1, none⟩ = some (.int .i64 0) := cell_of_row _ _ 1 _ _ _ rR29_.out
  have R_2_ : (w4).cell? ⟨W.heap.size + 1, 2, none⟩ = some (.int .i64 0) := cell_of_row _ _ 2 _ _ _ rR29_.out
  have R_3_ : (w4).cell? ⟨W.heap.size + 1, 3, none⟩ = some (.slice none 0 0) := cell_of_row _ _ 3 _ _ _ rR29_.out
  clear A_0_ A_1_ A_2_ A_3_ R_0_ R_1_ R_2_ R_3_
  have A_0_ : (w4).cell? ⟨W.heap.size, 0, none⟩ = some (.int .i64 (bits .or .i64 st (wrap64 (2 ^ kn)))) := cell_of_row _ _ 0 _ _ _ rA28_.out
  have A_1_ : (w4).cell? ⟨W.heap.size, 1, none⟩ = some (.int .i64 (man : Int)) := cell_of_row _ _ 1 _ _ _ rA28_.out
  have A_2_ : (w4).cell? ⟨W.heap.size, 2, none⟩ = some (.int .i64 (kn : Int)) := cell_of_row _ _ 2 _ _ _ rA28_.out
  have A_3_ : (w4).cell? ⟨W.heap.size, 3, none⟩ = some (.slice qp qn qc) := cell_of_row _ _ 3 _ _ _ rA28_.out
  have R_0_ : (w4).cell? ⟨W.heap.size + 1, 0, none⟩ = some (.int .i64 0) := cell_of_row _ _ 0 _ _ _ rR29_.out
  have R_1_ : (w4).cell? ⟨W.heap.size + 1, 1, none⟩ = some (.int .i64 0) := cell_of_row _ _ 1 _ _ _ rR29_.out
  have R_2_ : (w4).cell? ⟨W.heap.size + 1, 2, none⟩ = some (.int .i64 0) := cell_of_row _ _ 2 _ _ _ rR29_.out
  have R_3_ : (w4).cell? ⟨W.heap.size + 1, 3, none⟩ = some (.slice none 0 0) := cell_of_row _ _ 3 _ _ _ rR29_.out
  have Rf0_ : (w4).frozen? ⟨W.heap.size + 1, 0, none⟩ = false := frozen_of_row _ _ 0 _ _ rR29_.out
  have Rf1_ : (w4).frozen? ⟨W.heap.size + 1, 1, none⟩ = false := frozen_of_row _ _ 1 _ _ rR29_.out
  have Rf2_ : (w4).frozen? ⟨W.heap.size + 1, 2, none⟩ = false := frozen_of_row _ _ 2 _ _ rR29_.out
  have Rf3_ : (w4).frozen? ⟨W.heap.size + 1, 3, none⟩ = false := frozen_of_row _ _ 3 _ _ rR29_.out
  have zr_ := Lib.hid (show (((((w4.setCell ⟨W.heap.size + 1, 0, none⟩ (.int .i64 (bits .or .i64 st (wrap64 (2 ^ kn))))).setCell ⟨W.heap.size + 1, 1, none⟩ (.int .i64 (man : Int))).setCell ⟨W.heap.size + 1, 2, none⟩ (.int .i64 (kn : Int))).setCell ⟨W.heap.size + 1, 3, none⟩ (.slice qp qn qc))).heap[W.heap.size + 1]? = some (.cells #[.int .i64 (bits .or .i64 st (wrap64 (2 ^ kn))), .int .i64 (man : Int), .int .i64 (kn : Int), .slice qp qn qc] 26 (0, 0)) from (heap_setCell_same _ _ 3 _ _ _ (heap_setCell_same _ _ 2 _ _ _ (heap_setCell_same _ _ 1 _ _ _ (heap_setCell_same _ _ 0 _ _ _ rR29_.out)))))
  have z0_ : (((((w4.setCell ⟨W.heap.size + 1, 0, none⟩ (.int .i64 (bits .or .i64 st (wrap64 (2 ^ kn))))).setCell ⟨W.heap.size + 1, 1, none⟩ (.int .i64 (man : Int))).setCell ⟨W.heap.size + 1, 2, none⟩ (.int .i64 (kn : Int))).setCell ⟨W.heap.size + 1, 3, none⟩ (.slice qp qn qc))).cell? ⟨W.heap.size + 1, 0, none⟩ = some (.int .i64 (bits .or .i64 st (wrap64 (2 ^ kn)))) := cell_of_row _ _ 0 _ _ _ zr_.out
  have z1_ : (((((w4.setCell ⟨W.heap.size + 1, 0, none⟩ (.int .i64 (bits .or .i64 st (wrap64 (2 ^ kn))))).setCell ⟨W.heap.size + 1, 1, none⟩ (.int .i64 (man : Int))).setCell ⟨W.heap.size + 1, 2, none⟩ (.int .i64 (kn : Int))).setCell ⟨W.heap.size + 1, 3, none⟩ (.slice qp qn qc))).cell? ⟨W.heap.size + 1, 1, none⟩ = some (.int .i64 (man : Int)) := cell_of_row _ _ 1 _ _ _ zr_.out
  have z2_ : (((((w4.setCell ⟨W.heap.size + 1, 0, none⟩ (.int .i64 (bits .or .i64 st (wrap64 (2 ^ kn))))).setCell ⟨W.heap.size + 1, 1, none⟩ (.int .i64 (man : Int))).setCell ⟨W.heap.size + 1, 2, none⟩ (.int .i64 (kn : Int))).setCell ⟨W.heap.size + 1, 3, none⟩ (.slice qp qn qc))).cell? ⟨W.heap.size + 1, 2, none⟩ = some (.int .i64 (kn : Int)) := cell_of_row _ _ 2 _ _ _ zr_.out
  have z3_ : (((((w4.setCell ⟨W.heap.size + 1, 0, none⟩ (.int .i64 (bits .or .i64 st (wrap64 (2 ^ kn))))).setCell ⟨W.heap.size + 1, 1, none⟩ (.int .i64 (man : Int))).setCell ⟨W.heap.size + 1, 2, none⟩ (.int .i64 (kn : Int))).setCell ⟨W.heap.size + 1, 3, none⟩ (.slice qp qn qc))).cell? ⟨W.heap.size + 1, 3, none⟩ = some (.slice qp qn qc) := cell_of_row _ _ 3 _ _ _ zr_.out
  go_wp2
  refine bodyPost_ret (v := .tuple #[.agg #[.int .i64 (bits .or .i64 st (wrap64 (2 ^ kn))), .int .i64 (man : Int), .int .i64 (kn : Int), .slice qp qn qc], (.int .i64 (-1))]) (by simp [results, go_sem, z0_, z1_, z2_, z3_]) rfl ⟨_, rfl, ?_, ?_⟩
  · exact OwU.wide (lo := W.heap.size + 1 + 1) (by omega) (by simp only [World.size_setCell]; omega) (OwU.keep (chg_one _ _ _ _) (.inr (by omega)) (OwU.keep (chg_one _ _ _ _) (.inr (by omega)) (OwU.keep (chg_one _ _ _ _) (.inr (by omega)) (OwU.keep (chg_one _ _ _ _) (.inr (by omega)) oC30_.out))))
  · exact (gby_setnew (gby_setnew (gby_setnew (gby_setnew G31_.out _ (by dsimp only; omega) _) _ (by dsimp only; omega) _) _ (by dsimp only; omega) _) _ (by dsimp only; omega) _)

set_option maxRecDepth 8000 in
set_option maxHeartbeats 2000000 in
theorem implReport_00 (W : World) (st : Int) (man kn : Nat) (fi : Int) (v : Value) (xs : List Int) (H : RdL shI W v xs) (hl : szL shI xs ≤ 1048576) (hb : LOk st man fi xs) (hma : man ≤ 65535) (hk : kn ≤ 15) (hs0 : (st == 0) = true) (hbit : Hid (bitB man kn = false)) (sv : Int) (hsv : Hid (sv = xs.getD kn 0)) : Calls Try.prog 14 #[vLog st man fi v, .int .i64 (kn : Int)] W (ResIReportError (bits .or .i64 st (wrap64 (2 ^ kn))) man (kn : Int) xs sv W) := by
  have HSL := Lib.hid H
  have HL := Lib.hid hl
  obtain ⟨a1, n1, c1, rfl⟩ := RdL.form H
  clear H hl
  unfold vLog
  have HOK := Lib.hid hb
  clear hb
  have i1_ : (0 : Int) ≤ (kn : Int) := by omega
  have i2_ : ((kn : Int)).toNat = kn := by omega
  have i3_ : (kn : Int) ≤ 64 := by omega
  go_enter Try.func14, Try.ntmps14
  have rA1_ := Lib.hid (show (((W.alloc (.cells #[.int .i64 st, .int .i64 (man : Int), .int .i64 fi, .slice a1 n1 c1] 26)).alloc (.cells #[.int .i64 0, .int .i64 0, .int .i64 0, .slice none 0 0] 26))).heap[W.heap.size]? = some (.cells #[.int .i64 st, .int .i64 (man : Int), .int .i64 fi, .slice a1 n1 c1] 26 (0, 0)) from by rw [heap_alloc_old _ _ (by simp only [World.size_alloc]; omega)]; exact heap_alloc_new _ _)
  have rR2_ := Lib.hid (show (((W.alloc (.cells #[.int .i64 st, .int .i64 (man : Int), .int .i64 fi, .slice a1 n1 c1] 26)).alloc (.cells #[.int .i64 0, .int .i64 0, .int .i64 0, .slice none 0 0] 26))).heap[W.heap.size + 1]? = some (.cells #[.int .i64 0, .int .i64 0, .int .i64 0, .slice none 0 0] 26 (0, 0)) from by exact heap_pair _ _ _)
  have G3_ := Lib.hid (show (W).grownBy (((W.alloc (.cells #[.int .i64 st, .int .i64 (man : Int), .int .i64 fi, .slice a1 n1 c1] 26)).alloc (.cells #[.int .i64 0, .int .i64 0, .int .i64 0, .slice none 0 0] 26))) none from (gby_alloc (gby_alloc (gby_refl _ _) _) _))
  have A_0_ : (((W.alloc (.cells #[.int .i64 st, .int .i64 (man : Int), .int .i64 fi, .slice a1 n1 c1] 26)).alloc (.cells #[.int .i64 0, .int .i64 0, .int .i64 0, .slice none 0 0] 26))).cell? ⟨W.heap.size, 0, none⟩ = some (.int .i64 st) := cell_of_row _ _ 0 _ _ _ rA1_.out
  have A_1_ : (((W.alloc (.cells #[.int .i64 st, .int .i64 (man : Int), .int .i64 fi, .slice a1 n1 c1] 26)).alloc (.cells #[.int .i64 0, .int .i64 0, .int .i64 0, .slice none 0 0] 26))).cell? ⟨W.heap.size, 1, none⟩ = some (.int .i64 (man : Int)) := cell_of_row _ _ 1 _ _ _ rA1_.out
  have A_2_ : (((W.alloc (.cells #[.int .i64 st, .int .i64 (man : Int), .int .i64 fi, .slice a1 n1 c1] 26)).alloc (.cells #[.int .i64 0, .int .i64 0, .int .i64 0, .slice none 0 0] 26))).cell? ⟨W.heap.size, 2, none⟩ = some (.int .i64 fi) := cell_of_row _ _ 2 _ _ _ rA1_.out
  have A_3_ : (((W.alloc (.cells #[.int .i64 st, .int .i64 (man : Int), .int .i64 fi, .slice a1 n1 c1] 26)).alloc (.cells #[.int .i64 0, .int .i64 0, .int .i64 0, .slice none 0 0] 26))).cell? ⟨W.heap.size, 3, none⟩ = some (.slice a1 n1 c1) := cell_of_row _ _ 3 _ _ _ rA1_.out
  have R_0_ : (((W.alloc (.cells #[.int .i64 st, .int .i64 (man : Int), .int .i64 fi, .slice a1 n1 c1] 26)).alloc (.cells #[.int .i64 0, .int .i64 0, .int .i64 0, .slice none 0 0] 26))).cell? ⟨W.heap.size + 1, 0, none⟩ = some (.int .i64 0) := cell_of_row _ _ 0 _ _ _ rR2_.out
  have R_1_ : (((W.alloc (.cells #[.int .i64 st, .int .i64 (man : Int), .int .i64 fi, .slice a1 n1 c1] 26)).alloc (.cells #[.int .i64 0, .int .i64 0, .int .i64 0, .slice none 0 0] 26))).cell? ⟨W.heap.size + 1, 1, none⟩ = some (.int .i64 0) := cell_of_row _ _ 1 _ _ _ rR2_.out
  have R_2_ : (((W.alloc (.cells #[.int .i64 st, .int .i64 (man : Int), .int .i64 fi, .slice a1 n1 c1] 26)).alloc (.cells #[.int .i64 0, .int .i64 0, .int .i64 0, .slice none 0 0] 26))).cell? ⟨W.heap.size + 1, 2, none⟩ = some (.int .i64 0) := cell_of_row _ _ 2 _ _ _ rR2_.out
  have R_3_ : (((W.alloc (.cells #[.int .i64 st, .int .i64 (man : Int), .int .i64 fi, .slice a1 n1 c1] 26)).alloc (.cells #[.int .i64 0, .int .i64 0, .int .i64 0, .slice none 0 0] 26))).cell? ⟨W.heap.size + 1, 3, none⟩ = some (.slice none 0 0) := cell_of_row _ _ 3 _ _ _ rR2_.out
  go_wp2_with fail
  go_at_call 49
  refine (copiedLog_d _ _ _ _ _ xs (HSL.out.grow G3_.out) HL.out).mono ?_
  rintro e w1 ⟨d, rfl, o, g⟩
  have sz_ := g.size
  try simp only [World.size_alloc] at sz_ o
  clear A_0_ A_1_ A_2_ A_3_ R_0_ R_1_ R_2_ R_3_
  have rA4_ := Lib.hid (show (w1).heap[W.heap.size]? = some (.cells #[.int .i64 st, .int .i64 (man : Int), .int .i64 fi, .slice a1 n1 c1] 26 (0, 0)) from row_held g rA1_.out)
  clear rA1_
  have rR5_ := Lib.hid (show (w1).heap[W.heap.size + 1]? = some (.cells #[.int .i64 0, .int .i64 0, .int .i64 0, .slice none 0 0] 26 (0, 0)) from row_held g rR2_.out)
  clear rR2_
  have G6_ := Lib.hid (show (W).grownBy (w1) none from gby_trans G3_.out g)
  clear g
  obtain ⟨qp, qn, qc, hv2⟩ := RdL.form (OwU.rd o)
  subst hv2
  unfold vLog
  have oC7_ := Lib.hid (show OwU (w1) (W.heap.size + 1 + 1) (w1.heap.size) [] [own shI (.slice qp qn qc) xs] from o)
  clear o
  have A_0_ : (w1).cell? ⟨W.heap.size, 0, none⟩ = some (.int .i64 st) := cell_of_row _ _ 0 _ _ _ rA4_.out
  have A_1_ : (w1).cell? ⟨W.heap.size, 1, none⟩ = some (.int .i64 (man : Int)) := cell_of_row _ _ 1 _ _ _ rA4_.out
  have A_2_ : (w1).cell? ⟨W.heap.size, 2, none⟩ = some (.int .i64 fi) := cell_of_row _ _ 2 _ _ _ rA4_.out
  have A_3_ : (w1).cell? ⟨W.heap.size, 3, none⟩ = some (.slice a1 n1 c1) := cell_of_row _ _ 3 _ _ _ rA4_.out
  have Af0_ : (w1).frozen? ⟨W.heap.size, 0, none⟩ = false := frozen_of_row _ _ 0 _ _ rA4_.out
  have Af1_ : (w1).frozen? ⟨W.heap.size, 1, none⟩ = false := frozen_of_row _ _ 1 _ _ rA4_.out
  have Af2_ : (w1).frozen? ⟨W.heap.size, 2, none⟩ = false := frozen_of_row _ _ 2 _ _ rA4_.out
  have Af3_ : (w1).frozen? ⟨W.heap.size, 3, none⟩ = false := frozen_of_row _ _ 3 _ _ rA4_.out
  have R_0_ : (w1).cell? ⟨W.heap.size + 1, 0, none⟩ = some (.int .i64 0) := cell_of_row _ _ 0 _ _ _ rR5_.out
  have R_1_ : (w1).cell? ⟨W.heap.size + 1, 1, none⟩ = some (.int .i64 0) := cell_of_row _ _ 1 _ _ _ rR5_.out
  have R_2_ : (w1).cell? ⟨W.heap.size + 1, 2, none⟩ = some (.int .i64 0) := cell_of_row _ _ 2 _ _ _ rR5_.out
  have R_3_ : (w1).cell? ⟨W.heap.size + 1, 3, none⟩ = some (.slice none 0 0) := cell_of_row _ _ 3 _ _ _ rR5_.out
  go_wp2_with fail
  go_at_call 23
  clear A_0_ A_1_ A_2_ A_3_ Af0_ Af1_ Af2_ Af3_ R_0_ R_1_ R_2_ R_3_
  have rR8_ := Lib.hid (show (((((w1.setCell ⟨W.heap.size, 0, none⟩ (.int .i64 st)).setCell ⟨W.heap.size, 1, none⟩ (.int .i64 (man : Int))).setCell ⟨W.heap.size, 2, none⟩ (.int .i64 fi)).setCell ⟨W.heap.size, 3, none⟩ (.slice qp qn qc))).heap[W.heap.size + 1]? = some (.cells #[.int .i64 0, .int .i64 0, .int .i64 0, .slice none 0 0] 26 (0, 0)) from (set_far (set_far (set_far (set_far rR5_.out (by dsimp only; omega)) (by dsimp only; omega)) (by dsimp only; omega)) (by dsimp only; omega)))
  clear rR5_
  have rA9_ := Lib.hid (show (((((w1.setCell ⟨W.heap.size, 0, none⟩ (.int .i64 st)).setCell ⟨W.heap.size, 1, none⟩ (.int .i64 (man : Int))).setCell ⟨W.heap.size, 2, none⟩ (.int .i64 fi)).setCell ⟨W.heap.size, 3, none⟩ (.slice qp qn qc))).heap[W.heap.size]? = some (.cells #[.int .i64 st, .int .i64 (man : Int), .int .i64 fi, .slice qp qn qc] 26 (0, 0)) from (heap_setCell_same _ _ 3 _ _ _ (heap_setCell_same _ _ 2 _ _ _ (heap_setCell_same _ _ 1 _ _ _ (heap_setCell_same _ _ 0 _ _ _ rA4_.out)))))
  clear rA4_
  have oC10_ := Lib.hid (show OwU (((((w1.setCell ⟨W.heap.size, 0, none⟩ (.int .i64 st)).setCell ⟨W.heap.size, 1, none⟩ (.int .i64 (man : Int))).setCell ⟨W.heap.size, 2, none⟩ (.int .i64 fi)).setCell ⟨W.heap.size, 3, none⟩ (.slice qp qn qc))) (W.heap.size + 1 + 1) (w1.heap.size) [] [own shI (.slice qp qn qc) xs] from (OwU.keep (chg_one _ _ _ _) (by omega) (OwU.keep (chg_one _ _ _ _) (by omega) (OwU.keep (chg_one _ _ _ _) (by omega) (OwU.keep (chg_one _ _ _ _) (by omega) oC7_.out)))))
  clear oC7_
  have G11_ := Lib.hid (show (W).grownBy (((((w1.setCell ⟨W.heap.size, 0, none⟩ (.int .i64 st)).setCell ⟨W.heap.size, 1, none⟩ (.int .i64 (man : Int))).setCell ⟨W.heap.size, 2, none⟩ (.int .i64 fi)).setCell ⟨W.heap.size, 3, none⟩ (.slice qp qn qc))) none from (gby_setnew (gby_setnew (gby_setnew (gby_setnew G6_.out _ (by dsimp only; omega) _) _ (by dsimp only; omega) _) _ (by dsimp only; omega) _) _ (by dsimp only; omega) _))
  have A_0_ : (((((w1.setCell ⟨W.heap.size, 0, none⟩ (.int .i64 st)).setCell ⟨W.heap.size, 1, none⟩ (.int .i64 (man : Int))).setCell ⟨W.heap.size, 2, none⟩ (.int .i64 fi)).setCell ⟨W.heap.size, 3, none⟩ (.slice qp qn qc))).cell? ⟨W.heap.size, 0, none⟩ = some (.int .i64 st) := cell_of_row _ _ 0 _ _ _ rA9_.out
  have A_1_ : (((((w1.setCell ⟨W.heap.size, 0, none⟩ (.int .i64 st)).setCell ⟨W.heap.size, 1, none⟩ (.int .i64 (man : Int))).setCell ⟨W.heap.size, 2, none⟩ (.int .i64 fi)).setCell ⟨W.heap.size, 3, none⟩ (.slice qp qn qc))).cell? ⟨W.heap.size, 1, none⟩ = some (.int .i64 (man : Int)) := cell_of_row _ _ 1 _ _ _ rA9_.out
  have A_2_ : (((((w1.setCell ⟨W.heap.size, 0, none⟩ (.int .i64 st)).setCell ⟨W.heap.size, 1, none⟩ (.int .i64 (man : Int))).setCell ⟨W.heap.size, 2, none⟩ (.int .i64 fi)).setCell ⟨W.heap.size, 3, none⟩ (.slice qp qn qc))).cell? ⟨W.heap.size, 2, none⟩ = some (.int .i64 fi) := cell_of_row _ _ 2 _ _ _ rA9_.out
  have A_3_ : (((((w1.setCell ⟨W.heap.size, 0, none⟩ (.int .i64 st)).setCell ⟨W.heap.size, 1, none⟩ (.int .i64 (man : Int))).setCell ⟨W.heap.size, 2, none⟩ (.int .i64 fi)).setCell ⟨W.heap.size, 3, none⟩ (.slice qp qn qc))).cell? ⟨W.heap.size, 3, none⟩ = some (.slice qp qn qc) := cell_of_row _ _ 3 _ _ _ rA9_.out
  have R_0_ : (((((w1.setCell ⟨W.heap.size, 0, none⟩ (.int .i64 st)).setCell ⟨W.heap.size, 1, none⟩ (.int .i64 (man : Int))).setCell ⟨W.heap.size, 2, none⟩ (.int .i64 fi)).setCell ⟨W.heap.size, 3, none⟩ (.slice qp qn qc))).cell? ⟨W.heap.size + 1, 0, none⟩ = some (.int .i64 0) := cell_of_row _ _ 0 _ _ _ rR8_.out
  have R_1_ : (((((w1.setCell ⟨W.heap.size, 0, none⟩ (.int .i64 st)).setCell ⟨W.heap.size, 1, none⟩ (.int .i64 (man : Int))).setCell ⟨W.heap.size, 2, none⟩ (.int .i64 fi)).setCell ⟨W.heap.size, 3, none⟩ (.slice qp qn qc))).cell? ⟨W.heap.size + 1, 1, none⟩ = some (.int .i64 0) := cell_of_row _ _ 1 _ _ _ rR8_.out
  have R_2_ : (((((w1.setCell ⟨W.heap.size, 0, none⟩ (.int .i64 st)).setCell ⟨W.heap.size, 1, none⟩ (.int .i64 (man : Int))).setCell ⟨W.heap.size, 2, none⟩ (.int .i64 fi)).setCell ⟨W.heap.size, 3, none⟩ (.slice qp qn qc))).cell? ⟨W.heap.size + 1, 2, none⟩ = some (.int .i64 0) := cell_of_row _ _ 2 _ _ _ rR8_.out
  have R_3_ : (((((w1.setCell ⟨W.heap.size, 0, none⟩ (.int .i64 st)).setCell ⟨W.heap.size, 1, none⟩ (.int .i64 (man : Int))).setCell ⟨W.heap.size, 2, none⟩ (.int .i64 fi)).setCell ⟨W.heap.size, 3, none⟩ (.slice qp qn qc))).cell? ⟨W.heap.size + 1, 3, none⟩ = some (.slice none 0 0) := cell_of_row _ _ 3 _ _ _ rR8_.out
  refine (implLog_yes _ _ _ _ _ xs (OwU.rd oC10_.out) HL.out HOK.out).mono ?_
  rintro e w2 ⟨rfl, g⟩
  have szl_ := g.size
  try simp only [World.size_setCell, World.size_alloc] at szl_
  clear A_0_ A_1_ A_2_ A_3_ R_0_ R_1_ R_2_ R_3_
  have rA12_ := Lib.hid (show (w2).heap[W.heap.size]? = some (.cells #[.int .i64 st, .int .i64 (man : Int), .int .i64 fi, .slice qp qn qc] 26 (0, 0)) from row_held g rA9_.out)
  clear rA9_
  have rR13_ := Lib.hid (show (w2).heap[W.heap.size + 1]? = some (.cells #[.int .i64 0, .int .i64 0, .int .i64 0, .slice none 0 0] 26 (0, 0)) from row_held g rR8_.out)
  clear rR8_
  have oC14_ := Lib.hid (show OwU (w2) (W.heap.size + 1 + 1) (w1.heap.size) [] [own shI (.slice qp qn qc) xs] from OwU.grow oC10_.out g)
  clear oC10_
  have G15_ := Lib.hid (show (W).grownBy (w2) none from gby_trans G11_.out g)
  clear g
  have A_0_ : (w2).cell? ⟨W.heap.size, 0, none⟩ = some (.int .i64 st) := cell_of_row _ _ 0 _ _ _ rA12_.out
  have A_1_ : (w2).cell? ⟨W.heap.size, 1, none⟩ = some (.int .i64 (man : Int)) := cell_of_row _ _ 1 _ _ _ rA12_.out
  have A_2_ : (w2).cell? ⟨W.heap.size, 2, none⟩ = some (.int .i64 fi) := cell_of_row _ _ 2 _ _ _ rA12_.out
  have A_3_ : (w2).cell? ⟨W.heap.size, 3, none⟩ = some (.slice qp qn qc) := cell_of_row _ _ 3 _ _ _ rA12_.out
  have R_0_ : (w2).cell? ⟨W.heap.size + 1, 0, none⟩ = some (.int .i64 0) := cell_of_row _ _ 0 _ _ _ rR13_.out
  have R_1_ : (w2).cell? ⟨W.heap.size + 1, 1, none⟩ = some (.int .i64 0) := cell_of_row _ _ 1 _ _ _ rR13_.out
  have R_2_ : (w2).cell? ⟨W.heap.size + 1, 2, none⟩ = some (.int .i64 0) := cell_of_row _ _ 2 _ _ _ rR13_.out
  have R_3_ : (w2).cell? ⟨W.heap.size + 1, 3, none⟩ = some (.slice none 0 0) := cell_of_row _ _ 3 _ _ _ rR13_.out
  go_wp2_with fail
  go_at_call 50
  refine (rng_yes _ _ _ _ (by omega) (by omega)).mono ?_
  rintro e w3_ ⟨rfl, rfl⟩
  clear A_0_ A_1_ A_2_ A_3_ R_0_ R_1_ R_2_ R_3_
  have A_0_ : (w2).cell? ⟨W.heap.size, 0, none⟩ = some (.int .i64 st) := cell_of_row _ _ 0 _ _ _ rA12_.out
  have A_1_ : (w2).cell? ⟨W.heap.size, 1, none⟩ = some (.int .i64 (man : Int)) := cell_of_row _ _ 1 _ _ _ rA12_.out
  have A_2_ : (w2).cell? ⟨W.heap.size, 2, none⟩ = some (.int .i64 fi) := cell_of_row _ _ 2 _ _ _ rA12_.out
  have A_3_ : (w2).cell? ⟨W.heap.size, 3, none⟩ = some (.slice qp qn qc) := cell_of_row _ _ 3 _ _ _ rA12_.out
  have Af0_ : (w2).frozen? ⟨W.heap.size, 0, none⟩ = false := frozen_of_row _ _ 0 _ _ rA12_.out
  have Af1_ : (w2).frozen? ⟨W.heap.size, 1, none⟩ = false := frozen_of_row _ _ 1 _ _ rA12_.out
  have Af2_ : (w2).frozen? ⟨W.heap.size, 2, none⟩ = false := frozen_of_row _ _ 2 _ _ rA12_.out
  have Af3_ : (w2).frozen? ⟨W.heap.size, 3, none⟩ = false := frozen_of_row _ _ 3 _ _ rA12_.out
  have R_0_ : (w2).cell? ⟨W.heap.size + 1, 0, none⟩ = some (.int .i64 0) := cell_of_row _ _ 0 _ _ _ rR13_.out
  have R_1_ : (w2).cell? ⟨W.heap.size + 1, 1, none⟩ = some (.int .i64 0) := cell_of_row _ _ 1 _ _ _ rR13_.out
  have R_2_ : (w2).cell? ⟨W.heap.size + 1, 2, none⟩ = some (.int .i64 0) := cell_of_row _ _ 2 _ _ _ rR13_.out
  have R_3_ : (w2).cell? ⟨W.heap.size + 1, 3, none⟩ = some (.slice none 0 0) := cell_of_row _ _ 3 _ _ _ rR13_.out
  go_wp2_with fail
  clear A_0_ A_1_ A_2_ A_3_ Af0_ Af1_ Af2_ Af3_ R_0_ R_1_ R_2_ R_3_
  have rR16_ := Lib.hid (show ((w2.setCell ⟨W.heap.size, 2, none⟩ (.int .i64 (kn : Int)))).heap[W.heap.size + 1]? = some (.cells #[.int .i64 0, .int .i64 0, .int .i64 0, .slice none 0 0] 26 (0, 0)) from (set_far rR13_.out (by dsimp only; omega)))
  clear rR13_
  have rA17_ := Lib.hid (show ((w2.setCell ⟨W.heap.size, 2, none⟩ (.int .i64 (kn : Int)))).heap[W.heap.size]? = some (.cells #[.int .i64 st, .int .i64 (man : Int), .int .i64 (kn : Int), .slice qp qn qc] 26 (0, 0)) from (heap_setCell_same _ _ 2 _ _ _ rA12_.out))
  clear rA12_
  have oC18_ := Lib.hid (show OwU ((w2.setCell ⟨W.heap.size, 2, none⟩ (.int .i64 (kn : Int)))) (W.heap.size + 1 + 1) (w1.heap.size) [] [own shI (.slice qp qn qc) xs] from (OwU.keep (chg_one _ _ _ _) (by omega) oC14_.out))
  clear oC14_
  have G19_ := Lib.hid (show (W).grownBy ((w2.setCell ⟨W.heap.size, 2, none⟩ (.int .i64 (kn : Int)))) none from (gby_setnew G15_.out _ (by dsimp only; omega) _))
  have szq_ : ((w2.setCell ⟨W.heap.size, 2, none⟩ (.int .i64 (kn : Int)))).heap.size = w2.heap.size := by simp only [World.size_setCell]
  generalize (w2.setCell ⟨W.heap.size, 2, none⟩ (.int .i64 (kn : Int))) = wq at rA17_ rR16_ oC18_ G19_ szq_ ⊢
  have A_0_ : (wq).cell? ⟨W.heap.size, 0, none⟩ = some (.int .i64 st) := cell_of_row _ _ 0 _ _ _ rA17_.out
  have A_1_ : (wq).cell? ⟨W.heap.size, 1, none⟩ = some (.int .i64 (man : Int)) := cell_of_row _ _ 1 _ _ _ rA17_.out
  have A_2_ : (wq).cell? ⟨W.heap.size, 2, none⟩ = some (.int .i64 (kn : Int)) := cell_of_row _ _ 2 _ _ _ rA17_.out
  have A_3_ : (wq).cell? ⟨W.heap.size, 3, none⟩ = some (.slice qp qn qc) := cell_of_row _ _ 3 _ _ _ rA17_.out
  have Af0_ : (wq).frozen? ⟨W.heap.size, 0, none⟩ = false := frozen_of_row _ _ 0 _ _ rA17_.out
  have Af1_ : (wq).frozen? ⟨W.heap.size, 1, none⟩ = false := frozen_of_row _ _ 1 _ _ rA17_.out
  have Af2_ : (wq).frozen? ⟨W.heap.size, 2, none⟩ = false := frozen_of_row _ _ 2 _ _ rA17_.out
  have Af3_ : (wq).frozen? ⟨W.heap.size, 3, none⟩ = false := frozen_of_row _ _ 3 _ _ rA17_.out
  have R_0_ : (wq).cell? ⟨W.heap.size + 1, 0, none⟩ = some (.int .i64 0) := cell_of_row _ _ 0 _ _ _ rR16_.out
  have R_1_ : (wq).cell? ⟨W.heap.size + 1, 1, none⟩ = some (.int .i64 0) := cell_of_row _ _ 1 _ _ _ rR16_.out
  have R_2_ : (wq).cell? ⟨W.heap.size + 1, 2, none⟩ = some (.int .i64 0) := cell_of_row _ _ 2 _ _ _ rR16_.out
  have R_3_ : (wq).cell? ⟨W.heap.size + 1, 3, none⟩ = some (.slice none 0 0) := cell_of_row _ _ 3 _ _ _ rR16_.out
  go_still_tail 6, (by kernel_rfl)
  change wpList _ _ _ _ _ (wq).drew
  have gd_ : (wq).grownBy (wq).drew none := gby_drew (gby_refl _ _)
  generalize (wq).drew = wd1 at gd_ ⊢
  have szwd1 := gd_.size
  try simp only [World.size_setCell, World.size_alloc] at szwd1
  have rA20_ := Lib.hid (show (wd1).heap[W.heap.size]? = some (.cells #[.int .i64 st, .int .i64 (man : Int), .int .i64 (kn : Int), .slice qp qn qc] 26 (0, 0)) from row_held gd_ rA17_.out)
  clear rA17_
  have rR21_ := Lib.hid (show (wd1).heap[W.heap.size + 1]? = some (.cells #[.int .i64 0, .int .i64 0, .int .i64 0, .slice none 0 0] 26 (0, 0)) from row_held gd_ rR16_.out)
  clear rR16_
  have oC22_ := Lib.hid (show OwU (wd1) (W.heap.size + 1 + 1) (w1.heap.size) [] [own shI (.slice qp qn qc) xs] from OwU.grow oC18_.out gd_)
  clear oC18_
  have G23_ := Lib.hid (show (W).grownBy (wd1) none from gby_trans G19_.out gd_)
  clear gd_
  have A_0_ : (wd1).cell? ⟨W.heap.size, 0, none⟩ = some (.int .i64 st) := cell_of_row _ _ 0 _ _ _ rA20_.out
  have A_1_ : (wd1).cell? ⟨W.heap.size, 1, none⟩ = some (.int .i64 (man : Int)) := cell_of_row _ _ 1 _ _ _ rA20_.out
  have A_2_ : (wd1).cell? ⟨W.heap.size, 2, none⟩ = some (.int .i64 (kn : Int)) := cell_of_row _ _ 2 _ _ _ rA20_.out
  have A_3_ : (wd1).cell? ⟨W.heap.size, 3, none⟩ = some (.slice qp qn qc) := cell_of_row _ _ 3 _ _ _ rA20_.out
  have Af0_ : (wd1).frozen? ⟨W.heap.size, 0, none⟩ = false := frozen_of_row _ _ 0 _ _ rA20_.out
  have Af1_ : (wd1).frozen? ⟨W.heap.size, 1, none⟩ = false := frozen_of_row _ _ 1 _ _ rA20_.out
  have Af2_ : (wd1).frozen? ⟨W.heap.size, 2, none⟩ = false := frozen_of_row _ _ 2 _ _ rA20_.out
  have Af3_ : (wd1).frozen? ⟨W.heap.size, 3, none⟩ = false := frozen_of_row _ _ 3 _ _ rA20_.out
  have R_0_ : (wd1).cell? ⟨W.heap.size + 1, 0, none⟩ = some (.int .i64 0) := cell_of_row _ _ 0 _ _ _ rR21_.out
  have R_1_ : (wd1).cell? ⟨W.heap.size + 1, 1, none⟩ = some (.int .i64 0) := cell_of_row _ _ 1 _ _ _ rR21_.out
  have R_2_ : (wd1).cell? ⟨W.heap.size + 1, 2, none⟩ = some (.int .i64 0) := cell_of_row _ _ 2 _ _ _ rR21_.out
  have R_3_ : (wd1).cell? ⟨W.heap.size + 1, 3, none⟩ = some (.slice none 0 0) := cell_of_row _ _ 3 _ _ _ rR21_.out
  go_wp2_with fail
  go_at_call 51
  clear A_0_ A_1_ A_2_ A_3_ Af0_ Af1_ Af2_ Af3_ R_0_ R_1_ R_2_ R_3_
  have rR24_ := Lib.hid (show ((wd1.setCell ⟨W.heap.size, 0, none⟩ (.int .i64 (bits .or .i64 st (wrap64 (2 ^ kn)))))).heap[W.heap.size + 1]? = some (.cells #[.int .i64 0, .int .i64 0, .int .i64 0, .slice none 0 0] 26 (0, 0)) from (set_far rR21_.out (by dsimp only; omega)))
  clear rR21_
  have rA25_ := Lib.hid (show ((wd1.setCell ⟨W.heap.size, 0, none⟩ (.int .i64 (bits .or .i64 st (wrap64 (2 ^ kn)))))).heap[W.heap.size]? = some (.cells #[.int .i64 (bits .or .i64 st (wrap64 (2 ^ kn))), .int .i64 (man : Int), .int .i64 (kn : Int), .slice qp qn qc] 26 (0, 0)) from (heap_setCell_same _ _ 0 _ _ _ rA20_.out))
  clear rA20_
  have oC26_ := Lib.hid (show OwU ((wd1.setCell ⟨W.heap.size, 0, none⟩ (.int .i64 (bits .or .i64 st (wrap64 (2 ^ kn)))))) (W.heap.size + 1 + 1) (w1.heap.size) [] [own shI (.slice qp qn qc) xs] from (OwU.keep (chg_one _ _ _ _) (by omega) oC22_.out))
  clear oC22_
  have G27_ := Lib.hid (show (W).grownBy ((wd1.setCell ⟨W.heap.size, 0, none⟩ (.int .i64 (bits .or .i64 st (wrap64 (2 ^ kn)))))) none from (gby_setnew G23_.out _ (by dsimp only; omega) _))
  have A_0_ : ((wd1.setCell ⟨W.heap.size, 0, none⟩ (.int .i64 (bits .or .i64 st (wrap64 (2 ^ kn)))))).cell? ⟨W.heap.size, 0, none⟩ = some (.int .i64 (bits .or .i64 st (wrap64 (2 ^ kn)))) := cell_of_row _ _ 0 _ _ _ rA25_.out
  have A_1_ : ((wd1.setCell ⟨W.heap.size, 0, none⟩ (.int .i64 (bits .or .i64 st (wrap64 (2 ^ kn)))))).cell? ⟨W.heap.size, 1, none⟩ = some (.int .i64 (man : Int)) := cell_of_row _ _ 1 _ _ _ rA25_.out
  have A_2_ : ((wd1.setCell ⟨W.heap.size, 0, none⟩ (.int .i64 (bits .or .i64 st (wrap64 (2 ^ kn)))))).cell? ⟨W.heap.size, 2, none⟩ = some (.int .i64 (kn : Int)) := cell_of_row _ _ 2 _ _ _ rA25_.out
  have A_3_ : ((wd1.setCell ⟨W.heap.size, 0, none⟩ (.int .i64 (bits .or .i64 st (wrap64 (2 ^ kn)))))).cell? ⟨W.heap.size, 3, none⟩ = some (.slice qp qn qc) := cell_of_row _ _ 3 _ _ _ rA25_.out
  have R_0_ : ((wd1.setCell ⟨W.heap.size, 0, none⟩ (.int .i64 (bits .or .i64 st (wrap64 (2 ^ kn)))))).cell? ⟨W.heap.size + 1, 0, none⟩ = some (.int .i64 0) := cell_of_row _ _ 0 _ _ _ rR24_.out
  have R_1_ : ((wd1.setCell ⟨W.heap.size, 0, none⟩ (.int .i64 (bits .or .i64 st (wrap64 (2 ^ kn)))))).cell? ⟨W.heap.size + 1, 1, none⟩ = some (.int .i64 0) := cell_of_row _ _ 1 _ _ _ rR24_.out
  have R_2_ : ((wd1.setCell ⟨W.heap.size, 0, none⟩ (.int .i64 (bits .or .i64 st (wrap64 (2 ^ kn)))))).cell? ⟨W.heap.size + 1, 2, none⟩ = some (.int .i64 0) := cell_of_row _ _ 2 _ _ _ rR24_.out
  have R_3_ : ((wd1.setCell ⟨W.heap.size, 0, none⟩ (.int .i64 (bits .or .i64 st (wrap64 (2 ^ kn)))))).cell? ⟨W.heap.size + 1, 3, none⟩ = some (.slice none 0 0) := cell_of_row _ _ 3 _ _ _ rR24_.out
  refine (show Calls _ _ _ _ (Ans (.bool false) _) from by rw [← hbit.out]; exact hasErr_in man kn _ hma hk).mono ?_
  rintro e w4 ⟨rfl, hd⟩
  have g := hd.gby none
  clear hd
  have sze_ := g.size
  try simp only [World.size_setCell, World.size_alloc] at sze_
  clear A_0_ A_1_ A_2_ A_3_ R_0_ R_1_ R_2_ R_3_
  have rA28_ := Lib.hid (show (w4).heap[W.heap.size]? = some (.cells #[.int .i64 (bits .or .i64 st (wrap64 (2 ^ kn))), .int .i64 (man : Int), .int .i64 (kn : Int), .slice qp qn qc] 26 (0, 0)) from row_held g rA25_.out)
  clear rA25_
  have rR29_ := Lib.hid (show (w4).heap[W.heap.size + 1]? = some (.cells #[.int .i64 0, .int .i64 0, .int .i64 0, .slice none 0 0] 26 (0, 0)) from row_held g rR24_.out)
  clear rR24_
  have oC30_ := Lib.hid (show OwU (w4) (W.heap.size + 1 + 1) (w1.heap.size) [] [own shI (.slice qp qn qc) xs] from OwU.grow oC26_.out g)
  clear oC26_
  have G31_ := Lib.hid (show (W).grownBy (w4) none from gby_trans G27_.out g)
  clear g
  have A_0_ : (w4).cell? ⟨W.heap.size, 0, none⟩ = some (.int .i64 (bits .or .i64 st (wrap64 (2 ^ kn)))) := cell_of_row _ _ 0 _ _ _ rA28_.out
  have A_1_ : (w4).cell? ⟨W.heap.size, 1, none⟩ = some (.int .i64 (man : Int)) := cell_of_row _ _ 1 _ _ _ rA28_.out
  have A_2_ : (w4).cell? ⟨W.heap.size, 2, none⟩ = some (.int .i64 (kn : Int)) := cell_of_row _ _ 2 _ _ _ rA28_.out
  have A_3_ : (w4).cell? ⟨W.heap.size, 3, none⟩ = some (.slice qp qn qc) := cell_of_row _ _ 3 _ _ _ rA28_.out
  have R_0_ : (w4).cell? ⟨W.heap.size + 1, 0, none⟩ = some (.int .i64 0) := cell_of_row _ _ 0 _ _ _ rR29_.out
  have R_1_ : (w4).cell? ⟨W.heap.size + 1, 1, none⟩ = some (.int .i64 0) := cell_of_row _ _ 1 _ _ _ rR29_.out
  have R_2_ : (w4).cell? ⟨W.heap.size + 1, 2, none⟩ = some (.int .i64 0) := cell_of_row _ _ 2 _ _ _ rR29_.out
  have R_3_ : (w4).cell? ⟨W.heap.size + 1, 3, none⟩ = some (.slice none 0 0) := cell_of_row _ _ 3 _ _ _ rR29_.out
  have Rf0_ : (w4).frozen? ⟨W.heap.size + 1, 0, none⟩ = false := frozen_of_row _ _ 0 _ _ rR29_.out
  have Rf1_ : (w4).frozen? ⟨W.heap.size + 1, 1, none⟩ = false := frozen_of_row _ _ 1 _ _ rR29_.out
  have Rf2_ : (w4).frozen? ⟨W.heap.size + 1, 2, none⟩ = false := frozen_of_row _ _ 2 _ _ rR29_.out
  have Rf3_ : (w4).frozen? ⟨W.heap.size + 1, 3, none⟩ = false := frozen_of_row _ _ 3 _ _ rR29_.out
  go_wp2_with fail
  have hx16 : xs.length = 16 := HOK.out.2.2.1
  obtain ⟨la_, lb_, hla_, hlb_, _, how_, _⟩ := oC30_.out
  obtain ⟨a2_, cp2_, e2_, _, _, hpl_, _⟩ := how_
  injection e2_ with f1 f2 f3
  obtain ⟨a_, cp_, e_, hi_, _⟩ := rdI_in (OwU.rd oC30_.out)
  obtain ⟨_, hi_⟩ := hi_
  injection e_ with e1 e2 e3
  obtain ⟨b_, o_, ea_, hc_⟩ := hi_.resolve_left (by omega)
  rw [ea_] at e1
  rw [hx16] at e2
  have hpl2_ := hpl_ ⟨b_, o_, none⟩ (f1.symm.trans e1)
  dsimp only at hpl2_
  clear f1 f2 f3 hpl_ hlb_
  subst e1 e2
  have sc0_ := hc_ kn (by omega)
  have hnb1_ : ¬ b_ = W.heap.size + 1 := by omega
  have hnb2_ : ¬ W.heap.size + 1 = b_ := fun q => hnb1_ q.symm
  have sc_ := sc0_
  clear sc0_
  rw [← hsv.out] at sc_
  have hk16 : (kn : Int) < 16 := by omega
  have hk16n : kn < 16 := by omega
  clear hi_ ea_ e3 hc_ hx16
  go_region_with (fail)
  all_goals
    clear A_0_ A_1_ A_2_ A_3_ R_0_ R_1_ R_2_ R_3_ Rf0_ Rf1_ Rf2_ Rf3_
    have A_0_ : (w4).cell? ⟨W.heap.size, 0, none⟩ = some (.int .i64 (bits .or .i64 st (wrap64 (2 ^ kn)))) := cell_of_row _ _ 0 _ _ _ rA28_.out
    have A_1_ : (w4).cell? ⟨W.heap.size, 1, none⟩ = some (.int .i64 (man : Int)) := cell_of_row _ _ 1 _ _ _ rA28_.out
    have A_2_ : (w4).cell? ⟨W.heap.size, 2, none⟩ = some (.int .i64 (kn : Int)) := cell_of_row _ _ 2 _ _ _ rA28_.out
    have A_3_ : (w4).cell? ⟨W.heap.size, 3, none⟩ = some (.slice (some ⟨b_, o_, none⟩) 16 qc) := cell_of_row _ _ 3 _ _ _ rA28_.out
    have R_0_ : (w4).cell? ⟨W.heap.size + 1, 0, none⟩ = some (.int .i64 0) := cell_of_row _ _ 0 _ _ _ rR29_.out
    have R_1_ : (w4).cell? ⟨W.heap.size + 1, 1, none⟩ = some (.int .i64 0) := cell_of_row _ _ 1 _ _ _ rR29_.out
    have R_2_ : (w4).cell? ⟨W.heap.size + 1, 2, none⟩ = some (.int .i64 0) := cell_of_row _ _ 2 _ _ _ rR29_.out
    have R_3_ : (w4).cell? ⟨W.heap.size + 1, 3, none⟩ = some (.slice none 0 0) := cell_of_row _ _ 3 _ _ _ rR29_.out
    have Rf0_ : (w4).frozen? ⟨W.heap.size + 1, 0, none⟩ = false := frozen_of_row _ _ 0 _ _ rR29_.out
    have Rf1_ : (w4).frozen? ⟨W.heap.size + 1, 1, none⟩ = false := frozen_of_row _ _ 1 _ _ rR29_.out
    have Rf2_ : (w4).frozen? ⟨W.heap.size + 1, 2, none⟩ = false := frozen_of_row _ _ 2 _ _ rR29_.out
    have Rf3_ : (w4).frozen? ⟨W.heap.size + 1, 3, none⟩ = false := frozen_of_row _ _ 3 _ _ rR29_.out
    have zr_ := Lib.hid (show (((((w4.setCell ⟨W.heap.size + 1, 0, none⟩ (.int .i64 (bits .or .i64 st (wrap64 (2 ^ kn))))).setCell ⟨W.heap.size + 1, 1, none⟩ (.int .i64 (man : Int))).setCell ⟨W.heap.size + 1, 2, none⟩ (.int .i64 (kn : Int))).setCell ⟨W.heap.size + 1, 3, none⟩ (.slice (some ⟨b_, o_, none⟩) 16 qc))).heap[W.heap.size + 1]? = some (.cells #[.int .i64 (bits .or .i64 st (wrap64 (2 ^ kn))), .int .i64 (man : Int), .int .i64 (kn : Int), .slice (some ⟨b_, o_, none⟩) 16 qc] 26 (0, 0)) from (heap_setCell_same _ _ 3 _ _ _ (heap_setCell_same _ _ 2 _ _ _ (heap_setCell_same _ _ 1 _ _ _ (heap_setCell_same _ _ 0 _ _ _ rR29_.out)))))
    have z0_ : (((((w4.setCell ⟨W.heap.size + 1, 0, none⟩ (.int .i64 (bits .or .i64 st (wrap64 (2 ^ kn))))).setCell ⟨W.heap.size + 1, 1, none⟩ (.int .i64 (man : Int))).setCell ⟨W.heap.size + 1, 2, none⟩ (.int .i64 (kn : Int))).setCell ⟨W.heap.size + 1, 3, none⟩ (.slice (some ⟨b_, o_, none⟩) 16 qc))).cell? ⟨W.heap.size + 1, 0, none⟩ = some (.int .i64 (bits .or .i64 st (wrap64 (2 ^ kn)))) := cell_of_row _ _ 0 _ _ _ zr_.out
    have z1_ : (((((w4.setCell ⟨W.heap.size + 1, 0, none⟩ (.int .i64 (bits .or .i64 st (wrap64 (2 ^ kn))))).setCell ⟨W.heap.size + 1, 1, none⟩ (.int .i64 (man : Int))).setCell ⟨W.heap.size + 1, 2, none⟩ (.int .i64 (kn : Int))).setCell ⟨W.heap.size + 1, 3, none⟩ (.slice (some ⟨b_, o_, none⟩) 16 qc))).cell? ⟨W.heap.size + 1, 1, none⟩ = some (.int .i64 (man : Int)) := cell_of_row _ _ 1 _ _ _ zr_.out
    have z2_ : (((((w4.setCell ⟨W.heap.size + 1, 0, none⟩ (.int .i64 (bits .or .i64 st (wrap64 (2 ^ kn))))).setCell ⟨W.heap.size + 1, 1, none⟩ (.int .i64 (man : Int))).setCell ⟨W.heap.size + 1, 2, none⟩ (.int .i64 (kn : Int))).setCell ⟨W.heap.size + 1, 3, none⟩ (.slice (some ⟨b_, o_, none⟩) 16 qc))).cell? ⟨W.heap.size + 1, 2, none⟩ = some (.int .i64 (kn : Int)) := cell_of_row _ _ 2 _ _ _ zr_.out
    have z3_ : (((((w4.setCell ⟨W.heap.size + 1, 0, none⟩ (.int .i64 (bits .or .i64 st (wrap64 (2 ^ kn))))).setCell ⟨W.heap.size + 1, 1, none⟩ (.int .i64 (man : Int))).setCell ⟨W.heap.size + 1, 2, none⟩ (.int .i64 (kn : Int))).setCell ⟨W.heap.size + 1, 3, none⟩ (.slice (some ⟨b_, o_, none⟩) 16 qc))).cell? ⟨W.heap.size + 1, 3, none⟩ = some (.slice (some ⟨b_, o_, none⟩) 16 qc) := cell_of_row _ _ 3 _ _ _ zr_.out
    go_wp2
    refine bodyPost_ret (v := .tuple #[.agg #[.int .i64 (bits .or .i64 st (wrap64 (2 ^ kn))), .int .i64 (man : Int), .int .i64 (kn : Int), .slice (some ⟨b_, o_, none⟩) 16 qc], (.int .i64 sv)]) (by simp [results, go_sem, z0_, z1_, z2_, z3_]) rfl ⟨.slice (some ⟨b_, o_, none⟩) 16 qc, rfl, ?_, ?_⟩
    · exact OwU.wide (lo := W.heap.size + 1 + 1) (by omega) (by first | omega | (simp; omega) | simp) (OwU.grow (OwU.keep (chg_one _ _ _ _) (.inr (by omega)) (OwU.keep (chg_one _ _ _ _) (.inr (by omega)) (OwU.keep (chg_one _ _ _ _) (.inr (by omega)) (OwU.keep (chg_one _ _ _ _) (.inr (by omega)) oC30_.out)))) (gby_drew (gby_refl _ _)))
    · exact gby_drew (gby_setnew (gby_setnew (gby_setnew (gby_setnew G31_.out _ (by dsimp only; omega) _) _ (by dsimp only; omega) _) _ (by dsimp only; omega) _) _ (by dsimp only; omega) _)

set_option maxRecDepth 8000 in
set_option maxHeartbeats 2000000 in
theorem specReport_11 (W : World) (st : Int) (man kn : Nat) (fi : Int) (v : Value) (xs : List Int) (H : RdL shI W v xs) (hl : szL shI xs ≤ 1048576) (hb : LOk st man fi xs) (hma : man ≤ 65535) (hk : kn ≤ 15) (hs0 : (st == 0) = false) (hbit : Hid (bitB man kn = true)) : Calls Try.prog 12 #[vLog st man fi v, .int .i64 (kn : Int)] W (ResIReportError (bits .or .i64 st (wrap64 (2 ^ kn))) man fi xs (-1) W) := by
  have HSL := Lib.hid H
  have HL := Lib.hid hl
  obtain ⟨a1, n1, c1, rfl⟩ := RdL.form H
  clear H hl
  unfold vLog
  have HOK := Lib.hid hb
  clear hb
  have i1_ : (0 : Int) ≤ (kn : Int) := by omega
  have i2_ : ((kn : Int)).toNat = kn := by omega
  have i3_ : (kn : Int) ≤ 64 := by omega
  go_enter Try.func12, Try.ntmps12
  have rA1_ := Lib.hid (show (((W.alloc (.cells #[.int .i64 st, .int .i64 (man : Int), .int .i64 fi, .slice a1 n1 c1] 26)).alloc (.cells #[.int .i64 0, .int .i64 0, .int .i64 0, .slice none 0 0] 26))).heap[W.heap.size]? = some (.cells #[.int .i64 st, .int .i64 (man : Int), .int .i64 fi, .slice a1 n1 c1] 26 (0, 0)) from by rw [heap_alloc_old _ _ (by simp only [World.size_alloc]; omega)]; exact heap_alloc_new _ _)
  have rR2_ := Lib.hid (show (((W.alloc (.cells #[.int .i64 st, .int .i64 (man : Int), .int .i64 fi, .slice a1 n1 c1] 26)).alloc (.cells #[.int .i64 0, .int .i64 0, .int .i64 0, .slice none 0 0] 26))).heap[W.heap.size + 1]? = some (.cells #[.int .i64 0, .int .i64 0, .int .i64 0, .slice none 0 0] 26 (0, 0)) from by exact heap_pair _ _ _)
  have G3_ := Lib.hid (show (W).grownBy (((W.alloc (.cells #[.int .i64 st, .int .i64 (man : Int), .int .i64 fi, .slice a1 n1 c1] 26)).alloc (.cells #[.int .i64 0, .int .i64 0, .int .i64 0, .slice none 0 0] 26))) none from (gby_alloc (gby_alloc (gby_refl _ _) _) _))
  have A_0_ : (((W.alloc (.cells #[.int .i64 st, .int .i64 (man : Int), .int .i64 fi, .slice a1 n1 c1] 26)).alloc (.cells #[.int .i64 0, .int .i64 0, .int .i64 0, .slice none 0 0] 26))).cell? ⟨W.heap.size, 0, none⟩ = some (.int .i64 st) := cell_of_row _ _ 0 _ _ _ rA1_.out
  have A_1_ : (((W.alloc (.cells #[.int .i64 st, .int .i64 (man : Int), .int .i64 fi, .slice a1 n1 c1] 26)).alloc (.cells #[.int .i64 0, .int .i64 0, .int .i64 0, .slice none 0 0] 26))).cell? ⟨W.heap.size, 1, none⟩ = some (.int .i64 (man : Int)) := cell_of_row _ _ 1 _ _ _ rA1_.out
  have A_2_ : (((W.alloc (.cells #[.int .i64 st, .int .i64 (man : Int), .int .i64 fi, .slice a1 n1 c1] 26)).alloc (.cells #[.int .i64 0, .int .i64 0, .int .i64 0, .slice none 0 0] 26))).cell? ⟨W.heap.size, 2, none⟩ = some (.int .i64 fi) := cell_of_row _ _ 2 _ _ _ rA1_.out
  have A_3_ : (((W.alloc (.cells #[.int .i64 st, .int .i64 (man : Int), .int .i64 fi, .slice a1 n1 c1] 26)).alloc (.cells #[.int .i64 0, .int .i64 0, .int .i64 0, .slice none 0 0] 26))).cell? ⟨W.heap.size, 3, none⟩ = some (.slice a1 n1 c1) := cell_of_row _ _ 3 _ _ _ rA1_.out
  have R_0_ : (((W.alloc (.cells #[.int .i64 st, .int .i64 (man : Int), .int .i64 fi, .slice a1 n1 c1] 26)).alloc (.cells #[.int .i64 0, .int .i64 0, .int .i64 0, .slice none 0 0] 26))).cell? ⟨W.heap.size + 1, 0, none⟩ = some (.int .i64 0) := cell_of_row _ _ 0 _ _ _ rR2_.out
  have R_1_ : (((W.alloc (.cells #[.int .i64 st, .int .i64 (man : Int), .int .i64 fi, .slice a1 n1 c1] 26)).alloc (.cells #[.int .i64 0, .int .i64 0, .int .i64 0, .slice none 0 0] 26))).cell? ⟨W.heap.size + 1, 1, none⟩ = some (.int .i64 0) := cell_of_row _ _ 1 _ _ _ rR2_.out
  have R_2_ : (((W.alloc (.cells #[.int .i64 st, .int .i64 (man : Int), .int .i64 fi, .slice a1 n1 c1] 26)).alloc (.cells #[.int .i64 0, .int .i64 0, .int .i64 0, .slice none 0 0] 26))).cell? ⟨W.heap.size + 1, 2, none⟩ = some (.int .i64 0) := cell_of_row _ _ 2 _ _ _ rR2_.out
  have R_3_ : (((W.alloc (.cells #[.int .i64 st, .int .i64 (man : Int), .int .i64 fi, .slice a1 n1 c1] 26)).alloc (.cells #[.int .i64 0, .int .i64 0, .int .i64 0, .slice none 0 0] 26))).cell? ⟨W.heap.size + 1, 3, none⟩ = some (.slice none 0 0) := cell_of_row _ _ 3 _ _ _ rR2_.out
  go_wp2_with fail
  go_at_call 45
  refine (copyLog_d _ _ _ _ _ xs (HSL.out.grow G3_.out) HL.out).mono ?_
  rintro e w1 ⟨d, rfl, o, g⟩
  have sz_ := g.size
  try simp only [World.size_alloc] at sz_ o
  clear A_0_ A_1_ A_2_ A_3_ R_0_ R_1_ R_2_ R_3_
  have rA4_ := Lib.hid (show (w1).heap[W.heap.size]? = some (.cells #[.int .i64 st, .int .i64 (man : Int), .int .i64 fi, .slice a1 n1 c1] 26 (0, 0)) from row_held g rA1_.out)
  clear rA1_
  have rR5_ := Lib.hid (show (w1).heap[W.heap.size + 1]? = some (.cells #[.int .i64 0, .int .i64 0, .int .i64 0, .slice none 0 0] 26 (0, 0)) from row_held g rR2_.out)
  clear rR2_
  have G6_ := Lib.hid (show (W).grownBy (w1) none from gby_trans G3_.out g)
  clear g
  obtain ⟨qp, qn, qc, hv2⟩ := RdL.form (OwU.rd o)
  subst hv2
  unfold vLog
  have oC7_ := Lib.hid (show OwU (w1) (W.heap.size + 1 + 1) (w1.heap.size) [] [own shI (.slice qp qn qc) xs] from o)
  clear o
  have al_ : (w1).grownBy ((w1).alloc (.cells #[.int .i64 st, .int .i64 (man : Int), .int .i64 fi, .slice qp qn qc] 26)) none := gby_alloc (gby_refl _ _) _
  have rA8_ := Lib.hid (show ((w1.alloc (.cells #[.int .i64 st, .int .i64 (man : Int), .int .i64 fi, .slice qp qn qc] 26))).heap[W.heap.size]? = some (.cells #[.int .i64 st, .int .i64 (man : Int), .int .i64 fi, .slice a1 n1 c1] 26 (0, 0)) from row_held al_ rA4_.out)
  clear rA4_
  have rR9_ := Lib.hid (show ((w1.alloc (.cells #[.int .i64 st, .int .i64 (man : Int), .int .i64 fi, .slice qp qn qc] 26))).heap[W.heap.size + 1]? = some (.cells #[.int .i64 0, .int .i64 0, .int .i64 0, .slice none 0 0] 26 (0, 0)) from row_held al_ rR5_.out)
  clear rR5_
  have oC10_ := Lib.hid (show OwU ((w1.alloc (.cells #[.int .i64 st, .int .i64 (man : Int), .int .i64 fi, .slice qp qn qc] 26))) (W.heap.size + 1 + 1) (w1.heap.size) [] [own shI (.slice qp qn qc) xs] from OwU.grow oC7_.out al_)
  clear oC7_
  have G11_ := Lib.hid (show (W).grownBy ((w1.alloc (.cells #[.int .i64 st, .int .i64 (man : Int), .int .i64 fi, .slice qp qn qc] 26))) none from gby_trans G6_.out al_)
  have rX12_ := Lib.hid (show ((w1.alloc (.cells #[.int .i64 st, .int .i64 (man : Int), .int .i64 fi, .slice qp qn qc] 26))).heap[w1.heap.size]? = some (.cells #[.int .i64 st, .int .i64 (man : Int), .int .i64 fi, .slice qp qn qc] 26 (0, 0)) from heap_alloc_new _ _)
  clear al_
  have A_0_ : ((w1.alloc (.cells #[.int .i64 st, .int .i64 (man : Int), .int .i64 fi, .slice qp qn qc] 26))).cell? ⟨W.heap.size, 0, none⟩ = some (.int .i64 st) := cell_of_row _ _ 0 _ _ _ rA8_.out
  have A_1_ : ((w1.alloc (.cells #[.int .i64 st, .int .i64 (man : Int), .int .i64 fi, .slice qp qn qc] 26))).cell? ⟨W.heap.size, 1, none⟩ = some (.int .i64 (man : Int)) := cell_of_row _ _ 1 _ _ _ rA8_.out
  have A_2_ : ((w1.alloc (.cells #[.int .i64 st, .int .i64 (man : Int), .int .i64 fi, .slice qp qn qc] 26))).cell? ⟨W.heap.size, 2, none⟩ = some (.int .i64 fi) := cell_of_row _ _ 2 _ _ _ rA8_.out
  have A_3_ : ((w1.alloc (.cells #[.int .i64 st, .int .i64 (man : Int), .int .i64 fi, .slice qp qn qc] 26))).cell? ⟨W.heap.size, 3, none⟩ = some (.slice a1 n1 c1) := cell_of_row _ _ 3 _ _ _ rA8_.out
  have R_0_ : ((w1.alloc (.cells #[.int .i64 st, .int .i64 (man : Int), .int .i64 fi, .slice qp qn qc] 26))).cell? ⟨W.heap.size + 1, 0, none⟩ = some (.int .i64 0) := cell_of_row _ _ 0 _ _ _ rR9_.out
  have R_1_ : ((w1.alloc (.cells #[.int .i64 st, .int .i64 (man : Int), .int .i64 fi, .slice qp qn qc] 26))).cell? ⟨W.heap.size + 1, 1, none⟩ = some (.int .i64 0) := cell_of_row _ _ 1 _ _ _ rR9_.out
  have R_2_ : ((w1.alloc (.cells #[.int .i64 st, .int .i64 (man : Int), .int .i64 fi, .slice qp qn qc] 26))).cell? ⟨W.heap.size + 1, 2, none⟩ = some (.int .i64 0) := cell_of_row _ _ 2 _ _ _ rR9_.out
  have R_3_ : ((w1.alloc (.cells #[.int .i64 st, .int .i64 (man : Int), .int .i64 fi, .slice qp qn qc] 26))).cell? ⟨W.heap.size + 1, 3, none⟩ = some (.slice none 0 0) := cell_of_row _ _ 3 _ _ _ rR9_.out
  have X_0_ : ((w1.alloc (.cells #[.int .i64 st, .int .i64 (man : Int), .int .i64 fi, .slice qp qn qc] 26))).cell? ⟨w1.heap.size, 0, none⟩ = some (.int .i64 st) := cell_of_row _ _ 0 _ _ _ rX12_.out
  have X_1_ : ((w1.alloc (.cells #[.int .i64 st, .int .i64 (man : Int), .int .i64 fi, .slice qp qn qc] 26))).cell? ⟨w1.heap.size, 1, none⟩ = some (.int .i64 (man : Int)) := cell_of_row _ _ 1 _ _ _ rX12_.out
  have X_2_ : ((w1.alloc (.cells #[.int .i64 st, .int .i64 (man : Int), .int .i64 fi, .slice qp qn qc] 26))).cell? ⟨w1.heap.size, 2, none⟩ = some (.int .i64 fi) := cell_of_row _ _ 2 _ _ _ rX12_.out
  have X_3_ : ((w1.alloc (.cells #[.int .i64 st, .int .i64 (man : Int), .int .i64 fi, .slice qp qn qc] 26))).cell? ⟨w1.heap.size, 3, none⟩ = some (.slice qp qn qc) := cell_of_row _ _ 3 _ _ _ rX12_.out
  go_wp2_with fail
  go_at_call 46
  refine (specLog_yes _ _ _ _ _ xs (HSL.out.grow G11_.out) HL.out HOK.out).mono ?_
  rintro e w2 ⟨rfl, g⟩
  have szl_ := g.size
  try simp only [World.size_setCell, World.size_alloc] at szl_
  clear A_0_ A_1_ A_2_ A_3_ R_0_ R_1_ R_2_ R_3_ X_0_ X_1_ X_2_ X_3_
  have rA13_ := Lib.hid (show (w2).heap[W.heap.size]? = some (.cells #[.int .i64 st, .int .i64 (man : Int), .int .i64 fi, .slice a1 n1 c1] 26 (0, 0)) from row_held g rA8_.out)
  clear rA8_
  have rR14_ := Lib.hid (show (w2).heap[W.heap.size + 1]? = some (.cells #[.int .i64 0, .int .i64 0, .int .i64 0, .slice none 0 0] 26 (0, 0)) from row_held g rR9_.out)
  clear rR9_
  have rX15_ := Lib.hid (show (w2).heap[w1.heap.size]? = some (.cells #[.int .i64 st, .int .i64 (man : Int), .int .i64 fi, .slice qp qn qc] 26 (0, 0)) from row_held g rX12_.out)
  clear rX12_
  have oC16_ := Lib.hid (show OwU (w2) (W.heap.size + 1 + 1) (w1.heap.size) [] [own shI (.slice qp qn qc) xs] from OwU.grow oC10_.out g)
  clear oC10_
  have G17_ := Lib.hid (show (W).grownBy (w2) none from gby_trans G11_.out g)
  clear g
  have A_0_ : (w2).cell? ⟨W.heap.size, 0, none⟩ = some (.int .i64 st) := cell_of_row _ _ 0 _ _ _ rA13_.out
  have A_1_ : (w2).cell? ⟨W.heap.size, 1, none⟩ = some (.int .i64 (man : Int)) := cell_of_row _ _ 1 _ _ _ rA13_.out
  have A_2_ : (w2).cell? ⟨W.heap.size, 2, none⟩ = some (.int .i64 fi) := cell_of_row _ _ 2 _ _ _ rA13_.out
  have A_3_ : (w2).cell? ⟨W.heap.size, 3, none⟩ = some (.slice a1 n1 c1) := cell_of_row _ _ 3 _ _ _ rA13_.out
  have R_0_ : (w2).cell? ⟨W.heap.size + 1, 0, none⟩ = some (.int .i64 0) := cell_of_row _ _ 0 _ _ _ rR14_.out
  have R_1_ : (w2).cell? ⟨W.heap.size + 1, 1, none⟩ = some (.int .i64 0) := cell_of_row _ _ 1 _ _ _ rR14_.out
  have R_2_ : (w2).cell? ⟨W.heap.size + 1, 2, none⟩ = some (.int .i64 0) := cell_of_row _ _ 2 _ _ _ rR14_.out
  have R_3_ : (w2).cell? ⟨W.heap.size + 1, 3, none⟩ = some (.slice none 0 0) := cell_of_row _ _ 3 _ _ _ rR14_.out
  have X_0_ : (w2).cell? ⟨w1.heap.size, 0, none⟩ = some (.int .i64 st) := cell_of_row _ _ 0 _ _ _ rX15_.out
  have X_1_ : (w2).cell? ⟨w1.heap.size, 1, none⟩ = some (.int .i64 (man : Int)) := cell_of_row _ _ 1 _ _ _ rX15_.out
  have X_2_ : (w2).cell? ⟨w1.heap.size, 2, none⟩ = some (.int .i64 fi) := cell_of_row _ _ 2 _ _ _ rX15_.out
  have X_3_ : (w2).cell? ⟨w1.heap.size, 3, none⟩ = some (.slice qp qn qc) := cell_of_row _ _ 3 _ _ _ rX15_.out
  go_wp2_with fail
  go_at_call 47
  refine (in_yes _ _ _ _ (by omega) (by omega)).mono ?_
  rintro e w3_ ⟨rfl, rfl⟩
  clear A_0_ A_1_ A_2_ A_3_ R_0_ R_1_ R_2_ R_3_ X_0_ X_1_ X_2_ X_3_
  have A_0_ : (w2).cell? ⟨W.heap.size, 0, none⟩ = some (.int .i64 st) := cell_of_row _ _ 0 _ _ _ rA13_.out
  have A_1_ : (w2).cell? ⟨W.heap.size, 1, none⟩ = some (.int .i64 (man : Int)) := cell_of_row _ _ 1 _ _ _ rA13_.out
  have A_2_ : (w2).cell? ⟨W.heap.size, 2, none⟩ = some (.int .i64 fi) := cell_of_row _ _ 2 _ _ _ rA13_.out
  have A_3_ : (w2).cell? ⟨W.heap.size, 3, none⟩ = some (.slice a1 n1 c1) := cell_of_row _ _ 3 _ _ _ rA13_.out
  have R_0_ : (w2).cell? ⟨W.heap.size + 1, 0, none⟩ = some (.int .i64 0) := cell_of_row _ _ 0 _ _ _ rR14_.out
  have R_1_ : (w2).cell? ⟨W.heap.size + 1, 1, none⟩ = some (.int .i64 0) := cell_of_row _ _ 1 _ _ _ rR14_.out
  have R_2_ : (w2).cell? ⟨W.heap.size + 1, 2, none⟩ = some (.int .i64 0) := cell_of_row _ _ 2 _ _ _ rR14_.out
  have R_3_ : (w2).cell? ⟨W.heap.size + 1, 3, none⟩ = some (.slice none 0 0) := cell_of_row _ _ 3 _ _ _ rR14_.out
  have X_0_ : (w2).cell? ⟨w1.heap.size, 0, none⟩ = some (.int .i64 st) := cell_of_row _ _ 0 _ _ _ rX15_.out
  have X_1_ : (w2).cell? ⟨w1.heap.size, 1, none⟩ = some (.int .i64 (man : Int)) := cell_of_row _ _ 1 _ _ _ rX15_.out
  have X_2_ : (w2).cell? ⟨w1.heap.size, 2, none⟩ = some (.int .i64 fi) := cell_of_row _ _ 2 _ _ _ rX15_.out
  have X_3_ : (w2).cell? ⟨w1.heap.size, 3, none⟩ = some (.slice qp qn qc) := cell_of_row _ _ 3 _ _ _ rX15_.out
  have Xf0_ : (w2).frozen? ⟨w1.heap.size, 0, none⟩ = false := frozen_of_row _ _ 0 _ _ rX15_.out
  have Xf1_ : (w2).frozen? ⟨w1.heap.size, 1, none⟩ = false := frozen_of_row _ _ 1 _ _ rX15_.out
  have Xf2_ : (w2).frozen? ⟨w1.heap.size, 2, none⟩ = false := frozen_of_row _ _ 2 _ _ rX15_.out
  have Xf3_ : (w2).frozen? ⟨w1.heap.size, 3, none⟩ = false := frozen_of_row _ _ 3 _ _ rX15_.out
  have hna_ : ¬ w1.heap.size = W.heap.size := by omega
  have hna2_ : ¬ W.heap.size = w1.heap.size := by omega
  go_wp2_with fail
  go_still_tail 6, (by kernel_rfl)
  change wpList _ _ _ _ _ (w2).drew
  have gd_ : (w2).grownBy (w2).drew none := gby_drew (gby_refl _ _)
  generalize (w2).drew = wd1 at gd_ ⊢
  have szwd1 := gd_.size
  try simp only [World.size_setCell, World.size_alloc] at szwd1
  have rA18_ := Lib.hid (show (wd1).heap[W.heap.size]? = some (.cells #[.int .i64 st, .int .i64 (man : Int), .int .i64 fi, .slice a1 n1 c1] 26 (0, 0)) from row_held gd_ rA13_.out)
  clear rA13_
  have rR19_ := Lib.hid (show (wd1).heap[W.heap.size + 1]? = some (.cells #[.int .i64 0, .int .i64 0, .int .i64 0, .slice none 0 0] 26 (0, 0)) from row_held gd_ rR14_.out)
  clear rR14_
  have rX20_ := Lib.hid (show (wd1).heap[w1.heap.size]? = some (.cells #[.int .i64 st, .int .i64 (man : Int), .int .i64 fi, .slice qp qn qc] 26 (0, 0)) from row_held gd_ rX15_.out)
  clear rX15_
  have oC21_ := Lib.hid (show OwU (wd1) (W.heap.size + 1 + 1) (w1.heap.size) [] [own shI (.slice qp qn qc) xs] from OwU.grow oC16_.out gd_)
  clear oC16_
  have G22_ := Lib.hid (show (W).grownBy (wd1) none from gby_trans G17_.out gd_)
  clear gd_
  have A_0_ : (wd1).cell? ⟨W.heap.size, 0, none⟩ = some (.int .i64 st) := cell_of_row _ _ 0 _ _ _ rA18_.out
  have A_1_ : (wd1).cell? ⟨W.heap.size, 1, none⟩ = some (.int .i64 (man : Int)) := cell_of_row _ _ 1 _ _ _ rA18_.out
  have A_2_ : (wd1).cell? ⟨W.heap.size, 2, none⟩ = some (.int .i64 fi) := cell_of_row _ _ 2 _ _ _ rA18_.out
  have A_3_ : (wd1).cell? ⟨W.heap.size, 3, none⟩ = some (.slice a1 n1 c1) := cell_of_row _ _ 3 _ _ _ rA18_.out
  have R_0_ : (wd1).cell? ⟨W.heap.size + 1, 0, none⟩ = some (.int .i64 0) := cell_of_row _ _ 0 _ _ _ rR19_.out
  have R_1_ : (wd1).cell? ⟨W.heap.size + 1, 1, none⟩ = some (.int .i64 0) := cell_of_row _ _ 1 _ _ _ rR19_.out
  have R_2_ : (wd1).cell? ⟨W.heap.size + 1, 2, none⟩ = some (.int .i64 0) := cell_of_row _ _ 2 _ _ _ rR19_.out
  have R_3_ : (wd1).cell? ⟨W.heap.size + 1, 3, none⟩ = some (.slice none 0 0) := cell_of_row _ _ 3 _ _ _ rR19_.out
  have X_0_ : (wd1).cell? ⟨w1.heap.size, 0, none⟩ = some (.int .i64 st) := cell_of_row _ _ 0 _ _ _ rX20_.out
  have X_1_ : (wd1).cell? ⟨w1.heap.size, 1, none⟩ = some (.int .i64 (man : Int)) := cell_of_row _ _ 1 _ _ _ rX20_.out
  have X_2_ : (wd1).cell? ⟨w1.heap.size, 2, none⟩ = some (.int .i64 fi) := cell_of_row _ _ 2 _ _ _ rX20_.out
  have X_3_ : (wd1).cell? ⟨w1.heap.size, 3, none⟩ = some (.slice qp qn qc) := cell_of_row _ _ 3 _ _ _ rX20_.out
  have Xf0_ : (wd1).frozen? ⟨w1.heap.size, 0, none⟩ = false := frozen_of_row _ _ 0 _ _ rX20_.out
  have Xf1_ : (wd1).frozen? ⟨w1.heap.size, 1, none⟩ = false := frozen_of_row _ _ 1 _ _ rX20_.out
  have Xf2_ : (wd1).frozen? ⟨w1.heap.size, 2, none⟩ = false := frozen_of_row _ _ 2 _ _ rX20_.out
  have Xf3_ : (wd1).frozen? ⟨w1.heap.size, 3, none⟩ = false := frozen_of_row _ _ 3 _ _ rX20_.out
  have hand := bit_and1 man kn hma hbit.out
  clear A_0_ A_1_ A_2_ A_3_ R_0_ R_1_ R_2_ R_3_ X_0_ X_1_ X_2_ X_3_ Xf0_ Xf1_ Xf2_ Xf3_
  have A_0_ : (wd1).cell? ⟨W.heap.size, 0, none⟩ = some (.int .i64 st) := cell_of_row _ _ 0 _ _ _ rA18_.out
  have A_1_ : (wd1).cell? ⟨W.heap.size, 1, none⟩ = some (.int .i64 (man : Int)) := cell_of_row _ _ 1 _ _ _ rA18_.out
  have A_2_ : (wd1).cell? ⟨W.heap.size, 2, none⟩ = some (.int .i64 fi) := cell_of_row _ _ 2 _ _ _ rA18_.out
  have A_3_ : (wd1).cell? ⟨W.heap.size, 3, none⟩ = some (.slice a1 n1 c1) := cell_of_row _ _ 3 _ _ _ rA18_.out
  have R_0_ : (wd1).cell? ⟨W.heap.size + 1, 0, none⟩ = some (.int .i64 0) := cell_of_row _ _ 0 _ _ _ rR19_.out
  have R_1_ : (wd1).cell? ⟨W.heap.size + 1, 1, none⟩ = some (.int .i64 0) := cell_of_row _ _ 1 _ _ _ rR19_.out
  have R_2_ : (wd1).cell? ⟨W.heap.size + 1, 2, none⟩ = some (.int .i64 0) := cell_of_row _ _ 2 _ _ _ rR19_.out
  have R_3_ : (wd1).cell? ⟨W.heap.size + 1, 3, none⟩ = some (.slice none 0 0) := cell_of_row _ _ 3 _ _ _ rR19_.out
  have Rf0_ : (wd1).frozen? ⟨W.heap.size + 1, 0, none⟩ = false := frozen_of_row _ _ 0 _ _ rR19_.out
  have Rf1_ : (wd1).frozen? ⟨W.heap.size + 1, 1, none⟩ = false := frozen_of_row _ _ 1 _ _ rR19_.out
  have Rf2_ : (wd1).frozen? ⟨W.heap.size + 1, 2, none⟩ = false := frozen_of_row _ _ 2 _ _ rR19_.out
  have Rf3_ : (wd1).frozen? ⟨W.heap.size + 1, 3, none⟩ = false := frozen_of_row _ _ 3 _ _ rR19_.out
  have X_0_ : (wd1).cell? ⟨w1.heap.size, 0, none⟩ = some (.int .i64 st) := cell_of_row _ _ 0 _ _ _ rX20_.out
  have X_1_ : (wd1).cell? ⟨w1.heap.size, 1, none⟩ = some (.int .i64 (man : Int)) := cell_of_row _ _ 1 _ _ _ rX20_.out
  have X_2_ : (wd1).cell? ⟨w1.heap.size, 2, none⟩ = some (.int .i64 fi) := cell_of_row _ _ 2 _ _ _ rX20_.out
  have X_3_ : (wd1).cell? ⟨w1.heap.size, 3, none⟩ = some (.slice qp qn qc) := cell_of_row _ _ 3 _ _ _ rX20_.out
  have Xf0_ : (wd1).frozen? ⟨w1.heap.size, 0, none⟩ = false := frozen_of_row _ _ 0 _ _ rX20_.out
  have Xf1_ : (wd1).frozen? ⟨w1.heap.size, 1, none⟩ = false := frozen_of_row _ _ 1 _ _ rX20_.out
  have Xf2_ : (wd1).frozen? ⟨w1.heap.size, 2, none⟩ = false := frozen_of_row _ _ 2 _ _ rX20_.out
  have Xf3_ : (wd1).frozen? ⟨w1.heap.size, 3, none⟩ = false := frozen_of_row _ _ 3 _ _ rX20_.out
  have zr_ := Lib.hid (show ((((((wd1.setCell ⟨w1.heap.size, 0, none⟩ (.int .i64 (bits .or .i64 st (wrap64 (2 ^ kn))))).setCell ⟨W.heap.size + 1, 0, none⟩ (.int .i64 (bits .or .i64 st (wrap64 (2 ^ kn))))).setCell ⟨W.heap.size + 1, 1, none⟩ (.int .i64 (man : Int))).setCell ⟨W.heap.size + 1, 2, none⟩ (.int .i64 fi)).setCell ⟨W.heap.size + 1, 3, none⟩ (.slice qp qn qc))).heap[W.heap.size + 1]? = some (.cells #[.int .i64 (bits .or .i64 st (wrap64 (2 ^ kn))), .int .i64 (man : Int), .int .i64 fi, .slice qp qn qc] 26 (0, 0)) from (heap_setCell_same _ _ 3 _ _ _ (heap_setCell_same _ _ 2 _ _ _ (heap_setCell_same _ _ 1 _ _ _ (heap_setCell_same _ _ 0 _ _ _ (set_far rR19_.out (by dsimp only; omega)))))))
  have z0_ : ((((((wd1.setCell ⟨w1.heap.size, 0, none⟩ (.int .i64 (bits .or .i64 st (wrap64 (2 ^ kn))))).setCell ⟨W.heap.size + 1, 0, none⟩ (.int .i64 (bits .or .i64 st (wrap64 (2 ^ kn))))).setCell ⟨W.heap.size + 1, 1, none⟩ (.int .i64 (man : Int))).setCell ⟨W.heap.size + 1, 2, none⟩ (.int .i64 fi)).setCell ⟨W.heap.size + 1, 3, none⟩ (.slice qp qn qc))).cell? ⟨W.heap.size + 1, 0, none⟩ = some (.int .i64 (bits .or .i64 st (wrap64 (2 ^ kn)))) := cell_of_row _ _ 0 _ _ _ zr_.out
  have z1_ : ((((((wd1.setCell ⟨w1.heap.size, 0, none⟩ (.int .i64 (bits .or .i64 st (wrap64 (2 ^ kn))))).setCell ⟨W.heap.size + 1, 0, none⟩ (.int .i64 (bits .or .i64 st (wrap64 (2 ^ kn))))).setCell ⟨W.heap.size + 1, 1, none⟩ (.int .i64 (man : Int))).setCell ⟨W.heap.size + 1, 2, none⟩ (.int .i64 fi)).setCell ⟨W.heap.size + 1, 3, none⟩ (.slice qp qn qc))).cell? ⟨W.heap.size + 1, 1, none⟩ = some (.int .i64 (man : Int)) := cell_of_row _ _ 1 _ _ _ zr_.out
  have z2_ : ((((((wd1.setCell ⟨w1.heap.size, 0, none⟩ (.int .i64 (bits .or .i64 st (wrap64 (2 ^ kn))))).setCell ⟨W.heap.size + 1, 0, none⟩ (.int .i64 (bits .or .i64 st (wrap64 (2 ^ kn))))).setCell ⟨W.heap.size + 1, 1, none⟩ (.int .i64 (man : Int))).setCell ⟨W.heap.size + 1, 2, none⟩ (.int .i64 fi)).setCell ⟨W.heap.size + 1, 3, none⟩ (.slice qp qn qc))).cell? ⟨W.heap.size + 1, 2, none⟩ = some (.int .i64 fi) := cell_of_row _ _ 2 _ _ _ zr_.out
  have z3_ : ((((((wd1.setCell ⟨w1.heap.size, 0, none⟩ (.int .i64 (bits .or .i64 st (wrap64 (2 ^ kn))))).setCell ⟨W.heap.size + 1, 0, none⟩ (.int .i64 (bits .or .i64 st (wrap64 (2 ^ kn))))).setCell ⟨W.heap.size + 1, 1, none⟩ (.int .i64 (man : Int))).setCell ⟨W.heap.size + 1, 2, none⟩ (.int .i64 fi)).setCell ⟨W.heap.size + 1, 3, none⟩ (.slice qp qn qc))).cell? ⟨W.heap.size + 1, 3, none⟩ = some (.slice qp qn qc) := cell_of_row _ _ 3 _ _ _ zr_.out
  go_wp2
  refine bodyPost_ret (v := .tuple #[.agg #[.int .i64 (bits .or .i64 st (wrap64 (2 ^ kn))), .int .i64 (man : Int), .int .i64 fi, .slice qp qn qc], (.int .i64 (-1))]) (by simp [results, go_sem, z0_, z1_, z2_, z3_]) rfl ⟨_, rfl, ?_, ?_⟩
  · exact OwU.wide (lo := W.heap.size + 1 + 1) (by omega) (by simp only [World.size_setCell]; omega) (OwU.keep (chg_one _ _ _ _) (by omega) (OwU.keep (chg_one _ _ _ _) (by omega) (OwU.keep (chg_one _ _ _ _) (by omega) (OwU.keep (chg_one _ _ _ _) (by omega) (OwU.keep (chg_one _ _ _ _) (by omega) oC21_.out)))))
  · exact (gby_setnew (gby_setnew (gby_setnew (gby_setnew (gby_setnew G22_.out _ (by dsimp only; omega) _) _ (by dsimp only; omega) _) _ (by dsimp only; omega) _) _ (by dsimp only; omega) _) _ (by dsimp only; omega) _)

set_option maxRecDepth 8000 in
set_option maxHeartbeats 2000000 in
theorem specReport_10 (W : World) (st : Int) (man kn : Nat) (fi : Int) (v : Value) (xs : List Int) (H : RdL shI W v xs) (hl : szL shI xs ≤ 1048576) (hb : LOk st man fi xs) (hma : man ≤ 65535) (hk : kn ≤ 15) (hs0 : (st == 0) = false) (hbit : Hid (bitB man kn = false)) (sv : Int) (hsv : Hid (sv = xs.getD kn 0)) : Calls Try.prog 12 #[vLog st man fi v, .int .i64 (kn : Int)] W (ResIReportError (bits .or .i64 st (wrap64 (2 ^ kn))) man fi xs sv W) := by
  have HSL := Lib.hid H
  have HL := Lib.hid hl
  obtain ⟨a1, n1, c1, rfl⟩ := RdL.form H
  clear H hl
  unfold vLog
  have HOK := Lib.hid hb
  clear hb
  have i1_ : (0 : Int) ≤ (kn : Int) := by omega
  have i2_ : ((kn : Int)).toNat = kn := by omega
  have i3_ : (kn : Int) ≤ 64 := by omega
  go_enter Try.func12, Try.ntmps12
  have rA1_ := Lib.hid (show (((W.alloc (.cells #[.int .i64 st, .int .i64 (man : Int), .int .i64 fi, .slice a1 n1 c1] 26)).alloc (.cells #[.int .i64 0, .int .i64 0, .int .i64 0, .slice none 0 0] 26))).heap[W.heap.size]? = some (.cells #[.int .i64 st, .int .i64 (man : Int), .int .i64 fi, .slice a1 n1 c1] 26 (0, 0)) from by rw [heap_alloc_old _ _ (by simp only [World.size_alloc]; omega)]; exact heap_alloc_new _ _)
  have rR2_ := Lib.hid (show (((W.alloc (.cells #[.int .i64 st, .int .i64 (man : Int), .int .i64 fi, .slice a1 n1 c1] 26)).alloc (.cells #[.int .i64 0, .int .i64 0, .int .i64 0, .slice none 0 0] 26))).heap[W.heap.size + 1]? = some (.cells #[.int .i64 0, .int .i64 0, .int .i64 0, .slice none 0 0] 26 (0, 0)) from by exact heap_pair _ _ _)
  have G3_ := Lib.hid (show (W).grownBy (((W.alloc (.cells #[.int .i64 st, .int .i64 (man : Int), .int .i64 fi, .slice a1 n1 c1] 26)).alloc (.cells #[.int .i64 0, .int .i64 0, .int .i64 0, .slice none 0 0] 26))) none from (gby_alloc (gby_alloc (gby_refl _ _) _) _))
  have A_0_ : (((W.alloc (.cells #[.int .i64 st, .int .i64 (man : Int), .int .i64 fi, .slice a1 n1 c1] 26)).alloc (.cells #[.int .i64 0, .int .i64 0, .int .i64 0, .slice none 0 0] 26))).cell? ⟨W.heap.size, 0, none⟩ = some (.int .i64 st) := cell_of_row _ _ 0 _ _ _ rA1_.out
  have A_1_ : (((W.alloc (.cells #[.int .i64 st, .int .i64 (man : Int), .int .i64 fi, .slice a1 n1 c1] 26)).alloc (.cells #[.int .i64 0, .int .i64 0, .int .i64 0, .slice none 0 0] 26))).cell? ⟨W.heap.size, 1, none⟩ = some (.int .i64 (man : Int)) := cell_of_row _ _ 1 _ _ _ rA1_.out
  have A_2_ : (((W.alloc (.cells #[.int .i64 st, .int .i64 (man : Int), .int .i64 fi, .slice a1 n1 c1] 26)).alloc (.cells #[.int .i64 0, .int .i64 0, .int .i64 0, .slice none 0 0] 26))).cell? ⟨W.heap.size, 2, none⟩ = some (.int .i64 fi) := cell_of_row _ _ 2 _ _ _ rA1_.out
  have A_3_ : (((W.alloc (.cells #[.int .i64 st, .int .i64 (man : Int), .int .i64 fi, .slice a1 n1 c1] 26)).alloc (.cells #[.int .i64 0, .int .i64 0, .int .i64 0, .slice none 0 0] 26))).cell? ⟨W.heap.size, 3, none⟩ = some (.slice a1 n1 c1) := cell_of_row _ _ 3 _ _ _ rA1_.out
  have R_0_ : (((W.alloc (.cells #[.int .i64 st, .int .i64 (man : Int), .int .i64 fi, .slice a1 n1 c1] 26)).alloc (.cells #[.int .i64 0, .int .i64 0, .int .i64 0, .slice none 0 0] 26))).cell? ⟨W.heap.size + 1, 0, none⟩ = some (.int .i64 0) := cell_of_row _ _ 0 _ _ _ rR2_.out
  have R_1_ : (((W.alloc (.cells #[.int .i64 st, .int .i64 (man : Int), .int .i64 fi, .slice a1 n1 c1] 26)).alloc (.cells #[.int .i64 0, .int .i64 0, .int .i64 0, .slice none 0 0] 26))).cell? ⟨W.heap.size + 1, 1, none⟩ = some (.int .i64 0) := cell_of_row _ _ 1 _ _ _ rR2_.out
  have R_2_ : (((W.alloc (.cells #[.int .i64 st, .int .i64 (man : Int), .int .i64 fi, .slice a1 n1 c1] 26)).alloc (.cells #[.int .i64 0, .int .i64 0, .int .i64 0, .slice none 0 0] 26))).cell? ⟨W.heap.size + 1, 2, none⟩ = some (.int .i64 0) := cell_of_row _ _ 2 _ _ _ rR2_.out
  have R_3_ : (((W.alloc (.cells #[.int .i64 st, .int .i64 (man : Int), .int .i64 fi, .slice a1 n1 c1] 26)).alloc (.cells #[.int .i64 0, .int .i64 0, .int .i64 0, .slice none 0 0] 26))).cell? ⟨W.heap.size + 1, 3, none⟩ = some (.slice none 0 0) := cell_of_row _ _ 3 _ _ _ rR2_.out
  go_wp2_with fail
  go_at_call 45
  refine (copyLog_d _ _ _ _ _ xs (HSL.out.grow G3_.out) HL.out).mono ?_
  rintro e w1 ⟨d, rfl, o, g⟩
  have sz_ := g.size
  try simp only [World.size_alloc] at sz_ o
  clear A_0_ A_1_ A_2_ A_3_ R_0_ R_1_ R_2_ R_3_
  have rA4_ := Lib.hid (show (w1).heap[W.heap.size]? = some (.cells #[.int .i64 st, .int .i64 (man : Int), .int .i64 fi, .slice a1 n1 c1] 26 (0, 0)) from row_held g rA1_.out)
  clear rA1_
  have rR5_ := Lib.hid (show (w1).heap[W.heap.size + 1]? = some (.cells #[.int .i64 0, .int .i64 0, .int .i64 0, .slice none 0 0] 26 (0, 0)) from row_held g rR2_.out)
  clear rR2_
  have G6_ := Lib.hid (show (W).grownBy (w1) none from gby_trans G3_.out g)
  clear g
  obtain ⟨qp, qn, qc, hv2⟩ := RdL.form (OwU.rd o)
  subst hv2
  unfold vLog
  have oC7_ := Lib.hid (show OwU (w1) (W.heap.size + 1 + 1) (w1.heap.size) [] [own shI (.slice qp qn qc) xs] from o)
  clear o
  have al_ : (w1).grownBy ((w1).alloc (.cells #[.int .i64 st, .int .i64 (man : Int), .int .i64 fi, .slice qp qn qc] 26)) none := gby_alloc (gby_refl _ _) _
  have rA8_ := Lib.hid (show ((w1.alloc (.cells #[.int .i64 st, .int .i64 (man : Int), .int .i64 fi, .slice qp qn qc] 26))).heap[W.heap.size]? = some (.cells #[.int .i64 st, .int .i64 (man : Int), .int .i64 fi, .slice a1 n1 c1] 26 (0, 0)) from row_held al_ rA4_.out)
  clear rA4_
  have rR9_ := Lib.hid (show ((w1.alloc (.cells #[.int .i64 st, .int .i64 (man : Int), .int .i64 fi, .slice qp qn qc] 26))).heap[W.heap.size + 1]? = some (.cells #[.int .i64 0, .int .i64 0, .int .i64 0, .slice none 0 0] 26 (0, 0)) from row_held al_ rR5_.out)
  clear rR5_
  have oC10_ := Lib.hid (show OwU ((w1.alloc (.cells #[.int .i64 st, .int .i64 (man : Int), .int .i64 fi, .slice qp qn qc] 26))) (W.heap.size + 1 + 1) (w1.heap.size) [] [own shI (.slice qp qn qc) xs] from OwU.grow oC7_.out al_)
  clear oC7_
  have G11_ := Lib.hid (show (W).grownBy ((w1.alloc (.cells #[.int .i64 st, .int .i64 (man : Int), .int .i64 fi, .slice qp qn qc] 26))) none from gby_trans G6_.out al_)
  have rX12_ := Lib.hid (show ((w1.alloc (.cells #[.int .i64 st, .int .i64 (man : Int), .int .i64 fi, .slice qp qn qc] 26))).heap[w1.heap.size]? = some (.cells #[.int .i64 st, .int .i64 (man : Int), .int .i64 fi, .slice qp qn qc] 26 (0, 0)) from heap_alloc_new _ _)
  clear al_
  have A_0_ : ((w1.alloc (.cells #[.int .i64 st, .int .i64 (man : Int), .int .i64 fi, .slice qp qn qc] 26))).cell? ⟨W.heap.size, 0, none⟩ = some (.int .i64 st) := cell_of_row _ _ 0 _ _ _ rA8_.out
  have A_1_ : ((w1.alloc (.cells #[.int .i64 st, .int .i64 (man : Int), .int .i64 fi, .slice qp qn qc] 26))).cell? ⟨W.heap.size, 1, none⟩ = some (.int .i64 (man : Int)) := cell_of_row _ _ 1 _ _ _ rA8_.out
  have A_2_ : ((w1.alloc (.cells #[.int .i64 st, .int .i64 (man : Int), .int .i64 fi, .slice qp qn qc] 26))).cell? ⟨W.heap.size, 2, none⟩ = some (.int .i64 fi) := cell_of_row _ _ 2 _ _ _ rA8_.out
  have A_3_ : ((w1.alloc (.cells #[.int .i64 st, .int .i64 (man : Int), .int .i64 fi, .slice qp qn qc] 26))).cell? ⟨W.heap.size, 3, none⟩ = some (.slice a1 n1 c1) := cell_of_row _ _ 3 _ _ _ rA8_.out
  have R_0_ : ((w1.alloc (.cells #[.int .i64 st, .int .i64 (man : Int), .int .i64 fi, .slice qp qn qc] 26))).cell? ⟨W.heap.size + 1, 0, none⟩ = some (.int .i64 0) := cell_of_row _ _ 0 _ _ _ rR9_.out
  have R_1_ : ((w1.alloc (.cells #[.int .i64 st, .int .i64 (man : Int), .int .i64 fi, .slice qp qn qc] 26))).cell? ⟨W.heap.size + 1, 1, none⟩ = some (.int .i64 0) := cell_of_row _ _ 1 _ _ _ rR9_.out
  have R_2_ : ((w1.alloc (.cells #[.int .i64 st, .int .i64 (man : Int), .int .i64 fi, .slice qp qn qc] 26))).cell? ⟨W.heap.size + 1, 2, none⟩ = some (.int .i64 0) := cell_of_row _ _ 2 _ _ _ rR9_.out
  have R_3_ : ((w1.alloc (.cells #[.int .i64 st, .int .i64 (man : Int), .int .i64 fi, .slice qp qn qc] 26))).cell? ⟨W.heap.size + 1, 3, none⟩ = some (.slice none 0 0) := cell_of_row _ _ 3 _ _ _ rR9_.out
  have X_0_ : ((w1.alloc (.cells #[.int .i64 st, .int .i64 (man : Int), .int .i64 fi, .slice qp qn qc] 26))).cell? ⟨w1.heap.size, 0, none⟩ = some (.int .i64 st) := cell_of_row _ _ 0 _ _ _ rX12_.out
  have X_1_ : ((w1.alloc (.cells #[.int .i64 st, .int .i64 (man : Int), .int .i64 fi, .slice qp qn qc] 26))).cell? ⟨w1.heap.size, 1, none⟩ = some (.int .i64 (man : Int)) := cell_of_row _ _ 1 _ _ _ rX12_.out
  have X_2_ : ((w1.alloc (.cells #[.int .i64 st, .int .i64 (man : Int), .int .i64 fi, .slice qp qn qc] 26))).cell? ⟨w1.heap.size, 2, none⟩ = some (.int .i64 fi) := cell_of_row _ _ 2 _ _ _ rX12_.out
  have X_3_ : ((w1.alloc (.cells #[.int .i64 st, .int .i64 (man : Int), .int .i64 fi, .slice qp qn qc] 26))).cell? ⟨w1.heap.size, 3, none⟩ = some (.slice qp qn qc) := cell_of_row _ _ 3 _ _ _ rX12_.out
  go_wp2_with fail
  go_at_call 46
  refine (specLog_yes _ _ _ _ _ xs (HSL.out.grow G11_.out) HL.out HOK.out).mono ?_
  rintro e w2 ⟨rfl, g⟩
  have szl_ := g.size
  try simp only [World.size_setCell, World.size_alloc] at szl_
  clear A_0_ A_1_ A_2_ A_3_ R_0_ R_1_ R_2_ R_3_ X_0_ X_1_ X_2_ X_3_
  have rA13_ := Lib.hid (show (w2).heap[W.heap.size]? = some (.cells #[.int .i64 st, .int .i64 (man : Int), .int .i64 fi, .slice a1 n1 c1] 26 (0, 0)) from row_held g rA8_.out)
  clear rA8_
  have rR14_ := Lib.hid (show (w2).heap[W.heap.size + 1]? = some (.cells #[.int .i64 0, .int .i64 0, .int .i64 0, .slice none 0 0] 26 (0, 0)) from row_held g rR9_.out)
  clear rR9_
  have rX15_ := Lib.hid (show (w2).heap[w1.heap.size]? = some (.cells #[.int .i64 st, .int .i64 (man : Int), .int .i64 fi, .slice qp qn qc] 26 (0, 0)) from row_held g rX12_.out)
  clear rX12_
  have oC16_ := Lib.hid (show OwU (w2) (W.heap.size + 1 + 1) (w1.heap.size) [] [own shI (.slice qp qn qc) xs] from OwU.grow oC10_.out g)
  clear oC10_
  have G17_ := Lib.hid (show (W).grownBy (w2) none from gby_trans G11_.out g)
  clear g
  have A_0_ : (w2).cell? ⟨W.heap.size, 0, none⟩ = some (.int .i64 st) := cell_of_row _ _ 0 _ _ _ rA13_.out
  have A_1_ : (w2).cell? ⟨W.heap.size, 1, none⟩ = some (.int .i64 (man : Int)) := cell_of_row _ _ 1 _ _ _ rA13_.out
  have A_2_ : (w2).cell? ⟨W.heap.size, 2, none⟩ = some (.int .i64 fi) := cell_of_row _ _ 2 _ _ _ rA13_.out
  have A_3_ : (w2).cell? ⟨W.heap.size, 3, none⟩ = some (.slice a1 n1 c1) := cell_of_row _ _ 3 _ _ _ rA13_.out
  have R_0_ : (w2).cell? ⟨W.heap.size + 1, 0, none⟩ = some (.int .i64 0) := cell_of_row _ _ 0 _ _ _ rR14_.out
  have R_1_ : (w2).cell? ⟨W.heap.size + 1, 1, none⟩ = some (.int .i64 0) := cell_of_row _ _ 1 _ _ _ rR14_.out
  have R_2_ : (w2).cell? ⟨W.heap.size + 1, 2, none⟩ = some (.int .i64 0) := cell_of_row _ _ 2 _ _ _ rR14_.out
  have R_3_ : (w2).cell? ⟨W.heap.size + 1, 3, none⟩ = some (.slice none 0 0) := cell_of_row _ _ 3 _ _ _ rR14_.out
  have X_0_ : (w2).cell? ⟨w1.heap.size, 0, none⟩ = some (.int .i64 st) := cell_of_row _ _ 0 _ _ _ rX15_.out
  have X_1_ : (w2).cell? ⟨w1.heap.size, 1, none⟩ = some (.int .i64 (man : Int)) := cell_of_row _ _ 1 _ _ _ rX15_.out
  have X_2_ : (w2).cell? ⟨w1.heap.size, 2, none⟩ = some (.int .i64 fi) := cell_of_row _ _ 2 _ _ _ rX15_.out
  have X_3_ : (w2).cell? ⟨w1.heap.size, 3, none⟩ = some (.slice qp qn qc) := cell_of_row _ _ 3 _ _ _ rX15_.out
  go_wp2_with fail
  go_at_call 47
  refine (in_yes _ _ _ _ (by omega) (by omega)).mono ?_
  rintro e w3_ ⟨rfl, rfl⟩
  clear A_0_ A_1_ A_2_ A_3_ R_0_ R_1_ R_2_ R_3_ X_0_ X_1_ X_2_ X_3_
  have A_0_ : (w2).cell? ⟨W.heap.size, 0, none⟩ = some (.int .i64 st) := cell_of_row _ _ 0 _ _ _ rA13_.out
  have A_1_ : (w2).cell? ⟨W.heap.size, 1, none⟩ = some (.int .i64 (man : Int)) := cell_of_row _ _ 1 _ _ _ rA13_.out
  have A_2_ : (w2).cell? ⟨W.heap.size, 2, none⟩ = some (.int .i64 fi) := cell_of_row _ _ 2 _ _ _ rA13_.out
  have A_3_ : (w2).cell? ⟨W.heap.size, 3, none⟩ = some (.slice a1 n1 c1) := cell_of_row _ _ 3 _ _ _ rA13_.out
  have R_0_ : (w2).cell? ⟨W.heap.size + 1, 0, none⟩ = some (.int .i64 0) := cell_of_row _ _ 0 _ _ _ rR14_.out
  have R_1_ : (w2).cell? ⟨W.heap.size + 1, 1, none⟩ = some (.int .i64 0) := cell_of_row _ _ 1 _ _ _ rR14_.out
  have R_2_ : (w2).cell? ⟨W.heap.size + 1, 2, none⟩ = some (.int .i64 0) := cell_of_row _ _ 2 _ _ _ rR14_.out
  have R_3_ : (w2).cell? ⟨W.heap.size + 1, 3, none⟩ = some (.slice none 0 0) := cell_of_row _ _ 3 _ _ _ rR14_.out
  have X_0_ : (w2).cell? ⟨w1.heap.size, 0, none⟩ = some (.int .i64 st) := cell_of_row _ _ 0 _ _ _ rX15_.out
  have X_1_ : (w2).cell? ⟨w1.heap.size, 1, none⟩ = some (.int .i64 (man : Int)) := cell_of_row _ _ 1 _ _ _ rX15_.out
  have X_2_ : (w2).cell? ⟨w1.heap.size, 2, none⟩ = some (.int .i64 fi) := cell_of_row _ _ 2 _ _ _ rX15_.out
  have X_3_ : (w2).cell? ⟨w1.heap.size, 3, none⟩ = some (.slice qp qn qc) := cell_of_row _ _ 3 _ _ _ rX15_.out
  have Xf0_ : (w2).frozen? ⟨w1.heap.size, 0, none⟩ = false := frozen_of_row _ _ 0 _ _ rX15_.out
  have Xf1_ : (w2).frozen? ⟨w1.heap.size, 1, none⟩ = false := frozen_of_row _ _ 1 _ _ rX15_.out
  have Xf2_ : (w2).frozen? ⟨w1.heap.size, 2, none⟩ = false := frozen_of_row _ _ 2 _ _ rX15_.out
  have Xf3_ : (w2).frozen? ⟨w1.heap.size, 3, none⟩ = false := frozen_of_row _ _ 3 _ _ rX15_.out
  have hna_ : ¬ w1.heap.size = W.heap.size := by omega
  have hna2_ : ¬ W.heap.size = w1.heap.size := by omega
  go_wp2_with fail
  go_still_tail 6, (by kernel_rfl)
  change wpList _ _ _ _ _ (w2).drew
  have gd_ : (w2).grownBy (w2).drew none := gby_drew (gby_refl _ _)
  generalize (w2).drew = wd1 at gd_ ⊢
  have szwd1 := gd_.size
  try simp only [World.size_setCell, World.size_alloc] at szwd1
  have rA18_ := Lib.hid (show (wd1).heap[W.heap.size]? = some (.cells #[.int .i64 st, .int .i64 (man : Int), .int .i64 fi, .slice a1 n1 c1] 26 (0, 0)) from row_held gd_ rA13_.out)
  clear rA13_
  have rR19_ := Lib.hid (show (wd1).heap[W.heap.size + 1]? = some (.cells #[.int .i64 0, .int .i64 0, .int .i64 0, .slice none 0 0] 26 (0, 0)) from row_held gd_ rR14_.out)
  clear rR14_
  have rX20_ := Lib.hid (show (wd1).heap[w1.heap.size]? = some (.cells #[.int .i64 st, .int .i64 (man : Int), .int .i64 fi, .slice qp qn qc] 26 (0, 0)) from row_held gd_ rX15_.out)
  clear rX15_
  have oC21_ := Lib.hid (show OwU (wd1) (W.heap.size + 1 + 1) (w1.heap.size) [] [own shI (.slice qp qn qc) xs] from OwU.grow oC16_.out gd_)
  clear oC16_
  have G22_ := Lib.hid (show (W).grownBy (wd1) none from gby_trans G17_.out gd_)
  clear gd_
  have A_0_ : (wd1).cell? ⟨W.heap.size, 0, none⟩ = some (.int .i64 st) := cell_of_row _ _ 0 _ _ _ rA18_.out
  have A_1_ : (wd1).cell? ⟨W.heap.size, 1, none⟩ = some (.int .i64 (man : Int)) := cell_of_row _ _ 1 _ _ _ rA18_.out
  have A_2_ : (wd1).cell? ⟨W.heap.size, 2, none⟩ = some (.int .i64 fi) := cell_of_row _ _ 2 _ _ _ rA18_.out
  have A_3_ : (wd1).cell? ⟨W.heap.size, 3, none⟩ = some (.slice a1 n1 c1) := cell_of_row _ _ 3 _ _ _ rA18_.out
  have R_0_ : (wd1).cell? ⟨W.heap.size + 1, 0, none⟩ = some (.int .i64 0) := cell_of_row _ _ 0 _ _ _ rR19_.out
  have R_1_ : (wd1).cell? ⟨W.heap.size + 1, 1, none⟩ = some (.int .i64 0) := cell_of_row _ _ 1 _ _ _ rR19_.out
  have R_2_ : (wd1).cell? ⟨W.heap.size + 1, 2, none⟩ = some (.int .i64 0) := cell_of_row _ _ 2 _ _ _ rR19_.out
  have R_3_ : (wd1).cell? ⟨W.heap.size + 1, 3, none⟩ = some (.slice none 0 0) := cell_of_row _ _ 3 _ _ _ rR19_.out
  have X_0_ : (wd1).cell? ⟨w1.heap.size, 0, none⟩ = some (.int .i64 st) := cell_of_row _ _ 0 _ _ _ rX20_.out
  have X_1_ : (wd1).cell? ⟨w1.heap.size, 1, none⟩ = some (.int .i64 (man : Int)) := cell_of_row _ _ 1 _ _ _ rX20_.out
  have X_2_ : (wd1).cell? ⟨w1.heap.size, 2, none⟩ = some (.int .i64 fi) := cell_of_row _ _ 2 _ _ _ rX20_.out
  have X_3_ : (wd1).cell? ⟨w1.heap.size, 3, none⟩ = some (.slice qp qn qc) := cell_of_row _ _ 3 _ _ _ rX20_.out
  have Xf0_ : (wd1).frozen? ⟨w1.heap.size, 0, none⟩ = false := frozen_of_row _ _ 0 _ _ rX20_.out
  have Xf1_ : (wd1).frozen? ⟨w1.heap.size, 1, none⟩ = false := frozen_of_row _ _ 1 _ _ rX20_.out
  have Xf2_ : (wd1).frozen? ⟨w1.heap.size, 2, none⟩ = false := frozen_of_row _ _ 2 _ _ rX20_.out
  have Xf3_ : (wd1).frozen? ⟨w1.heap.size, 3, none⟩ = false := frozen_of_row _ _ 3 _ _ rX20_.out
  have hand := bit_and0 man kn hma hbit.out
  go_wp2_with fail
  clear A_0_ A_1_ A_2_ A_3_ R_0_ R_1_ R_2_ R_3_ X_0_ X_1_ X_2_ X_3_ Xf0_ Xf1_ Xf2_ Xf3_
  have rA23_ := Lib.hid (show ((wd1.setCell ⟨w1.heap.size, 0, none⟩ (.int .i64 (bits .or .i64 st (wrap64 (2 ^ kn)))))).heap[W.heap.size]? = some (.cells #[.int .i64 st, .int .i64 (man : Int), .int .i64 fi, .slice a1 n1 c1] 26 (0, 0)) from (set_far rA18_.out (by dsimp only; omega)))
  clear rA18_
  have rR24_ := Lib.hid (show ((wd1.setCell ⟨w1.heap.size, 0, none⟩ (.int .i64 (bits .or .i64 st (wrap64 (2 ^ kn)))))).heap[W.heap.size + 1]? = some (.cells #[.int .i64 0, .int .i64 0, .int .i64 0, .slice none 0 0] 26 (0, 0)) from (set_far rR19_.out (by dsimp only; omega)))
  clear rR19_
  have rX25_ := Lib.hid (show ((wd1.setCell ⟨w1.heap.size, 0, none⟩ (.int .i64 (bits .or .i64 st (wrap64 (2 ^ kn)))))).heap[w1.heap.size]? = some (.cells #[.int .i64 (bits .or .i64 st (wrap64 (2 ^ kn))), .int .i64 (man : Int), .int .i64 fi, .slice qp qn qc] 26 (0, 0)) from (heap_setCell_same _ _ 0 _ _ _ rX20_.out))
  clear rX20_
  have oC26_ := Lib.hid (show OwU ((wd1.setCell ⟨w1.heap.size, 0, none⟩ (.int .i64 (bits .or .i64 st (wrap64 (2 ^ kn)))))) (W.heap.size + 1 + 1) (w1.heap.size) [] [own shI (.slice qp qn qc) xs] from (OwU.keep (chg_one _ _ _ _) (by omega) oC21_.out))
  clear oC21_
  have G27_ := Lib.hid (show (W).grownBy ((wd1.setCell ⟨w1.heap.size, 0, none⟩ (.int .i64 (bits .or .i64 st (wrap64 (2 ^ kn)))))) none from (gby_setnew G22_.out _ (by dsimp only; omega) _))
  have szp_ : ((wd1.setCell ⟨w1.heap.size, 0, none⟩ (.int .i64 (bits .or .i64 st (wrap64 (2 ^ kn)))))).heap.size = wd1.heap.size := by simp only [World.size_setCell]
  generalize (wd1.setCell ⟨w1.heap.size, 0, none⟩ (.int .i64 (bits .or .i64 st (wrap64 (2 ^ kn))))) = wp at rA23_ rR24_ rX25_ oC26_ G27_ szp_ ⊢
  have A_0_ : (wp).cell? ⟨W.heap.size, 0, none⟩ = some (.int .i64 st) := cell_of_row _ _ 0 _ _ _ rA23_.out
  have A_1_ : (wp).cell? ⟨W.heap.size, 1, none⟩ = some (.int .i64 (man : Int)) := cell_of_row _ _ 1 _ _ _ rA23_.out
  have A_2_ : (wp).cell? ⟨W.heap.size, 2, none⟩ = some (.int .i64 fi) := cell_of_row _ _ 2 _ _ _ rA23_.out
  have A_3_ : (wp).cell? ⟨W.heap.size, 3, none⟩ = some (.slice a1 n1 c1) := cell_of_row _ _ 3 _ _ _ rA23_.out
  have R_0_ : (wp).cell? ⟨W.heap.size + 1, 0, none⟩ = some (.int .i64 0) := cell_of_row _ _ 0 _ _ _ rR24_.out
  have R_1_ : (wp).cell? ⟨W.heap.size + 1, 1, none⟩ = some (.int .i64 0) := cell_of_row _ _ 1 _ _ _ rR24_.out
  have R_2_ : (wp).cell? ⟨W.heap.size + 1, 2, none⟩ = some (.int .i64 0) := cell_of_row _ _ 2 _ _ _ rR24_.out
  have R_3_ : (wp).cell? ⟨W.heap.size + 1, 3, none⟩ = some (.slice none 0 0) := cell_of_row _ _ 3 _ _ _ rR24_.out
  have Rf0_ : (wp).frozen? ⟨W.heap.size + 1, 0, none⟩ = false := frozen_of_row _ _ 0 _ _ rR24_.out
  have Rf1_ : (wp).frozen? ⟨W.heap.size + 1, 1, none⟩ = false := frozen_of_row _ _ 1 _ _ rR24_.out
  have Rf2_ : (wp).frozen? ⟨W.heap.size + 1, 2, none⟩ = false := frozen_of_row _ _ 2 _ _ rR24_.out
  have Rf3_ : (wp).frozen? ⟨W.heap.size + 1, 3, none⟩ = false := frozen_of_row _ _ 3 _ _ rR24_.out
  have X_0_ : (wp).cell? ⟨w1.heap.size, 0, none⟩ = some (.int .i64 (bits .or .i64 st (wrap64 (2 ^ kn)))) := cell_of_row _ _ 0 _ _ _ rX25_.out
  have X_1_ : (wp).cell? ⟨w1.heap.size, 1, none⟩ = some (.int .i64 (man : Int)) := cell_of_row _ _ 1 _ _ _ rX25_.out
  have X_2_ : (wp).cell? ⟨w1.heap.size, 2, none⟩ = some (.int .i64 fi) := cell_of_row _ _ 2 _ _ _ rX25_.out
  have X_3_ : (wp).cell? ⟨w1.heap.size, 3, none⟩ = some (.slice qp qn qc) := cell_of_row _ _ 3 _ _ _ rX25_.out
  have hx16 : xs.length = 16 := HOK.out.2.2.1

  obtain ⟨a_, cp_, e_, hi_, _⟩ := rdI_in HSL.out
  obtain ⟨_, hi_⟩ := hi_
  injection e_ with e1 e2 e3
  obtain ⟨b_, o_, ea_, hc_⟩ := hi_.resolve_left (by omega)
  rw [ea_] at e1
  rw [hx16] at e2

  subst e1 e2
  have sc0_ := hc_ kn (by omega)
  have hnb1_ : ¬ b_ = W.heap.size + 1 := by have := cell_lt9 sc0_; dsimp only at this; omega
  have hnb2_ : ¬ W.heap.size + 1 = b_ := fun q => hnb1_ q.symm
  have sc_ := (G27_.out).cell (sc0_) (by simp)
  clear sc0_
  have hnx_ : ¬ w1.heap.size = W.heap.size + 1 := by omega
  have hnx2_ : ¬ W.heap.size + 1 = w1.heap.size := by omega
  rw [← hsv.out] at sc_
  have hk16 : (kn : Int) < 16 := by omega
  have hk16n : kn < 16 := by omega
  clear hi_ ea_ e3 hc_ hx16
  go_region_with (fail)
  all_goals
    clear A_0_ A_1_ A_2_ A_3_ R_0_ R_1_ R_2_ R_3_ Rf0_ Rf1_ Rf2_ Rf3_ X_0_ X_1_ X_2_ X_3_
    have A_0_ : (wp).cell? ⟨W.heap.size, 0, none⟩ = some (.int .i64 st) := cell_of_row _ _ 0 _ _ _ rA23_.out
    have A_1_ : (wp).cell? ⟨W.heap.size, 1, none⟩ = some (.int .i64 (man : Int)) := cell_of_row _ _ 1 _ _ _ rA23_.out
    have A_2_ : (wp).cell? ⟨W.heap.size, 2, none⟩ = some (.int .i64 fi) := cell_of_row _ _ 2 _ _ _ rA23_.out
    have A_3_ : (wp).cell? ⟨W.heap.size, 3, none⟩ = some (.slice (some ⟨b_, o_, none⟩) 16 c1) := cell_of_row _ _ 3 _ _ _ rA23_.out
    have R_0_ : (wp).cell? ⟨W.heap.size + 1, 0, none⟩ = some (.int .i64 0) := cell_of_row _ _ 0 _ _ _ rR24_.out
    have R_1_ : (wp).cell? ⟨W.heap.size + 1, 1, none⟩ = some (.int .i64 0) := cell_of_row _ _ 1 _ _ _ rR24_.out
    have R_2_ : (wp).cell? ⟨W.heap.size + 1, 2, none⟩ = some (.int .i64 0) := cell_of_row _ _ 2 _ _ _ rR24_.out
    have R_3_ : (wp).cell? ⟨W.heap.size + 1, 3, none⟩ = some (.slice none 0 0) := cell_of_row _ _ 3 _ _ _ rR24_.out
    have Rf0_ : (wp).frozen? ⟨W.heap.size + 1, 0, none⟩ = false := frozen_of_row _ _ 0 _ _ rR24_.out
    have Rf1_ : (wp).frozen? ⟨W.heap.size + 1, 1, none⟩ = false := frozen_of_row _ _ 1 _ _ rR24_.out
    have Rf2_ : (wp).frozen? ⟨W.heap.size + 1, 2, none⟩ = false := frozen_of_row _ _ 2 _ _ rR24_.out
    have Rf3_ : (wp).frozen? ⟨W.heap.size + 1, 3, none⟩ = false := frozen_of_row _ _ 3 _ _ rR24_.out
    have X_0_ : (wp).cell? ⟨w1.heap.size, 0, none⟩ = some (.int .i64 (bits .or .i64 st (wrap64 (2 ^ kn)))) := cell_of_row _ _ 0 _ _ _ rX25_.out
    have X_1_ : (wp).cell? ⟨w1.heap.size, 1, none⟩ = some (.int .i64 (man : Int)) := cell_of_row _ _ 1 _ _ _ rX25_.out
    have X_2_ : (wp).cell? ⟨w1.heap.size, 2, none⟩ = some (.int .i64 fi) := cell_of_row _ _ 2 _ _ _ rX25_.out
    have X_3_ : (wp).cell? ⟨w1.heap.size, 3, none⟩ = some (.slice qp qn qc) := cell_of_row _ _ 3 _ _ _ rX25_.out
    have zr_ := Lib.hid (show (((((wp.setCell ⟨W.heap.size + 1, 0, none⟩ (.int .i64 (bits .or .i64 st (wrap64 (2 ^ kn))))).setCell ⟨W.heap.size + 1, 1, none⟩ (.int .i64 (man : Int))).setCell ⟨W.heap.size + 1, 2, none⟩ (.int .i64 fi)).setCell ⟨W.heap.size + 1, 3, none⟩ (.slice qp qn qc))).heap[W.heap.size + 1]? = some (.cells #[.int .i64 (bits .or .i64 st (wrap64 (2 ^ kn))), .int .i64 (man : Int), .int .i64 fi, .slice qp qn qc] 26 (0, 0)) from (heap_setCell_same _ _ 3 _ _ _ (heap_setCell_same _ _ 2 _ _ _ (heap_setCell_same _ _ 1 _ _ _ (heap_setCell_same _ _ 0 _ _ _ rR24_.out)))))
    have z0_ : (((((wp.setCell ⟨W.heap.size + 1, 0, none⟩ (.int .i64 (bits .or .i64 st (wrap64 (2 ^ kn))))).setCell ⟨W.heap.size + 1, 1, none⟩ (.int .i64 (man : Int))).setCell ⟨W.heap.size + 1, 2, none⟩ (.int .i64 fi)).setCell ⟨W.heap.size + 1, 3, none⟩ (.slice qp qn qc))).cell? ⟨W.heap.size + 1, 0, none⟩ = some (.int .i64 (bits .or .i64 st (wrap64 (2 ^ kn)))) := cell_of_row _ _ 0 _ _ _ zr_.out
    have z1_ : (((((wp.setCell ⟨W.heap.size + 1, 0, none⟩ (.int .i64 (bits .or .i64 st (wrap64 (2 ^ kn))))).setCell ⟨W.heap.size + 1, 1, none⟩ (.int .i64 (man : Int))).setCell ⟨W.heap.size + 1, 2, none⟩ (.int .i64 fi)).setCell ⟨W.heap.size + 1, 3, none⟩ (.slice qp qn qc))).cell? ⟨W.heap.size + 1, 1, none⟩ = some (.int .i64 (man : Int)) := cell_of_row _ _ 1 _ _ _ zr_.out
    have z2_ : (((((wp.setCell ⟨W.heap.size + 1, 0, none⟩ (.int .i64 (bits .or .i64 st (wrap64 (2 ^ kn))))).setCell ⟨W.heap.size + 1, 1, none⟩ (.int .i64 (man : Int))).setCell ⟨W.heap.size + 1, 2, none⟩ (.int .i64 fi)).setCell ⟨W.heap.size + 1, 3, none⟩ (.slice qp qn qc))).cell? ⟨W.heap.size + 1, 2, none⟩ = some (.int .i64 fi) := cell_of_row _ _ 2 _ _ _ zr_.out
    have z3_ : (((((wp.setCell ⟨W.heap.size + 1, 0, none⟩ (.int .i64 (bits .or .i64 st (wrap64 (2 ^ kn))))).setCell ⟨W.heap.size + 1, 1, none⟩ (.int .i64 (man : Int))).setCell ⟨W.heap.size + 1, 2, none⟩ (.int .i64 fi)).setCell ⟨W.heap.size + 1, 3, none⟩ (.slice qp qn qc))).cell? ⟨W.heap.size + 1, 3, none⟩ = some (.slice qp qn qc) := cell_of_row _ _ 3 _ _ _ zr_.out
    go_wp2
    refine bodyPost_ret (v := .tuple #[.agg #[.int .i64 (bits .or .i64 st (wrap64 (2 ^ kn))), .int .i64 (man : Int), .int .i64 fi, .slice qp qn qc], (.int .i64 sv)]) (by simp [results, go_sem, z0_, z1_, z2_, z3_]) rfl ⟨.slice qp qn qc, rfl, ?_, ?_⟩
    · exact OwU.wide (lo := W.heap.size + 1 + 1) (by omega) (by first | omega | (simp; omega) | simp) (OwU.grow (OwU.keep (chg_one _ _ _ _) (.inr (by omega)) (OwU.keep (chg_one _ _ _ _) (.inr (by omega)) (OwU.keep (chg_one _ _ _ _) (.inr (by omega)) (OwU.keep (chg_one _ _ _ _) (.inr (by omega)) oC26_.out)))) (gby_drew (gby_refl _ _)))
    · exact gby_drew (gby_setnew (gby_setnew (gby_setnew (gby_setnew G27_.out _ (by dsimp only; omega) _) _ (by dsimp only; omega) _) _ (by dsimp only; omega) _) _ (by dsimp only; omega) _)

set_option maxRecDepth 8000 in
set_option maxHeartbeats 2000000 in
theorem specReport_01 (W : World) (st : Int) (man kn : Nat) (fi : Int) (v : Value) (xs : List Int) (H : RdL shI W v xs) (hl : szL shI xs ≤ 1048576) (hb : LOk st man fi xs) (hma : man ≤ 65535) (hk : kn ≤ 15) (hs0 : (st == 0) = true) (hbit : Hid (bitB man kn = true)) : Calls Try.prog 12 #[vLog st man fi v, .int .i64 (kn : Int)] W (ResIReportError (bits .or .i64 st (wrap64 (2 ^ kn))) man (kn : Int) xs (-1) W) := by
  have HSL := Lib.hid H
  have HL := Lib.hid hl
  obtain ⟨a1, n1, c1, rfl⟩ := RdL.form H
  clear H hl
  unfold vLog
  have HOK := Lib.hid hb
  clear hb
  have i1_ : (0 : Int) ≤ (kn : Int) := by omega
  have i2_ : ((kn : Int)).toNat = kn := by omega
  have i3_ : (kn : Int) ≤ 64 := by omega
  go_enter Try.func12, Try.ntmps12
  have rA1_ := Lib.hid (show (((W.alloc (.cells #[.int .i64 st, .int .i64 (man : Int), .int .i64 fi, .slice a1 n1 c1] 26)).alloc (.cells #[.int .i64 0, .int .i64 0, .int .i64 0, .slice none 0 0] 26))).heap[W.heap.size]? = some (.cells #[.int .i64 st, .int .i64 (man : Int), .int .i64 fi, .slice a1 n1 c1] 26 (0, 0)) from by rw [heap_alloc_old _ _ (by simp only [World.size_alloc]; omega)]; exact heap_alloc_new _ _)
  have rR2_ := Lib.hid (show (((W.alloc (.cells #[.int .i64 st, .int .i64 (man : Int), .int .i64 fi, .slice a1 n1 c1] 26)).alloc (.cells #[.int .i64 0, .int .i64 0, .int .i64 0, .slice none 0 0] 26))).heap[W.heap.size + 1]? = some (.cells #[.int .i64 0, .int .i64 0, .int .i64 0, .slice none 0 0] 26 (0, 0)) from by exact heap_pair _ _ _)
  have G3_ := Lib.hid (show (W).grownBy (((W.alloc (.cells #[.int .i64 st, .int .i64 (man : Int), .int .i64 fi, .slice a1 n1 c1] 26)).alloc (.cells #[.int .i64 0, .int .i64 0, .int .i64 0, .slice none 0 0] 26))) none from (gby_alloc (gby_alloc (gby_refl _ _) _) _))
  have A_0_ : (((W.alloc (.cells #[.int .i64 st, .int .i64 (man : Int), .int .i64 fi, .slice a1 n1 c1] 26)).alloc (.cells #[.int .i64 0, .int .i64 0, .int .i64 0, .slice none 0 0] 26))).cell? ⟨W.heap.size, 0, none⟩ = some (.int .i64 st) := cell_of_row _ _ 0 _ _ _ rA1_.out
  have A_1_ : (((W.alloc (.cells #[.int .i64 st, .int .i64 (man : Int), .int .i64 fi, .slice a1 n1 c1] 26)).alloc (.cells #[.int .i64 0, .int .i64 0, .int .i64 0, .slice none 0 0] 26))).cell? ⟨W.heap.size, 1, none⟩ = some (.int .i64 (man : Int)) := cell_of_row _ _ 1 _ _ _ rA1_.out
  have A_2_ : (((W.alloc (.cells #[.int .i64 st, .int .i64 (man : Int), .int .i64 fi, .slice a1 n1 c1] 26)).alloc (.cells #[.int .i64 0, .int .i64 0, .int .i64 0, .slice none 0 0] 26))).cell? ⟨W.heap.size, 2, none⟩ = some (.int .i64 fi) := cell_of_row _ _ 2 _ _ _ rA1_.out
  have A_3_ : (((W.alloc (.cells #[.int .i64 st, .int .i64 (man : Int), .int .i64 fi, .slice a1 n1 c1] 26)).alloc (.cells #[.int .i64 0, .int .i64 0, .int .i64 0, .slice none 0 0] 26))).cell? ⟨W.heap.size, 3, none⟩ = some (.slice a1 n1 c1) := cell_of_row _ _ 3 _ _ _ rA1_.out
  have R_0_ : (((W.alloc (.cells #[.int .i64 st, .int .i64 (man : Int), .int .i64 fi, .slice a1 n1 c1] 26)).alloc (.cells #[.int .i64 0, .int .i64 0, .int .i64 0, .slice none 0 0] 26))).cell? ⟨W.heap.size + 1, 0, none⟩ = some (.int .i64 0) := cell_of_row _ _ 0 _ _ _ rR2_.out
  have R_1_ : (((W.alloc (.cells #[.int .i64 st, .int .i64 (man : Int), .int .i64 fi, .slice a1 n1 c1] 26)).alloc (.cells #[.int .i64 0, .int .i64 0, .int .i64 0, .slice none 0 0] 26))).cell? ⟨W.heap.size + 1, 1, none⟩ = some (.int .i64 0) := cell_of_row _ _ 1 _ _ _ rR2_.out
  have R_2_ : (((W.alloc (.cells #[.int .i64 st, .int .i64 (man : Int), .int .i64 fi, .slice a1 n1 c1] 26)).alloc (.cells #[.int .i64 0, .int .i64 0, .int .i64 0, .slice none 0 0] 26))).cell? ⟨W.heap.size + 1, 2, none⟩ = some (.int .i64 0) := cell_of_row _ _ 2 _ _ _ rR2_.out
  have R_3_ : (((W.alloc (.cells #[.int .i64 st, .int .i64 (man : Int), .int .i64 fi, .slice a1 n1 c1] 26)).alloc (.cells #[.int .i64 0, .int .i64 0, .int .i64 0, .slice none 0 0] 26))).cell? ⟨W.heap.size + 1, 3, none⟩ = some (.slice none 0 0) := cell_of_row _ _ 3 _ _ _ rR2_.out
  go_wp2_with fail
  go_at_call 45
  refine (copyLog_d _ _ _ _ _ xs (HSL.out.grow G3_.out) HL.out).mono ?_
  rintro e w1 ⟨d, rfl, o, g⟩
  have sz_ := g.size
  try simp only [World.size_alloc] at sz_ o
  clear A_0_ A_1_ A_2_ A_3_ R_0_ R_1_ R_2_ R_3_
  have rA4_ := Lib.hid (show (w1).heap[W.heap.size]? = some (.cells #[.int .i64 st, .int .i64 (man : Int), .int .i64 fi, .slice a1 n1 c1] 26 (0, 0)) from row_held g rA1_.out)
  clear rA1_
  have rR5_ := Lib.hid (show (w1).heap[W.heap.size + 1]? = some (.cells #[.int .i64 0, .int .i64 0, .int .i64 0, .slice none 0 0] 26 (0, 0)) from row_held g rR2_.out)
  clear rR2_
  have G6_ := Lib.hid (show (W).grownBy (w1) none from gby_trans G3_.out g)
  clear g
  obtain ⟨qp, qn, qc, hv2⟩ := RdL.form (OwU.rd o)
  subst hv2
  unfold vLog
  have oC7_ := Lib.hid (show OwU (w1) (W.heap.size + 1 + 1) (w1.heap.size) [] [own shI (.slice qp qn qc) xs] from o)
  clear o
  have al_ : (w1).grownBy ((w1).alloc (.cells #[.int .i64 st, .int .i64 (man : Int), .int .i64 fi, .slice qp qn qc] 26)) none := gby_alloc (gby_refl _ _) _
  have rA8_ := Lib.hid (show ((w1.alloc (.cells #[.int .i64 st, .int .i64 (man : Int), .int .i64 fi, .slice qp qn qc] 26))).heap[W.heap.size]? = some (.cells #[.int .i64 st, .int .i64 (man : Int), .int .i64 fi, .slice a1 n1 c1] 26 (0, 0)) from row_held al_ rA4_.out)
  clear rA4_
  have rR9_ := Lib.hid (show ((w1.alloc (.cells #[.int .i64 st, .int .i64 (man : Int), .int .i64 fi, .slice qp qn qc] 26))).heap[W.heap.size + 1]? = some (.cells #[.int .i64 0, .int .i64 0, .int .i64 0, .slice none 0 0] 26 (0, 0)) from row_held al_ rR5_.out)
  clear rR5_
  have oC10_ := Lib.hid (show OwU ((w1.alloc (.cells #[.int .i64 st, .int .i64 (man : Int), .int .i64 fi, .slice qp qn qc] 26))) (W.heap.size + 1 + 1) (w1.heap.size) [] [own shI (.slice qp qn qc) xs] from OwU.grow oC7_.out al_)
  clear oC7_
  have G11_ := Lib.hid (show (W).grownBy ((w1.alloc (.cells #[.int .i64 st, .int .i64 (man : Int), .int .i64 fi, .slice qp qn qc] 26))) none from gby_trans G6_.out al_)
  have rX12_ := Lib.hid (show ((w1.alloc (.cells #[.int .i64 st, .int .i64 (man : Int), .int .i64 fi, .slice qp qn qc] 26))).heap[w1.heap.size]? = some (.cells #[.int .i64 st, .int .i64 (man : Int), .int .i64 fi, .slice qp qn qc] 26 (0, 0)) from heap_alloc_new _ _)
  clear al_
  have A_0_ : ((w1.alloc (.cells #[.int .i64 st, .int .i64 (man : Int), .int .i64 fi, .slice qp qn qc] 26))).cell? ⟨W.heap.size, 0, none⟩ = some (.int .i64 st) := cell_of_row _ _ 0 _ _ _ rA8_.out
  have A_1_ : ((w1.alloc (.cells #[.int .i64 st, .int .i64 (man : Int), .int .i64 fi, .slice qp qn qc] 26))).cell? ⟨W.heap.size, 1, none⟩ = some (.int .i64 (man : Int)) := cell_of_row _ _ 1 _ _ _ rA8_.out
  have A_2_ : ((w1.alloc (.cells #[.int .i64 st, .int .i64 (man : Int), .int .i64 fi, .slice qp qn qc] 26))).cell? ⟨W.heap.size, 2, none⟩ = some (.int .i64 fi) := cell_of_row _ _ 2 _ _ _ rA8_.out
  have A_3_ : ((w1.alloc (.cells #[.int .i64 st, .int .i64 (man : Int), .int .i64 fi, .slice qp qn qc] 26))).cell? ⟨W.heap.size, 3, none⟩ = some (.slice a1 n1 c1) := cell_of_row _ _ 3 _ _ _ rA8_.out
  have R_0_ : ((w1.alloc (.cells #[.int .i64 st, .int .i64 (man : Int), .int .i64 fi, .slice qp qn qc] 26))).cell? ⟨W.heap.size + 1, 0, none⟩ = some (.int .i64 0) := cell_of_row _ _ 0 _ _ _ rR9_.out
  have R_1_ : ((w1.alloc (.cells #[.int .i64 st, .int .i64 (man : Int), .int .i64 fi, .slice qp qn qc] 26))).cell? ⟨W.heap.size + 1, 1, none⟩ = some (.int .i64 0) := cell_of_row _ _ 1 _ _ _ rR9_.out
  have R_2_ : ((w1.alloc (.cells #[.int .i64 st, .int .i64 (man : Int), .int .i64 fi, .slice qp qn qc] 26))).cell? ⟨W.heap.size + 1, 2, none⟩ = some (.int .i64 0) := cell_of_row _ _ 2 _ _ _ rR9_.out
  have R_3_ : ((w1.alloc (.cells #[.int .i64 st, .int .i64 (man : Int), .int .i64 fi, .slice qp qn qc] 26))).cell? ⟨W.heap.size + 1, 3, none⟩ = some (.slice none 0 0) := cell_of_row _ _ 3 _ _ _ rR9_.out
  have X_0_ : ((w1.alloc (.cells #[.int .i64 st, .int .i64 (man : Int), .int .i64 fi, .slice qp qn qc] 26))).cell? ⟨w1.heap.size, 0, none⟩ = some (.int .i64 st) := cell_of_row _ _ 0 _ _ _ rX12_.out
  have X_1_ : ((w1.alloc (.cells #[.int .i64 st, .int .i64 (man : Int), .int .i64 fi, .slice qp qn qc] 26))).cell? ⟨w1.heap.size, 1, none⟩ = some (.int .i64 (man : Int)) := cell_of_row _ _ 1 _ _ _ rX12_.out
  have X_2_ : ((w1.alloc (.cells #[.int .i64 st, .int .i64 (man : Int), .int .i64 fi, .slice qp qn qc] 26))).cell? ⟨w1.heap.size, 2, none⟩ = some (.int .i64 fi) := cell_of_row _ _ 2 _ _ _ rX12_.out
  have X_3_ : ((w1.alloc (.cells #[.int .i64 st, .int .i64 (man : Int), .int .i64 fi, .slice qp qn qc] 26))).cell? ⟨w1.heap.size, 3, none⟩ = some (.slice qp qn qc) := cell_of_row _ _ 3 _ _ _ rX12_.out
  go_wp2_with fail
  go_at_call 46
  refine (specLog_yes _ _ _ _ _ xs (HSL.out.grow G11_.out) HL.out HOK.out).mono ?_
  rintro e w2 ⟨rfl, g⟩
  have szl_ := g.size
  try simp only [World.size_setCell, World.size_alloc] at szl_
  clear A_0_ A_1_ A_2_ A_3_ R_0_ R_1_ R_2_ R_3_ X_0_ X_1_ X_2_ X_3_
  have rA13_ := Lib.hid (show (w2).heap[W.heap.size]? = some (.cells #[.int .i64 st, .int .i64 (man : Int), .int .i64 fi, .slice a1 n1 c1] 26 (0, 0)) from row_held g rA8_.out)
  clear rA8_
  have rR14_ := Lib.hid (show (w2).heap[W.heap.size + 1]? = some (.cells #[.int .i64 0, .int .i64 0, .int .i64 0, .slice none 0 0] 26 (0, 0)) from row_held g rR9_.out)
  clear rR9_
  have rX15_ := Lib.hid (show (w2).heap[w1.heap.size]? = some (.cells #[.int .i64 st, .int .i64 (man : Int), .int .i64 fi, .slice qp qn qc] 26 (0, 0)) from row_held g rX12_.out)
  clear rX12_
  have oC16_ := Lib.hid (show OwU (w2) (W.heap.size + 1 + 1) (w1.heap.size) [] [own shI (.slice qp qn qc) xs] from OwU.grow oC10_.out g)
  clear oC10_
  have G17_ := Lib.hid (show (W).grownBy (w2) none from gby_trans G11_.out g)
  clear g
  have A_0_ : (w2).cell? ⟨W.heap.size, 0, none⟩ = some (.int .i64 st) := cell_of_row _ _ 0 _ _ _ rA13_.out
  have A_1_ : (w2).cell? ⟨W.heap.size, 1, none⟩ = some (.int .i64 (man : Int)) := cell_of_row _ _ 1 _ _ _ rA13_.out
  have A_2_ : (w2).cell? ⟨W.heap.size, 2, none⟩ = some (.int .i64 fi) := cell_of_row _ _ 2 _ _ _ rA13_.out
  have A_3_ : (w2).cell? ⟨W.heap.size, 3, none⟩ = some (.slice a1 n1 c1) := cell_of_row _ _ 3 _ _ _ rA13_.out
  have R_0_ : (w2).cell? ⟨W.heap.size + 1, 0, none⟩ = some (.int .i64 0) := cell_of_row _ _ 0 _ _ _ rR14_.out
  have R_1_ : (w2).cell? ⟨W.heap.size + 1, 1, none⟩ = some (.int .i64 0) := cell_of_row _ _ 1 _ _ _ rR14_.out
  have R_2_ : (w2).cell? ⟨W.heap.size + 1, 2, none⟩ = some (.int .i64 0) := cell_of_row _ _ 2 _ _ _ rR14_.out
  have R_3_ : (w2).cell? ⟨W.heap.size + 1, 3, none⟩ = some (.slice none 0 0) := cell_of_row _ _ 3 _ _ _ rR14_.out
  have X_0_ : (w2).cell? ⟨w1.heap.size, 0, none⟩ = some (.int .i64 st) := cell_of_row _ _ 0 _ _ _ rX15_.out
  have X_1_ : (w2).cell? ⟨w1.heap.size, 1, none⟩ = some (.int .i64 (man : Int)) := cell_of_row _ _ 1 _ _ _ rX15_.out
  have X_2_ : (w2).cell? ⟨w1.heap.size, 2, none⟩ = some (.int .i64 fi) := cell_of_row _ _ 2 _ _ _ rX15_.out
  have X_3_ : (w2).cell? ⟨w1.heap.size, 3, none⟩ = some (.slice qp qn qc) := cell_of_row _ _ 3 _ _ _ rX15_.out
  go_wp2_with fail
  go_at_call 47
  refine (in_yes _ _ _ _ (by omega) (by omega)).mono ?_
  rintro e w3_ ⟨rfl, rfl⟩
  clear A_0_ A_1_ A_2_ A_3_ R_0_ R_1_ R_2_ R_3_ X_0_ X_1_ X_2_ X_3_
  have A_0_ : (w2).cell? ⟨W.heap.size, 0, none⟩ = some (.int .i64 st) := cell_of_row _ _ 0 _ _ _ rA13_.out
  have A_1_ : (w2).cell? ⟨W.heap.size, 1, none⟩ = some (.int .i64 (man : Int)) := cell_of_row _ _ 1 _ _ _ rA13_.out
  have A_2_ : (w2).cell? ⟨W.heap.size, 2, none⟩ = some (.int .i64 fi) := cell_of_row _ _ 2 _ _ _ rA13_.out
  have A_3_ : (w2).cell? ⟨W.heap.size, 3, none⟩ = some (.slice a1 n1 c1) := cell_of_row _ _ 3 _ _ _ rA13_.out
  have R_0_ : (w2).cell? ⟨W.heap.size + 1, 0, none⟩ = some (.int .i64 0) := cell_of_row _ _ 0 _ _ _ rR14_.out
  have R_1_ : (w2).cell? ⟨W.heap.size + 1, 1, none⟩ = some (.int .i64 0) := cell_of_row _ _ 1 _ _ _ rR14_.out
  have R_2_ : (w2).cell? ⟨W.heap.size + 1, 2, none⟩ = some (.int .i64 0) := cell_of_row _ _ 2 _ _ _ rR14_.out
  have R_3_ : (w2).cell? ⟨W.heap.size + 1, 3, none⟩ = some (.slice none 0 0) := cell_of_row _ _ 3 _ _ _ rR14_.out
  have X_0_ : (w2).cell? ⟨w1.heap.size, 0, none⟩ = some (.int .i64 st) := cell_of_row _ _ 0 _ _ _ rX15_.out
  have X_1_ : (w2).cell? ⟨w1.heap.size, 1, none⟩ = some (.int .i64 (man : Int)) := cell_of_row _ _ 1 _ _ _ rX15_.out
  have X_2_ : (w2).cell? ⟨w1.heap.size, 2, none⟩ = some (.int .i64 fi) := cell_of_row _ _ 2 _ _ _ rX15_.out
  have X_3_ : (w2).cell? ⟨w1.heap.size, 3, none⟩ = some (.slice qp qn qc) := cell_of_row _ _ 3 _ _ _ rX15_.out
  have Xf0_ : (w2).frozen? ⟨w1.heap.size, 0, none⟩ = false := frozen_of_row _ _ 0 _ _ rX15_.out
  have Xf1_ : (w2).frozen? ⟨w1.heap.size, 1, none⟩ = false := frozen_of_row _ _ 1 _ _ rX15_.out
  have Xf2_ : (w2).frozen? ⟨w1.heap.size, 2, none⟩ = false := frozen_of_row _ _ 2 _ _ rX15_.out
  have Xf3_ : (w2).frozen? ⟨w1.heap.size, 3, none⟩ = false := frozen_of_row _ _ 3 _ _ rX15_.out
  have hna_ : ¬ w1.heap.size = W.heap.size := by omega
  have hna2_ : ¬ W.heap.size = w1.heap.size := by omega
  go_wp2_with fail
  clear A_0_ A_1_ A_2_ A_3_ R_0_ R_1_ R_2_ R_3_ X_0_ X_1_ X_2_ X_3_ Xf0_ Xf1_ Xf2_ Xf3_
  have rA18_ := Lib.hid (show ((w2.setCell ⟨w1.heap.size, 2, none⟩ (.int .i64 (kn : Int)))).heap[W.heap.size]? = some (.cells #[.int .i64 st, .int .i64 (man : Int), .int .i64 fi, .slice a1 n1 c1] 26 (0, 0)) from (set_far rA13_.out (by dsimp only; omega)))
  clear rA13_
  have rR19_ := Lib.hid (show ((w2.setCell ⟨w1.heap.size, 2, none⟩ (.int .i64 (kn : Int)))).heap[W.heap.size + 1]? = some (.cells #[.int .i64 0, .int .i64 0, .int .i64 0, .slice none 0 0] 26 (0, 0)) from (set_far rR14_.out (by dsimp only; omega)))
  clear rR14_
  have rX20_ := Lib.hid (show ((w2.setCell ⟨w1.heap.size, 2, none⟩ (.int .i64 (kn : Int)))).heap[w1.heap.size]? = some (.cells #[.int .i64 st, .int .i64 (man : Int), .int .i64 (kn : Int), .slice qp qn qc] 26 (0, 0)) from (heap_setCell_same _ _ 2 _ _ _ rX15_.out))
  clear rX15_
  have oC21_ := Lib.hid (show OwU ((w2.setCell ⟨w1.heap.size, 2, none⟩ (.int .i64 (kn : Int)))) (W.heap.size + 1 + 1) (w1.heap.size) [] [own shI (.slice qp qn qc) xs] from (OwU.keep (chg_one _ _ _ _) (by omega) oC16_.out))
  clear oC16_
  have G22_ := Lib.hid (show (W).grownBy ((w2.setCell ⟨w1.heap.size, 2, none⟩ (.int .i64 (kn : Int)))) none from (gby_setnew G17_.out _ (by dsimp only; omega) _))
  have szq_ : ((w2.setCell ⟨w1.heap.size, 2, none⟩ (.int .i64 (kn : Int)))).heap.size = w2.heap.size := by simp only [World.size_setCell]
  generalize (w2.setCell ⟨w1.heap.size, 2, none⟩ (.int .i64 (kn : Int))) = wq at rA18_ rR19_ rX20_ oC21_ G22_ szq_ ⊢
  have A_0_ : (wq).cell? ⟨W.heap.size, 0, none⟩ = some (.int .i64 st) := cell_of_row _ _ 0 _ _ _ rA18_.out
  have A_1_ : (wq).cell? ⟨W.heap.size, 1, none⟩ = some (.int .i64 (man : Int)) := cell_of_row _ _ 1 _ _ _ rA18_.out
  have A_2_ : (wq).cell? ⟨W.heap.size, 2, none⟩ = some (.int .i64 fi) := cell_of_row _ _ 2 _ _ _ rA18_.out
  have A_3_ : (wq).cell? ⟨W.heap.size, 3, none⟩ = some (.slice a1 n1 c1) := cell_of_row _ _ 3 _ _ _ rA18_.out
  have R_0_ : (wq).cell? ⟨W.heap.size + 1, 0, none⟩ = some (.int .i64 0) := cell_of_row _ _ 0 _ _ _ rR19_.out
  have R_1_ : (wq).cell? ⟨W.heap.size + 1, 1, none⟩ = some (.int .i64 0) := cell_of_row _ _ 1 _ _ _ rR19_.out
  have R_2_ : (wq).cell? ⟨W.heap.size + 1, 2, none⟩ = some (.int .i64 0) := cell_of_row _ _ 2 _ _ _ rR19_.out
  have R_3_ : (wq).cell? ⟨W.heap.size + 1, 3, none⟩ = some (.slice none 0 0) := cell_of_row _ _ 3 _ _ _ rR19_.out
  have X_0_ : (wq).cell? ⟨w1.heap.size, 0, none⟩ = some (.int .i64 st) := cell_of_row _ _ 0 _ _ _ rX20_.out
  have X_1_ : (wq).cell? ⟨w1.heap.size, 1, none⟩ = some (.int .i64 (man : Int)) := cell_of_row _ _ 1 _ _ _ rX20_.out
  have X_2_ : (wq).cell? ⟨w1.heap.size, 2, none⟩ = some (.int .i64 (kn : Int)) := cell_of_row _ _ 2 _ _ _ rX20_.out
  have X_3_ : (wq).cell? ⟨w1.heap.size, 3, none⟩ = some (.slice qp qn qc) := cell_of_row _ _ 3 _ _ _ rX20_.out
  have Xf0_ : (wq).frozen? ⟨w1.heap.size, 0, none⟩ = false := frozen_of_row _ _ 0 _ _ rX20_.out
  have Xf1_ : (wq).frozen? ⟨w1.heap.size, 1, none⟩ = false := frozen_of_row _ _ 1 _ _ rX20_.out
  have Xf2_ : (wq).frozen? ⟨w1.heap.size, 2, none⟩ = false := frozen_of_row _ _ 2 _ _ rX20_.out
  have Xf3_ : (wq).frozen? ⟨w1.heap.size, 3, none⟩ = false := frozen_of_row _ _ 3 _ _ rX20_.out
  go_still_tail 6, (by kernel_rfl)
  change wpList _ _ _ _ _ (wq).drew
  have gd_ : (wq).grownBy (wq).drew none := gby_drew (gby_refl _ _)
  generalize (wq).drew = wd1 at gd_ ⊢
  have szwd1 := gd_.size
  try simp only [World.size_setCell, World.size_alloc] at szwd1
  have rA23_ := Lib.hid (show (wd1).heap[W.heap.size]? = some (.cells #[.int .i64 st, .int .i64 (man : Int), .int .i64 fi, .slice a1 n1 c1] 26 (0, 0)) from row_held gd_ rA18_.out)
  clear rA18_
  have rR24_ := Lib.hid (show (wd1).heap[W.heap.size + 1]? = some (.cells #[.int .i64 0, .int .i64 0, .int .i64 0, .slice none 0 0] 26 (0, 0)) from row_held gd_ rR19_.out)
  clear rR19_
  have rX25_ := Lib.hid (show (wd1).heap[w1.heap.size]? = some (.cells #[.int .i64 st, .int .i64 (man : Int), .int .i64 (kn : Int), .slice qp qn qc] 26 (0, 0)) from row_held gd_ rX20_.out)
  clear rX20_
  have oC26_ := Lib.hid (show OwU (wd1) (W.heap.size + 1 + 1) (w1.heap.size) [] [own shI (.slice qp qn qc) xs] from OwU.grow oC21_.out gd_)
  clear oC21_
  have G27_ := Lib.hid (show (W).grownBy (wd1) none from gby_trans G22_.out gd_)
  clear gd_
  have A_0_ : (wd1).cell? ⟨W.heap.size, 0, none⟩ = some (.int .i64 st) := cell_of_row _ _ 0 _ _ _ rA23_.out
  have A_1_ : (wd1).cell? ⟨W.heap.size, 1, none⟩ = some (.int .i64 (man : Int)) := cell_of_row _ _ 1 _ _ _ rA23_.out
  have A_2_ : (wd1).cell? ⟨W.heap.size, 2, none⟩ = some (.int .i64 fi) := cell_of_row _ _ 2 _ _ _ rA23_.out
  have A_3_ : (wd1).cell? ⟨W.heap.size, 3, none⟩ = some (.slice a1 n1 c1) := cell_of_row _ _ 3 _ _ _ rA23_.out
  have R_0_ : (wd1).cell? ⟨W.heap.size + 1, 0, none⟩ = some (.int .i64 0) := cell_of_row _ _ 0 _ _ _ rR24_.out
  have R_1_ : (wd1).cell? ⟨W.heap.size + 1, 1, none⟩ = some (.int .i64 0) := cell_of_row _ _ 1 _ _ _ rR24_.out
  have R_2_ : (wd1).cell? ⟨W.heap.size + 1, 2, none⟩ = some (.int .i64 0) := cell_of_row _ _ 2 _ _ _ rR24_.out
  have R_3_ : (wd1).cell? ⟨W.heap.size + 1, 3, none⟩ = some (.slice none 0 0) := cell_of_row _ _ 3 _ _ _ rR24_.out
  have X_0_ : (wd1).cell? ⟨w1.heap.size, 0, none⟩ = some (.int .i64 st) := cell_of_row _ _ 0 _ _ _ rX25_.out
  have X_1_ : (wd1).cell? ⟨w1.heap.size, 1, none⟩ = some (.int .i64 (man : Int)) := cell_of_row _ _ 1 _ _ _ rX25_.out
  have X_2_ : (wd1).cell? ⟨w1.heap.size, 2, none⟩ = some (.int .i64 (kn : Int)) := cell_of_row _ _ 2 _ _ _ rX25_.out
  have X_3_ : (wd1).cell? ⟨w1.heap.size, 3, none⟩ = some (.slice qp qn qc) := cell_of_row _ _ 3 _ _ _ rX25_.out
  have Xf0_ : (wd1).frozen? ⟨w1.heap.size, 0, none⟩ = false := frozen_of_row _ _ 0 _ _ rX25_.out
  have Xf1_ : (wd1).frozen? ⟨w1.heap.size, 1, none⟩ = false := frozen_of_row _ _ 1 _ _ rX25_.out
  have Xf2_ : (wd1).frozen? ⟨w1.heap.size, 2, none⟩ = false := frozen_of_row _ _ 2 _ _ rX25_.out
  have Xf3_ : (wd1).frozen? ⟨w1.heap.size, 3, none⟩ = false := frozen_of_row _ _ 3 _ _ rX25_.out
  have hand := bit_and1 man kn hma hbit.out
  clear A_0_ A_1_ A_2_ A_3_ R_0_ R_1_ R_2_ R_3_ X_0_ X_1_ X_2_ X_3_ Xf0_ Xf1_ Xf2_ Xf3_
  have A_0_ : (wd1).cell? ⟨W.heap.size, 0, none⟩ = some (.int .i64 st) := cell_of_row _ _ 0 _ _ _ rA23_.out
  have A_1_ : (wd1).cell? ⟨W.heap.size, 1, none⟩ = some (.int .i64 (man : Int)) := cell_of_row _ _ 1 _ _ _ rA23_.out
  have A_2_ : (wd1).cell? ⟨W.heap.size, 2, none⟩ = some (.int .i64 fi) := cell_of_row _ _ 2 _ _ _ rA23_.out
  have A_3_ : (wd1).cell? ⟨W.heap.size, 3, none⟩ = some (.slice a1 n1 c1) := cell_of_row _ _ 3 _ _ _ rA23_.out
  have R_0_ : (wd1).cell? ⟨W.heap.size + 1, 0, none⟩ = some (.int .i64 0) := cell_of_row _ _ 0 _ _ _ rR24_.out
  have R_1_ : (wd1).cell? ⟨W.heap.size + 1, 1, none⟩ = some (.int .i64 0) := cell_of_row _ _ 1 _ _ _ rR24_.out
  have R_2_ : (wd1).cell? ⟨W.heap.size + 1, 2, none⟩ = some (.int .i64 0) := cell_of_row _ _ 2 _ _ _ rR24_.out
  have R_3_ : (wd1).cell? ⟨W.heap.size + 1, 3, none⟩ = some (.slice none 0 0) := cell_of_row _ _ 3 _ _ _ rR24_.out
  have Rf0_ : (wd1).frozen? ⟨W.heap.size + 1, 0, none⟩ = false := frozen_of_row _ _ 0 _ _ rR24_.out
  have Rf1_ : (wd1).frozen? ⟨W.heap.size + 1, 1, none⟩ = false := frozen_of_row _ _ 1 _ _ rR24_.out
  have Rf2_ : (wd1).frozen? ⟨W.heap.size + 1, 2, none⟩ = false := frozen_of_row _ _ 2 _ _ rR24_.out
  have Rf3_ : (wd1).frozen? ⟨W.heap.size + 1, 3, none⟩ = false := frozen_of_row _ _ 3 _ _ rR24_.out
  have X_0_ : (wd1).cell? ⟨w1.heap.size, 0, none⟩ = some (.int .i64 st) := cell_of_row _ _ 0 _ _ _ rX25_.out
  have X_1_ : (wd1).cell? ⟨w1.heap.size, 1, none⟩ = some (.int .i64 (man : Int)) := cell_of_row _ _ 1 _ _ _ rX25_.out
  have X_2_ : (wd1).cell? ⟨w1.heap.size, 2, none⟩ = some (.int .i64 (kn : Int)) := cell_of_row _ _ 2 _ _ _ rX25_.out
  have X_3_ : (wd1).cell? ⟨w1.heap.size, 3, none⟩ = some (.slice qp qn qc) := cell_of_row _ _ 3 _ _ _ rX25_.out
  have Xf0_ : (wd1).frozen? ⟨w1.heap.size, 0, none⟩ = false := frozen_of_row _ _ 0 _ _ rX25_.out
  have Xf1_ : (wd1).frozen? ⟨w1.heap.size, 1, none⟩ = false := frozen_of_row _ _ 1 _ _ rX25_.out
  have Xf2_ : (wd1).frozen? ⟨w1.heap.size, 2, none⟩ = false := frozen_of_row _ _ 2 _ _ rX25_.out
  have Xf3_ : (wd1).frozen? ⟨w1.heap.size, 3, none⟩ = false := frozen_of_row _ _ 3 _ _ rX25_.out
  have zr_ := Lib.hid (show ((((((wd1.setCell ⟨w1.heap.size, 0, none⟩ (.int .i64 (bits .or .i64 st (wrap64 (2 ^ kn))))).setCell ⟨W.heap.size + 1, 0, none⟩ (.int .i64 (bits .or .i64 st (wrap64 (2 ^ kn))))).setCell ⟨W.heap.size + 1, 1, none⟩ (.int .i64 (man : Int))).setCell ⟨W.heap.size + 1, 2, none⟩ (.int .i64 (kn : Int))).setCell ⟨W.heap.size + 1, 3, none⟩ (.slice qp qn qc))).heap[W.heap.size + 1]? = some (.cells #[.int .i64 (bits .or .i64 st (wrap64 (2 ^ kn))), .int .i64 (man : Int), .int .i64 (kn : Int), .slice qp qn qc] 26 (0, 0)) from (heap_setCell_same _ _ 3 _ _ _ (heap_setCell_same _ _ 2 _ _ _ (heap_setCell_same _ _ 1 _ _ _ (heap_setCell_same _ _ 0 _ _ _ (set_far rR24_.out (by dsimp only; omega)))))))
  have z0_ : ((((((wd1.setCell ⟨w1.heap.size, 0, none⟩ (.int .i64 (bits .or .i64 st (wrap64 (2 ^ kn))))).setCell ⟨W.heap.size + 1, 0, none⟩ (.int .i64 (bits .or .i64 st (wrap64 (2 ^ kn))))).setCell ⟨W.heap.size + 1, 1, none⟩ (.int .i64 (man : Int))).setCell ⟨W.heap.size + 1, 2, none⟩ (.int .i64 (kn : Int))).setCell ⟨W.heap.size + 1, 3, none⟩ (.slice qp qn qc))).cell? ⟨W.heap.size + 1, 0, none⟩ = some (.int .i64 (bits .or .i64 st (wrap64 (2 ^ kn)))) := cell_of_row _ _ 0 _ _ _ zr_.out
  have z1_ : ((((((wd1.setCell ⟨w1.heap.size, 0, none⟩ (.int .i64 (bits .or .i64 st (wrap64 (2 ^ kn))))).setCell ⟨W.heap.size + 1, 0, none⟩ (.int .i64 (bits .or .i64 st (wrap64 (2 ^ kn))))).setCell ⟨W.heap.size + 1, 1, none⟩ (.int .i64 (man : Int))).setCell ⟨W.heap.size + 1, 2, none⟩ (.int .i64 (kn : Int))).setCell ⟨W.heap.size + 1, 3, none⟩ (.slice qp qn qc))).cell? ⟨W.heap.size + 1, 1, none⟩ = some (.int .i64 (man : Int)) := cell_of_row _ _ 1 _ _ _ zr_.out
  have z2_ : ((((((wd1.setCell ⟨w1.heap.size, 0, none⟩ (.int .i64 (bits .or .i64 st (wrap64 (2 ^ kn))))).setCell ⟨W.heap.size + 1, 0, none⟩ (.int .i64 (bits .or .i64 st (wrap64 (2 ^ kn))))).setCell ⟨W.heap.size + 1, 1, none⟩ (.int .i64 (man : Int))).setCell ⟨W.heap.size + 1, 2, none⟩ (.int .i64 (kn : Int))).setCell ⟨W.heap.size + 1, 3, none⟩ (.slice qp qn qc))).cell? ⟨W.heap.size + 1, 2, none⟩ = some (.int .i64 (kn : Int)) := cell_of_row _ _ 2 _ _ _ zr_.out
  have z3_ : ((((((wd1.setCell ⟨w1.heap.size, 0, none⟩ (.int .i64 (bits .or .i64 st (wrap64 (2 ^ kn))))).setCell ⟨W.heap.size + 1, 0, none⟩ (.int .i64 (bits .or .i64 st (wrap64 (2 ^ kn))))).setCell ⟨W.heap.size + 1, 1, none⟩ (.int .i64 (man : Int))).setCell ⟨W.heap.size + 1, 2, none⟩ (.int .i64 (kn : Int))).setCell ⟨W.heap.size + 1, 3, none⟩ (.slice qp qn qc))).cell? ⟨W.heap.size + 1, 3, none⟩ = some (.slice qp qn qc) := cell_of_row _ _ 3 _ _ _ zr_.out
  go_wp2
  refine bodyPost_ret (v := .tuple #[.agg #[.int .i64 (bits .or .i64 st (wrap64 (2 ^ kn))), .int .i64 (man : Int), .int .i64 (kn : Int), .slice qp qn qc], (.int .i64 (-1))]) (by simp [results, go_sem, z0_, z1_, z2_, z3_]) rfl ⟨_, rfl, ?_, ?_⟩
  · exact OwU.wide (lo := W.heap.size + 1 + 1) (by omega) (by simp only [World.size_setCell]; omega) (OwU.keep (chg_one _ _ _ _) (by omega) (OwU.keep (chg_one _ _ _ _) (by omega) (OwU.keep (chg_one _ _ _ _) (by omega) (OwU.keep (chg_one _ _ _ _) (by omega) (OwU.keep (chg_one _ _ _ _) (by omega) oC26_.out)))))
  · exact (gby_setnew (gby_setnew (gby_setnew (gby_setnew (gby_setnew G27_.out _ (by dsimp only; omega) _) _ (by dsimp only; omega) _) _ (by dsimp only; omega) _) _ (by dsimp only; omega) _) _ (by dsimp only; omega) _)

set_option maxRecDepth 8000 in
set_option maxHeartbeats 2000000 in
theorem specReport_00 (W : World) (st : Int) (man kn : Nat) (fi : Int) (v : Value) (xs : List Int) (H : RdL shI W v xs) (hl : szL shI xs ≤ 1048576) (hb : LOk st man fi xs) (hma : man ≤ 65535) (hk : kn ≤ 15) (hs0 : (st == 0) = true) (hbit : Hid (bitB man kn = false)) (sv : Int) (hsv : Hid (sv = xs.getD kn 0)) : Calls Try.prog 12 #[vLog st man fi v, .int .i64 (kn : Int)] W (ResIReportError (bits .or .i64 st (wrap64 (2 ^ kn))) man (kn : Int) xs sv W) := by
  have HSL := Lib.hid H
  have HL := Lib.hid hl
  obtain ⟨a1, n1, c1, rfl⟩ := RdL.form H
  clear H hl
  unfold vLog
  have HOK := Lib.hid hb
  clear hb
  have i1_ : (0 : Int) ≤ (kn : Int) := by omega
  have i2_ : ((kn : Int)).toNat = kn := by omega
  have i3_ : (kn : Int) ≤ 64 := by omega
  go_enter Try.func12, Try.ntmps12
  have rA1_ := Lib.hid (show (((W.alloc (.cells #[.int .i64 st, .int .i64 (man : Int), .int .i64 fi, .slice a1 n1 c1] 26)).alloc (.cells #[.int .i64 0, .int .i64 0, .int .i64 0, .slice none 0 0] 26))).heap[W.heap.size]? = some (.cells #[.int .i64 st, .int .i64 (man : Int), .int .i64 fi, .slice a1 n1 c1] 26 (0, 0)) from by rw [heap_alloc_old _ _ (by simp only [World.size_alloc]; omega)]; exact heap_alloc_new _ _)
  have rR2_ := Lib.hid (show (((W.alloc (.cells #[.int .i64 st, .int .i64 (man : Int), .int .i64 fi, .slice a1 n1 c1] 26)).alloc (.cells #[.int .i64 0, .int .i64 0, .int .i64 0, .slice none 0 0] 26))).heap[W.heap.size + 1]? = some (.cells #[.int .i64 0, .int .i64 0, .int .i64 0, .slice none 0 0] 26 (0, 0)) from by exact heap_pair _ _ _)
  have G3_ := Lib.hid (show (W).grownBy (((W.alloc (.cells #[.int .i64 st, .int .i64 (man : Int), .int .i64 fi, .slice a1 n1 c1] 26)).alloc (.cells #[.int .i64 0, .int .i64 0, .int .i64 0, .slice none 0 0] 26))) none from (gby_alloc (gby_alloc (gby_refl _ _) _) _))
  have A_0_ : (((W.alloc (.cells #[.int .i64 st, .int .i64 (man : Int), .int .i64 fi, .slice a1 n1 c1] 26)).alloc (.cells #[.int .i64 0, .int .i64 0, .int .i64 0, .slice none 0 0] 26))).cell? ⟨W.heap.size, 0, none⟩ = some (.int .i64 st) := cell_of_row _ _ 0 _ _ _ rA1_.out
  have A_1_ : (((W.alloc (.cells #[.int .i64 st, .int .i64 (man : Int), .int .i64 fi, .slice a1 n1 c1] 26)).alloc (.cells #[.int .i64 0, .int .i64 0, .int .i64 0, .slice none 0 0] 26))).cell? ⟨W.heap.size, 1, none⟩ = some (.int .i64 (man : Int)) := cell_of_row _ _ 1 _ _ _ rA1_.out
  have A_2_ : (((W.alloc (.cells #[.int .i64 st, .int .i64 (man : Int), .int .i64 fi, .slice a1 n1 c1] 26)).alloc (.cells #[.int .i64 0, .int .i64 0, .int .i64 0, .slice none 0 0] 26))).cell? ⟨W.heap.size, 2, none⟩ = some (.int .i64 fi) := cell_of_row _ _ 2 _ _ _ rA1_.out
  have A_3_ : (((W.alloc (.cells #[.int .i64 st, .int .i64 (man : Int), .int .i64 fi, .slice a1 n1 c1] 26)).alloc (.cells #[.int .i64 0, .int .i64 0, .int .i64 0, .slice none 0 0] 26))).cell? ⟨W.heap.size, 3, none⟩ = some (.slice a1 n1 c1) := cell_of_row _ _ 3 _ _ _ rA1_.out
  have R_0_ : (((W.alloc (.cells #[.int .i64 st, .int .i64 (man : Int), .int .i64 fi, .slice a1 n1 c1] 26)).alloc (.cells #[.int .i64 0, .int .i64 0, .int .i64 0, .slice none 0 0] 26))).cell? ⟨W.heap.size + 1, 0, none⟩ = some (.int .i64 0) := cell_of_row _ _ 0 _ _ _ rR2_.out
  have R_1_ : (((W.alloc (.cells #[.int .i64 st, .int .i64 (man : Int), .int .i64 fi, .slice a1 n1 c1] 26)).alloc (.cells #[.int .i64 0, .int .i64 0, .int .i64 0, .slice none 0 0] 26))).cell? ⟨W.heap.size + 1, 1, none⟩ = some (.int .i64 0) := cell_of_row _ _ 1 _ _ _ rR2_.out
  have R_2_ : (((W.alloc (.cells #[.int .i64 st, .int .i64 (man : Int), .int .i64 fi, .slice a1 n1 c1] 26)).alloc (.cells #[.int .i64 0, .int .i64 0, .int .i64 0, .slice none 0 0] 26))).cell? ⟨W.heap.size + 1, 2, none⟩ = some (.int .i64 0) := cell_of_row _ _ 2 _ _ _ rR2_.out
  have R_3_ : (((W.alloc (.cells #[.int .i64 st, .int .i64 (man : Int), .int .i64 fi, .slice a1 n1 c1] 26)).alloc (.cells #[.int .i64 0, .int .i64 0, .int .i64 0, .slice none 0 0] 26))).cell? ⟨W.heap.size + 1, 3, none⟩ = some (.slice none 0 0) := cell_of_row _ _ 3 _ _ _ rR2_.out
  go_wp2_with fail
  go_at_call 45
  refine (copyLog_d _ _ _ _ _ xs (HSL.out.grow G3_.out) HL.out).mono ?_
  rintro e w1 ⟨d, rfl, o, g⟩
  have sz_ := g.size
  try simp only [World.size_alloc] at sz_ o
  clear A_0_ A_1_ A_2_ A_3_ R_0_ R_1_ R_2_ R_3_
  have rA4_ := Lib.hid (show (w1).heap[W.heap.size]? = some (.cells #[.int .i64 st, .int .i64 (man : Int), .int .i64 fi, .slice a1 n1 c1] 26 (0, 0)) from row_held g rA1_.out)
  clear rA1_
  have rR5_ := Lib.hid (show (w1).heap[W.heap.size + 1]? = some (.cells #[.int .i64 0, .int .i64 0, .int .i64 0, .slice none 0 0] 26 (0, 0)) from row_held g rR2_.out)
  clear rR2_
  have G6_ := Lib.hid (show (W).grownBy (w1) none from gby_trans G3_.out g)
  clear g
  obtain ⟨qp, qn, qc, hv2⟩ := RdL.form (OwU.rd o)
  subst hv2
  unfold vLog
  have oC7_ := Lib.hid (show OwU (w1) (W.heap.size + 1 + 1) (w1.heap.size) [] [own shI (.slice qp qn qc) xs] from o)
  clear o
  have al_ : (w1).grownBy ((w1).alloc (.cells #[.int .i64 st, .int .i64 (man : Int), .int .i64 fi, .slice qp qn qc] 26)) none := gby_alloc (gby_refl _ _) _
  have rA8_ := Lib.hid (show ((w1.alloc (.cells #[.int .i64 st, .int .i64 (man : Int), .int .i64 fi, .slice qp qn qc] 26))).heap[W.heap.size]? = some (.cells #[.int .i64 st, .int .i64 (man : Int), .int .i64 fi, .slice a1 n1 c1] 26 (0, 0)) from row_held al_ rA4_.out)
  clear rA4_
  have rR9_ := Lib.hid (show ((w1.alloc (.cells #[.int .i64 st, .int .i64 (man : Int), .int .i64 fi, .slice qp qn qc] 26))).heap[W.heap.size + 1]? = some (.cells #[.int .i64 0, .int .i64 0, .int .i64 0, .slice none 0 0] 26 (0, 0)) from row_held al_ rR5_.out)
  clear rR5_
  have oC10_ := Lib.hid (show OwU ((w1.alloc (.cells #[.int .i64 st, .int .i64 (man : Int), .int .i64 fi, .slice qp qn qc] 26))) (W.heap.size + 1 + 1) (w1.heap.size) [] [own shI (.slice qp qn qc) xs] from OwU.grow oC7_.out al_)
  clear oC7_
  have G11_ := Lib.hid (show (W).grownBy ((w1.alloc (.cells #[.int .i64 st, .int .i64 (man : Int), .int .i64 fi, .slice qp qn qc] 26))) none from gby_trans G6_.out al_)
  have rX12_ := Lib.hid (show ((w1.alloc (.cells #[.int .i64 st, .int .i64 (man : Int), .int .i64 fi, .slice qp qn qc] 26))).heap[w1.heap.size]? = some (.cells #[.int .i64 st, .int .i64 (man : Int), .int .i64 fi, .slice qp qn qc] 26 (0, 0)) from heap_alloc_new _ _)
  clear al_
  have A_0_ : ((w1.alloc (.cells #[.int .i64 st, .int .i64 (man : Int), .int .i64 fi, .slice qp qn qc] 26))).cell? ⟨W.heap.size, 0, none⟩ = some (.int .i64 st) := cell_of_row _ _ 0 _ _ _ rA8_.out
  have A_1_ : ((w1.alloc (.cells #[.int .i64 st, .int .i64 (man : Int), .int .i64 fi, .slice qp qn qc] 26))).cell? ⟨W.heap.size, 1, none⟩ = some (.int .i64 (man : Int)) := cell_of_row _ _ 1 _ _ _ rA8_.out
  have A_2_ : ((w1.alloc (.cells #[.int .i64 st, .int .i64 (man : Int), .int .i64 fi, .slice qp qn qc] 26))).cell? ⟨W.heap.size, 2, none⟩ = some (.int .i64 fi) := cell_of_row _ _ 2 _ _ _ rA8_.out
  have A_3_ : ((w1.alloc (.cells #[.int .i64 st, .int .i64 (man : Int), .int .i64 fi, .slice qp qn qc] 26))).cell? ⟨W.heap.size, 3, none⟩ = some (.slice a1 n1 c1) := cell_of_row _ _ 3 _ _ _ rA8_.out
  have R_0_ : ((w1.alloc (.cells #[.int .i64 st, .int .i64 (man : Int), .int .i64 fi, .slice qp qn qc] 26))).cell? ⟨W.heap.size + 1, 0, none⟩ = some (.int .i64 0) := cell_of_row _ _ 0 _ _ _ rR9_.out
  have R_1_ : ((w1.alloc (.cells #[.int .i64 st, .int .i64 (man : Int), .int .i64 fi, .slice qp qn qc] 26))).cell? ⟨W.heap.size + 1, 1, none⟩ = some (.int .i64 0) := cell_of_row _ _ 1 _ _ _ rR9_.out
  have R_2_ : ((w1.alloc (.cells #[.int .i64 st, .int .i64 (man : Int), .int .i64 fi, .slice qp qn qc] 26))).cell? ⟨W.heap.size + 1, 2, none⟩ = some (.int .i64 0) := cell_of_row _ _ 2 _ _ _ rR9_.out
  have R_3_ : ((w1.alloc (.cells #[.int .i64 st, .int .i64 (man : Int), .int .i64 fi, .slice qp qn qc] 26))).cell? ⟨W.heap.size + 1, 3, none⟩ = some (.slice none 0 0) := cell_of_row _ _ 3 _ _ _ rR9_.out
  have X_0_ : ((w1.alloc (.cells #[.int .i64 st, .int .i64 (man : Int), .int .i64 fi, .slice qp qn qc] 26))).cell? ⟨w1.heap.size, 0, none⟩ = some (.int .i64 st) := cell_of_row _ _ 0 _ _ _ rX12_.out
  have X_1_ : ((w1.alloc (.cells #[.int .i64 st, .int .i64 (man : Int), .int .i64 fi, .slice qp qn qc] 26))).cell? ⟨w1.heap.size, 1, none⟩ = some (.int .i64 (man : Int)) := cell_of_row _ _ 1 _ _ _ rX12_.out
  have X_2_ : ((w1.alloc (.cells #[.int .i64 st, .int .i64 (man : Int), .int .i64 fi, .slice qp qn qc] 26))).cell? ⟨w1.heap.size, 2, none⟩ = some (.int .i64 fi) := cell_of_row _ _ 2 _ _ _ rX12_.out
  have X_3_ : ((w1.alloc (.cells #[.int .i64 st, .int .i64 (man : Int), .int .i64 fi, .slice qp qn qc] 26))).cell? ⟨w1.heap.size, 3, none⟩ = some (.slice qp qn qc) := cell_of_row _ _ 3 _ _ _ rX12_.out
  go_wp2_with fail
  go_at_call 46
  refine (specLog_yes _ _ _ _ _ xs (HSL.out.grow G11_.out) HL.out HOK.out).mono ?_
  rintro e w2 ⟨rfl, g⟩
  have szl_ := g.size
  try simp only [World.size_setCell, World.size_alloc] at szl_
  clear A_0_ A_1_ A_2_ A_3_ R_0_ R_1_ R_2_ R_3_ X_0_ X_1_ X_2_ X_3_
  have rA13_ := Lib.hid (show (w2).heap[W.heap.size]? = some (.cells #[.int .i64 st, .int .i64 (man : Int), .int .i64 fi, .slice a1 n1 c1] 26 (0, 0)) from row_held g rA8_.out)
  clear rA8_
  have rR14_ := Lib.hid (show (w2).heap[W.heap.size + 1]? = some (.cells #[.int .i64 0, .int .i64 0, .int .i64 0, .slice none 0 0] 26 (0, 0)) from row_held g rR9_.out)
  clear rR9_
  have rX15_ := Lib.hid (show (w2).heap[w1.heap.size]? = some (.cells #[.int .i64 st, .int .i64 (man : Int), .int .i64 fi, .slice qp qn qc] 26 (0, 0)) from row_held g rX12_.out)
  clear rX12_
  have oC16_ := Lib.hid (show OwU (w2) (W.heap.size + 1 + 1) (w1.heap.size) [] [own shI (.slice qp qn qc) xs] from OwU.grow oC10_.out g)
  clear oC10_
  have G17_ := Lib.hid (show (W).grownBy (w2) none from gby_trans G11_.out g)
  clear g
  have A_0_ : (w2).cell? ⟨W.heap.size, 0, none⟩ = some (.int .i64 st) := cell_of_row _ _ 0 _ _ _ rA13_.out
  have A_1_ : (w2).cell? ⟨W.heap.size, 1, none⟩ = some (.int .i64 (man : Int)) := cell_of_row _ _ 1 _ _ _ rA13_.out
  have A_2_ : (w2).cell? ⟨W.heap.size, 2, none⟩ = some (.int .i64 fi) := cell_of_row _ _ 2 _ _ _ rA13_.out
  have A_3_ : (w2).cell? ⟨W.heap.size, 3, none⟩ = some (.slice a1 n1 c1) := cell_of_row _ _ 3 _ _ _ rA13_.out
  have R_0_ : (w2).cell? ⟨W.heap.size + 1, 0, none⟩ = some (.int .i64 0) := cell_of_row _ _ 0 _ _ _ rR14_.out
  have R_1_ : (w2).cell? ⟨W.heap.size + 1, 1, none⟩ = some (.int .i64 0) := cell_of_row _ _ 1 _ _ _ rR14_.out
  have R_2_ : (w2).cell? ⟨W.heap.size + 1, 2, none⟩ = some (.int .i64 0) := cell_of_row _ _ 2 _ _ _ rR14_.out
  have R_3_ : (w2).cell? ⟨W.heap.size + 1, 3, none⟩ = some (.slice none 0 0) := cell_of_row _ _ 3 _ _ _ rR14_.out
  have X_0_ : (w2).cell? ⟨w1.heap.size, 0, none⟩ = some (.int .i64 st) := cell_of_row _ _ 0 _ _ _ rX15_.out
  have X_1_ : (w2).cell? ⟨w1.heap.size, 1, none⟩ = some (.int .i64 (man : Int)) := cell_of_row _ _ 1 _ _ _ rX15_.out
  have X_2_ : (w2).cell? ⟨w1.heap.size, 2, none⟩ = some (.int .i64 fi) := cell_of_row _ _ 2 _ _ _ rX15_.out
  have X_3_ : (w2).cell? ⟨w1.heap.size, 3, none⟩ = some (.slice qp qn qc) := cell_of_row _ _ 3 _ _ _ rX15_.out
  go_wp2_with fail
  go_at_call 47
  refine (in_yes _ _ _ _ (by omega) (by omega)).mono ?_
  rintro e w3_ ⟨rfl, rfl⟩
  clear A_0_ A_1_ A_2_ A_3_ R_0_ R_1_ R_2_ R_3_ X_0_ X_1_ X_2_ X_3_
  have A_0_ : (w2).cell? ⟨W.heap.size, 0, none⟩ = some (.int .i64 st) := cell_of_row _ _ 0 _ _ _ rA13_.out
  have A_1_ : (w2).cell? ⟨W.heap.size, 1, none⟩ = some (.int .i64 (man : Int)) := cell_of_row _ _ 1 _ _ _ rA13_.out
  have A_2_ : (w2).cell? ⟨W.heap.size, 2, none⟩ = some (.int .i64 fi) := cell_of_row _ _ 2 _ _ _ rA13_.out
  have A_3_ : (w2).cell? ⟨W.heap.size, 3, none⟩ = some (.slice a1 n1 c1) := cell_of_row _ _ 3 _ _ _ rA13_.out
  have R_0_ : (w2).cell? ⟨W.heap.size + 1, 0, none⟩ = some (.int .i64 0) := cell_of_row _ _ 0 _ _ _ rR14_.out
  have R_1_ : (w2).cell? ⟨W.heap.size + 1, 1, none⟩ = some (.int .i64 0) := cell_of_row _ _ 1 _ _ _ rR14_.out
  have R_2_ : (w2).cell? ⟨W.heap.size + 1, 2, none⟩ = some (.int .i64 0) := cell_of_row _ _ 2 _ _ _ rR14_.out
  have R_3_ : (w2).cell? ⟨W.heap.size + 1, 3, none⟩ = some (.slice none 0 0) := cell_of_row _ _ 3 _ _ _ rR14_.out
  have X_0_ : (w2).cell? ⟨w1.heap.size, 0, none⟩ = some (.int .i64 st) := cell_of_row _ _ 0 _ _ _ rX15_.out
  have X_1_ : (w2).cell? ⟨w1.heap.size, 1, none⟩ = some (.int .i64 (man : Int)) := cell_of_row _ _ 1 _ _ _ rX15_.out
  have X_2_ : (w2).cell? ⟨w1.heap.size, 2, none⟩ = some (.int .i64 fi) := cell_of_row _ _ 2 _ _ _ rX15_.out
  have X_3_ : (w2).cell? ⟨w1.heap.size, 3, none⟩ = some (.slice qp qn qc) := cell_of_row _ _ 3 _ _ _ rX15_.out
  have Xf0_ : (w2).frozen? ⟨w1.heap.size, 0, none⟩ = false := frozen_of_row _ _ 0 _ _ rX15_.out
  have Xf1_ : (w2).frozen? ⟨w1.heap.size, 1, none⟩ = false := frozen_of_row _ _ 1 _ _ rX15_.out
  have Xf2_ : (w2).frozen? ⟨w1.heap.size, 2, none⟩ = false := frozen_of_row _ _ 2 _ _ rX15_.out
  have Xf3_ : (w2).frozen? ⟨w1.heap.size, 3, none⟩ = false := frozen_of_row _ _ 3 _ _ rX15_.out
  have hna_ : ¬ w1.heap.size = W.heap.size := by omega
  have hna2_ : ¬ W.heap.size = w1.heap.size := by omega
  go_wp2_with fail
  clear A_0_ A_1_ A_2_ A_3_ R_0_ R_1_ R_2_ R_3_ X_0_ X_1_ X_2_ X_3_ Xf0_ Xf1_ Xf2_ Xf3_
  have rA18_ := Lib.hid (show ((w2.setCell ⟨w1.heap.size, 2, none⟩ (.int .i64 (kn : Int)))).heap[W.heap.size]? = some (.cells #[.int .i64 st, .int .i64 (man : Int), .int .i64 fi, .slice a1 n1 c1] 26 (0, 0)) from (set_far rA13_.out (by dsimp only; omega)))
  clear rA13_
  have rR19_ := Lib.hid (show ((w2.setCell ⟨w1.heap.size, 2, none⟩ (.int .i64 (kn : Int)))).heap[W.heap.size + 1]? = some (.cells #[.int .i64 0, .int .i64 0, .int .i64 0, .slice none 0 0] 26 (0, 0)) from (set_far rR14_.out (by dsimp only; omega)))
  clear rR14_
  have rX20_ := Lib.hid (show ((w2.setCell ⟨w1.heap.size, 2, none⟩ (.int .i64 (kn : Int)))).heap[w1.heap.size]? = some (.cells #[.int .i64 st, .int .i64 (man : Int), .int .i64 (kn : Int), .slice qp qn qc] 26 (0, 0)) from (heap_setCell_same _ _ 2 _ _ _ rX15_.out))
  clear rX15_
  have oC21_ := Lib.hid (show OwU ((w2.setCell ⟨w1.heap.size, 2, none⟩ (.int .i64 (kn : Int)))) (W.heap.size + 1 + 1) (w1.heap.size) [] [own shI (.slice qp qn qc) xs] from (OwU.keep (chg_one _ _ _ _) (by omega) oC16_.out))
  clear oC16_
  have G22_ := Lib.hid (show (W).grownBy ((w2.setCell ⟨w1.heap.size, 2, none⟩ (.int .i64 (kn : Int)))) none from (gby_setnew G17_.out _ (by dsimp only; omega) _))
  have szq_ : ((w2.setCell ⟨w1.heap.size, 2, none⟩ (.int .i64 (kn : Int)))).heap.size = w2.heap.size := by simp only [World.size_setCell]
  generalize (w2.setCell ⟨w1.heap.size, 2, none⟩ (.int .i64 (kn : Int))) = wq at rA18_ rR19_ rX20_ oC21_ G22_ szq_ ⊢
  have A_0_ : (wq).cell? ⟨W.heap.size, 0, none⟩ = some (.int .i64 st) := cell_of_row _ _ 0 _ _ _ rA18_.out
  have A_1_ : (wq).cell? ⟨W.heap.size, 1, none⟩ = some (.int .i64 (man : Int)) := cell_of_row _ _ 1 _ _ _ rA18_.out
  have A_2_ : (wq).cell? ⟨W.heap.size, 2, none⟩ = some (.int .i64 fi) := cell_of_row _ _ 2 _ _ _ rA18_.out
  have A_3_ : (wq).cell? ⟨W.heap.size, 3, none⟩ = some (.slice a1 n1 c1) := cell_of_row _ _ 3 _ _ _ rA18_.out
  have R_0_ : (wq).cell? ⟨W.heap.size + 1, 0, none⟩ = some (.int .i64 0) := cell_of_row _ _ 0 _ _ _ rR19_.out
  have R_1_ : (wq).cell? ⟨W.heap.size + 1, 1, none⟩ = some (.int .i64 0) := cell_of_row _ _ 1 _ _ _ rR19_.out
  have R_2_ : (wq).cell? ⟨W.heap.size + 1, 2, none⟩ = some (.int .i64 0) := cell_of_row _ _ 2 _ _ _ rR19_.out
  have R_3_ : (wq).cell? ⟨W.heap.size + 1, 3, none⟩ = some (.slice none 0 0) := cell_of_row _ _ 3 _ _ _ rR19_.out
  have X_0_ : (wq).cell? ⟨w1.heap.size, 0, none⟩ = some (.int .i64 st) := cell_of_row _ _ 0 _ _ _ rX20_.out
  have X_1_ : (wq).cell? ⟨w1.heap.size, 1, none⟩ = some (.int .i64 (man : Int)) := cell_of_row _ _ 1 _ _ _ rX20_.out
  have X_2_ : (wq).cell? ⟨w1.heap.size, 2, none⟩ = some (.int .i64 (kn : Int)) := cell_of_row _ _ 2 _ _ _ rX20_.out
  have X_3_ : (wq).cell? ⟨w1.heap.size, 3, none⟩ = some (.slice qp qn qc) := cell_of_row _ _ 3 _ _ _ rX20_.out
  have Xf0_ : (wq).frozen? ⟨w1.heap.size, 0, none⟩ = false := frozen_of_row _ _ 0 _ _ rX20_.out
  have Xf1_ : (wq).frozen? ⟨w1.heap.size, 1, none⟩ = false := frozen_of_row _ _ 1 _ _ rX20_.out
  have Xf2_ : (wq).frozen? ⟨w1.heap.size, 2, none⟩ = false := frozen_of_row _ _ 2 _ _ rX20_.out
  have Xf3_ : (wq).frozen? ⟨w1.heap.size, 3, none⟩ = false := frozen_of_row _ _ 3 _ _ rX20_.out
  go_still_tail 6, (by kernel_rfl)
  change wpList _ _ _ _ _ (wq).drew
  have gd_ : (wq).grownBy (wq).drew none := gby_drew (gby_refl _ _)
  generalize (wq).drew = wd1 at gd_ ⊢
  have szwd1 := gd_.size
  try simp only [World.size_setCell, World.size_alloc] at szwd1
  have rA23_ := Lib.hid (show (wd1).heap[W.heap.size]? = some (.cells #[.int .i64 st, .int .i64 (man : Int), .int .i64 fi, .slice a1 n1 c1] 26 (0, 0)) from row_held gd_ rA18_.out)
  clear rA18_
  have rR24_ := Lib.hid (show (wd1).heap[W.heap.size + 1]? = some (.cells #[.int .i64 0, .int .i64 0, .int .i64 0, .slice none 0 0] 26 (0, 0)) from row_held gd_ rR19_.out)
  clear rR19_
  have rX25_ := Lib.hid (show (wd1).heap[w1.heap.size]? = some (.cells #[.int .i64 st, .int .i64 (man : Int), .int .i64 (kn : Int), .slice qp qn qc] 26 (0, 0)) from row_held gd_ rX20_.out)
  clear rX20_
  have oC26_ := Lib.hid (show OwU (wd1) (W.heap.size + 1 + 1) (w1.heap.size) [] [own shI (.slice qp qn qc) xs] from OwU.grow oC21_.out gd_)
  clear oC21_
  have G27_ := Lib.hid (show (W).grownBy (wd1) none from gby_trans G22_.out gd_)
  clear gd_
  have A_0_ : (wd1).cell? ⟨W.heap.size, 0, none⟩ = some (.int .i64 st) := cell_of_row _ _ 0 _ _ _ rA23_.out
  have A_1_ : (wd1).cell? ⟨W.heap.size, 1, none⟩ = some (.int .i64 (man : Int)) := cell_of_row _ _ 1 _ _ _ rA23_.out
  have A_2_ : (wd1).cell? ⟨W.heap.size, 2, none⟩ = some (.int .i64 fi) := cell_of_row _ _ 2 _ _ _ rA23_.out
  have A_3_ : (wd1).cell? ⟨W.heap.size, 3, none⟩ = some (.slice a1 n1 c1) := cell_of_row _ _ 3 _ _ _ rA23_.out
  have R_0_ : (wd1).cell? ⟨W.heap.size + 1, 0, none⟩ = some (.int .i64 0) := cell_of_row _ _ 0 _ _ _ rR24_.out
  have R_1_ : (wd1).cell? ⟨W.heap.size + 1, 1, none⟩ = some (.int .i64 0) := cell_of_row _ _ 1 _ _ _ rR24_.out
  have R_2_ : (wd1).cell? ⟨W.heap.size + 1, 2, none⟩ = some (.int .i64 0) := cell_of_row _ _ 2 _ _ _ rR24_.out
  have R_3_ : (wd1).cell? ⟨W.heap.size + 1, 3, none⟩ = some (.slice none 0 0) := cell_of_row _ _ 3 _ _ _ rR24_.out
  have X_0_ : (wd1).cell? ⟨w1.heap.size, 0, none⟩ = some (.int .i64 st) := cell_of_row _ _ 0 _ _ _ rX25_.out
  have X_1_ : (wd1).cell? ⟨w1.heap.size, 1, none⟩ = some (.int .i64 (man : Int)) := cell_of_row _ _ 1 _ _ _ rX25_.out
  have X_2_ : (wd1).cell? ⟨w1.heap.size, 2, none⟩ = some (.int .i64 (kn : Int)) := cell_of_row _ _ 2 _ _ _ rX25_.out
  have X_3_ : (wd1).cell? ⟨w1.heap.size, 3, none⟩ = some (.slice qp qn qc) := cell_of_row _ _ 3 _ _ _ rX25_.out
  have Xf0_ : (wd1).frozen? ⟨w1.heap.size, 0, none⟩ = false := frozen_of_row _ _ 0 _ _ rX25_.out
  have Xf1_ : (wd1).frozen? ⟨w1.heap.size, 1, none⟩ = false := frozen_of_row _ _ 1 _ _ rX25_.out
  have Xf2_ : (wd1).frozen? ⟨w1.heap.size, 2, none⟩ = false := frozen_of_row _ _ 2 _ _ rX25_.out
  have Xf3_ : (wd1).frozen? ⟨w1.heap.size, 3, none⟩ = false := frozen_of_row _ _ 3 _ _ rX25_.out
  have hand := bit_and0 man kn hma hbit.out
  go_wp2_with fail
  clear A_0_ A_1_ A_2_ A_3_ R_0_ R_1_ R_2_ R_3_ X_0_ X_1_ X_2_ X_3_ Xf0_ Xf1_ Xf2_ Xf3_
  have rA28_ := Lib.hid (show ((wd1.setCell ⟨w1.heap.size, 0, none⟩ (.int .i64 (bits .or .i64 st (wrap64 (2 ^ kn)))))).heap[W.heap.size]? = some (.cells #[.int .i64 st, .int .i64 (man : Int), .int .i64 fi, .slice a1 n1 c1] 26 (0, 0)) from (set_far rA23_.out (by dsimp only; omega)))
  clear rA23_
  have rR29_ := Lib.hid (show ((wd1.setCell ⟨w1.heap.size, 0, none⟩ (.int .i64 (bits .or .i64 st (wrap64 (2 ^ kn)))))).heap[W.heap.size + 1]? = some (.cells #[.int .i64 0, .int .i64 0, .int .i64 0, .slice none 0 0] 26 (0, 0)) from (set_far rR24_.out (by dsimp only; omega)))
  clear rR24_
  have rX30_ := Lib.hid (show ((wd1.setCell ⟨w1.heap.size, 0, none⟩ (.int .i64 (bits .or .i64 st (wrap64 (2 ^ kn)))))).heap[w1.heap.size]? = some (.cells #[.int .i64 (bits .or .i64 st (wrap64 (2 ^ kn))), .int .i64 (man : Int), .int .i64 (kn : Int), .slice qp qn qc] 26 (0, 0)) from (heap_setCell_same _ _ 0 _ _ _ rX25_.out))
  clear rX25_
  have oC31_ := Lib.hid (show OwU ((wd1.setCell ⟨w1.heap.size, 0, none⟩ (.int .i64 (bits .or .i64 st (wrap64 (2 ^ kn)))))) (W.heap.size + 1 + 1) (w1.heap.size) [] [own shI (.slice qp qn qc) xs] from (OwU.keep (chg_one _ _ _ _) (by omega) oC26_.out))
  clear oC26_
  have G32_ := Lib.hid (show (W).grownBy ((wd1.setCell ⟨w1.heap.size, 0, none⟩ (.int .i64 (bits .or .i64 st (wrap64 (2 ^ kn)))))) none from (gby_setnew G27_.out _ (by dsimp only; omega) _))
  have szp_ : ((wd1.setCell ⟨w1.heap.size, 0, none⟩ (.int .i64 (bits .or .i64 st (wrap64 (2 ^ kn)))))).heap.size = wd1.heap.size := by simp only [World.size_setCell]
  generalize (wd1.setCell ⟨w1.heap.size, 0, none⟩ (.int .i64 (bits .or .i64 st (wrap64 (2 ^ kn))))) = wp at rA28_ rR29_ rX30_ oC31_ G32_ szp_ ⊢
  have A_0_ : (wp).cell? ⟨W.heap.size, 0, none⟩ = some (.int .i64 st) := cell_of_row _ _ 0 _ _ _ rA28_.out
  have A_1_ : (wp).cell? ⟨W.heap.size, 1, none⟩ = some (.int .i64 (man : Int)) := cell_of_row _ _ 1 _ _ _ rA28_.out
  have A_2_ : (wp).cell? ⟨W.heap.size, 2, none⟩ = some (.int .i64 fi) := cell_of_row _ _ 2 _ _ _ rA28_.out
  have A_3_ : (wp).cell? ⟨W.heap.size, 3, none⟩ = some (.slice a1 n1 c1) := cell_of_row _ _ 3 _ _ _ rA28_.out
  have R_0_ : (wp).cell? ⟨W.heap.size + 1, 0, none⟩ = some (.int .i64 0) := cell_of_row _ _ 0 _ _ _ rR29_.out
  have R_1_ : (wp).cell? ⟨W.heap.size + 1, 1, none⟩ = some (.int .i64 0) := cell_of_row _ _ 1 _ _ _ rR29_.out
  have R_2_ : (wp).cell? ⟨W.heap.size + 1, 2, none⟩ = some (.int .i64 0) := cell_of_row _ _ 2 _ _ _ rR29_.out
  have R_3_ : (wp).cell? ⟨W.heap.size + 1, 3, none⟩ = some (.slice none 0 0) := cell_of_row _ _ 3 _ _ _ rR29_.out
  have Rf0_ : (wp).frozen? ⟨W.heap.size + 1, 0, none⟩ = false := frozen_of_row _ _ 0 _ _ rR29_.out
  have Rf1_ : (wp).frozen? ⟨W.heap.size + 1, 1, none⟩ = false := frozen_of_row _ _ 1 _ _ rR29_.out
  have Rf2_ : (wp).frozen? ⟨W.heap.size + 1, 2, none⟩ = false := frozen_of_row _ _ 2 _ _ rR29_.out
  have Rf3_ : (wp).frozen? ⟨W.heap.size + 1, 3, none⟩ = false := frozen_of_row _ _ 3 _ _ rR29_.out
  have X_0_ : (wp).cell? ⟨w1.heap.size, 0, none⟩ = some (.int .i64 (bits .or .i64 st (wrap64 (2 ^ kn)))) := cell_of_row _ _ 0 _ _ _ rX30_.out
  have X_1_ : (wp).cell? ⟨w1.heap.size, 1, none⟩ = some (.int .i64 (man : Int)) := cell_of_row _ _ 1 _ _ _ rX30_.out
  have X_2_ : (wp).cell? ⟨w1.heap.size, 2, none⟩ = some (.int .i64 (kn : Int)) := cell_of_row _ _ 2 _ _ _ rX30_.out
  have X_3_ : (wp).cell? ⟨w1.heap.size, 3, none⟩ = some (.slice qp qn qc) := cell_of_row _ _ 3 _ _ _ rX30_.out
  have hx16 : xs.length = 16 := HOK.out.2.2.1

  obtain ⟨a_, cp_, e_, hi_, _⟩ := rdI_in HSL.out
  obtain ⟨_, hi_⟩ := hi_
  injection e_ with e1 e2 e3
  obtain ⟨b_, o_, ea_, hc_⟩ := hi_.resolve_left (by omega)
  rw [ea_] at e1
  rw [hx16] at e2

  subst e1 e2
  have sc0_ := hc_ kn (by omega)
  have hnb1_ : ¬ b_ = W.heap.size + 1 := by have := cell_lt9 sc0_; dsimp only at this; omega
  have hnb2_ : ¬ W.heap.size + 1 = b_ := fun q => hnb1_ q.symm
  have sc_ := (G32_.out).cell (sc0_) (by simp)
  clear sc0_
  have hnx_ : ¬ w1.heap.size = W.heap.size + 1 := by omega
  have hnx2_ : ¬ W.heap.size + 1 = w1.heap.size := by omega
  rw [← hsv.out] at sc_
  have hk16 : (kn : Int) < 16 := by omega
  have hk16n : kn < 16 := by omega
  clear hi_ ea_ e3 hc_ hx16
  go_region_with (fail)
  all_goals
    clear A_0_ A_1_ A_2_ A_3_ R_0_ R_1_ R_2_ R_3_ Rf0_ Rf1_ Rf2_ Rf3_ X_0_ X_1_ X_2_ X_3_
    have A_0_ : (wp).cell? ⟨W.heap.size, 0, none⟩ = some (.int .i64 st) := cell_of_row _ _ 0 _ _ _ rA28_.out
    have A_1_ : (wp).cell? ⟨W.heap.size, 1, none⟩ = some (.int .i64 (man : Int)) := cell_of_row _ _ 1 _ _ _ rA28_.out
    have A_2_ : (wp).cell? ⟨W.heap.size, 2, none⟩ = some (.int .i64 fi) := cell_of_row _ _ 2 _ _ _ rA28_.out
    have A_3_ : (wp).cell? ⟨W.heap.size, 3, none⟩ = some (.slice (some ⟨b_, o_, none⟩) 16 c1) := cell_of_row _ _ 3 _ _ _ rA28_.out
    have R_0_ : (wp).cell? ⟨W.heap.size + 1, 0, none⟩ = some (.int .i64 0) := cell_of_row _ _ 0 _ _ _ rR29_.out
    have R_1_ : (wp).cell? ⟨W.heap.size + 1, 1, none⟩ = some (.int .i64 0) := cell_of_row _ _ 1 _ _ _ rR29_.out
    have R_2_ : (wp).cell? ⟨W.heap.size + 1, 2, none⟩ = some (.int .i64 0) := cell_of_row _ _ 2 _ _ _ rR29_.out
    have R_3_ : (wp).cell? ⟨W.heap.size + 1, 3, none⟩ = some (.slice none 0 0) := cell_of_row _ _ 3 _ _ _ rR29_.out
    have Rf0_ : (wp).frozen? ⟨W.heap.size + 1, 0, none⟩ = false := frozen_of_row _ _ 0 _ _ rR29_.out
    have Rf1_ : (wp).frozen? ⟨W.heap.size + 1, 1, none⟩ = false := frozen_of_row _ _ 1 _ _ rR29_.out
    have Rf2_ : (wp).frozen? ⟨W.heap.size + 1, 2, none⟩ = false := frozen_of_row _ _ 2 _ _ rR29_.out
    have Rf3_ : (wp).frozen? ⟨W.heap.size + 1, 3, none⟩ = false := frozen_of_row _ _ 3 _ _ rR29_.out
    have X_0_ : (wp).cell? ⟨w1.heap.size, 0, none⟩ = some (.int .i64 (bits .or .i64 st (wrap64 (2 ^ kn)))) := cell_of_row _ _ 0 _ _ _ rX30_.out
    have X_1_ : (wp).cell? ⟨w1.heap.size, 1, none⟩ = some (.int .i64 (man : Int)) := cell_of_row _ _ 1 _ _ _ rX30_.out
    have X_2_ : (wp).cell? ⟨w1.heap.size, 2, none⟩ = some (.int .i64 (kn : Int)) := cell_of_row _ _ 2 _ _ _ rX30_.out
    have X_3_ : (wp).cell? ⟨w1.heap.size, 3, none⟩ = some (.slice qp qn qc) := cell_of_row _ _ 3 _ _ _ rX30_.out
    have zr_ := Lib.hid (show (((((wp.setCell ⟨W.heap.size + 1, 0, none⟩ (.int .i64 (bits .or .i64 st (wrap64 (2 ^ kn))))).setCell ⟨W.heap.size + 1, 1, none⟩ (.int .i64 (man : Int))).setCell ⟨W.heap.size + 1, 2, none⟩ (.int .i64 (kn : Int))).setCell ⟨W.heap.size + 1, 3, none⟩ (.slice qp qn qc))).heap[W.heap.size + 1]? = some (.cells #[.int .i64 (bits .or .i64 st (wrap64 (2 ^ kn))), .int .i64 (man : Int), .int .i64 (kn : Int), .slice qp qn qc] 26 (0, 0)) from (heap_setCell_same _ _ 3 _ _ _ (heap_setCell_same _ _ 2 _ _ _ (heap_setCell_same _ _ 1 _ _ _ (heap_setCell_same _ _ 0 _ _ _ rR29_.out)))))
    have z0_ : (((((wp.setCell ⟨W.heap.size + 1, 0, none⟩ (.int .i64 (bits .or .i64 st (wrap64 (2 ^ kn))))).setCell ⟨W.heap.size + 1, 1, none⟩ (.int .i64 (man : Int))).setCell ⟨W.heap.size + 1, 2, none⟩ (.int .i64 (kn : Int))).setCell ⟨W.heap.size + 1, 3, none⟩ (.slice qp qn qc))).cell? ⟨W.heap.size + 1, 0, none⟩ = some (.int .i64 (bits .or .i64 st (wrap64 (2 ^ kn)))) := cell_of_row _ _ 0 _ _ _ zr_.out
    have z1_ : (((((wp.setCell ⟨W.heap.size + 1, 0, none⟩ (.int .i64 (bits .or .i64 st (wrap64 (2 ^ kn))))).setCell ⟨W.heap.size + 1, 1, none⟩ (.int .i64 (man : Int))).setCell ⟨W.heap.size + 1, 2, none⟩ (.int .i64 (kn : Int))).setCell ⟨W.heap.size + 1, 3, none⟩ (.slice qp qn qc))).cell? ⟨W.heap.size + 1, 1, none⟩ = some (.int .i64 (man : Int)) := cell_of_row _ _ 1 _ _ _ zr_.out
    have z2_ : (((((wp.setCell ⟨W.heap.size + 1, 0, none⟩ (.int .i64 (bits .or .i64 st (wrap64 (2 ^ kn))))).setCell ⟨W.heap.size + 1, 1, none⟩ (.int .i64 (man : Int))).setCell ⟨W.heap.size + 1, 2, none⟩ (.int .i64 (kn : Int))).setCell ⟨W.heap.size + 1, 3, none⟩ (.slice qp qn qc))).cell? ⟨W.heap.size + 1, 2, none⟩ = some (.int .i64 (kn : Int)) := cell_of_row _ _ 2 _ _ _ zr_.out
    have z3_ : (((((wp.setCell ⟨W.heap.size + 1, 0, none⟩ (.int .i64 (bits .or .i64 st (wrap64 (2 ^ kn))))).setCell ⟨W.heap.size + 1, 1, none⟩ (.int .i64 (man : Int))).setCell ⟨W.heap.size + 1, 2, none⟩ (.int .i64 (kn : Int))).setCell ⟨W.heap.size + 1, 3, none⟩ (.slice qp qn qc))).cell? ⟨W.heap.size + 1, 3, none⟩ = some (.slice qp qn qc) := cell_of_row _ _ 3 _ _ _ zr_.out
    go_wp2
    refine bodyPost_ret (v := .tuple #[.agg #[.int .i64 (bits .or .i64 st (wrap64 (2 ^ kn))), .int .i64 (man : Int), .int .i64 (kn : Int), .slice qp qn qc], (.int .i64 sv)]) (by simp [results, go_sem, z0_, z1_, z2_, z3_]) rfl ⟨.slice qp qn qc, rfl, ?_, ?_⟩
    · exact OwU.wide (lo := W.heap.size + 1 + 1) (by omega) (by first | omega | (simp; omega) | simp) (OwU.grow (OwU.keep (chg_one _ _ _ _) (.inr (by omega)) (OwU.keep (chg_one _ _ _ _) (.inr (by omega)) (OwU.keep (chg_one _ _ _ _) (.inr (by omega)) (OwU.keep (chg_one _ _ _ _) (.inr (by omega)) oC31_.out)))) (gby_drew (gby_refl _ _)))
    · exact gby_drew (gby_setnew (gby_setnew (gby_setnew (gby_setnew G32_.out _ (by dsimp only; omega) _) _ (by dsimp only; omega) _) _ (by dsimp only; omega) _) _ (by dsimp only; omega) _)

theorem reportError_both (i0_0 i0_1 i0_2 : Int) (xs0_3 : List Int) (i1 : Int) (h0 : szL shI xs0_3 ≤ 1048576) : ∃ (ir0_0 : Int) (ir0_1 : Int) (ir0_2 : Int) (xsr0_3 : List Int) (ir1 : Int), szL shI xsr0_3 ≤ 1048576 ∧ (∀ (W : World), ∀ u0_3, RdL shI W u0_3 xs0_3 → Calls Try.prog 12 #[.agg #[.int .i64 i0_0, .int .i64 i0_1, .int .i64 i0_2, u0_3], .int .i64 i1] W (ResSReportError ir0_0 ir0_1 ir0_2 xsr0_3 ir1 W)) ∧ ∀ (W : World), ∀ u0_3, RdL shI W u0_3 xs0_3 → Calls Try.prog 14 #[.agg #[.int .i64 i0_0, .int .i64 i0_1, .int .i64 i0_2, u0_3], .int .i64 i1] W (ResIReportError ir0_0 ir0_1 ir0_2 xsr0_3 ir1 W) := by
  by_cases hb : LOk i0_0 i0_1 i0_2 xs0_3
  · rcases inr_or i1 0 15 with ⟨h1, h2⟩ | hk
    · obtain ⟨kn, rfl⟩ : ∃ n : Nat, i1 = (n : Int) := ⟨i1.toNat, by omega⟩
      obtain ⟨man, hm⟩ : ∃ n : Nat, i0_1 = (n : Int) := ⟨i0_1.toNat, by have := hb.2.1; omega⟩
      subst hm
      have hma : man ≤ 65535 := by have := hb.2.1; omega
      have hk : kn ≤ 15 := by omega
      by_cases hs : i0_0 = 0
      · subst hs
        cases hbit : bitB man kn with
        | true => exact ⟨bits .or .i64 0 (wrap64 (2 ^ kn)), man, kn, xs0_3, -1, h0, fun W u H => (specReport_01 W 0 man kn _ u _ H h0 hb hma hk rfl (Lib.hid hbit)).mono (fun e w q => resS_ofReportError e w q), fun W u H => implReport_01 W 0 man kn _ u _ H h0 hb hma hk rfl (Lib.hid hbit)⟩
        | false => exact ⟨bits .or .i64 0 (wrap64 (2 ^ kn)), man, kn, xs0_3, xs0_3.getD kn 0, h0, fun W u H => (specReport_00 W 0 man kn _ u _ H h0 hb hma hk rfl (Lib.hid hbit) _ (Lib.hid rfl)).mono (fun e w q => resS_ofReportError e w q), fun W u H => implReport_00 W 0 man kn _ u _ H h0 hb hma hk rfl (Lib.hid hbit) _ (Lib.hid rfl)⟩
      · have hs0 : (i0_0 == 0) = false := beq_eq_false_iff_ne.2 hs
        cases hbit : bitB man kn with
        | true => exact ⟨bits .or .i64 i0_0 (wrap64 (2 ^ kn)), man, i0_2, xs0_3, -1, h0, fun W u H => (specReport_11 W _ man kn _ u _ H h0 hb hma hk hs0 (Lib.hid hbit)).mono (fun e w q => resS_ofReportError e w q), fun W u H => implReport_11 W _ man kn _ u _ H h0 hb hma hk hs0 (Lib.hid hbit)⟩
        | false => exact ⟨bits .or .i64 i0_0 (wrap64 (2 ^ kn)), man, i0_2, xs0_3, xs0_3.getD kn 0, h0, fun W u H => (specReport_10 W _ man kn _ u _ H h0 hb hma hk hs0 (Lib.hid hbit) _ (Lib.hid rfl)).mono (fun e w q => resS_ofReportError e w q), fun W u H => implReport_10 W _ man kn _ u _ H h0 hb hma hk hs0 (Lib.hid hbit) _ (Lib.hid rfl)⟩
    · exact ⟨i0_0, i0_1, i0_2, xs0_3, -1, h0, fun W u H => (specReport_out W _ _ _ u _ i1 H h0 hb hk).mono (fun e w q => resS_ofReportError e w q), fun W u H => implReport_out W _ _ _ u _ i1 H h0 hb hk⟩
  · exact ⟨i0_0, i0_1, i0_2, xs0_3, -1, h0, fun W u H => (specReport_bad W _ _ _ u _ i1 H h0 hb).mono (fun e w q => resS_ofReportError e w q), fun W u H => implReport_bad W _ _ _ u _ i1 H h0 hb⟩


end Go.Proofs.Ytgagbhkidponnad
