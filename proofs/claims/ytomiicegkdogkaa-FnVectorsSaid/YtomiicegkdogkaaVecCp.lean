/-
  Vectors copied by the program.
-/
import Derived.Test.YtomiicegkdogkaaCloneB
import Derived.Test.YtomiicegkdogkaaQVectors
import Derived.Test.YtomiicegkdogkaaSetB
namespace Go.Proofs.Ytomiicegkdogkaa
open Go Go.RowKit
set_option linter.unusedVariables false

set_option maxRecDepth 8000 in
set_option maxHeartbeats 2000000 in
theorem copiedVec_d (W : World) (i0 : Int) (v1 v2 : Value) (xs1 xs2 : List Bool) (H1 : RdL shB W v1 xs1) (H2 : RdL shB W v2 xs2) (hl1 : szL shB xs1 ≤ 1048576) (hl2 : szL shB xs2 ≤ 1048576) : Calls Try.prog 63 #[vVectors i0 v1 v2] W (NewVectors i0 xs1 xs2 W) := by
  have H1_ := Lib.hid H1
  have H2_ := Lib.hid H2
  obtain ⟨a1, n1, c1, rfl⟩ := RdL.form H1
  obtain ⟨a2, n2, c2, rfl⟩ := RdL.form H2
  clear H1 H2
  unfold vVectors
  go_enter Try.func63, Try.ntmps63
  have rA1_ := Lib.hid (show (((W.alloc (.cells #[.int .i64 i0, .slice a1 n1 c1, .slice a2 n2 c2] 26)).alloc (.cells #[.int .i64 0, .slice none 0 0, .slice none 0 0] 26))).heap[W.heap.size]? = some (.cells #[.int .i64 i0, .slice a1 n1 c1, .slice a2 n2 c2] 26 (0, 0)) from by rw [heap_alloc_old _ _ (by simp only [World.size_alloc]; omega)]; exact heap_alloc_new _ _)
  have rR2_ := Lib.hid (show (((W.alloc (.cells #[.int .i64 i0, .slice a1 n1 c1, .slice a2 n2 c2] 26)).alloc (.cells #[.int .i64 0, .slice none 0 0, .slice none 0 0] 26))).heap[W.heap.size + 1]? = some (.cells #[.int .i64 0, .slice none 0 0, .slice none 0 0] 26 (0, 0)) from by exact heap_pair _ _ _)
  have G3_ := Lib.hid (show (W).grownBy (((W.alloc (.cells #[.int .i64 i0, .slice a1 n1 c1, .slice a2 n2 c2] 26)).alloc (.cells #[.int .i64 0, .slice none 0 0, .slice none 0 0] 26))) none from (gby_alloc (gby_alloc (gby_refl _ _) _) _))
  have A_0_ : (((W.alloc (.cells #[.int .i64 i0, .slice a1 n1 c1, .slice a2 n2 c2] 26)).alloc (.cells #[.int .i64 0, .slice none 0 0, .slice none 0 0] 26))).cell? ⟨W.heap.size, 0, none⟩ = some (.int .i64 i0) := cell_of_row _ _ 0 _ _ _ rA1_.out
  have A_1_ : (((W.alloc (.cells #[.int .i64 i0, .slice a1 n1 c1, .slice a2 n2 c2] 26)).alloc (.cells #[.int .i64 0, .slice none 0 0, .slice none 0 0] 26))).cell? ⟨W.heap.size, 1, none⟩ = some (.slice a1 n1 c1) := cell_of_row _ _ 1 _ _ _ rA1_.out
  have A_2_ : (((W.alloc (.cells #[.int .i64 i0, .slice a1 n1 c1, .slice a2 n2 c2] 26)).alloc (.cells #[.int .i64 0, .slice none 0 0, .slice none 0 0] 26))).cell? ⟨W.heap.size, 2, none⟩ = some (.slice a2 n2 c2) := cell_of_row _ _ 2 _ _ _ rA1_.out
  have R_0_ : (((W.alloc (.cells #[.int .i64 i0, .slice a1 n1 c1, .slice a2 n2 c2] 26)).alloc (.cells #[.int .i64 0, .slice none 0 0, .slice none 0 0] 26))).cell? ⟨W.heap.size + 1, 0, none⟩ = some (.int .i64 0) := cell_of_row _ _ 0 _ _ _ rR2_.out
  have R_1_ : (((W.alloc (.cells #[.int .i64 i0, .slice a1 n1 c1, .slice a2 n2 c2] 26)).alloc (.cells #[.int .i64 0, .slice none 0 0, .slice none 0 0] 26))).cell? ⟨W.heap.size + 1, 1, none⟩ = some (.slice none 0 0) := cell_of_row _ _ 1 _ _ _ rR2_.out
  have R_2_ : (((W.alloc (.cells #[.int .i64 i0, .slice a1 n1 c1, .slice a2 n2 c2] 26)).alloc (.cells #[.int .i64 0, .slice none 0 0, .slice none 0 0] 26))).cell? ⟨W.heap.size + 1, 2, none⟩ = some (.slice none 0 0) := cell_of_row _ _ 2 _ _ _ rR2_.out
  clear A_0_ A_1_ A_2_ R_0_ R_1_ R_2_
  have A_0_ : (((W.alloc (.cells #[.int .i64 i0, .slice a1 n1 c1, .slice a2 n2 c2] 26)).alloc (.cells #[.int .i64 0, .slice none 0 0, .slice none 0 0] 26))).cell? ⟨W.heap.size, 0, none⟩ = some (.int .i64 i0) := cell_of_row _ _ 0 _ _ _ rA1_.out
  have A_1_ : (((W.alloc (.cells #[.int .i64 i0, .slice a1 n1 c1, .slice a2 n2 c2] 26)).alloc (.cells #[.int .i64 0, .slice none 0 0, .slice none 0 0] 26))).cell? ⟨W.heap.size, 1, none⟩ = some (.slice a1 n1 c1) := cell_of_row _ _ 1 _ _ _ rA1_.out
  have A_2_ : (((W.alloc (.cells #[.int .i64 i0, .slice a1 n1 c1, .slice a2 n2 c2] 26)).alloc (.cells #[.int .i64 0, .slice none 0 0, .slice none 0 0] 26))).cell? ⟨W.heap.size, 2, none⟩ = some (.slice a2 n2 c2) := cell_of_row _ _ 2 _ _ _ rA1_.out
  have Af0_ : (((W.alloc (.cells #[.int .i64 i0, .slice a1 n1 c1, .slice a2 n2 c2] 26)).alloc (.cells #[.int .i64 0, .slice none 0 0, .slice none 0 0] 26))).frozen? ⟨W.heap.size, 0, none⟩ = false := frozen_of_row _ _ 0 _ _ rA1_.out
  have Af1_ : (((W.alloc (.cells #[.int .i64 i0, .slice a1 n1 c1, .slice a2 n2 c2] 26)).alloc (.cells #[.int .i64 0, .slice none 0 0, .slice none 0 0] 26))).frozen? ⟨W.heap.size, 1, none⟩ = false := frozen_of_row _ _ 1 _ _ rA1_.out
  have Af2_ : (((W.alloc (.cells #[.int .i64 i0, .slice a1 n1 c1, .slice a2 n2 c2] 26)).alloc (.cells #[.int .i64 0, .slice none 0 0, .slice none 0 0] 26))).frozen? ⟨W.heap.size, 2, none⟩ = false := frozen_of_row _ _ 2 _ _ rA1_.out
  have R_0_ : (((W.alloc (.cells #[.int .i64 i0, .slice a1 n1 c1, .slice a2 n2 c2] 26)).alloc (.cells #[.int .i64 0, .slice none 0 0, .slice none 0 0] 26))).cell? ⟨W.heap.size + 1, 0, none⟩ = some (.int .i64 0) := cell_of_row _ _ 0 _ _ _ rR2_.out
  have R_1_ : (((W.alloc (.cells #[.int .i64 i0, .slice a1 n1 c1, .slice a2 n2 c2] 26)).alloc (.cells #[.int .i64 0, .slice none 0 0, .slice none 0 0] 26))).cell? ⟨W.heap.size + 1, 1, none⟩ = some (.slice none 0 0) := cell_of_row _ _ 1 _ _ _ rR2_.out
  have R_2_ : (((W.alloc (.cells #[.int .i64 i0, .slice a1 n1 c1, .slice a2 n2 c2] 26)).alloc (.cells #[.int .i64 0, .slice none 0 0, .slice none 0 0] 26))).cell? ⟨W.heap.size + 1, 2, none⟩ = some (.slice none 0 0) := cell_of_row _ _ 2 _ _ _ rR2_.out
  go_wp2_with fail
  go_at_call 107
  refine (cloneB_d _ _ xs1 (H1_.out.grow G3_.out) hl1).mono ?_
  rintro e w1 ⟨d1, rfl, o, g⟩
  have sz1_ := g.size
  try simp only [World.size_alloc] at sz1_ o
  obtain ⟨p1, m1, k1, hv_⟩ := RdL.form (OwL.rd o)
  subst hv_
  clear A_0_ A_1_ A_2_ Af0_ Af1_ Af2_ R_0_ R_1_ R_2_
  have rA4_ := Lib.hid (show (w1).heap[W.heap.size]? = some (.cells #[.int .i64 i0, .slice a1 n1 c1, .slice a2 n2 c2] 26 (0, 0)) from row_held g rA1_.out)
  clear rA1_
  have rR5_ := Lib.hid (show (w1).heap[W.heap.size + 1]? = some (.cells #[.int .i64 0, .slice none 0 0, .slice none 0 0] 26 (0, 0)) from row_held g rR2_.out)
  clear rR2_
  have G6_ := Lib.hid (show (W).grownBy (w1) none from gby_trans G3_.out g)
  clear g
  have oD7_ := Lib.hid (show OwU (w1) (W.heap.size + 1 + 1) (w1.heap.size) [] [own shB (.slice p1 m1 k1) xs1] from OwU.one o)
  clear o
  have A_0_ : (w1).cell? ⟨W.heap.size, 0, none⟩ = some (.int .i64 i0) := cell_of_row _ _ 0 _ _ _ rA4_.out
  have A_1_ : (w1).cell? ⟨W.heap.size, 1, none⟩ = some (.slice a1 n1 c1) := cell_of_row _ _ 1 _ _ _ rA4_.out
  have A_2_ : (w1).cell? ⟨W.heap.size, 2, none⟩ = some (.slice a2 n2 c2) := cell_of_row _ _ 2 _ _ _ rA4_.out
  have Af0_ : (w1).frozen? ⟨W.heap.size, 0, none⟩ = false := frozen_of_row _ _ 0 _ _ rA4_.out
  have Af1_ : (w1).frozen? ⟨W.heap.size, 1, none⟩ = false := frozen_of_row _ _ 1 _ _ rA4_.out
  have Af2_ : (w1).frozen? ⟨W.heap.size, 2, none⟩ = false := frozen_of_row _ _ 2 _ _ rA4_.out
  have R_0_ : (w1).cell? ⟨W.heap.size + 1, 0, none⟩ = some (.int .i64 0) := cell_of_row _ _ 0 _ _ _ rR5_.out
  have R_1_ : (w1).cell? ⟨W.heap.size + 1, 1, none⟩ = some (.slice none 0 0) := cell_of_row _ _ 1 _ _ _ rR5_.out
  have R_2_ : (w1).cell? ⟨W.heap.size + 1, 2, none⟩ = some (.slice none 0 0) := cell_of_row _ _ 2 _ _ _ rR5_.out
  go_wp2_with fail
  go_at_call 107
  clear A_0_ A_1_ A_2_ Af0_ Af1_ Af2_ R_0_ R_1_ R_2_
  have rR8_ := Lib.hid (show ((w1.setCell ⟨W.heap.size, 1, none⟩ (.slice p1 m1 k1))).heap[W.heap.size + 1]? = some (.cells #[.int .i64 0, .slice none 0 0, .slice none 0 0] 26 (0, 0)) from (set_far rR5_.out (by dsimp only; omega)))
  clear rR5_
  have rA9_ := Lib.hid (show ((w1.setCell ⟨W.heap.size, 1, none⟩ (.slice p1 m1 k1))).heap[W.heap.size]? = some (.cells #[.int .i64 i0, .slice p1 m1 k1, .slice a2 n2 c2] 26 (0, 0)) from (heap_setCell_same _ _ 1 _ _ _ rA4_.out))
  clear rA4_
  have oD10_ := Lib.hid (show OwU ((w1.setCell ⟨W.heap.size, 1, none⟩ (.slice p1 m1 k1))) (W.heap.size + 1 + 1) (w1.heap.size) [] [own shB (.slice p1 m1 k1) xs1] from (OwU.keep (chg_one _ _ _ _) (by omega) oD7_.out))
  clear oD7_
  have G11_ := Lib.hid (show (W).grownBy ((w1.setCell ⟨W.heap.size, 1, none⟩ (.slice p1 m1 k1))) none from (gby_setnew G6_.out _ (by dsimp only; omega) _))
  have A_0_ : ((w1.setCell ⟨W.heap.size, 1, none⟩ (.slice p1 m1 k1))).cell? ⟨W.heap.size, 0, none⟩ = some (.int .i64 i0) := cell_of_row _ _ 0 _ _ _ rA9_.out
  have A_1_ : ((w1.setCell ⟨W.heap.size, 1, none⟩ (.slice p1 m1 k1))).cell? ⟨W.heap.size, 1, none⟩ = some (.slice p1 m1 k1) := cell_of_row _ _ 1 _ _ _ rA9_.out
  have A_2_ : ((w1.setCell ⟨W.heap.size, 1, none⟩ (.slice p1 m1 k1))).cell? ⟨W.heap.size, 2, none⟩ = some (.slice a2 n2 c2) := cell_of_row _ _ 2 _ _ _ rA9_.out
  have Af0_ : ((w1.setCell ⟨W.heap.size, 1, none⟩ (.slice p1 m1 k1))).frozen? ⟨W.heap.size, 0, none⟩ = false := frozen_of_row _ _ 0 _ _ rA9_.out
  have Af1_ : ((w1.setCell ⟨W.heap.size, 1, none⟩ (.slice p1 m1 k1))).frozen? ⟨W.heap.size, 1, none⟩ = false := frozen_of_row _ _ 1 _ _ rA9_.out
  have Af2_ : ((w1.setCell ⟨W.heap.size, 1, none⟩ (.slice p1 m1 k1))).frozen? ⟨W.heap.size, 2, none⟩ = false := frozen_of_row _ _ 2 _ _ rA9_.out
  have R_0_ : ((w1.setCell ⟨W.heap.size, 1, none⟩ (.slice p1 m1 k1))).cell? ⟨W.heap.size + 1, 0, none⟩ = some (.int .i64 0) := cell_of_row _ _ 0 _ _ _ rR8_.out
  have R_1_ : ((w1.setCell ⟨W.heap.size, 1, none⟩ (.slice p1 m1 k1))).cell? ⟨W.heap.size + 1, 1, none⟩ = some (.slice none 0 0) := cell_of_row _ _ 1 _ _ _ rR8_.out
  have R_2_ : ((w1.setCell ⟨W.heap.size, 1, none⟩ (.slice p1 m1 k1))).cell? ⟨W.heap.size + 1, 2, none⟩ = some (.slice none 0 0) := cell_of_row _ _ 2 _ _ _ rR8_.out
  refine (cloneB_d _ _ xs2 (H2_.out.grow G11_.out) hl2).mono ?_
  rintro e w2 ⟨d2, rfl, o, g⟩
  have sz2_ := g.size
  try simp only [World.size_alloc, World.size_setCell] at sz2_ o
  obtain ⟨p2, m2, k2, hv_⟩ := RdL.form (OwL.rd o)
  subst hv_
  clear A_0_ A_1_ A_2_ Af0_ Af1_ Af2_ R_0_ R_1_ R_2_
  have rA12_ := Lib.hid (show (w2).heap[W.heap.size]? = some (.cells #[.int .i64 i0, .slice p1 m1 k1, .slice a2 n2 c2] 26 (0, 0)) from row_held g rA9_.out)
  clear rA9_
  have rR13_ := Lib.hid (show (w2).heap[W.heap.size + 1]? = some (.cells #[.int .i64 0, .slice none 0 0, .slice none 0 0] 26 (0, 0)) from row_held g rR8_.out)
  clear rR8_
  have oD14_ := Lib.hid (show OwU (w2) (W.heap.size + 1 + 1) (w1.heap.size) [] [own shB (.slice p1 m1 k1) xs1] from OwU.grow oD10_.out g)
  clear oD10_
  have G15_ := Lib.hid (show (W).grownBy (w2) none from gby_trans G11_.out g)
  clear g
  have oD16_ := Lib.hid (show OwU (w2) (W.heap.size + 1 + 1) (w2.heap.size) [] [own shB (.slice p1 m1 k1) xs1, own shB (.slice p2 m2 k2) xs2] from OwU.app (ps := [own shB (.slice p1 m1 k1) xs1]) (qs := [own shB (.slice p2 m2 k2) xs2]) (by omega) (by omega) oD14_.out (OwU.one o))
  clear oD14_ o
  have A_0_ : (w2).cell? ⟨W.heap.size, 0, none⟩ = some (.int .i64 i0) := cell_of_row _ _ 0 _ _ _ rA12_.out
  have A_1_ : (w2).cell? ⟨W.heap.size, 1, none⟩ = some (.slice p1 m1 k1) := cell_of_row _ _ 1 _ _ _ rA12_.out
  have A_2_ : (w2).cell? ⟨W.heap.size, 2, none⟩ = some (.slice a2 n2 c2) := cell_of_row _ _ 2 _ _ _ rA12_.out
  have Af0_ : (w2).frozen? ⟨W.heap.size, 0, none⟩ = false := frozen_of_row _ _ 0 _ _ rA12_.out
  have Af1_ : (w2).frozen? ⟨W.heap.size, 1, none⟩ = false := frozen_of_row _ _ 1 _ _ rA12_.out
  have Af2_ : (w2).frozen? ⟨W.heap.size, 2, none⟩ = false := frozen_of_row _ _ 2 _ _ rA12_.out
  have R_0_ : (w2).cell? ⟨W.heap.size + 1, 0, none⟩ = some (.int .i64 0) := cell_of_row _ _ 0 _ _ _ rR13_.out
  have R_1_ : (w2).cell? ⟨W.heap.size + 1, 1, none⟩ = some (.slice none 0 0) := cell_of_row _ _ 1 _ _ _ rR13_.out
  have R_2_ : (w2).cell? ⟨W.heap.size + 1, 2, none⟩ = some (.slice none 0 0) := cell_of_row _ _ 2 _ _ _ rR13_.out
  have Rf0_ : (w2).frozen? ⟨W.heap.size + 1, 0, none⟩ = false := frozen_of_row _ _ 0 _ _ rR13_.out
  have Rf1_ : (w2).frozen? ⟨W.heap.size + 1, 1, none⟩ = false := frozen_of_row _ _ 1 _ _ rR13_.out
  have Rf2_ : (w2).frozen? ⟨W.heap.size + 1, 2, none⟩ = false := frozen_of_row _ _ 2 _ _ rR13_.out
  have zr_ := Lib.hid (show (((((w2.setCell ⟨W.heap.size, 2, none⟩ (.slice p2 m2 k2)).setCell ⟨W.heap.size + 1, 0, none⟩ (.int .i64 i0)).setCell ⟨W.heap.size + 1, 1, none⟩ (.slice p1 m1 k1)).setCell ⟨W.heap.size + 1, 2, none⟩ (.slice p2 m2 k2))).heap[W.heap.size + 1]? = some (.cells #[.int .i64 i0, .slice p1 m1 k1, .slice p2 m2 k2] 26 (0, 0)) from (heap_setCell_same _ _ 2 _ _ _ (heap_setCell_same _ _ 1 _ _ _ (heap_setCell_same _ _ 0 _ _ _ (set_far rR13_.out (by dsimp only; omega))))))
  have z0_ : (((((w2.setCell ⟨W.heap.size, 2, none⟩ (.slice p2 m2 k2)).setCell ⟨W.heap.size + 1, 0, none⟩ (.int .i64 i0)).setCell ⟨W.heap.size + 1, 1, none⟩ (.slice p1 m1 k1)).setCell ⟨W.heap.size + 1, 2, none⟩ (.slice p2 m2 k2))).cell? ⟨W.heap.size + 1, 0, none⟩ = some (.int .i64 i0) := cell_of_row _ _ 0 _ _ _ zr_.out
  have z1_ : (((((w2.setCell ⟨W.heap.size, 2, none⟩ (.slice p2 m2 k2)).setCell ⟨W.heap.size + 1, 0, none⟩ (.int .i64 i0)).setCell ⟨W.heap.size + 1, 1, none⟩ (.slice p1 m1 k1)).setCell ⟨W.heap.size + 1, 2, none⟩ (.slice p2 m2 k2))).cell? ⟨W.heap.size + 1, 1, none⟩ = some (.slice p1 m1 k1) := cell_of_row _ _ 1 _ _ _ zr_.out
  have z2_ : (((((w2.setCell ⟨W.heap.size, 2, none⟩ (.slice p2 m2 k2)).setCell ⟨W.heap.size + 1, 0, none⟩ (.int .i64 i0)).setCell ⟨W.heap.size + 1, 1, none⟩ (.slice p1 m1 k1)).setCell ⟨W.heap.size + 1, 2, none⟩ (.slice p2 m2 k2))).cell? ⟨W.heap.size + 1, 2, none⟩ = some (.slice p2 m2 k2) := cell_of_row _ _ 2 _ _ _ zr_.out
  go_wp2
  refine bodyPost_ret (v := vVectors i0 (.slice p1 m1 k1) (.slice p2 m2 k2)) (by simp [results, go_sem, vVectors, z0_, z1_, z2_]) rfl ⟨_, _, rfl, ?_, ?_⟩
  · exact OwU.wide (lo := W.heap.size + 1 + 1) (by omega) (by simp only [World.size_setCell]; omega) (OwU.keep (chg_one _ _ _ _) (by omega) (OwU.keep (chg_one _ _ _ _) (by omega) (OwU.keep (chg_one _ _ _ _) (by omega) (OwU.keep (chg_one _ _ _ _) (by omega) oD16_.out))))
  · exact (gby_setnew (gby_setnew (gby_setnew (gby_setnew G15_.out _ (by dsimp only; omega) _) _ (by dsimp only; omega) _) _ (by dsimp only; omega) _) _ (by dsimp only; omega) _)

end Go.Proofs.Ytomiicegkdogkaa
