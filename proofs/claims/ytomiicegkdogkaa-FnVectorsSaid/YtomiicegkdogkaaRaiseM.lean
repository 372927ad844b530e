/-
  The methods of the guarded vectors: raise, setMask.
-/
import Derived.Test.YtomiicegkdogkaaVecCp
import Derived.Test.YtomiicegkdogkaaQPacket
import Derived.Test.YtomiicegkdogkaaProg
import Derived.Conc.MuLone
import Derived.KernelRfl
import Derived.Test.YtomiicegkdogkaaSetB
namespace Go.Proofs.Ytomiicegkdogkaa
open Go Go.RowKit
set_option linter.unusedVariables false

theorem one_own {w : World} {b : Nat} {k : Int} (h : w.heap[b]? = some (.cells #[.int .i64 k] 3 (0, 0))) : OwL shI w b w.heap.size (.slice (some ⟨b, 0, none⟩) 1 1) [k] :=
  owI_out (by simp) (owI_row (xs := [k]) (n := 1) (show w.ownsRow b 3 1 _ 1 (i64s [k]) from ⟨by simp [i64s], .inr ⟨_, 1, #[.int .i64 k], rfl, Nat.le_refl _, h, Nat.le_refl _, by unfold maxLen; omega, by simp, by simp [i64s]⟩⟩))

set_option maxRecDepth 8000 in
set_option maxHeartbeats 1000000 in
theorem callOf_any (W : World) (i0 id k : Int) (v1 v2 : Value) (xs1 xs2 : List Bool) (H1 : RdL shB W v1 xs1) (H2 : RdL shB W v2 xs2) : Calls Try.prog 110 #[vVectors i0 v1 v2, .int .i64 id, .int .i64 k] W (NewPacket 1 id 0 i0 0 0 0 [k] W) := by
  obtain ⟨a1, n1, c1, rfl⟩ := RdL.form H1
  obtain ⟨a2, n2, c2, rfl⟩ := RdL.form H2
  clear H1 H2
  unfold vVectors
  go_enter Try.func110, Try.ntmps110
  have rA1_ := Lib.hid (show (((W.alloc (.cells #[.int .i64 i0, .slice a1 n1 c1, .slice a2 n2 c2] 26)).alloc (.cells #[.int .i64 0, .int .i64 0, .int .i64 0, .int .i64 0, .int .i64 0, .int .i64 0, .int .i64 0, .slice none 0 0] 29))).heap[W.heap.size]? = some (.cells #[.int .i64 i0, .slice a1 n1 c1, .slice a2 n2 c2] 26 (0, 0)) from by rw [heap_alloc_old _ _ (by simp only [World.size_alloc]; omega)]; exact heap_alloc_new _ _)
  have rR2_ := Lib.hid (show (((W.alloc (.cells #[.int .i64 i0, .slice a1 n1 c1, .slice a2 n2 c2] 26)).alloc (.cells #[.int .i64 0, .int .i64 0, .int .i64 0, .int .i64 0, .int .i64 0, .int .i64 0, .int .i64 0, .slice none 0 0] 29))).heap[W.heap.size + 1]? = some (.cells #[.int .i64 0, .int .i64 0, .int .i64 0, .int .i64 0, .int .i64 0, .int .i64 0, .int .i64 0, .slice none 0 0] 29 (0, 0)) from by exact heap_pair _ _ _)
  have G3_ := Lib.hid (show (W).grownBy (((W.alloc (.cells #[.int .i64 i0, .slice a1 n1 c1, .slice a2 n2 c2] 26)).alloc (.cells #[.int .i64 0, .int .i64 0, .int .i64 0, .int .i64 0, .int .i64 0, .int .i64 0, .int .i64 0, .slice none 0 0] 29))) none from (gby_alloc (gby_alloc (gby_refl _ _) _) _))
  have A_0_ : (((W.alloc (.cells #[.int .i64 i0, .slice a1 n1 c1, .slice a2 n2 c2] 26)).alloc (.cells #[.int .i64 0, .int .i64 0, .int .i64 0, .int .i64 0, .int .i64 0, .int .i64 0, .int .i64 0, .slice none 0 0] 29))).cell? ⟨W.heap.size, 0, none⟩ = some (.int .i64 i0) := cell_of_row _ _ 0 _ _ _ rA1_.out
  have A_1_ : (((W.alloc (.cells #[.int .i64 i0, .slice a1 n1 c1, .slice a2 n2 c2] 26)).alloc (.cells #[.int .i64 0, .int .i64 0, .int .i64 0, .int .i64 0, .int .i64 0, .int .i64 0, .int .i64 0, .slice none 0 0] 29))).cell? ⟨W.heap.size, 1, none⟩ = some (.slice a1 n1 c1) := cell_of_row _ _ 1 _ _ _ rA1_.out
  have A_2_ : (((W.alloc (.cells #[.int .i64 i0, .slice a1 n1 c1, .slice a2 n2 c2] 26)).alloc (.cells #[.int .i64 0, .int .i64 0, .int .i64 0, .int .i64 0, .int .i64 0, .int .i64 0, .int .i64 0, .slice none 0 0] 29))).cell? ⟨W.heap.size, 2, none⟩ = some (.slice a2 n2 c2) := cell_of_row _ _ 2 _ _ _ rA1_.out
  have R_0_ : (((W.alloc (.cells #[.int .i64 i0, .slice a1 n1 c1, .slice a2 n2 c2] 26)).alloc (.cells #[.int .i64 0, .int .i64 0, .int .i64 0, .int .i64 0, .int .i64 0, .int .i64 0, .int .i64 0, .slice none 0 0] 29))).cell? ⟨W.heap.size + 1, 0, none⟩ = some (.int .i64 0) := cell_of_row _ _ 0 _ _ _ rR2_.out
  have R_1_ : (((W.alloc (.cells #[.int .i64 i0, .slice a1 n1 c1, .slice a2 n2 c2] 26)).alloc (.cells #[.int .i64 0, .int .i64 0, .int .i64 0, .int .i64 0, .int .i64 0, .int .i64 0, .int .i64 0, .slice none 0 0] 29))).cell? ⟨W.heap.size + 1, 1, none⟩ = some (.int .i64 0) := cell_of_row _ _ 1 _ _ _ rR2_.out
  have R_2_ : (((W.alloc (.cells #[.int .i64 i0, .slice a1 n1 c1, .slice a2 n2 c2] 26)).alloc (.cells #[.int .i64 0, .int .i64 0, .int .i64 0, .int .i64 0, .int .i64 0, .int .i64 0, .int .i64 0, .slice none 0 0] 29))).cell? ⟨W.heap.size + 1, 2, none⟩ = some (.int .i64 0) := cell_of_row _ _ 2 _ _ _ rR2_.out
  have R_3_ : (((W.alloc (.cells #[.int .i64 i0, .slice a1 n1 c1, .slice a2 n2 c2] 26)).alloc (.cells #[.int .i64 0, .int .i64 0, .int .i64 0, .int .i64 0, .int .i64 0, .int .i64 0, .int .i64 0, .slice none 0 0] 29))).cell? ⟨W.heap.size + 1, 3, none⟩ = some (.int .i64 0) := cell_of_row _ _ 3 _ _ _ rR2_.out
  have R_4_ : (((W.alloc (.cells #[.int .i64 i0, .slice a1 n1 c1, .slice a2 n2 c2] 26)).alloc (.cells #[.int .i64 0, .int .i64 0, .int .i64 0, .int .i64 0, .int .i64 0, .int .i64 0, .int .i64 0, .slice none 0 0] 29))).cell? ⟨W.heap.size + 1, 4, none⟩ = some (.int .i64 0) := cell_of_row _ _ 4 _ _ _ rR2_.out
  have R_5_ : (((W.alloc (.cells #[.int .i64 i0, .slice a1 n1 c1, .slice a2 n2 c2] 26)).alloc (.cells #[.int .i64 0, .int .i64 0, .int .i64 0, .int .i64 0, .int .i64 0, .int .i64 0, .int .i64 0, .slice none 0 0] 29))).cell? ⟨W.heap.size + 1, 5, none⟩ = some (.int .i64 0) := cell_of_row _ _ 5 _ _ _ rR2_.out
  have R_6_ : (((W.alloc (.cells #[.int .i64 i0, .slice a1 n1 c1, .slice a2 n2 c2] 26)).alloc (.cells #[.int .i64 0, .int .i64 0, .int .i64 0, .int .i64 0, .int .i64 0, .int .i64 0, .int .i64 0, .slice none 0 0] 29))).cell? ⟨W.heap.size + 1, 6, none⟩ = some (.int .i64 0) := cell_of_row _ _ 6 _ _ _ rR2_.out
  have R_7_ : (((W.alloc (.cells #[.int .i64 i0, .slice a1 n1 c1, .slice a2 n2 c2] 26)).alloc (.cells #[.int .i64 0, .int .i64 0, .int .i64 0, .int .i64 0, .int .i64 0, .int .i64 0, .int .i64 0, .slice none 0 0] 29))).cell? ⟨W.heap.size + 1, 7, none⟩ = some (.slice none 0 0) := cell_of_row _ _ 7 _ _ _ rR2_.out
  clear A_0_ A_1_ A_2_ R_0_ R_1_ R_2_ R_3_ R_4_ R_5_ R_6_ R_7_
  have al_ : (((W.alloc (.cells #[.int .i64 i0, .slice a1 n1 c1, .slice a2 n2 c2] 26)).alloc (.cells #[.int .i64 0, .int .i64 0, .int .i64 0, .int .i64 0, .int .i64 0, .int .i64 0, .int .i64 0, .slice none 0 0] 29))).grownBy ((((W.alloc (.cells #[.int .i64 i0, .slice a1 n1 c1, .slice a2 n2 c2] 26)).alloc (.cells #[.int .i64 0, .int .i64 0, .int .i64 0, .int .i64 0, .int .i64 0, .int .i64 0, .int .i64 0, .slice none 0 0] 29))).alloc (.cells #[.int .i64 k] 3)) none := gby_alloc (gby_refl _ _) _
  have rA4_ := Lib.hid (show ((((W.alloc (.cells #[.int .i64 i0, .slice a1 n1 c1, .slice a2 n2 c2] 26)).alloc (.cells #[.int .i64 0, .int .i64 0, .int .i64 0, .int .i64 0, .int .i64 0, .int .i64 0, .int .i64 0, .slice none 0 0] 29)).alloc (.cells #[.int .i64 k] 3))).heap[W.heap.size]? = some (.cells #[.int .i64 i0, .slice a1 n1 c1, .slice a2 n2 c2] 26 (0, 0)) from row_held al_ rA1_.out)
  clear rA1_
  have rR5_ := Lib.hid (show ((((W.alloc (.cells #[.int .i64 i0, .slice a1 n1 c1, .slice a2 n2 c2] 26)).alloc (.cells #[.int .i64 0, .int .i64 0, .int .i64 0, .int .i64 0, .int .i64 0, .int .i64 0, .int .i64 0, .slice none 0 0] 29)).alloc (.cells #[.int .i64 k] 3))).heap[W.heap.size + 1]? = some (.cells #[.int .i64 0, .int .i64 0, .int .i64 0, .int .i64 0, .int .i64 0, .int .i64 0, .int .i64 0, .slice none 0 0] 29 (0, 0)) from row_held al_ rR2_.out)
  clear rR2_
  have G6_ := Lib.hid (show (W).grownBy ((((W.alloc (.cells #[.int .i64 i0, .slice a1 n1 c1, .slice a2 n2 c2] 26)).alloc (.cells #[.int .i64 0, .int .i64 0, .int .i64 0, .int .i64 0, .int .i64 0, .int .i64 0, .int .i64 0, .slice none 0 0] 29)).alloc (.cells #[.int .i64 k] 3))) none from gby_trans G3_.out al_)
  have rD7_ := Lib.hid (show ((((W.alloc (.cells #[.int .i64 i0, .slice a1 n1 c1, .slice a2 n2 c2] 26)).alloc (.cells #[.int .i64 0, .int .i64 0, .int .i64 0, .int .i64 0, .int .i64 0, .int .i64 0, .int .i64 0, .slice none 0 0] 29)).alloc (.cells #[.int .i64 k] 3))).heap[W.heap.size + 1 + 1]? = some (.cells #[.int .i64 k] 3 (0, 0)) from by first | exact heap_alloc_new _ _ | exact heap_pair _ _ _ | exact heap_trip _ _ _ _)
  clear al_
  have A_0_ : ((((W.alloc (.cells #[.int .i64 i0, .slice a1 n1 c1, .slice a2 n2 c2] 26)).alloc (.cells #[.int .i64 0, .int .i64 0, .int .i64 0, .int .i64 0, .int .i64 0, .int .i64 0, .int .i64 0, .slice none 0 0] 29)).alloc (.cells #[.int .i64 k] 3))).cell? ⟨W.heap.size, 0, none⟩ = some (.int .i64 i0) := cell_of_row _ _ 0 _ _ _ rA4_.out
  have A_1_ : ((((W.alloc (.cells #[.int .i64 i0, .slice a1 n1 c1, .slice a2 n2 c2] 26)).alloc (.cells #[.int .i64 0, .int .i64 0, .int .i64 0, .int .i64 0, .int .i64 0, .int .i64 0, .int .i64 0, .slice none 0 0] 29)).alloc (.cells #[.int .i64 k] 3))).cell? ⟨W.heap.size, 1, none⟩ = some (.slice a1 n1 c1) := cell_of_row _ _ 1 _ _ _ rA4_.out
  have A_2_ : ((((W.alloc (.cells #[.int .i64 i0, .slice a1 n1 c1, .slice a2 n2 c2] 26)).alloc (.cells #[.int .i64 0, .int .i64 0, .int .i64 0, .int .i64 0, .int .i64 0, .int .i64 0, .int .i64 0, .slice none 0 0] 29)).alloc (.cells #[.int .i64 k] 3))).cell? ⟨W.heap.size, 2, none⟩ = some (.slice a2 n2 c2) := cell_of_row _ _ 2 _ _ _ rA4_.out
  have R_0_ : ((((W.alloc (.cells #[.int .i64 i0, .slice a1 n1 c1, .slice a2 n2 c2] 26)).alloc (.cells #[.int .i64 0, .int .i64 0, .int .i64 0, .int .i64 0, .int .i64 0, .int .i64 0, .int .i64 0, .slice none 0 0] 29)).alloc (.cells #[.int .i64 k] 3))).cell? ⟨W.heap.size + 1, 0, none⟩ = some (.int .i64 0) := cell_of_row _ _ 0 _ _ _ rR5_.out
  have R_1_ : ((((W.alloc (.cells #[.int .i64 i0, .slice a1 n1 c1, .slice a2 n2 c2] 26)).alloc (.cells #[.int .i64 0, .int .i64 0, .int .i64 0, .int .i64 0, .int .i64 0, .int .i64 0, .int .i64 0, .slice none 0 0] 29)).alloc (.cells #[.int .i64 k] 3))).cell? ⟨W.heap.size + 1, 1, none⟩ = some (.int .i64 0) := cell_of_row _ _ 1 _ _ _ rR5_.out
  have R_2_ : ((((W.alloc (.cells #[.int .i64 i0, .slice a1 n1 c1, .slice a2 n2 c2] 26)).alloc (.cells #[.int .i64 0, .int .i64 0, .int .i64 0, .int .i64 0, .int .i64 0, .int .i64 0, .int .i64 0, .slice none 0 0] 29)).alloc (.cells #[.int .i64 k] 3))).cell? ⟨W.heap.size + 1, 2, none⟩ = some (.int .i64 0) := cell_of_row _ _ 2 _ _ _ rR5_.out
  have R_3_ : ((((W.alloc (.cells #[.int .i64 i0, .slice a1 n1 c1, .slice a2 n2 c2] 26)).alloc (.cells #[.int .i64 0, .int .i64 0, .int .i64 0, .int .i64 0, .int .i64 0, .int .i64 0, .int .i64 0, .slice none 0 0] 29)).alloc (.cells #[.int .i64 k] 3))).cell? ⟨W.heap.size + 1, 3, none⟩ = some (.int .i64 0) := cell_of_row _ _ 3 _ _ _ rR5_.out
  have R_4_ : ((((W.alloc (.cells #[.int .i64 i0, .slice a1 n1 c1, .slice a2 n2 c2] 26)).alloc (.cells #[.int .i64 0, .int .i64 0, .int .i64 0, .int .i64 0, .int .i64 0, .int .i64 0, .int .i64 0, .slice none 0 0] 29)).alloc (.cells #[.int .i64 k] 3))).cell? ⟨W.heap.size + 1, 4, none⟩ = some (.int .i64 0) := cell_of_row _ _ 4 _ _ _ rR5_.out
  have R_5_ : ((((W.alloc (.cells #[.int .i64 i0, .slice a1 n1 c1, .slice a2 n2 c2] 26)).alloc (.cells #[.int .i64 0, .int .i64 0, .int .i64 0, .int .i64 0, .int .i64 0, .int .i64 0, .int .i64 0, .slice none 0 0] 29)).alloc (.cells #[.int .i64 k] 3))).cell? ⟨W.heap.size + 1, 5, none⟩ = some (.int .i64 0) := cell_of_row _ _ 5 _ _ _ rR5_.out
  have R_6_ : ((((W.alloc (.cells #[.int .i64 i0, .slice a1 n1 c1, .slice a2 n2 c2] 26)).alloc (.cells #[.int .i64 0, .int .i64 0, .int .i64 0, .int .i64 0, .int .i64 0, .int .i64 0, .int .i64 0, .slice none 0 0] 29)).alloc (.cells #[.int .i64 k] 3))).cell? ⟨W.heap.size + 1, 6, none⟩ = some (.int .i64 0) := cell_of_row _ _ 6 _ _ _ rR5_.out
  have R_7_ : ((((W.alloc (.cells #[.int .i64 i0, .slice a1 n1 c1, .slice a2 n2 c2] 26)).alloc (.cells #[.int .i64 0, .int .i64 0, .int .i64 0, .int .i64 0, .int .i64 0, .int .i64 0, .int .i64 0, .slice none 0 0] 29)).alloc (.cells #[.int .i64 k] 3))).cell? ⟨W.heap.size + 1, 7, none⟩ = some (.slice none 0 0) := cell_of_row _ _ 7 _ _ _ rR5_.out
  have D_0_ : ((((W.alloc (.cells #[.int .i64 i0, .slice a1 n1 c1, .slice a2 n2 c2] 26)).alloc (.cells #[.int .i64 0, .int .i64 0, .int .i64 0, .int .i64 0, .int .i64 0, .int .i64 0, .int .i64 0, .slice none 0 0] 29)).alloc (.cells #[.int .i64 k] 3))).cell? ⟨W.heap.size + 1 + 1, 0, none⟩ = some (.int .i64 k) := cell_of_row _ _ 0 _ _ _ rD7_.out
  clear A_0_ A_1_ A_2_ R_0_ R_1_ R_2_ R_3_ R_4_ R_5_ R_6_ R_7_ D_0_
  have A_0_ : ((((W.alloc (.cells #[.int .i64 i0, .slice a1 n1 c1, .slice a2 n2 c2] 26)).alloc (.cells #[.int .i64 0, .int .i64 0, .int .i64 0, .int .i64 0, .int .i64 0, .int .i64 0, .int .i64 0, .slice none 0 0] 29)).alloc (.cells #[.int .i64 k] 3))).cell? ⟨W.heap.size, 0, none⟩ = some (.int .i64 i0) := cell_of_row _ _ 0 _ _ _ rA4_.out
  have A_1_ : ((((W.alloc (.cells #[.int .i64 i0, .slice a1 n1 c1, .slice a2 n2 c2] 26)).alloc (.cells #[.int .i64 0, .int .i64 0, .int .i64 0, .int .i64 0, .int .i64 0, .int .i64 0, .int .i64 0, .slice none 0 0] 29)).alloc (.cells #[.int .i64 k] 3))).cell? ⟨W.heap.size, 1, none⟩ = some (.slice a1 n1 c1) := cell_of_row _ _ 1 _ _ _ rA4_.out
  have A_2_ : ((((W.alloc (.cells #[.int .i64 i0, .slice a1 n1 c1, .slice a2 n2 c2] 26)).alloc (.cells #[.int .i64 0, .int .i64 0, .int .i64 0, .int .i64 0, .int .i64 0, .int .i64 0, .int .i64 0, .slice none 0 0] 29)).alloc (.cells #[.int .i64 k] 3))).cell? ⟨W.heap.size, 2, none⟩ = some (.slice a2 n2 c2) := cell_of_row _ _ 2 _ _ _ rA4_.out
  have R_0_ : ((((W.alloc (.cells #[.int .i64 i0, .slice a1 n1 c1, .slice a2 n2 c2] 26)).alloc (.cells #[.int .i64 0, .int .i64 0, .int .i64 0, .int .i64 0, .int .i64 0, .int .i64 0, .int .i64 0, .slice none 0 0] 29)).alloc (.cells #[.int .i64 k] 3))).cell? ⟨W.heap.size + 1, 0, none⟩ = some (.int .i64 0) := cell_of_row _ _ 0 _ _ _ rR5_.out
  have R_1_ : ((((W.alloc (.cells #[.int .i64 i0, .slice a1 n1 c1, .slice a2 n2 c2] 26)).alloc (.cells #[.int .i64 0, .int .i64 0, .int .i64 0, .int .i64 0, .int .i64 0, .int .i64 0, .int .i64 0, .slice none 0 0] 29)).alloc (.cells #[.int .i64 k] 3))).cell? ⟨W.heap.size + 1, 1, none⟩ = some (.int .i64 0) := cell_of_row _ _ 1 _ _ _ rR5_.out
  have R_2_ : ((((W.alloc (.cells #[.int .i64 i0, .slice a1 n1 c1, .slice a2 n2 c2] 26)).alloc (.cells #[.int .i64 0, .int .i64 0, .int .i64 0, .int .i64 0, .int .i64 0, .int .i64 0, .int .i64 0, .slice none 0 0] 29)).alloc (.cells #[.int .i64 k] 3))).cell? ⟨W.heap.size + 1, 2, none⟩ = some (.int .i64 0) := cell_of_row _ _ 2 _ _ _ rR5_.out
  have R_3_ : ((((W.alloc (.cells #[.int .i64 i0, .slice a1 n1 c1, .slice a2 n2 c2] 26)).alloc (.cells #[.int .i64 0, .int .i64 0, .int .i64 0, .int .i64 0, .int .i64 0, .int .i64 0, .int .i64 0, .slice none 0 0] 29)).alloc (.cells #[.int .i64 k] 3))).cell? ⟨W.heap.size + 1, 3, none⟩ = some (.int .i64 0) := cell_of_row _ _ 3 _ _ _ rR5_.out
  have R_4_ : ((((W.alloc (.cells #[.int .i64 i0, .slice a1 n1 c1, .slice a2 n2 c2] 26)).alloc (.cells #[.int .i64 0, .int .i64 0, .int .i64 0, .int .i64 0, .int .i64 0, .int .i64 0, .int .i64 0, .slice none 0 0] 29)).alloc (.cells #[.int .i64 k] 3))).cell? ⟨W.heap.size + 1, 4, none⟩ = some (.int .i64 0) := cell_of_row _ _ 4 _ _ _ rR5_.out
  have R_5_ : ((((W.alloc (.cells #[.int .i64 i0, .slice a1 n1 c1, .slice a2 n2 c2] 26)).alloc (.cells #[.int .i64 0, .int .i64 0, .int .i64 0, .int .i64 0, .int .i64 0, .int .i64 0, .int .i64 0, .slice none 0 0] 29)).alloc (.cells #[.int .i64 k] 3))).cell? ⟨W.heap.size + 1, 5, none⟩ = some (.int .i64 0) := cell_of_row _ _ 5 _ _ _ rR5_.out
  have R_6_ : ((((W.alloc (.cells #[.int .i64 i0, .slice a1 n1 c1, .slice a2 n2 c2] 26)).alloc (.cells #[.int .i64 0, .int .i64 0, .int .i64 0, .int .i64 0, .int .i64 0, .int .i64 0, .int .i64 0, .slice none 0 0] 29)).alloc (.cells #[.int .i64 k] 3))).cell? ⟨W.heap.size + 1, 6, none⟩ = some (.int .i64 0) := cell_of_row _ _ 6 _ _ _ rR5_.out
  have R_7_ : ((((W.alloc (.cells #[.int .i64 i0, .slice a1 n1 c1, .slice a2 n2 c2] 26)).alloc (.cells #[.int .i64 0, .int .i64 0, .int .i64 0, .int .i64 0, .int .i64 0, .int .i64 0, .int .i64 0, .slice none 0 0] 29)).alloc (.cells #[.int .i64 k] 3))).cell? ⟨W.heap.size + 1, 7, none⟩ = some (.slice none 0 0) := cell_of_row _ _ 7 _ _ _ rR5_.out
  have Rf0_ : ((((W.alloc (.cells #[.int .i64 i0, .slice a1 n1 c1, .slice a2 n2 c2] 26)).alloc (.cells #[.int .i64 0, .int .i64 0, .int .i64 0, .int .i64 0, .int .i64 0, .int .i64 0, .int .i64 0, .slice none 0 0] 29)).alloc (.cells #[.int .i64 k] 3))).frozen? ⟨W.heap.size + 1, 0, none⟩ = false := frozen_of_row _ _ 0 _ _ rR5_.out
  have Rf1_ : ((((W.alloc (.cells #[.int .i64 i0, .slice a1 n1 c1, .slice a2 n2 c2] 26)).alloc (.cells #[.int .i64 0, .int .i64 0, .int .i64 0, .int .i64 0, .int .i64 0, .int .i64 0, .int .i64 0, .slice none 0 0] 29)).alloc (.cells #[.int .i64 k] 3))).frozen? ⟨W.heap.size + 1, 1, none⟩ = false := frozen_of_row _ _ 1 _ _ rR5_.out
  have Rf2_ : ((((W.alloc (.cells #[.int .i64 i0, .slice a1 n1 c1, .slice a2 n2 c2] 26)).alloc (.cells #[.int .i64 0, .int .i64 0, .int .i64 0, .int .i64 0, .int .i64 0, .int .i64 0, .int .i64 0, .slice none 0 0] 29)).alloc (.cells #[.int .i64 k] 3))).frozen? ⟨W.heap.size + 1, 2, none⟩ = false := frozen_of_row _ _ 2 _ _ rR5_.out
  have Rf3_ : ((((W.alloc (.cells #[.int .i64 i0, .slice a1 n1 c1, .slice a2 n2 c2] 26)).alloc (.cells #[.int .i64 0, .int .i64 0, .int .i64 0, .int .i64 0, .int .i64 0, .int .i64 0, .int .i64 0, .slice none 0 0] 29)).alloc (.cells #[.int .i64 k] 3))).frozen? ⟨W.heap.size + 1, 3, none⟩ = false := frozen_of_row _ _ 3 _ _ rR5_.out
  have Rf4_ : ((((W.alloc (.cells #[.int .i64 i0, .slice a1 n1 c1, .slice a2 n2 c2] 26)).alloc (.cells #[.int .i64 0, .int .i64 0, .int .i64 0, .int .i64 0, .int .i64 0, .int .i64 0, .int .i64 0, .slice none 0 0] 29)).alloc (.cells #[.int .i64 k] 3))).frozen? ⟨W.heap.size + 1, 4, none⟩ = false := frozen_of_row _ _ 4 _ _ rR5_.out
  have Rf5_ : ((((W.alloc (.cells #[.int .i64 i0, .slice a1 n1 c1, .slice a2 n2 c2] 26)).alloc (.cells #[.int .i64 0, .int .i64 0, .int .i64 0, .int .i64 0, .int .i64 0, .int .i64 0, .int .i64 0, .slice none 0 0] 29)).alloc (.cells #[.int .i64 k] 3))).frozen? ⟨W.heap.size + 1, 5, none⟩ = false := frozen_of_row _ _ 5 _ _ rR5_.out
  have Rf6_ : ((((W.alloc (.cells #[.int .i64 i0, .slice a1 n1 c1, .slice a2 n2 c2] 26)).alloc (.cells #[.int .i64 0, .int .i64 0, .int .i64 0, .int .i64 0, .int .i64 0, .int .i64 0, .int .i64 0, .slice none 0 0] 29)).alloc (.cells #[.int .i64 k] 3))).frozen? ⟨W.heap.size + 1, 6, none⟩ = false := frozen_of_row _ _ 6 _ _ rR5_.out
  have Rf7_ : ((((W.alloc (.cells #[.int .i64 i0, .slice a1 n1 c1, .slice a2 n2 c2] 26)).alloc (.cells #[.int .i64 0, .int .i64 0, .int .i64 0, .int .i64 0, .int .i64 0, .int .i64 0, .int .i64 0, .slice none 0 0] 29)).alloc (.cells #[.int .i64 k] 3))).frozen? ⟨W.heap.size + 1, 7, none⟩ = false := frozen_of_row _ _ 7 _ _ rR5_.out
  have D_0_ : ((((W.alloc (.cells #[.int .i64 i0, .slice a1 n1 c1, .slice a2 n2 c2] 26)).alloc (.cells #[.int .i64 0, .int .i64 0, .int .i64 0, .int .i64 0, .int .i64 0, .int .i64 0, .int .i64 0, .slice none 0 0] 29)).alloc (.cells #[.int .i64 k] 3))).cell? ⟨W.heap.size + 1 + 1, 0, none⟩ = some (.int .i64 k) := cell_of_row _ _ 0 _ _ _ rD7_.out
  go_wp2
  refine bodyPost_ret (v := vPacket 1 id 0 i0 0 0 0 (.slice (some ⟨W.heap.size + 1 + 1, 0, none⟩) 1 1)) (by simp [results, go_sem, vPacket, R_0_, R_1_, R_2_, R_3_, R_4_, R_5_, R_6_, R_7_]) rfl ⟨_, rfl, ?_, ?_⟩
  · exact OwU.wide (by omega) (Nat.le_refl _) (OwU.one (one_own (heap_trip _ _ _ _)))
  · exact gby_alloc (gby_alloc (gby_alloc (gby_refl _ _) _) _) _

end Go.Proofs.Ytomiicegkdogkaa

namespace Go.Proofs.Ytomiicegkdogkaa
open Go Go.Conc.Locks
set_option linter.unusedVariables false

abbrev muLink : MuLink := { lock := 108, unlock := 109, ilock := 130, iunlock := 131, lockSlow := 144, unlockSlow := 147, disable := 140, enable := 142, acquire := 143, relMerge := 145, cas32 := 141, add32 := 146, tMutex := 90, tIMutex := 88, tPMutex := 136, tPIMutex := 141, tPI32 := 143, tUP := 145, tNoCopy := 85, tU32 := 86 }
set_option maxRecDepth 8000 in
theorem muLib : MuLib Try.prog muLink where
  f_lock := by kernel_rfl
  f_unlock := by kernel_rfl
  f_ilock := by kernel_rfl
  f_iunlock := by kernel_rfl
  f_disable := by kernel_rfl
  f_enable := by kernel_rfl
  f_acquire := by kernel_rfl
  f_relMerge := by kernel_rfl
  f_cas32 := by kernel_rfl
  f_add32 := by kernel_rfl
  underlying_tIMutex := Try.underlying88
  runUnderlying_tIMutex := Try.runUnderlying88
  sizeOf_tIMutex := Try.sizeOf88
  isAgg_tIMutex := Try.isAgg88
  zeroValue_tIMutex := Try.zeroValue88
  underlying_tMutex := Try.underlying90
  runUnderlying_tMutex := Try.runUnderlying90
  sizeOf_tMutex := Try.sizeOf90
  isAgg_tMutex := Try.isAgg90
  zeroValue_tMutex := Try.zeroValue90
  underlying_tPMutex := Try.underlying136
  runUnderlying_tPMutex := Try.runUnderlying136
  sizeOf_tPMutex := Try.sizeOf136
  isAgg_tPMutex := Try.isAgg136
  zeroValue_tPMutex := Try.zeroValue136
  underlying_tPIMutex := Try.underlying141
  runUnderlying_tPIMutex := Try.runUnderlying141
  sizeOf_tPIMutex := Try.sizeOf141
  isAgg_tPIMutex := Try.isAgg141
  zeroValue_tPIMutex := Try.zeroValue141
  underlying_tPI32 := Try.underlying143
  runUnderlying_tPI32 := Try.runUnderlying143
  sizeOf_tPI32 := Try.sizeOf143
  isAgg_tPI32 := Try.isAgg143
  zeroValue_tPI32 := Try.zeroValue143
  underlying_tUP := Try.underlying145
  runUnderlying_tUP := Try.runUnderlying145
  sizeOf_tUP := Try.sizeOf145
  isAgg_tUP := Try.isAgg145
  zeroValue_tUP := Try.zeroValue145
  underlying_tNoCopy := Try.underlying85
  runUnderlying_tNoCopy := Try.runUnderlying85
  sizeOf_tNoCopy := Try.sizeOf85
  isAgg_tNoCopy := Try.isAgg85
  zeroValue_tNoCopy := Try.zeroValue85
  underlying_t21 := Try.underlying21
  runUnderlying_t21 := Try.runUnderlying21
  sizeOf_t21 := Try.sizeOf21
  isAgg_t21 := Try.isAgg21
  zeroValue_t21 := Try.zeroValue21
  room_tIMutex := by kernel_rfl

end Go.Proofs.Ytomiicegkdogkaa

namespace Go.Proofs.Ytomiicegkdogkaa
open Go Go.RowKit
open Go.MuLone
set_option linter.unusedVariables false

theorem chg_fresh {w a : World} {lo hi : Nat} (h : Chg w a lo hi) (p : Addr) (hp : w.heap.size ≤ p.block) (v : Value) : Chg w (a.setCell p v) lo hi :=
  ⟨h.os, h.tape, h.output, by simpa using h.size, fun k hk hn => (Below.heap_setCell _ _ _ _ (by omega)).trans (h.block k hk hn)⟩

/-- one place of the second of two slices -/
theorem vset2 {w : World} {lo hi : Nat} {v1 v2 : Value} {xs ys : List Bool} (h : OwU w lo hi [] [own shB v1 xs, own shB v2 ys]) (k : Nat) (hk : k < ys.length) :
    ∃ b off c, v2 = .slice (some ⟨b, off, none⟩) ys.length c ∧ lo ≤ b ∧ b < hi ∧ w.cell? ⟨b, off + k, none⟩ = some (.bool (ys.getD k false)) ∧ w.frozen? ⟨b, off + k, none⟩ = false ∧ ∀ x, OwU (w.setCell ⟨b, off + k, none⟩ (.bool x)) lo hi [] [own shB v1 xs, own shB v2 (ys.set k x)] := by
  obtain ⟨a, d, q1, q2, _, ho, hf⟩ := OwU.focus (pre := [own shB v1 xs]) (p := own shB v2 ys) (post := []) h
  obtain ⟨b, off, c, hv, h1, h2, h3, h4, h5⟩ := owB_at (show OwL shB w a d v2 ys from ho) k hk
  exact ⟨b, off, c, hv, by omega, by omega, h3, h4, fun x => hf _ (own shB v2 (ys.set k x)) (h5 x).2 (h5 x).1⟩
/-- one place of the first -/
theorem vset1 {w : World} {lo hi : Nat} {v1 v2 : Value} {xs ys : List Bool} (h : OwU w lo hi [] [own shB v1 xs, own shB v2 ys]) (k : Nat) (hk : k < xs.length) :
    ∃ b off c, v1 = .slice (some ⟨b, off, none⟩) xs.length c ∧ lo ≤ b ∧ b < hi ∧ w.cell? ⟨b, off + k, none⟩ = some (.bool (xs.getD k false)) ∧ w.frozen? ⟨b, off + k, none⟩ = false ∧ ∀ x, OwU (w.setCell ⟨b, off + k, none⟩ (.bool x)) lo hi [] [own shB v1 (xs.set k x), own shB v2 ys] := by
  obtain ⟨a, d, q1, q2, _, ho, hf⟩ := OwU.focus (pre := []) (p := own shB v1 xs) (post := [own shB v2 ys]) h
  obtain ⟨b, off, c, hv, h1, h2, h3, h4, h5⟩ := owB_at (show OwL shB w a d v1 xs from ho) k hk
  exact ⟨b, off, c, hv, by omega, by omega, h3, h4, fun x => hf _ (own shB v1 (xs.set k x)) (h5 x).2 (h5 x).1⟩

/-- what the methods of the guarded vectors in block g leave: the packet, the flags, the lock free again -/
def GPost (g lo : Nat) (i0 : Int) (v1 v2 : Value) (xs ys : List Bool) (kd id ad : Int) (ps : List Int) (W : World) (e : Ending) (w' : World) : Prop :=
  ∃ vp, e = .returned (vPacket kd id 0 ad 0 0 0 vp) ∧ OwU w' lo g [] [own shB v1 xs, own shB v2 ys] ∧ w'.heap[g]? = some (.cells #[.int .i32 0, .int .u32 0, .int .i64 i0, v1, v2] 92 (0, 0)) ∧ OwU w' W.heap.size w'.heap.size [] [own shI vp ps] ∧ Chg W w' lo (g + 1)

set_option maxRecDepth 8000 in
set_option maxHeartbeats 4000000 in
theorem raise_yes (W : World) (g lo k : Nat) (i0 id : Int) (v1 v2 : Value) (xs ys : List Bool) (hg_ : W.heap[g]? = some (.cells #[.int .i32 0, .int .u32 0, .int .i64 i0, v1, v2] 92 (0, 0))) (ho_ : OwU W lo g [] [own shB v1 xs, own shB v2 ys]) (hk : k < xs.length) (h8 : xs.length ≤ 8) (hy : ys.length = xs.length) (hm : xs.getD k false = true) :
    Calls Try.prog 65 #[.pointer (some ⟨g, 0, none⟩), .int .i64 id, .int .i64 (k : Int)] W (GPost g lo i0 v1 v2 xs (ys.set k true) 0 0 0 [] W) := by
  have HM := Lib.hid hm
  clear hm
  obtain ⟨mb, mo, mc, rfl, m1, m2, _, _, _⟩ := vset1 ho_ k hk
  obtain ⟨pb, po, pc, rfl, p1, p2, _, _, _⟩ := vset2 ho_ k (by omega)
  have hgl : g < W.heap.size := lt_of_block hg_
  obtain ⟨nx, hnx⟩ : ∃ n, n = xs.length := ⟨_, rfl⟩
  have HNX := Lib.hid hnx
  rw [hy, ← hnx] at hg_ ho_ ⊢
  have HY := Lib.hid hy
  have hk8 : k < nx := by omega
  have hn8 : nx ≤ 8 := by omega
  have hg := Lib.hid hg_
  have ho := Lib.hid ho_
  clear hg_ ho_ hnx hy hk h8
  have hk0 : (0 : Int) ≤ (k : Int) := by omega
  have hkn : (k : Int) < (nx : Int) := by omega
  have htk : ((k : Int)).toNat = k := by omega
  have ngR : ¬ g = W.heap.size := by omega
  have nRg : ¬ W.heap.size = g := by omega
  have npg : ¬ pb = g := by omega
  have ngp : ¬ g = pb := by omega
  have npR : ¬ pb = W.heap.size := by omega
  have nRp : ¬ W.heap.size = pb := by omega
  have nmg : ¬ mb = g := by omega
  have ngm : ¬ g = mb := by omega
  have nmR : ¬ mb = W.heap.size := by omega
  have nRm : ¬ W.heap.size = mb := by omega
  have HG1 := Lib.hid (show ((W.alloc (.cells #[.int .i64 0, .int .i64 0, .int .i64 0, .int .i64 0, .int .i64 0, .int .i64 0, .int .i64 0, .slice none 0 0] 29))).heap[g]? = some (.cells #[.int .i32 0, .int .u32 0, .int .i64 i0, .slice (some ⟨mb, mo, none⟩) nx mc, .slice (some ⟨pb, po, none⟩) nx pc] 92 (0, 0)) from (row_held (gby_alloc (gby_refl W none) _) hg.out))
  have HR1 := Lib.hid (show ((W.alloc (.cells #[.int .i64 0, .int .i64 0, .int .i64 0, .int .i64 0, .int .i64 0, .int .i64 0, .int .i64 0, .slice none 0 0] 29))).heap[W.heap.size]? = some (.cells #[.int .i64 0, .int .i64 0, .int .i64 0, .int .i64 0, .int .i64 0, .int .i64 0, .int .i64 0, .slice none 0 0] 29 (0, 0)) from (heap_alloc_new W _))
  have HO1 := Lib.hid (show OwU ((W.alloc (.cells #[.int .i64 0, .int .i64 0, .int .i64 0, .int .i64 0, .int .i64 0, .int .i64 0, .int .i64 0, .slice none 0 0] 29))) lo g [] [own shB (.slice (some ⟨mb, mo, none⟩) nx mc) xs, own shB (.slice (some ⟨pb, po, none⟩) nx pc) ys] from (OwU.grow ho.out (gby_alloc (gby_refl W none) _)))
  have HC1 := Lib.hid (show Chg W ((W.alloc (.cells #[.int .i64 0, .int .i64 0, .int .i64 0, .int .i64 0, .int .i64 0, .int .i64 0, .int .i64 0, .slice none 0 0] 29))) lo (g + 1) from (chg_gby (gby_alloc (gby_refl W none) _) lo (g + 1)))
  go_enter_defers Try.func65, Try.ntmps65
  have ag0 : ((W.alloc (.cells #[.int .i64 0, .int .i64 0, .int .i64 0, .int .i64 0, .int .i64 0, .int .i64 0, .int .i64 0, .slice none 0 0] 29))).cell? ⟨g, 0, none⟩ = some (.int .i32 0) := cell_of_row _ _ 0 _ _ _ HG1.out
  have ag1 : ((W.alloc (.cells #[.int .i64 0, .int .i64 0, .int .i64 0, .int .i64 0, .int .i64 0, .int .i64 0, .int .i64 0, .slice none 0 0] 29))).cell? ⟨g, 1, none⟩ = some (.int .u32 0) := cell_of_row _ _ 1 _ _ _ HG1.out
  have ag2 : ((W.alloc (.cells #[.int .i64 0, .int .i64 0, .int .i64 0, .int .i64 0, .int .i64 0, .int .i64 0, .int .i64 0, .slice none 0 0] 29))).cell? ⟨g, 2, none⟩ = some (.int .i64 i0) := cell_of_row _ _ 2 _ _ _ HG1.out
  have ag3 : ((W.alloc (.cells #[.int .i64 0, .int .i64 0, .int .i64 0, .int .i64 0, .int .i64 0, .int .i64 0, .int .i64 0, .slice none 0 0] 29))).cell? ⟨g, 3, none⟩ = some (.slice (some ⟨mb, mo, none⟩) nx mc) := cell_of_row _ _ 3 _ _ _ HG1.out
  have ag4 : ((W.alloc (.cells #[.int .i64 0, .int .i64 0, .int .i64 0, .int .i64 0, .int .i64 0, .int .i64 0, .int .i64 0, .slice none 0 0] 29))).cell? ⟨g, 4, none⟩ = some (.slice (some ⟨pb, po, none⟩) nx pc) := cell_of_row _ _ 4 _ _ _ HG1.out
  have agf : ((W.alloc (.cells #[.int .i64 0, .int .i64 0, .int .i64 0, .int .i64 0, .int .i64 0, .int .i64 0, .int .i64 0, .slice none 0 0] 29))).frozen? ⟨g, 0, none⟩ = false := frozen_of_row _ _ 0 _ _ HG1.out
  go_wp2_with fail
  go_at_call 108
  refine (lock_free muLib ⟨g, 0, none⟩ _ ag0 agf).mono ?_
  rintro e w' ⟨rfl, rfl⟩
  clear ag0 ag1 ag2 ag3 ag4 agf
  have HG2 := Lib.hid (show (((W.alloc (.cells #[.int .i64 0, .int .i64 0, .int .i64 0, .int .i64 0, .int .i64 0, .int .i64 0, .int .i64 0, .slice none 0 0] 29)).setCell ⟨g, 0, none⟩ (.int .i32 1))).heap[g]? = some (.cells #[.int .i32 1, .int .u32 0, .int .i64 i0, .slice (some ⟨mb, mo, none⟩) nx mc, .slice (some ⟨pb, po, none⟩) nx pc] 92 (0, 0)) from (heap_setCell_same _ _ 0 _ _ _ HG1.out))
  have HR2 := Lib.hid (show (((W.alloc (.cells #[.int .i64 0, .int .i64 0, .int .i64 0, .int .i64 0, .int .i64 0, .int .i64 0, .int .i64 0, .slice none 0 0] 29)).setCell ⟨g, 0, none⟩ (.int .i32 1))).heap[W.heap.size]? = some (.cells #[.int .i64 0, .int .i64 0, .int .i64 0, .int .i64 0, .int .i64 0, .int .i64 0, .int .i64 0, .slice none 0 0] 29 (0, 0)) from (set_far HR1.out (by dsimp only; omega)))
  have HO2 := Lib.hid (show OwU (((W.alloc (.cells #[.int .i64 0, .int .i64 0, .int .i64 0, .int .i64 0, .int .i64 0, .int .i64 0, .int .i64 0, .slice none 0 0] 29)).setCell ⟨g, 0, none⟩ (.int .i32 1))) lo g [] [own shB (.slice (some ⟨mb, mo, none⟩) nx mc) xs, own shB (.slice (some ⟨pb, po, none⟩) nx pc) ys] from (OwU.keep (chg_one _ _ _ _) (.inl (Nat.le_refl _)) HO1.out))
  have HC2 := Lib.hid (show Chg W (((W.alloc (.cells #[.int .i64 0, .int .i64 0, .int .i64 0, .int .i64 0, .int .i64 0, .int .i64 0, .int .i64 0, .slice none 0 0] 29)).setCell ⟨g, 0, none⟩ (.int .i32 1))) lo (g + 1) from (chg_setp HC1.out _ (by dsimp only; omega) (by dsimp only; omega) _))
  have szL : (((W.alloc (.cells #[.int .i64 0, .int .i64 0, .int .i64 0, .int .i64 0, .int .i64 0, .int .i64 0, .int .i64 0, .slice none 0 0] 29)).setCell ⟨g, 0, none⟩ (.int .i32 1))).heap.size = W.heap.size + 1 := by simp only [World.size_setCell, World.size_alloc]
  generalize ((W.alloc (.cells #[.int .i64 0, .int .i64 0, .int .i64 0, .int .i64 0, .int .i64 0, .int .i64 0, .int .i64 0, .slice none 0 0] 29)).setCell ⟨g, 0, none⟩ (.int .i32 1)) = wL at HG2 HR2 HO2 HC2 szL ⊢
  clear HG1 HR1 HO1 HC1
  have bg0 : (wL).cell? ⟨g, 0, none⟩ = some (.int .i32 1) := cell_of_row _ _ 0 _ _ _ HG2.out
  have bg1 : (wL).cell? ⟨g, 1, none⟩ = some (.int .u32 0) := cell_of_row _ _ 1 _ _ _ HG2.out
  have bg2 : (wL).cell? ⟨g, 2, none⟩ = some (.int .i64 i0) := cell_of_row _ _ 2 _ _ _ HG2.out
  have bg3 : (wL).cell? ⟨g, 3, none⟩ = some (.slice (some ⟨mb, mo, none⟩) nx mc) := cell_of_row _ _ 3 _ _ _ HG2.out
  have bg4 : (wL).cell? ⟨g, 4, none⟩ = some (.slice (some ⟨pb, po, none⟩) nx pc) := cell_of_row _ _ 4 _ _ _ HG2.out
  obtain ⟨mb_, mo_, mc_, hv1_, _, _, mk_, _, _⟩ := vset1 HO2.out k (by have := HNX.out; omega)
  injection hv1_ with q1_ q2_ q3_
  injection q1_ with q1_
  injection q1_ with q4_ q5_ _
  subst q4_ q5_
  clear q2_ q3_
  rw [HM.out] at mk_
  obtain ⟨pb_, po_, pc_, hv2_, _, _, pk_, pf_, hset_⟩ := vset2 HO2.out k (by have := HNX.out; have := HY.out; omega)
  injection hv2_ with q1_ q2_ q3_
  injection q1_ with q1_
  injection q1_ with q4_ q5_ _
  subst q4_ q5_
  clear q2_ q3_
  have HSET := Lib.hid (hset_ true)
  clear hset_
  have cr0 : (wL).cell? ⟨W.heap.size, 0, none⟩ = some (.int .i64 0) := cell_of_row _ _ 0 _ _ _ HR2.out
  have crf0 : (wL).frozen? ⟨W.heap.size, 0, none⟩ = false := frozen_of_row _ _ 0 _ _ HR2.out
  have cr1 : (wL).cell? ⟨W.heap.size, 1, none⟩ = some (.int .i64 0) := cell_of_row _ _ 1 _ _ _ HR2.out
  have crf1 : (wL).frozen? ⟨W.heap.size, 1, none⟩ = false := frozen_of_row _ _ 1 _ _ HR2.out
  have cr2 : (wL).cell? ⟨W.heap.size, 2, none⟩ = some (.int .i64 0) := cell_of_row _ _ 2 _ _ _ HR2.out
  have crf2 : (wL).frozen? ⟨W.heap.size, 2, none⟩ = false := frozen_of_row _ _ 2 _ _ HR2.out
  have cr3 : (wL).cell? ⟨W.heap.size, 3, none⟩ = some (.int .i64 0) := cell_of_row _ _ 3 _ _ _ HR2.out
  have crf3 : (wL).frozen? ⟨W.heap.size, 3, none⟩ = false := frozen_of_row _ _ 3 _ _ HR2.out
  have cr4 : (wL).cell? ⟨W.heap.size, 4, none⟩ = some (.int .i64 0) := cell_of_row _ _ 4 _ _ _ HR2.out
  have crf4 : (wL).frozen? ⟨W.heap.size, 4, none⟩ = false := frozen_of_row _ _ 4 _ _ HR2.out
  have cr5 : (wL).cell? ⟨W.heap.size, 5, none⟩ = some (.int .i64 0) := cell_of_row _ _ 5 _ _ _ HR2.out
  have crf5 : (wL).frozen? ⟨W.heap.size, 5, none⟩ = false := frozen_of_row _ _ 5 _ _ HR2.out
  have cr6 : (wL).cell? ⟨W.heap.size, 6, none⟩ = some (.int .i64 0) := cell_of_row _ _ 6 _ _ _ HR2.out
  have crf6 : (wL).frozen? ⟨W.heap.size, 6, none⟩ = false := frozen_of_row _ _ 6 _ _ HR2.out
  have cr7 : (wL).cell? ⟨W.heap.size, 7, none⟩ = some (.slice none 0 0) := cell_of_row _ _ 7 _ _ _ HR2.out
  have crf7 : (wL).frozen? ⟨W.heap.size, 7, none⟩ = false := frozen_of_row _ _ 7 _ _ HR2.out
  have HG3 := Lib.hid (show ((wL.setCell ⟨pb, po + k, none⟩ (.bool true))).heap[g]? = some (.cells #[.int .i32 1, .int .u32 0, .int .i64 i0, .slice (some ⟨mb, mo, none⟩) nx mc, .slice (some ⟨pb, po, none⟩) nx pc] 92 (0, 0)) from (set_far HG2.out (by dsimp only; omega)))
  have HR3 := Lib.hid (show ((wL.setCell ⟨pb, po + k, none⟩ (.bool true))).heap[W.heap.size]? = some (.cells #[.int .i64 0, .int .i64 0, .int .i64 0, .int .i64 0, .int .i64 0, .int .i64 0, .int .i64 0, .slice none 0 0] 29 (0, 0)) from (set_far HR2.out (by dsimp only; omega)))
  have HO3 := Lib.hid (show OwU ((wL.setCell ⟨pb, po + k, none⟩ (.bool true))) lo g [] [own shB (.slice (some ⟨mb, mo, none⟩) nx mc) xs, own shB (.slice (some ⟨pb, po, none⟩) nx pc) (ys.set k true)] from HSET.out)
  have HC3 := Lib.hid (show Chg W ((wL.setCell ⟨pb, po + k, none⟩ (.bool true))) lo (g + 1) from (chg_setp HC2.out _ (by dsimp only; omega) (by dsimp only; omega) _))
  have HG4 := Lib.hid (show ((((((((((wL.setCell ⟨pb, po + k, none⟩ (.bool true)).setCell ⟨W.heap.size, 0, none⟩ (.int .i64 0)).setCell ⟨W.heap.size, 1, none⟩ (.int .i64 0)).setCell ⟨W.heap.size, 2, none⟩ (.int .i64 0)).setCell ⟨W.heap.size, 3, none⟩ (.int .i64 0)).setCell ⟨W.heap.size, 4, none⟩ (.int .i64 0)).setCell ⟨W.heap.size, 5, none⟩ (.int .i64 0)).setCell ⟨W.heap.size, 6, none⟩ (.int .i64 0)).setCell ⟨W.heap.size, 7, none⟩ (.slice none 0 0))).heap[g]? = some (.cells #[.int .i32 1, .int .u32 0, .int .i64 i0, .slice (some ⟨mb, mo, none⟩) nx mc, .slice (some ⟨pb, po, none⟩) nx pc] 92 (0, 0)) from (set_far (set_far (set_far (set_far (set_far (set_far (set_far (set_far HG3.out (by dsimp only; omega)) (by dsimp only; omega)) (by dsimp only; omega)) (by dsimp only; omega)) (by dsimp only; omega)) (by dsimp only; omega)) (by dsimp only; omega)) (by dsimp only; omega)))
  have HR4 := Lib.hid (show ((((((((((wL.setCell ⟨pb, po + k, none⟩ (.bool true)).setCell ⟨W.heap.size, 0, none⟩ (.int .i64 0)).setCell ⟨W.heap.size, 1, none⟩ (.int .i64 0)).setCell ⟨W.heap.size, 2, none⟩ (.int .i64 0)).setCell ⟨W.heap.size, 3, none⟩ (.int .i64 0)).setCell ⟨W.heap.size, 4, none⟩ (.int .i64 0)).setCell ⟨W.heap.size, 5, none⟩ (.int .i64 0)).setCell ⟨W.heap.size, 6, none⟩ (.int .i64 0)).setCell ⟨W.heap.size, 7, none⟩ (.slice none 0 0))).heap[W.heap.size]? = some (.cells #[.int .i64 0, .int .i64 0, .int .i64 0, .int .i64 0, .int .i64 0, .int .i64 0, .int .i64 0, .slice none 0 0] 29 (0, 0)) from (heap_setCell_same _ _ 7 _ _ _ (heap_setCell_same _ _ 6 _ _ _ (heap_setCell_same _ _ 5 _ _ _ (heap_setCell_same _ _ 4 _ _ _ (heap_setCell_same _ _ 3 _ _ _ (heap_setCell_same _ _ 2 _ _ _ (heap_setCell_same _ _ 1 _ _ _ (heap_setCell_same _ _ 0 _ _ _ HR3.out)))))))))
  have HO4 := Lib.hid (show OwU ((((((((((wL.setCell ⟨pb, po + k, none⟩ (.bool true)).setCell ⟨W.heap.size, 0, none⟩ (.int .i64 0)).setCell ⟨W.heap.size, 1, none⟩ (.int .i64 0)).setCell ⟨W.heap.size, 2, none⟩ (.int .i64 0)).setCell ⟨W.heap.size, 3, none⟩ (.int .i64 0)).setCell ⟨W.heap.size, 4, none⟩ (.int .i64 0)).setCell ⟨W.heap.size, 5, none⟩ (.int .i64 0)).setCell ⟨W.heap.size, 6, none⟩ (.int .i64 0)).setCell ⟨W.heap.size, 7, none⟩ (.slice none 0 0))) lo g [] [own shB (.slice (some ⟨mb, mo, none⟩) nx mc) xs, own shB (.slice (some ⟨pb, po, none⟩) nx pc) (ys.set k true)] from (OwU.keep (chg_one _ _ _ _) (.inl (by omega)) (OwU.keep (chg_one _ _ _ _) (.inl (by omega)) (OwU.keep (chg_one _ _ _ _) (.inl (by omega)) (OwU.keep (chg_one _ _ _ _) (.inl (by omega)) (OwU.keep (chg_one _ _ _ _) (.inl (by omega)) (OwU.keep (chg_one _ _ _ _) (.inl (by omega)) (OwU.keep (chg_one _ _ _ _) (.inl (by omega)) (OwU.keep (chg_one _ _ _ _) (.inl (by omega)) HO3.out)))))))))
  have HC4 := Lib.hid (show Chg W ((((((((((wL.setCell ⟨pb, po + k, none⟩ (.bool true)).setCell ⟨W.heap.size, 0, none⟩ (.int .i64 0)).setCell ⟨W.heap.size, 1, none⟩ (.int .i64 0)).setCell ⟨W.heap.size, 2, none⟩ (.int .i64 0)).setCell ⟨W.heap.size, 3, none⟩ (.int .i64 0)).setCell ⟨W.heap.size, 4, none⟩ (.int .i64 0)).setCell ⟨W.heap.size, 5, none⟩ (.int .i64 0)).setCell ⟨W.heap.size, 6, none⟩ (.int .i64 0)).setCell ⟨W.heap.size, 7, none⟩ (.slice none 0 0))) lo (g + 1) from (chg_fresh (chg_fresh (chg_fresh (chg_fresh (chg_fresh (chg_fresh (chg_fresh (chg_fresh HC3.out _ (Nat.le_refl _) _) _ (Nat.le_refl _) _) _ (Nat.le_refl _) _) _ (Nat.le_refl _) _) _ (Nat.le_refl _) _) _ (Nat.le_refl _) _) _ (Nat.le_refl _) _) _ (Nat.le_refl _) _))
  have hl_ : ((((((((((wL.setCell ⟨pb, po + k, none⟩ (.bool true)).setCell ⟨W.heap.size, 0, none⟩ (.int .i64 0)).setCell ⟨W.heap.size, 1, none⟩ (.int .i64 0)).setCell ⟨W.heap.size, 2, none⟩ (.int .i64 0)).setCell ⟨W.heap.size, 3, none⟩ (.int .i64 0)).setCell ⟨W.heap.size, 4, none⟩ (.int .i64 0)).setCell ⟨W.heap.size, 5, none⟩ (.int .i64 0)).setCell ⟨W.heap.size, 6, none⟩ (.int .i64 0)).setCell ⟨W.heap.size, 7, none⟩ (.slice none 0 0))).cell? ⟨g, 0, none⟩ = some (.int .i32 1) := cell_of_row _ _ 0 _ _ _ HG4.out
  have hz_ : ((((((((((wL.setCell ⟨pb, po + k, none⟩ (.bool true)).setCell ⟨W.heap.size, 0, none⟩ (.int .i64 0)).setCell ⟨W.heap.size, 1, none⟩ (.int .i64 0)).setCell ⟨W.heap.size, 2, none⟩ (.int .i64 0)).setCell ⟨W.heap.size, 3, none⟩ (.int .i64 0)).setCell ⟨W.heap.size, 4, none⟩ (.int .i64 0)).setCell ⟨W.heap.size, 5, none⟩ (.int .i64 0)).setCell ⟨W.heap.size, 6, none⟩ (.int .i64 0)).setCell ⟨W.heap.size, 7, none⟩ (.slice none 0 0))).frozen? ⟨g, 0, none⟩ = false := frozen_of_row _ _ 0 _ _ HG4.out
  have HL := Lib.hid hl_
  have HZ := Lib.hid hz_
  clear hl_ hz_
  have HG5 := Lib.hid (show (((((((((((wL.setCell ⟨pb, po + k, none⟩ (.bool true)).setCell ⟨W.heap.size, 0, none⟩ (.int .i64 0)).setCell ⟨W.heap.size, 1, none⟩ (.int .i64 0)).setCell ⟨W.heap.size, 2, none⟩ (.int .i64 0)).setCell ⟨W.heap.size, 3, none⟩ (.int .i64 0)).setCell ⟨W.heap.size, 4, none⟩ (.int .i64 0)).setCell ⟨W.heap.size, 5, none⟩ (.int .i64 0)).setCell ⟨W.heap.size, 6, none⟩ (.int .i64 0)).setCell ⟨W.heap.size, 7, none⟩ (.slice none 0 0)).setCell ⟨g, 0, none⟩ (.int .i32 0))).heap[g]? = some (.cells #[.int .i32 0, .int .u32 0, .int .i64 i0, .slice (some ⟨mb, mo, none⟩) nx mc, .slice (some ⟨pb, po, none⟩) nx pc] 92 (0, 0)) from (heap_setCell_same _ _ 0 _ _ _ HG4.out))
  have HR5 := Lib.hid (show (((((((((((wL.setCell ⟨pb, po + k, none⟩ (.bool true)).setCell ⟨W.heap.size, 0, none⟩ (.int .i64 0)).setCell ⟨W.heap.size, 1, none⟩ (.int .i64 0)).setCell ⟨W.heap.size, 2, none⟩ (.int .i64 0)).setCell ⟨W.heap.size, 3, none⟩ (.int .i64 0)).setCell ⟨W.heap.size, 4, none⟩ (.int .i64 0)).setCell ⟨W.heap.size, 5, none⟩ (.int .i64 0)).setCell ⟨W.heap.size, 6, none⟩ (.int .i64 0)).setCell ⟨W.heap.size, 7, none⟩ (.slice none 0 0)).setCell ⟨g, 0, none⟩ (.int .i32 0))).heap[W.heap.size]? = some (.cells #[.int .i64 0, .int .i64 0, .int .i64 0, .int .i64 0, .int .i64 0, .int .i64 0, .int .i64 0, .slice none 0 0] 29 (0, 0)) from (set_far HR4.out (by dsimp only; omega)))
  have HO5 := Lib.hid (show OwU (((((((((((wL.setCell ⟨pb, po + k, none⟩ (.bool true)).setCell ⟨W.heap.size, 0, none⟩ (.int .i64 0)).setCell ⟨W.heap.size, 1, none⟩ (.int .i64 0)).setCell ⟨W.heap.size, 2, none⟩ (.int .i64 0)).setCell ⟨W.heap.size, 3, none⟩ (.int .i64 0)).setCell ⟨W.heap.size, 4, none⟩ (.int .i64 0)).setCell ⟨W.heap.size, 5, none⟩ (.int .i64 0)).setCell ⟨W.heap.size, 6, none⟩ (.int .i64 0)).setCell ⟨W.heap.size, 7, none⟩ (.slice none 0 0)).setCell ⟨g, 0, none⟩ (.int .i32 0))) lo g [] [own shB (.slice (some ⟨mb, mo, none⟩) nx mc) xs, own shB (.slice (some ⟨pb, po, none⟩) nx pc) (ys.set k true)] from (OwU.keep (chg_one _ _ _ _) (.inl (Nat.le_refl _)) HO4.out))
  have HC5 := Lib.hid (show Chg W (((((((((((wL.setCell ⟨pb, po + k, none⟩ (.bool true)).setCell ⟨W.heap.size, 0, none⟩ (.int .i64 0)).setCell ⟨W.heap.size, 1, none⟩ (.int .i64 0)).setCell ⟨W.heap.size, 2, none⟩ (.int .i64 0)).setCell ⟨W.heap.size, 3, none⟩ (.int .i64 0)).setCell ⟨W.heap.size, 4, none⟩ (.int .i64 0)).setCell ⟨W.heap.size, 5, none⟩ (.int .i64 0)).setCell ⟨W.heap.size, 6, none⟩ (.int .i64 0)).setCell ⟨W.heap.size, 7, none⟩ (.slice none 0 0)).setCell ⟨g, 0, none⟩ (.int .i32 0))) lo (g + 1) from (chg_setp HC4.out _ (by dsimp only; omega) (by dsimp only; omega) _))
  have zz0 : (((((((((((wL.setCell ⟨pb, po + k, none⟩ (.bool true)).setCell ⟨W.heap.size, 0, none⟩ (.int .i64 0)).setCell ⟨W.heap.size, 1, none⟩ (.int .i64 0)).setCell ⟨W.heap.size, 2, none⟩ (.int .i64 0)).setCell ⟨W.heap.size, 3, none⟩ (.int .i64 0)).setCell ⟨W.heap.size, 4, none⟩ (.int .i64 0)).setCell ⟨W.heap.size, 5, none⟩ (.int .i64 0)).setCell ⟨W.heap.size, 6, none⟩ (.int .i64 0)).setCell ⟨W.heap.size, 7, none⟩ (.slice none 0 0)).setCell ⟨g, 0, none⟩ (.int .i32 0))).cell? ⟨W.heap.size, 0, none⟩ = some (.int .i64 0) := cell_of_row _ _ 0 _ _ _ HR5.out
  have zz1 : (((((((((((wL.setCell ⟨pb, po + k, none⟩ (.bool true)).setCell ⟨W.heap.size, 0, none⟩ (.int .i64 0)).setCell ⟨W.heap.size, 1, none⟩ (.int .i64 0)).setCell ⟨W.heap.size, 2, none⟩ (.int .i64 0)).setCell ⟨W.heap.size, 3, none⟩ (.int .i64 0)).setCell ⟨W.heap.size, 4, none⟩ (.int .i64 0)).setCell ⟨W.heap.size, 5, none⟩ (.int .i64 0)).setCell ⟨W.heap.size, 6, none⟩ (.int .i64 0)).setCell ⟨W.heap.size, 7, none⟩ (.slice none 0 0)).setCell ⟨g, 0, none⟩ (.int .i32 0))).cell? ⟨W.heap.size, 1, none⟩ = some (.int .i64 0) := cell_of_row _ _ 1 _ _ _ HR5.out
  have zz2 : (((((((((((wL.setCell ⟨pb, po + k, none⟩ (.bool true)).setCell ⟨W.heap.size, 0, none⟩ (.int .i64 0)).setCell ⟨W.heap.size, 1, none⟩ (.int .i64 0)).setCell ⟨W.heap.size, 2, none⟩ (.int .i64 0)).setCell ⟨W.heap.size, 3, none⟩ (.int .i64 0)).setCell ⟨W.heap.size, 4, none⟩ (.int .i64 0)).setCell ⟨W.heap.size, 5, none⟩ (.int .i64 0)).setCell ⟨W.heap.size, 6, none⟩ (.int .i64 0)).setCell ⟨W.heap.size, 7, none⟩ (.slice none 0 0)).setCell ⟨g, 0, none⟩ (.int .i32 0))).cell? ⟨W.heap.size, 2, none⟩ = some (.int .i64 0) := cell_of_row _ _ 2 _ _ _ HR5.out
  have zz3 : (((((((((((wL.setCell ⟨pb, po + k, none⟩ (.bool true)).setCell ⟨W.heap.size, 0, none⟩ (.int .i64 0)).setCell ⟨W.heap.size, 1, none⟩ (.int .i64 0)).setCell ⟨W.heap.size, 2, none⟩ (.int .i64 0)).setCell ⟨W.heap.size, 3, none⟩ (.int .i64 0)).setCell ⟨W.heap.size, 4, none⟩ (.int .i64 0)).setCell ⟨W.heap.size, 5, none⟩ (.int .i64 0)).setCell ⟨W.heap.size, 6, none⟩ (.int .i64 0)).setCell ⟨W.heap.size, 7, none⟩ (.slice none 0 0)).setCell ⟨g, 0, none⟩ (.int .i32 0))).cell? ⟨W.heap.size, 3, none⟩ = some (.int .i64 0) := cell_of_row _ _ 3 _ _ _ HR5.out
  have zz4 : (((((((((((wL.setCell ⟨pb, po + k, none⟩ (.bool true)).setCell ⟨W.heap.size, 0, none⟩ (.int .i64 0)).setCell ⟨W.heap.size, 1, none⟩ (.int .i64 0)).setCell ⟨W.heap.size, 2, none⟩ (.int .i64 0)).setCell ⟨W.heap.size, 3, none⟩ (.int .i64 0)).setCell ⟨W.heap.size, 4, none⟩ (.int .i64 0)).setCell ⟨W.heap.size, 5, none⟩ (.int .i64 0)).setCell ⟨W.heap.size, 6, none⟩ (.int .i64 0)).setCell ⟨W.heap.size, 7, none⟩ (.slice none 0 0)).setCell ⟨g, 0, none⟩ (.int .i32 0))).cell? ⟨W.heap.size, 4, none⟩ = some (.int .i64 0) := cell_of_row _ _ 4 _ _ _ HR5.out
  have zz5 : (((((((((((wL.setCell ⟨pb, po + k, none⟩ (.bool true)).setCell ⟨W.heap.size, 0, none⟩ (.int .i64 0)).setCell ⟨W.heap.size, 1, none⟩ (.int .i64 0)).setCell ⟨W.heap.size, 2, none⟩ (.int .i64 0)).setCell ⟨W.heap.size, 3, none⟩ (.int .i64 0)).setCell ⟨W.heap.size, 4, none⟩ (.int .i64 0)).setCell ⟨W.heap.size, 5, none⟩ (.int .i64 0)).setCell ⟨W.heap.size, 6, none⟩ (.int .i64 0)).setCell ⟨W.heap.size, 7, none⟩ (.slice none 0 0)).setCell ⟨g, 0, none⟩ (.int .i32 0))).cell? ⟨W.heap.size, 5, none⟩ = some (.int .i64 0) := cell_of_row _ _ 5 _ _ _ HR5.out
  have zz6 : (((((((((((wL.setCell ⟨pb, po + k, none⟩ (.bool true)).setCell ⟨W.heap.size, 0, none⟩ (.int .i64 0)).setCell ⟨W.heap.size, 1, none⟩ (.int .i64 0)).setCell ⟨W.heap.size, 2, none⟩ (.int .i64 0)).setCell ⟨W.heap.size, 3, none⟩ (.int .i64 0)).setCell ⟨W.heap.size, 4, none⟩ (.int .i64 0)).setCell ⟨W.heap.size, 5, none⟩ (.int .i64 0)).setCell ⟨W.heap.size, 6, none⟩ (.int .i64 0)).setCell ⟨W.heap.size, 7, none⟩ (.slice none 0 0)).setCell ⟨g, 0, none⟩ (.int .i32 0))).cell? ⟨W.heap.size, 6, none⟩ = some (.int .i64 0) := cell_of_row _ _ 6 _ _ _ HR5.out
  have zz7 : (((((((((((wL.setCell ⟨pb, po + k, none⟩ (.bool true)).setCell ⟨W.heap.size, 0, none⟩ (.int .i64 0)).setCell ⟨W.heap.size, 1, none⟩ (.int .i64 0)).setCell ⟨W.heap.size, 2, none⟩ (.int .i64 0)).setCell ⟨W.heap.size, 3, none⟩ (.int .i64 0)).setCell ⟨W.heap.size, 4, none⟩ (.int .i64 0)).setCell ⟨W.heap.size, 5, none⟩ (.int .i64 0)).setCell ⟨W.heap.size, 6, none⟩ (.int .i64 0)).setCell ⟨W.heap.size, 7, none⟩ (.slice none 0 0)).setCell ⟨g, 0, none⟩ (.int .i32 0))).cell? ⟨W.heap.size, 7, none⟩ = some (.slice none 0 0) := cell_of_row _ _ 7 _ _ _ HR5.out
  go_wp2
  refine leaves_cons (f := 109) (args := #[.pointer (some ⟨g, 0, none⟩)]) (by simp) (by simp [go_sem]) ?_
  refine (unlock_deferred muLib ⟨g, 0, none⟩ .returning _ HL.out HZ.out).mono ?_
  rintro e u' w'' ⟨rfl, rfl, rfl⟩
  refine ⟨vPacket 0 0 0 0 0 0 0 (.slice none 0 0), by simp [results, go_sem, vPacket, zz0, zz1, zz2, zz3, zz4, zz5, zz6, zz7], _, rfl, HO5.out, HG5.out, ?_, HC5.out⟩
  exact OwU.one owL_nil

set_option maxRecDepth 8000 in
set_option maxHeartbeats 4000000 in
theorem raise_no (W : World) (g lo k : Nat) (i0 id : Int) (v1 v2 : Value) (xs ys : List Bool) (hg_ : W.heap[g]? = some (.cells #[.int .i32 0, .int .u32 0, .int .i64 i0, v1, v2] 92 (0, 0))) (ho_ : OwU W lo g [] [own shB v1 xs, own shB v2 ys]) (hk : k < xs.length) (h8 : xs.length ≤ 8) (hy : ys.length = xs.length) (hm : xs.getD k false = false) :
    Calls Try.prog 65 #[.pointer (some ⟨g, 0, none⟩), .int .i64 id, .int .i64 (k : Int)] W (GPost g lo i0 v1 v2 xs ys 1 id i0 [(k : Int)] W) := by
  have HM := Lib.hid hm
  clear hm
  obtain ⟨mb, mo, mc, rfl, m1, m2, _, _, _⟩ := vset1 ho_ k hk
  obtain ⟨pb, po, pc, rfl, p1, p2, _, _, _⟩ := vset2 ho_ k (by omega)
  have hgl : g < W.heap.size := lt_of_block hg_
  obtain ⟨nx, hnx⟩ : ∃ n, n = xs.length := ⟨_, rfl⟩
  have HNX := Lib.hid hnx
  rw [hy, ← hnx] at hg_ ho_ ⊢
  have HY := Lib.hid hy
  have hk8 : k < nx := by omega
  have hn8 : nx ≤ 8 := by omega
  have hg := Lib.hid hg_
  have ho := Lib.hid ho_
  clear hg_ ho_ hnx hy hk h8
  have hk0 : (0 : Int) ≤ (k : Int) := by omega
  have hkn : (k : Int) < (nx : Int) := by omega
  have htk : ((k : Int)).toNat = k := by omega
  have ngR : ¬ g = W.heap.size := by omega
  have nRg : ¬ W.heap.size = g := by omega
  have npg : ¬ pb = g := by omega
  have ngp : ¬ g = pb := by omega
  have npR : ¬ pb = W.heap.size := by omega
  have nRp : ¬ W.heap.size = pb := by omega
  have nmg : ¬ mb = g := by omega
  have ngm : ¬ g = mb := by omega
  have nmR : ¬ mb = W.heap.size := by omega
  have nRm : ¬ W.heap.size = mb := by omega
  have HG1 := Lib.hid (show ((W.alloc (.cells #[.int .i64 0, .int .i64 0, .int .i64 0, .int .i64 0, .int .i64 0, .int .i64 0, .int .i64 0, .slice none 0 0] 29))).heap[g]? = some (.cells #[.int .i32 0, .int .u32 0, .int .i64 i0, .slice (some ⟨mb, mo, none⟩) nx mc, .slice (some ⟨pb, po, none⟩) nx pc] 92 (0, 0)) from (row_held (gby_alloc (gby_refl W none) _) hg.out))
  have HR1 := Lib.hid (show ((W.alloc (.cells #[.int .i64 0, .int .i64 0, .int .i64 0, .int .i64 0, .int .i64 0, .int .i64 0, .int .i64 0, .slice none 0 0] 29))).heap[W.heap.size]? = some (.cells #[.int .i64 0, .int .i64 0, .int .i64 0, .int .i64 0, .int .i64 0, .int .i64 0, .int .i64 0, .slice none 0 0] 29 (0, 0)) from (heap_alloc_new W _))
  have HO1 := Lib.hid (show OwU ((W.alloc (.cells #[.int .i64 0, .int .i64 0, .int .i64 0, .int .i64 0, .int .i64 0, .int .i64 0, .int .i64 0, .slice none 0 0] 29))) lo g [] [own shB (.slice (some ⟨mb, mo, none⟩) nx mc) xs, own shB (.slice (some ⟨pb, po, none⟩) nx pc) ys] from (OwU.grow ho.out (gby_alloc (gby_refl W none) _)))
  have HC1 := Lib.hid (show Chg W ((W.alloc (.cells #[.int .i64 0, .int .i64 0, .int .i64 0, .int .i64 0, .int .i64 0, .int .i64 0, .int .i64 0, .slice none 0 0] 29))) lo (g + 1) from (chg_gby (gby_alloc (gby_refl W none) _) lo (g + 1)))
  go_enter_defers Try.func65, Try.ntmps65
  have ag0 : ((W.alloc (.cells #[.int .i64 0, .int .i64 0, .int .i64 0, .int .i64 0, .int .i64 0, .int .i64 0, .int .i64 0, .slice none 0 0] 29))).cell? ⟨g, 0, none⟩ = some (.int .i32 0) := cell_of_row _ _ 0 _ _ _ HG1.out
  have ag1 : ((W.alloc (.cells #[.int .i64 0, .int .i64 0, .int .i64 0, .int .i64 0, .int .i64 0, .int .i64 0, .int .i64 0, .slice none 0 0] 29))).cell? ⟨g, 1, none⟩ = some (.int .u32 0) := cell_of_row _ _ 1 _ _ _ HG1.out
  have ag2 : ((W.alloc (.cells #[.int .i64 0, .int .i64 0, .int .i64 0, .int .i64 0, .int .i64 0, .int .i64 0, .int .i64 0, .slice none 0 0] 29))).cell? ⟨g, 2, none⟩ = some (.int .i64 i0) := cell_of_row _ _ 2 _ _ _ HG1.out
  have ag3 : ((W.alloc (.cells #[.int .i64 0, .int .i64 0, .int .i64 0, .int .i64 0, .int .i64 0, .int .i64 0, .int .i64 0, .slice none 0 0] 29))).cell? ⟨g, 3, none⟩ = some (.slice (some ⟨mb, mo, none⟩) nx mc) := cell_of_row _ _ 3 _ _ _ HG1.out
  have ag4 : ((W.alloc (.cells #[.int .i64 0, .int .i64 0, .int .i64 0, .int .i64 0, .int .i64 0, .int .i64 0, .int .i64 0, .slice none 0 0] 29))).cell? ⟨g, 4, none⟩ = some (.slice (some ⟨pb, po, none⟩) nx pc) := cell_of_row _ _ 4 _ _ _ HG1.out
  have agf : ((W.alloc (.cells #[.int .i64 0, .int .i64 0, .int .i64 0, .int .i64 0, .int .i64 0, .int .i64 0, .int .i64 0, .slice none 0 0] 29))).frozen? ⟨g, 0, none⟩ = false := frozen_of_row _ _ 0 _ _ HG1.out
  go_wp2_with fail
  go_at_call 108
  refine (lock_free muLib ⟨g, 0, none⟩ _ ag0 agf).mono ?_
  rintro e w' ⟨rfl, rfl⟩
  clear ag0 ag1 ag2 ag3 ag4 agf
  have HG2 := Lib.hid (show (((W.alloc (.cells #[.int .i64 0, .int .i64 0, .int .i64 0, .int .i64 0, .int .i64 0, .int .i64 0, .int .i64 0, .slice none 0 0] 29)).setCell ⟨g, 0, none⟩ (.int .i32 1))).heap[g]? = some (.cells #[.int .i32 1, .int .u32 0, .int .i64 i0, .slice (some ⟨mb, mo, none⟩) nx mc, .slice (some ⟨pb, po, none⟩) nx pc] 92 (0, 0)) from (heap_setCell_same _ _ 0 _ _ _ HG1.out))
  have HR2 := Lib.hid (show (((W.alloc (.cells #[.int .i64 0, .int .i64 0, .int .i64 0, .int .i64 0, .int .i64 0, .int .i64 0, .int .i64 0, .slice none 0 0] 29)).setCell ⟨g, 0, none⟩ (.int .i32 1))).heap[W.heap.size]? = some (.cells #[.int .i64 0, .int .i64 0, .int .i64 0, .int .i64 0, .int .i64 0, .int .i64 0, .int .i64 0, .slice none 0 0] 29 (0, 0)) from (set_far HR1.out (by dsimp only; omega)))
  have HO2 := Lib.hid (show OwU (((W.alloc (.cells #[.int .i64 0, .int .i64 0, .int .i64 0, .int .i64 0, .int .i64 0, .int .i64 0, .int .i64 0, .slice none 0 0] 29)).setCell ⟨g, 0, none⟩ (.int .i32 1))) lo g [] [own shB (.slice (some ⟨mb, mo, none⟩) nx mc) xs, own shB (.slice (some ⟨pb, po, none⟩) nx pc) ys] from (OwU.keep (chg_one _ _ _ _) (.inl (Nat.le_refl _)) HO1.out))
  have HC2 := Lib.hid (show Chg W (((W.alloc (.cells #[.int .i64 0, .int .i64 0, .int .i64 0, .int .i64 0, .int .i64 0, .int .i64 0, .int .i64 0, .slice none 0 0] 29)).setCell ⟨g, 0, none⟩ (.int .i32 1))) lo (g + 1) from (chg_setp HC1.out _ (by dsimp only; omega) (by dsimp only; omega) _))
  have szL : (((W.alloc (.cells #[.int .i64 0, .int .i64 0, .int .i64 0, .int .i64 0, .int .i64 0, .int .i64 0, .int .i64 0, .slice none 0 0] 29)).setCell ⟨g, 0, none⟩ (.int .i32 1))).heap.size = W.heap.size + 1 := by simp only [World.size_setCell, World.size_alloc]
  generalize ((W.alloc (.cells #[.int .i64 0, .int .i64 0, .int .i64 0, .int .i64 0, .int .i64 0, .int .i64 0, .int .i64 0, .slice none 0 0] 29)).setCell ⟨g, 0, none⟩ (.int .i32 1)) = wL at HG2 HR2 HO2 HC2 szL ⊢
  clear HG1 HR1 HO1 HC1
  have bg0 : (wL).cell? ⟨g, 0, none⟩ = some (.int .i32 1) := cell_of_row _ _ 0 _ _ _ HG2.out
  have bg1 : (wL).cell? ⟨g, 1, none⟩ = some (.int .u32 0) := cell_of_row _ _ 1 _ _ _ HG2.out
  have bg2 : (wL).cell? ⟨g, 2, none⟩ = some (.int .i64 i0) := cell_of_row _ _ 2 _ _ _ HG2.out
  have bg3 : (wL).cell? ⟨g, 3, none⟩ = some (.slice (some ⟨mb, mo, none⟩) nx mc) := cell_of_row _ _ 3 _ _ _ HG2.out
  have bg4 : (wL).cell? ⟨g, 4, none⟩ = some (.slice (some ⟨pb, po, none⟩) nx pc) := cell_of_row _ _ 4 _ _ _ HG2.out
  obtain ⟨mb_, mo_, mc_, hv1_, _, _, mk_, _, _⟩ := vset1 HO2.out k (by have := HNX.out; omega)
  injection hv1_ with q1_ q2_ q3_
  injection q1_ with q1_
  injection q1_ with q4_ q5_ _
  subst q4_ q5_
  clear q2_ q3_
  rw [HM.out] at mk_
  have HOM := Lib.hid (OwU.rd HO2.out)
  have HOP := Lib.hid (OwU.rd (OwU.tail HO2.out))
  go_wp2_with fail
  go_at_call 110
  refine (callOf_any _ i0 id (k : Int) _ _ xs ys HOM.out HOP.out).mono ?_
  rintro e w9 ⟨v9, rfl, o9, g9⟩
  obtain ⟨va, vn, vc, hv_⟩ := RdL.form (OwU.rd o9)
  subst hv_
  have HV9 := Lib.hid o9
  have HG9 := Lib.hid g9
  have sz9 := g9.size
  try simp only [World.size_setCell, World.size_alloc] at sz9
  clear o9 g9 mk_ bg0 bg1 bg2 bg3 bg4
  unfold vPacket
  have HG3 := Lib.hid (show (w9).heap[g]? = some (.cells #[.int .i32 1, .int .u32 0, .int .i64 i0, .slice (some ⟨mb, mo, none⟩) nx mc, .slice (some ⟨pb, po, none⟩) nx pc] 92 (0, 0)) from (row_held HG9.out HG2.out))
  have HR3 := Lib.hid (show (w9).heap[W.heap.size]? = some (.cells #[.int .i64 0, .int .i64 0, .int .i64 0, .int .i64 0, .int .i64 0, .int .i64 0, .int .i64 0, .slice none 0 0] 29 (0, 0)) from (row_held HG9.out HR2.out))
  have HO3 := Lib.hid (show OwU (w9) lo g [] [own shB (.slice (some ⟨mb, mo, none⟩) nx mc) xs, own shB (.slice (some ⟨pb, po, none⟩) nx pc) ys] from (OwU.grow HO2.out HG9.out))
  have HC3 := Lib.hid (show Chg W (w9) lo (g + 1) from (chg_trans HC2.out (chg_gby HG9.out _ _)))
  have cr0 : (w9).cell? ⟨W.heap.size, 0, none⟩ = some (.int .i64 0) := cell_of_row _ _ 0 _ _ _ HR3.out
  have crf0 : (w9).frozen? ⟨W.heap.size, 0, none⟩ = false := frozen_of_row _ _ 0 _ _ HR3.out
  have cr1 : (w9).cell? ⟨W.heap.size, 1, none⟩ = some (.int .i64 0) := cell_of_row _ _ 1 _ _ _ HR3.out
  have crf1 : (w9).frozen? ⟨W.heap.size, 1, none⟩ = false := frozen_of_row _ _ 1 _ _ HR3.out
  have cr2 : (w9).cell? ⟨W.heap.size, 2, none⟩ = some (.int .i64 0) := cell_of_row _ _ 2 _ _ _ HR3.out
  have crf2 : (w9).frozen? ⟨W.heap.size, 2, none⟩ = false := frozen_of_row _ _ 2 _ _ HR3.out
  have cr3 : (w9).cell? ⟨W.heap.size, 3, none⟩ = some (.int .i64 0) := cell_of_row _ _ 3 _ _ _ HR3.out
  have crf3 : (w9).frozen? ⟨W.heap.size, 3, none⟩ = false := frozen_of_row _ _ 3 _ _ HR3.out
  have cr4 : (w9).cell? ⟨W.heap.size, 4, none⟩ = some (.int .i64 0) := cell_of_row _ _ 4 _ _ _ HR3.out
  have crf4 : (w9).frozen? ⟨W.heap.size, 4, none⟩ = false := frozen_of_row _ _ 4 _ _ HR3.out
  have cr5 : (w9).cell? ⟨W.heap.size, 5, none⟩ = some (.int .i64 0) := cell_of_row _ _ 5 _ _ _ HR3.out
  have crf5 : (w9).frozen? ⟨W.heap.size, 5, none⟩ = false := frozen_of_row _ _ 5 _ _ HR3.out
  have cr6 : (w9).cell? ⟨W.heap.size, 6, none⟩ = some (.int .i64 0) := cell_of_row _ _ 6 _ _ _ HR3.out
  have crf6 : (w9).frozen? ⟨W.heap.size, 6, none⟩ = false := frozen_of_row _ _ 6 _ _ HR3.out
  have cr7 : (w9).cell? ⟨W.heap.size, 7, none⟩ = some (.slice none 0 0) := cell_of_row _ _ 7 _ _ _ HR3.out
  have crf7 : (w9).frozen? ⟨W.heap.size, 7, none⟩ = false := frozen_of_row _ _ 7 _ _ HR3.out
  have HG4 := Lib.hid (show (((((((((w9.setCell ⟨W.heap.size, 0, none⟩ (.int .i64 1)).setCell ⟨W.heap.size, 1, none⟩ (.int .i64 id)).setCell ⟨W.heap.size, 2, none⟩ (.int .i64 0)).setCell ⟨W.heap.size, 3, none⟩ (.int .i64 i0)).setCell ⟨W.heap.size, 4, none⟩ (.int .i64 0)).setCell ⟨W.heap.size, 5, none⟩ (.int .i64 0)).setCell ⟨W.heap.size, 6, none⟩ (.int .i64 0)).setCell ⟨W.heap.size, 7, none⟩ (.slice va vn vc))).heap[g]? = some (.cells #[.int .i32 1, .int .u32 0, .int .i64 i0, .slice (some ⟨mb, mo, none⟩) nx mc, .slice (some ⟨pb, po, none⟩) nx pc] 92 (0, 0)) from (set_far (set_far (set_far (set_far (set_far (set_far (set_far (set_far HG3.out (by dsimp only; omega)) (by dsimp only; omega)) (by dsimp only; omega)) (by dsimp only; omega)) (by dsimp only; omega)) (by dsimp only; omega)) (by dsimp only; omega)) (by dsimp only; omega)))
  have HR4 := Lib.hid (show (((((((((w9.setCell ⟨W.heap.size, 0, none⟩ (.int .i64 1)).setCell ⟨W.heap.size, 1, none⟩ (.int .i64 id)).setCell ⟨W.heap.size, 2, none⟩ (.int .i64 0)).setCell ⟨W.heap.size, 3, none⟩ (.int .i64 i0)).setCell ⟨W.heap.size, 4, none⟩ (.int .i64 0)).setCell ⟨W.heap.size, 5, none⟩ (.int .i64 0)).setCell ⟨W.heap.size, 6, none⟩ (.int .i64 0)).setCell ⟨W.heap.size, 7, none⟩ (.slice va vn vc))).heap[W.heap.size]? = some (.cells #[.int .i64 1, .int .i64 id, .int .i64 0, .int .i64 i0, .int .i64 0, .int .i64 0, .int .i64 0, .slice va vn vc] 29 (0, 0)) from (heap_setCell_same _ _ 7 _ _ _ (heap_setCell_same _ _ 6 _ _ _ (heap_setCell_same _ _ 5 _ _ _ (heap_setCell_same _ _ 4 _ _ _ (heap_setCell_same _ _ 3 _ _ _ (heap_setCell_same _ _ 2 _ _ _ (heap_setCell_same _ _ 1 _ _ _ (heap_setCell_same _ _ 0 _ _ _ HR3.out)))))))))
  have HO4 := Lib.hid (show OwU (((((((((w9.setCell ⟨W.heap.size, 0, none⟩ (.int .i64 1)).setCell ⟨W.heap.size, 1, none⟩ (.int .i64 id)).setCell ⟨W.heap.size, 2, none⟩ (.int .i64 0)).setCell ⟨W.heap.size, 3, none⟩ (.int .i64 i0)).setCell ⟨W.heap.size, 4, none⟩ (.int .i64 0)).setCell ⟨W.heap.size, 5, none⟩ (.int .i64 0)).setCell ⟨W.heap.size, 6, none⟩ (.int .i64 0)).setCell ⟨W.heap.size, 7, none⟩ (.slice va vn vc))) lo g [] [own shB (.slice (some ⟨mb, mo, none⟩) nx mc) xs, own shB (.slice (some ⟨pb, po, none⟩) nx pc) ys] from (OwU.keep (chg_one _ _ _ _) (.inl (by omega)) (OwU.keep (chg_one _ _ _ _) (.inl (by omega)) (OwU.keep (chg_one _ _ _ _) (.inl (by omega)) (OwU.keep (chg_one _ _ _ _) (.inl (by omega)) (OwU.keep (chg_one _ _ _ _) (.inl (by omega)) (OwU.keep (chg_one _ _ _ _) (.inl (by omega)) (OwU.keep (chg_one _ _ _ _) (.inl (by omega)) (OwU.keep (chg_one _ _ _ _) (.inl (by omega)) HO3.out)))))))))
  have HC4 := Lib.hid (show Chg W (((((((((w9.setCell ⟨W.heap.size, 0, none⟩ (.int .i64 1)).setCell ⟨W.heap.size, 1, none⟩ (.int .i64 id)).setCell ⟨W.heap.size, 2, none⟩ (.int .i64 0)).setCell ⟨W.heap.size, 3, none⟩ (.int .i64 i0)).setCell ⟨W.heap.size, 4, none⟩ (.int .i64 0)).setCell ⟨W.heap.size, 5, none⟩ (.int .i64 0)).setCell ⟨W.heap.size, 6, none⟩ (.int .i64 0)).setCell ⟨W.heap.size, 7, none⟩ (.slice va vn vc))) lo (g + 1) from (chg_fresh (chg_fresh (chg_fresh (chg_fresh (chg_fresh (chg_fresh (chg_fresh (chg_fresh HC3.out _ (Nat.le_refl _) _) _ (Nat.le_refl _) _) _ (Nat.le_refl _) _) _ (Nat.le_refl _) _) _ (Nat.le_refl _) _) _ (Nat.le_refl _) _) _ (Nat.le_refl _) _) _ (Nat.le_refl _) _))
  have hl_ : (((((((((w9.setCell ⟨W.heap.size, 0, none⟩ (.int .i64 1)).setCell ⟨W.heap.size, 1, none⟩ (.int .i64 id)).setCell ⟨W.heap.size, 2, none⟩ (.int .i64 0)).setCell ⟨W.heap.size, 3, none⟩ (.int .i64 i0)).setCell ⟨W.heap.size, 4, none⟩ (.int .i64 0)).setCell ⟨W.heap.size, 5, none⟩ (.int .i64 0)).setCell ⟨W.heap.size, 6, none⟩ (.int .i64 0)).setCell ⟨W.heap.size, 7, none⟩ (.slice va vn vc))).cell? ⟨g, 0, none⟩ = some (.int .i32 1) := cell_of_row _ _ 0 _ _ _ HG4.out
  have hz_ : (((((((((w9.setCell ⟨W.heap.size, 0, none⟩ (.int .i64 1)).setCell ⟨W.heap.size, 1, none⟩ (.int .i64 id)).setCell ⟨W.heap.size, 2, none⟩ (.int .i64 0)).setCell ⟨W.heap.size, 3, none⟩ (.int .i64 i0)).setCell ⟨W.heap.size, 4, none⟩ (.int .i64 0)).setCell ⟨W.heap.size, 5, none⟩ (.int .i64 0)).setCell ⟨W.heap.size, 6, none⟩ (.int .i64 0)).setCell ⟨W.heap.size, 7, none⟩ (.slice va vn vc))).frozen? ⟨g, 0, none⟩ = false := frozen_of_row _ _ 0 _ _ HG4.out
  have HL := Lib.hid hl_
  have HZ := Lib.hid hz_
  clear hl_ hz_
  have HG5 := Lib.hid (show ((((((((((w9.setCell ⟨W.heap.size, 0, none⟩ (.int .i64 1)).setCell ⟨W.heap.size, 1, none⟩ (.int .i64 id)).setCell ⟨W.heap.size, 2, none⟩ (.int .i64 0)).setCell ⟨W.heap.size, 3, none⟩ (.int .i64 i0)).setCell ⟨W.heap.size, 4, none⟩ (.int .i64 0)).setCell ⟨W.heap.size, 5, none⟩ (.int .i64 0)).setCell ⟨W.heap.size, 6, none⟩ (.int .i64 0)).setCell ⟨W.heap.size, 7, none⟩ (.slice va vn vc)).setCell ⟨g, 0, none⟩ (.int .i32 0))).heap[g]? = some (.cells #[.int .i32 0, .int .u32 0, .int .i64 i0, .slice (some ⟨mb, mo, none⟩) nx mc, .slice (some ⟨pb, po, none⟩) nx pc] 92 (0, 0)) from (heap_setCell_same _ _ 0 _ _ _ HG4.out))
  have HR5 := Lib.hid (show ((((((((((w9.setCell ⟨W.heap.size, 0, none⟩ (.int .i64 1)).setCell ⟨W.heap.size, 1, none⟩ (.int .i64 id)).setCell ⟨W.heap.size, 2, none⟩ (.int .i64 0)).setCell ⟨W.heap.size, 3, none⟩ (.int .i64 i0)).setCell ⟨W.heap.size, 4, none⟩ (.int .i64 0)).setCell ⟨W.heap.size, 5, none⟩ (.int .i64 0)).setCell ⟨W.heap.size, 6, none⟩ (.int .i64 0)).setCell ⟨W.heap.size, 7, none⟩ (.slice va vn vc)).setCell ⟨g, 0, none⟩ (.int .i32 0))).heap[W.heap.size]? = some (.cells #[.int .i64 1, .int .i64 id, .int .i64 0, .int .i64 i0, .int .i64 0, .int .i64 0, .int .i64 0, .slice va vn vc] 29 (0, 0)) from (set_far HR4.out (by dsimp only; omega)))
  have HO5 := Lib.hid (show OwU ((((((((((w9.setCell ⟨W.heap.size, 0, none⟩ (.int .i64 1)).setCell ⟨W.heap.size, 1, none⟩ (.int .i64 id)).setCell ⟨W.heap.size, 2, none⟩ (.int .i64 0)).setCell ⟨W.heap.size, 3, none⟩ (.int .i64 i0)).setCell ⟨W.heap.size, 4, none⟩ (.int .i64 0)).setCell ⟨W.heap.size, 5, none⟩ (.int .i64 0)).setCell ⟨W.heap.size, 6, none⟩ (.int .i64 0)).setCell ⟨W.heap.size, 7, none⟩ (.slice va vn vc)).setCell ⟨g, 0, none⟩ (.int .i32 0))) lo g [] [own shB (.slice (some ⟨mb, mo, none⟩) nx mc) xs, own shB (.slice (some ⟨pb, po, none⟩) nx pc) ys] from (OwU.keep (chg_one _ _ _ _) (.inl (Nat.le_refl _)) HO4.out))
  have HC5 := Lib.hid (show Chg W ((((((((((w9.setCell ⟨W.heap.size, 0, none⟩ (.int .i64 1)).setCell ⟨W.heap.size, 1, none⟩ (.int .i64 id)).setCell ⟨W.heap.size, 2, none⟩ (.int .i64 0)).setCell ⟨W.heap.size, 3, none⟩ (.int .i64 i0)).setCell ⟨W.heap.size, 4, none⟩ (.int .i64 0)).setCell ⟨W.heap.size, 5, none⟩ (.int .i64 0)).setCell ⟨W.heap.size, 6, none⟩ (.int .i64 0)).setCell ⟨W.heap.size, 7, none⟩ (.slice va vn vc)).setCell ⟨g, 0, none⟩ (.int .i32 0))) lo (g + 1) from (chg_setp HC4.out _ (by dsimp only; omega) (by dsimp only; omega) _))
  have zz0 : ((((((((((w9.setCell ⟨W.heap.size, 0, none⟩ (.int .i64 1)).setCell ⟨W.heap.size, 1, none⟩ (.int .i64 id)).setCell ⟨W.heap.size, 2, none⟩ (.int .i64 0)).setCell ⟨W.heap.size, 3, none⟩ (.int .i64 i0)).setCell ⟨W.heap.size, 4, none⟩ (.int .i64 0)).setCell ⟨W.heap.size, 5, none⟩ (.int .i64 0)).setCell ⟨W.heap.size, 6, none⟩ (.int .i64 0)).setCell ⟨W.heap.size, 7, none⟩ (.slice va vn vc)).setCell ⟨g, 0, none⟩ (.int .i32 0))).cell? ⟨W.heap.size, 0, none⟩ = some (.int .i64 1) := cell_of_row _ _ 0 _ _ _ HR5.out
  have zz1 : ((((((((((w9.setCell ⟨W.heap.size, 0, none⟩ (.int .i64 1)).setCell ⟨W.heap.size, 1, none⟩ (.int .i64 id)).setCell ⟨W.heap.size, 2, none⟩ (.int .i64 0)).setCell ⟨W.heap.size, 3, none⟩ (.int .i64 i0)).setCell ⟨W.heap.size, 4, none⟩ (.int .i64 0)).setCell ⟨W.heap.size, 5, none⟩ (.int .i64 0)).setCell ⟨W.heap.size, 6, none⟩ (.int .i64 0)).setCell ⟨W.heap.size, 7, none⟩ (.slice va vn vc)).setCell ⟨g, 0, none⟩ (.int .i32 0))).cell? ⟨W.heap.size, 1, none⟩ = some (.int .i64 id) := cell_of_row _ _ 1 _ _ _ HR5.out
  have zz2 : ((((((((((w9.setCell ⟨W.heap.size, 0, none⟩ (.int .i64 1)).setCell ⟨W.heap.size, 1, none⟩ (.int .i64 id)).setCell ⟨W.heap.size, 2, none⟩ (.int .i64 0)).setCell ⟨W.heap.size, 3, none⟩ (.int .i64 i0)).setCell ⟨W.heap.size, 4, none⟩ (.int .i64 0)).setCell ⟨W.heap.size, 5, none⟩ (.int .i64 0)).setCell ⟨W.heap.size, 6, none⟩ (.int .i64 0)).setCell ⟨W.heap.size, 7, none⟩ (.slice va vn vc)).setCell ⟨g, 0, none⟩ (.int .i32 0))).cell? ⟨W.heap.size, 2, none⟩ = some (.int .i64 0) := cell_of_row _ _ 2 _ _ _ HR5.out
  have zz3 : ((((((((((w9.setCell ⟨W.heap.size, 0, none⟩ (.int .i64 1)).setCell ⟨W.heap.size, 1, none⟩ (.int .i64 id)).setCell ⟨W.heap.size, 2, none⟩ (.int .i64 0)).setCell ⟨W.heap.size, 3, none⟩ (.int .i64 i0)).setCell ⟨W.heap.size, 4, none⟩ (.int .i64 0)).setCell ⟨W.heap.size, 5, none⟩ (.int .i64 0)).setCell ⟨W.heap.size, 6, none⟩ (.int .i64 0)).setCell ⟨W.heap.size, 7, none⟩ (.slice va vn vc)).setCell ⟨g, 0, none⟩ (.int .i32 0))).cell? ⟨W.heap.size, 3, none⟩ = some (.int .i64 i0) := cell_of_row _ _ 3 _ _ _ HR5.out
  have zz4 : ((((((((((w9.setCell ⟨W.heap.size, 0, none⟩ (.int .i64 1)).setCell ⟨W.heap.size, 1, none⟩ (.int .i64 id)).setCell ⟨W.heap.size, 2, none⟩ (.int .i64 0)).setCell ⟨W.heap.size, 3, none⟩ (.int .i64 i0)).setCell ⟨W.heap.size, 4, none⟩ (.int .i64 0)).setCell ⟨W.heap.size, 5, none⟩ (.int .i64 0)).setCell ⟨W.heap.size, 6, none⟩ (.int .i64 0)).setCell ⟨W.heap.size, 7, none⟩ (.slice va vn vc)).setCell ⟨g, 0, none⟩ (.int .i32 0))).cell? ⟨W.heap.size, 4, none⟩ = some (.int .i64 0) := cell_of_row _ _ 4 _ _ _ HR5.out
  have zz5 : ((((((((((w9.setCell ⟨W.heap.size, 0, none⟩ (.int .i64 1)).setCell ⟨W.heap.size, 1, none⟩ (.int .i64 id)).setCell ⟨W.heap.size, 2, none⟩ (.int .i64 0)).setCell ⟨W.heap.size, 3, none⟩ (.int .i64 i0)).setCell ⟨W.heap.size, 4, none⟩ (.int .i64 0)).setCell ⟨W.heap.size, 5, none⟩ (.int .i64 0)).setCell ⟨W.heap.size, 6, none⟩ (.int .i64 0)).setCell ⟨W.heap.size, 7, none⟩ (.slice va vn vc)).setCell ⟨g, 0, none⟩ (.int .i32 0))).cell? ⟨W.heap.size, 5, none⟩ = some (.int .i64 0) := cell_of_row _ _ 5 _ _ _ HR5.out
  have zz6 : ((((((((((w9.setCell ⟨W.heap.size, 0, none⟩ (.int .i64 1)).setCell ⟨W.heap.size, 1, none⟩ (.int .i64 id)).setCell ⟨W.heap.size, 2, none⟩ (.int .i64 0)).setCell ⟨W.heap.size, 3, none⟩ (.int .i64 i0)).setCell ⟨W.heap.size, 4, none⟩ (.int .i64 0)).setCell ⟨W.heap.size, 5, none⟩ (.int .i64 0)).setCell ⟨W.heap.size, 6, none⟩ (.int .i64 0)).setCell ⟨W.heap.size, 7, none⟩ (.slice va vn vc)).setCell ⟨g, 0, none⟩ (.int .i32 0))).cell? ⟨W.heap.size, 6, none⟩ = some (.int .i64 0) := cell_of_row _ _ 6 _ _ _ HR5.out
  have zz7 : ((((((((((w9.setCell ⟨W.heap.size, 0, none⟩ (.int .i64 1)).setCell ⟨W.heap.size, 1, none⟩ (.int .i64 id)).setCell ⟨W.heap.size, 2, none⟩ (.int .i64 0)).setCell ⟨W.heap.size, 3, none⟩ (.int .i64 i0)).setCell ⟨W.heap.size, 4, none⟩ (.int .i64 0)).setCell ⟨W.heap.size, 5, none⟩ (.int .i64 0)).setCell ⟨W.heap.size, 6, none⟩ (.int .i64 0)).setCell ⟨W.heap.size, 7, none⟩ (.slice va vn vc)).setCell ⟨g, 0, none⟩ (.int .i32 0))).cell? ⟨W.heap.size, 7, none⟩ = some (.slice va vn vc) := cell_of_row _ _ 7 _ _ _ HR5.out
  go_wp2
  refine leaves_cons (f := 109) (args := #[.pointer (some ⟨g, 0, none⟩)]) (by simp) (by simp [go_sem]) ?_
  refine (unlock_deferred muLib ⟨g, 0, none⟩ .returning _ HL.out HZ.out).mono ?_
  rintro e u' w'' ⟨rfl, rfl, rfl⟩
  refine ⟨vPacket 1 id 0 i0 0 0 0 (.slice va vn vc), by simp [results, go_sem, vPacket, zz0, zz1, zz2, zz3, zz4, zz5, zz6, zz7], _, rfl, HO5.out, HG5.out, ?_, HC5.out⟩
  have HV9W := Lib.hid (show OwU w9 (W.heap.size + 1) w9.heap.size [] [own shI (.slice va vn vc) [(k : Int)]] from by have q := HV9.out; (try simp only [World.size_setCell, World.size_alloc] at q); rw [szL] at q; exact q)
  exact OwU.wide (by omega) (by simp only [World.size_setCell]; omega) (OwU.keep (chg_one _ _ _ _) (.inr (by omega)) (OwU.keep (chg_one _ _ _ _) (.inr (by omega)) (OwU.keep (chg_one _ _ _ _) (.inr (by omega)) (OwU.keep (chg_one _ _ _ _) (.inr (by omega)) (OwU.keep (chg_one _ _ _ _) (.inr (by omega)) (OwU.keep (chg_one _ _ _ _) (.inr (by omega)) (OwU.keep (chg_one _ _ _ _) (.inr (by omega)) (OwU.keep (chg_one _ _ _ _) (.inr (by omega)) (OwU.keep (chg_one _ _ _ _) (.inr (by omega)) HV9W.out)))))))))

set_option maxRecDepth 8000 in
set_option maxHeartbeats 4000000 in
theorem setm_set (W : World) (g lo k : Nat) (i0 id : Int) (v1 v2 : Value) (xs ys : List Bool) (hg_ : W.heap[g]? = some (.cells #[.int .i32 0, .int .u32 0, .int .i64 i0, v1, v2] 92 (0, 0))) (ho_ : OwU W lo g [] [own shB v1 xs, own shB v2 ys]) (hk : k < xs.length) (h8 : xs.length ≤ 8) (hy : ys.length = xs.length) :
    Calls Try.prog 72 #[.pointer (some ⟨g, 0, none⟩), .int .i64 id, .int .i64 (k : Int), .bool true] W (GPost g lo i0 v1 v2 (xs.set k true) ys 0 0 0 [] W) := by
  skip
  obtain ⟨mb, mo, mc, rfl, m1, m2, _, _, _⟩ := vset1 ho_ k hk
  obtain ⟨pb, po, pc, rfl, p1, p2, _, _, _⟩ := vset2 ho_ k (by omega)
  have hgl : g < W.heap.size := lt_of_block hg_
  obtain ⟨nx, hnx⟩ : ∃ n, n = xs.length := ⟨_, rfl⟩
  have HNX := Lib.hid hnx
  rw [hy, ← hnx] at hg_ ho_ ⊢
  have HY := Lib.hid hy
  have hk8 : k < nx := by omega
  have hn8 : nx ≤ 8 := by omega
  have hg := Lib.hid hg_
  have ho := Lib.hid ho_
  clear hg_ ho_ hnx hy hk h8
  have hk0 : (0 : Int) ≤ (k : Int) := by omega
  have hkn : (k : Int) < (nx : Int) := by omega
  have htk : ((k : Int)).toNat = k := by omega
  have ngR : ¬ g = W.heap.size := by omega
  have nRg : ¬ W.heap.size = g := by omega
  have npg : ¬ pb = g := by omega
  have ngp : ¬ g = pb := by omega
  have npR : ¬ pb = W.heap.size := by omega
  have nRp : ¬ W.heap.size = pb := by omega
  have nmg : ¬ mb = g := by omega
  have ngm : ¬ g = mb := by omega
  have nmR : ¬ mb = W.heap.size := by omega
  have nRm : ¬ W.heap.size = mb := by omega
  have HG1 := Lib.hid (show ((W.alloc (.cells #[.int .i64 0, .int .i64 0, .int .i64 0, .int .i64 0, .int .i64 0, .int .i64 0, .int .i64 0, .slice none 0 0] 29))).heap[g]? = some (.cells #[.int .i32 0, .int .u32 0, .int .i64 i0, .slice (some ⟨mb, mo, none⟩) nx mc, .slice (some ⟨pb, po, none⟩) nx pc] 92 (0, 0)) from (row_held (gby_alloc (gby_refl W none) _) hg.out))
  have HR1 := Lib.hid (show ((W.alloc (.cells #[.int .i64 0, .int .i64 0, .int .i64 0, .int .i64 0, .int .i64 0, .int .i64 0, .int .i64 0, .slice none 0 0] 29))).heap[W.heap.size]? = some (.cells #[.int .i64 0, .int .i64 0, .int .i64 0, .int .i64 0, .int .i64 0, .int .i64 0, .int .i64 0, .slice none 0 0] 29 (0, 0)) from (heap_alloc_new W _))
  have HO1 := Lib.hid (show OwU ((W.alloc (.cells #[.int .i64 0, .int .i64 0, .int .i64 0, .int .i64 0, .int .i64 0, .int .i64 0, .int .i64 0, .slice none 0 0] 29))) lo g [] [own shB (.slice (some ⟨mb, mo, none⟩) nx mc) xs, own shB (.slice (some ⟨pb, po, none⟩) nx pc) ys] from (OwU.grow ho.out (gby_alloc (gby_refl W none) _)))
  have HC1 := Lib.hid (show Chg W ((W.alloc (.cells #[.int .i64 0, .int .i64 0, .int .i64 0, .int .i64 0, .int .i64 0, .int .i64 0, .int .i64 0, .slice none 0 0] 29))) lo (g + 1) from (chg_gby (gby_alloc (gby_refl W none) _) lo (g + 1)))
  go_enter_defers Try.func72, Try.ntmps72
  have ag0 : ((W.alloc (.cells #[.int .i64 0, .int .i64 0, .int .i64 0, .int .i64 0, .int .i64 0, .int .i64 0, .int .i64 0, .slice none 0 0] 29))).cell? ⟨g, 0, none⟩ = some (.int .i32 0) := cell_of_row _ _ 0 _ _ _ HG1.out
  have ag1 : ((W.alloc (.cells #[.int .i64 0, .int .i64 0, .int .i64 0, .int .i64 0, .int .i64 0, .int .i64 0, .int .i64 0, .slice none 0 0] 29))).cell? ⟨g, 1, none⟩ = some (.int .u32 0) := cell_of_row _ _ 1 _ _ _ HG1.out
  have ag2 : ((W.alloc (.cells #[.int .i64 0, .int .i64 0, .int .i64 0, .int .i64 0, .int .i64 0, .int .i64 0, .int .i64 0, .slice none 0 0] 29))).cell? ⟨g, 2, none⟩ = some (.int .i64 i0) := cell_of_row _ _ 2 _ _ _ HG1.out
  have ag3 : ((W.alloc (.cells #[.int .i64 0, .int .i64 0, .int .i64 0, .int .i64 0, .int .i64 0, .int .i64 0, .int .i64 0, .slice none 0 0] 29))).cell? ⟨g, 3, none⟩ = some (.slice (some ⟨mb, mo, none⟩) nx mc) := cell_of_row _ _ 3 _ _ _ HG1.out
  have ag4 : ((W.alloc (.cells #[.int .i64 0, .int .i64 0, .int .i64 0, .int .i64 0, .int .i64 0, .int .i64 0, .int .i64 0, .slice none 0 0] 29))).cell? ⟨g, 4, none⟩ = some (.slice (some ⟨pb, po, none⟩) nx pc) := cell_of_row _ _ 4 _ _ _ HG1.out
  have agf : ((W.alloc (.cells #[.int .i64 0, .int .i64 0, .int .i64 0, .int .i64 0, .int .i64 0, .int .i64 0, .int .i64 0, .slice none 0 0] 29))).frozen? ⟨g, 0, none⟩ = false := frozen_of_row _ _ 0 _ _ HG1.out
  go_wp2_with fail
  go_at_call 108
  refine (lock_free muLib ⟨g, 0, none⟩ _ ag0 agf).mono ?_
  rintro e w' ⟨rfl, rfl⟩
  clear ag0 ag1 ag2 ag3 ag4 agf
  have HG2 := Lib.hid (show (((W.alloc (.cells #[.int .i64 0, .int .i64 0, .int .i64 0, .int .i64 0, .int .i64 0, .int .i64 0, .int .i64 0, .slice none 0 0] 29)).setCell ⟨g, 0, none⟩ (.int .i32 1))).heap[g]? = some (.cells #[.int .i32 1, .int .u32 0, .int .i64 i0, .slice (some ⟨mb, mo, none⟩) nx mc, .slice (some ⟨pb, po, none⟩) nx pc] 92 (0, 0)) from (heap_setCell_same _ _ 0 _ _ _ HG1.out))
  have HR2 := Lib.hid (show (((W.alloc (.cells #[.int .i64 0, .int .i64 0, .int .i64 0, .int .i64 0, .int .i64 0, .int .i64 0, .int .i64 0, .slice none 0 0] 29)).setCell ⟨g, 0, none⟩ (.int .i32 1))).heap[W.heap.size]? = some (.cells #[.int .i64 0, .int .i64 0, .int .i64 0, .int .i64 0, .int .i64 0, .int .i64 0, .int .i64 0, .slice none 0 0] 29 (0, 0)) from (set_far HR1.out (by dsimp only; omega)))
  have HO2 := Lib.hid (show OwU (((W.alloc (.cells #[.int .i64 0, .int .i64 0, .int .i64 0, .int .i64 0, .int .i64 0, .int .i64 0, .int .i64 0, .slice none 0 0] 29)).setCell ⟨g, 0, none⟩ (.int .i32 1))) lo g [] [own shB (.slice (some ⟨mb, mo, none⟩) nx mc) xs, own shB (.slice (some ⟨pb, po, none⟩) nx pc) ys] from (OwU.keep (chg_one _ _ _ _) (.inl (Nat.le_refl _)) HO1.out))
  have HC2 := Lib.hid (show Chg W (((W.alloc (.cells #[.int .i64 0, .int .i64 0, .int .i64 0, .int .i64 0, .int .i64 0, .int .i64 0, .int .i64 0, .slice none 0 0] 29)).setCell ⟨g, 0, none⟩ (.int .i32 1))) lo (g + 1) from (chg_setp HC1.out _ (by dsimp only; omega) (by dsimp only; omega) _))
  have szL : (((W.alloc (.cells #[.int .i64 0, .int .i64 0, .int .i64 0, .int .i64 0, .int .i64 0, .int .i64 0, .int .i64 0, .slice none 0 0] 29)).setCell ⟨g, 0, none⟩ (.int .i32 1))).heap.size = W.heap.size + 1 := by simp only [World.size_setCell, World.size_alloc]
  generalize ((W.alloc (.cells #[.int .i64 0, .int .i64 0, .int .i64 0, .int .i64 0, .int .i64 0, .int .i64 0, .int .i64 0, .slice none 0 0] 29)).setCell ⟨g, 0, none⟩ (.int .i32 1)) = wL at HG2 HR2 HO2 HC2 szL ⊢
  clear HG1 HR1 HO1 HC1
  have bg0 : (wL).cell? ⟨g, 0, none⟩ = some (.int .i32 1) := cell_of_row _ _ 0 _ _ _ HG2.out
  have bg1 : (wL).cell? ⟨g, 1, none⟩ = some (.int .u32 0) := cell_of_row _ _ 1 _ _ _ HG2.out
  have bg2 : (wL).cell? ⟨g, 2, none⟩ = some (.int .i64 i0) := cell_of_row _ _ 2 _ _ _ HG2.out
  have bg3 : (wL).cell? ⟨g, 3, none⟩ = some (.slice (some ⟨mb, mo, none⟩) nx mc) := cell_of_row _ _ 3 _ _ _ HG2.out
  have bg4 : (wL).cell? ⟨g, 4, none⟩ = some (.slice (some ⟨pb, po, none⟩) nx pc) := cell_of_row _ _ 4 _ _ _ HG2.out
  obtain ⟨mb_, mo_, mc_, hv1_, _, _, mk_, mf_, hset_⟩ := vset1 HO2.out k (by have := HNX.out; omega)
  injection hv1_ with q1_ q2_ q3_
  injection q1_ with q1_
  injection q1_ with q4_ q5_ _
  subst q4_ q5_
  clear q2_ q3_
  have HSET := Lib.hid (hset_ true)
  clear hset_
  have cr0 : (wL).cell? ⟨W.heap.size, 0, none⟩ = some (.int .i64 0) := cell_of_row _ _ 0 _ _ _ HR2.out
  have crf0 : (wL).frozen? ⟨W.heap.size, 0, none⟩ = false := frozen_of_row _ _ 0 _ _ HR2.out
  have cr1 : (wL).cell? ⟨W.heap.size, 1, none⟩ = some (.int .i64 0) := cell_of_row _ _ 1 _ _ _ HR2.out
  have crf1 : (wL).frozen? ⟨W.heap.size, 1, none⟩ = false := frozen_of_row _ _ 1 _ _ HR2.out
  have cr2 : (wL).cell? ⟨W.heap.size, 2, none⟩ = some (.int .i64 0) := cell_of_row _ _ 2 _ _ _ HR2.out
  have crf2 : (wL).frozen? ⟨W.heap.size, 2, none⟩ = false := frozen_of_row _ _ 2 _ _ HR2.out
  have cr3 : (wL).cell? ⟨W.heap.size, 3, none⟩ = some (.int .i64 0) := cell_of_row _ _ 3 _ _ _ HR2.out
  have crf3 : (wL).frozen? ⟨W.heap.size, 3, none⟩ = false := frozen_of_row _ _ 3 _ _ HR2.out
  have cr4 : (wL).cell? ⟨W.heap.size, 4, none⟩ = some (.int .i64 0) := cell_of_row _ _ 4 _ _ _ HR2.out
  have crf4 : (wL).frozen? ⟨W.heap.size, 4, none⟩ = false := frozen_of_row _ _ 4 _ _ HR2.out
  have cr5 : (wL).cell? ⟨W.heap.size, 5, none⟩ = some (.int .i64 0) := cell_of_row _ _ 5 _ _ _ HR2.out
  have crf5 : (wL).frozen? ⟨W.heap.size, 5, none⟩ = false := frozen_of_row _ _ 5 _ _ HR2.out
  have cr6 : (wL).cell? ⟨W.heap.size, 6, none⟩ = some (.int .i64 0) := cell_of_row _ _ 6 _ _ _ HR2.out
  have crf6 : (wL).frozen? ⟨W.heap.size, 6, none⟩ = false := frozen_of_row _ _ 6 _ _ HR2.out
  have cr7 : (wL).cell? ⟨W.heap.size, 7, none⟩ = some (.slice none 0 0) := cell_of_row _ _ 7 _ _ _ HR2.out
  have crf7 : (wL).frozen? ⟨W.heap.size, 7, none⟩ = false := frozen_of_row _ _ 7 _ _ HR2.out
  have HG3 := Lib.hid (show ((wL.setCell ⟨mb, mo + k, none⟩ (.bool true))).heap[g]? = some (.cells #[.int .i32 1, .int .u32 0, .int .i64 i0, .slice (some ⟨mb, mo, none⟩) nx mc, .slice (some ⟨pb, po, none⟩) nx pc] 92 (0, 0)) from (set_far HG2.out (by dsimp only; omega)))
  have HR3 := Lib.hid (show ((wL.setCell ⟨mb, mo + k, none⟩ (.bool true))).heap[W.heap.size]? = some (.cells #[.int .i64 0, .int .i64 0, .int .i64 0, .int .i64 0, .int .i64 0, .int .i64 0, .int .i64 0, .slice none 0 0] 29 (0, 0)) from (set_far HR2.out (by dsimp only; omega)))
  have HO3 := Lib.hid (show OwU ((wL.setCell ⟨mb, mo + k, none⟩ (.bool true))) lo g [] [own shB (.slice (some ⟨mb, mo, none⟩) nx mc) (xs.set k true), own shB (.slice (some ⟨pb, po, none⟩) nx pc) ys] from HSET.out)
  have HC3 := Lib.hid (show Chg W ((wL.setCell ⟨mb, mo + k, none⟩ (.bool true))) lo (g + 1) from (chg_setp HC2.out _ (by dsimp only; omega) (by dsimp only; omega) _))
  have HG4 := Lib.hid (show ((((((((((wL.setCell ⟨mb, mo + k, none⟩ (.bool true)).setCell ⟨W.heap.size, 0, none⟩ (.int .i64 0)).setCell ⟨W.heap.size, 1, none⟩ (.int .i64 0)).setCell ⟨W.heap.size, 2, none⟩ (.int .i64 0)).setCell ⟨W.heap.size, 3, none⟩ (.int .i64 0)).setCell ⟨W.heap.size, 4, none⟩ (.int .i64 0)).setCell ⟨W.heap.size, 5, none⟩ (.int .i64 0)).setCell ⟨W.heap.size, 6, none⟩ (.int .i64 0)).setCell ⟨W.heap.size, 7, none⟩ (.slice none 0 0))).heap[g]? = some (.cells #[.int .i32 1, .int .u32 0, .int .i64 i0, .slice (some ⟨mb, mo, none⟩) nx mc, .slice (some ⟨pb, po, none⟩) nx pc] 92 (0, 0)) from (set_far (set_far (set_far (set_far (set_far (set_far (set_far (set_far HG3.out (by dsimp only; omega)) (by dsimp only; omega)) (by dsimp only; omega)) (by dsimp only; omega)) (by dsimp only; omega)) (by dsimp only; omega)) (by dsimp only; omega)) (by dsimp only; omega)))
  have HR4 := Lib.hid (show ((((((((((wL.setCell ⟨mb, mo + k, none⟩ (.bool true)).setCell ⟨W.heap.size, 0, none⟩ (.int .i64 0)).setCell ⟨W.heap.size, 1, none⟩ (.int .i64 0)).setCell ⟨W.heap.size, 2, none⟩ (.int .i64 0)).setCell ⟨W.heap.size, 3, none⟩ (.int .i64 0)).setCell ⟨W.heap.size, 4, none⟩ (.int .i64 0)).setCell ⟨W.heap.size, 5, none⟩ (.int .i64 0)).setCell ⟨W.heap.size, 6, none⟩ (.int .i64 0)).setCell ⟨W.heap.size, 7, none⟩ (.slice none 0 0))).heap[W.heap.size]? = some (.cells #[.int .i64 0, .int .i64 0, .int .i64 0, .int .i64 0, .int .i64 0, .int .i64 0, .int .i64 0, .slice none 0 0] 29 (0, 0)) from (heap_setCell_same _ _ 7 _ _ _ (heap_setCell_same _ _ 6 _ _ _ (heap_setCell_same _ _ 5 _ _ _ (heap_setCell_same _ _ 4 _ _ _ (heap_setCell_same _ _ 3 _ _ _ (heap_setCell_same _ _ 2 _ _ _ (heap_setCell_same _ _ 1 _ _ _ (heap_setCell_same _ _ 0 _ _ _ HR3.out)))))))))
  have HO4 := Lib.hid (show OwU ((((((((((wL.setCell ⟨mb, mo + k, none⟩ (.bool true)).setCell ⟨W.heap.size, 0, none⟩ (.int .i64 0)).setCell ⟨W.heap.size, 1, none⟩ (.int .i64 0)).setCell ⟨W.heap.size, 2, none⟩ (.int .i64 0)).setCell ⟨W.heap.size, 3, none⟩ (.int .i64 0)).setCell ⟨W.heap.size, 4, none⟩ (.int .i64 0)).setCell ⟨W.heap.size, 5, none⟩ (.int .i64 0)).setCell ⟨W.heap.size, 6, none⟩ (.int .i64 0)).setCell ⟨W.heap.size, 7, none⟩ (.slice none 0 0))) lo g [] [own shB (.slice (some ⟨mb, mo, none⟩) nx mc) (xs.set k true), own shB (.slice (some ⟨pb, po, none⟩) nx pc) ys] from (OwU.keep (chg_one _ _ _ _) (.inl (by omega)) (OwU.keep (chg_one _ _ _ _) (.inl (by omega)) (OwU.keep (chg_one _ _ _ _) (.inl (by omega)) (OwU.keep (chg_one _ _ _ _) (.inl (by omega)) (OwU.keep (chg_one _ _ _ _) (.inl (by omega)) (OwU.keep (chg_one _ _ _ _) (.inl (by omega)) (OwU.keep (chg_one _ _ _ _) (.inl (by omega)) (OwU.keep (chg_one _ _ _ _) (.inl (by omega)) HO3.out)))))))))
  have HC4 := Lib.hid (show Chg W ((((((((((wL.setCell ⟨mb, mo + k, none⟩ (.bool true)).setCell ⟨W.heap.size, 0, none⟩ (.int .i64 0)).setCell ⟨W.heap.size, 1, none⟩ (.int .i64 0)).setCell ⟨W.heap.size, 2, none⟩ (.int .i64 0)).setCell ⟨W.heap.size, 3, none⟩ (.int .i64 0)).setCell ⟨W.heap.size, 4, none⟩ (.int .i64 0)).setCell ⟨W.heap.size, 5, none⟩ (.int .i64 0)).setCell ⟨W.heap.size, 6, none⟩ (.int .i64 0)).setCell ⟨W.heap.size, 7, none⟩ (.slice none 0 0))) lo (g + 1) from (chg_fresh (chg_fresh (chg_fresh (chg_fresh (chg_fresh (chg_fresh (chg_fresh (chg_fresh HC3.out _ (Nat.le_refl _) _) _ (Nat.le_refl _) _) _ (Nat.le_refl _) _) _ (Nat.le_refl _) _) _ (Nat.le_refl _) _) _ (Nat.le_refl _) _) _ (Nat.le_refl _) _) _ (Nat.le_refl _) _))
  have hl_ : ((((((((((wL.setCell ⟨mb, mo + k, none⟩ (.bool true)).setCell ⟨W.heap.size, 0, none⟩ (.int .i64 0)).setCell ⟨W.heap.size, 1, none⟩ (.int .i64 0)).setCell ⟨W.heap.size, 2, none⟩ (.int .i64 0)).setCell ⟨W.heap.size, 3, none⟩ (.int .i64 0)).setCell ⟨W.heap.size, 4, none⟩ (.int .i64 0)).setCell ⟨W.heap.size, 5, none⟩ (.int .i64 0)).setCell ⟨W.heap.size, 6, none⟩ (.int .i64 0)).setCell ⟨W.heap.size, 7, none⟩ (.slice none 0 0))).cell? ⟨g, 0, none⟩ = some (.int .i32 1) := cell_of_row _ _ 0 _ _ _ HG4.out
  have hz_ : ((((((((((wL.setCell ⟨mb, mo + k, none⟩ (.bool true)).setCell ⟨W.heap.size, 0, none⟩ (.int .i64 0)).setCell ⟨W.heap.size, 1, none⟩ (.int .i64 0)).setCell ⟨W.heap.size, 2, none⟩ (.int .i64 0)).setCell ⟨W.heap.size, 3, none⟩ (.int .i64 0)).setCell ⟨W.heap.size, 4, none⟩ (.int .i64 0)).setCell ⟨W.heap.size, 5, none⟩ (.int .i64 0)).setCell ⟨W.heap.size, 6, none⟩ (.int .i64 0)).setCell ⟨W.heap.size, 7, none⟩ (.slice none 0 0))).frozen? ⟨g, 0, none⟩ = false := frozen_of_row _ _ 0 _ _ HG4.out
  have HL := Lib.hid hl_
  have HZ := Lib.hid hz_
  clear hl_ hz_
  have HG5 := Lib.hid (show (((((((((((wL.setCell ⟨mb, mo + k, none⟩ (.bool true)).setCell ⟨W.heap.size, 0, none⟩ (.int .i64 0)).setCell ⟨W.heap.size, 1, none⟩ (.int .i64 0)).setCell ⟨W.heap.size, 2, none⟩ (.int .i64 0)).setCell ⟨W.heap.size, 3, none⟩ (.int .i64 0)).setCell ⟨W.heap.size, 4, none⟩ (.int .i64 0)).setCell ⟨W.heap.size, 5, none⟩ (.int .i64 0)).setCell ⟨W.heap.size, 6, none⟩ (.int .i64 0)).setCell ⟨W.heap.size, 7, none⟩ (.slice none 0 0)).setCell ⟨g, 0, none⟩ (.int .i32 0))).heap[g]? = some (.cells #[.int .i32 0, .int .u32 0, .int .i64 i0, .slice (some ⟨mb, mo, none⟩) nx mc, .slice (some ⟨pb, po, none⟩) nx pc] 92 (0, 0)) from (heap_setCell_same _ _ 0 _ _ _ HG4.out))
  have HR5 := Lib.hid (show (((((((((((wL.setCell ⟨mb, mo + k, none⟩ (.bool true)).setCell ⟨W.heap.size, 0, none⟩ (.int .i64 0)).setCell ⟨W.heap.size, 1, none⟩ (.int .i64 0)).setCell ⟨W.heap.size, 2, none⟩ (.int .i64 0)).setCell ⟨W.heap.size, 3, none⟩ (.int .i64 0)).setCell ⟨W.heap.size, 4, none⟩ (.int .i64 0)).setCell ⟨W.heap.size, 5, none⟩ (.int .i64 0)).setCell ⟨W.heap.size, 6, none⟩ (.int .i64 0)).setCell ⟨W.heap.size, 7, none⟩ (.slice none 0 0)).setCell ⟨g, 0, none⟩ (.int .i32 0))).heap[W.heap.size]? = some (.cells #[.int .i64 0, .int .i64 0, .int .i64 0, .int .i64 0, .int .i64 0, .int .i64 0, .int .i64 0, .slice none 0 0] 29 (0, 0)) from (set_far HR4.out (by dsimp only; omega)))
  have HO5 := Lib.hid (show OwU (((((((((((wL.setCell ⟨mb, mo + k, none⟩ (.bool true)).setCell ⟨W.heap.size, 0, none⟩ (.int .i64 0)).setCell ⟨W.heap.size, 1, none⟩ (.int .i64 0)).setCell ⟨W.heap.size, 2, none⟩ (.int .i64 0)).setCell ⟨W.heap.size, 3, none⟩ (.int .i64 0)).setCell ⟨W.heap.size, 4, none⟩ (.int .i64 0)).setCell ⟨W.heap.size, 5, none⟩ (.int .i64 0)).setCell ⟨W.heap.size, 6, none⟩ (.int .i64 0)).setCell ⟨W.heap.size, 7, none⟩ (.slice none 0 0)).setCell ⟨g, 0, none⟩ (.int .i32 0))) lo g [] [own shB (.slice (some ⟨mb, mo, none⟩) nx mc) (xs.set k true), own shB (.slice (some ⟨pb, po, none⟩) nx pc) ys] from (OwU.keep (chg_one _ _ _ _) (.inl (Nat.le_refl _)) HO4.out))
  have HC5 := Lib.hid (show Chg W (((((((((((wL.setCell ⟨mb, mo + k, none⟩ (.bool true)).setCell ⟨W.heap.size, 0, none⟩ (.int .i64 0)).setCell ⟨W.heap.size, 1, none⟩ (.int .i64 0)).setCell ⟨W.heap.size, 2, none⟩ (.int .i64 0)).setCell ⟨W.heap.size, 3, none⟩ (.int .i64 0)).setCell ⟨W.heap.size, 4, none⟩ (.int .i64 0)).setCell ⟨W.heap.size, 5, none⟩ (.int .i64 0)).setCell ⟨W.heap.size, 6, none⟩ (.int .i64 0)).setCell ⟨W.heap.size, 7, none⟩ (.slice none 0 0)).setCell ⟨g, 0, none⟩ (.int .i32 0))) lo (g + 1) from (chg_setp HC4.out _ (by dsimp only; omega) (by dsimp only; omega) _))
  have zz0 : (((((((((((wL.setCell ⟨mb, mo + k, none⟩ (.bool true)).setCell ⟨W.heap.size, 0, none⟩ (.int .i64 0)).setCell ⟨W.heap.size, 1, none⟩ (.int .i64 0)).setCell ⟨W.heap.size, 2, none⟩ (.int .i64 0)).setCell ⟨W.heap.size, 3, none⟩ (.int .i64 0)).setCell ⟨W.heap.size, 4, none⟩ (.int .i64 0)).setCell ⟨W.heap.size, 5, none⟩ (.int .i64 0)).setCell ⟨W.heap.size, 6, none⟩ (.int .i64 0)).setCell ⟨W.heap.size, 7, none⟩ (.slice none 0 0)).setCell ⟨g, 0, none⟩ (.int .i32 0))).cell? ⟨W.heap.size, 0, none⟩ = some (.int .i64 0) := cell_of_row _ _ 0 _ _ _ HR5.out
  have zz1 : (((((((((((wL.setCell ⟨mb, mo + k, none⟩ (.bool true)).setCell ⟨W.heap.size, 0, none⟩ (.int .i64 0)).setCell ⟨W.heap.size, 1, none⟩ (.int .i64 0)).setCell ⟨W.heap.size, 2, none⟩ (.int .i64 0)).setCell ⟨W.heap.size, 3, none⟩ (.int .i64 0)).setCell ⟨W.heap.size, 4, none⟩ (.int .i64 0)).setCell ⟨W.heap.size, 5, none⟩ (.int .i64 0)).setCell ⟨W.heap.size, 6, none⟩ (.int .i64 0)).setCell ⟨W.heap.size, 7, none⟩ (.slice none 0 0)).setCell ⟨g, 0, none⟩ (.int .i32 0))).cell? ⟨W.heap.size, 1, none⟩ = some (.int .i64 0) := cell_of_row _ _ 1 _ _ _ HR5.out
  have zz2 : (((((((((((wL.setCell ⟨mb, mo + k, none⟩ (.bool true)).setCell ⟨W.heap.size, 0, none⟩ (.int .i64 0)).setCell ⟨W.heap.size, 1, none⟩ (.int .i64 0)).setCell ⟨W.heap.size, 2, none⟩ (.int .i64 0)).setCell ⟨W.heap.size, 3, none⟩ (.int .i64 0)).setCell ⟨W.heap.size, 4, none⟩ (.int .i64 0)).setCell ⟨W.heap.size, 5, none⟩ (.int .i64 0)).setCell ⟨W.heap.size, 6, none⟩ (.int .i64 0)).setCell ⟨W.heap.size, 7, none⟩ (.slice none 0 0)).setCell ⟨g, 0, none⟩ (.int .i32 0))).cell? ⟨W.heap.size, 2, none⟩ = some (.int .i64 0) := cell_of_row _ _ 2 _ _ _ HR5.out
  have zz3 : (((((((((((wL.setCell ⟨mb, mo + k, none⟩ (.bool true)).setCell ⟨W.heap.size, 0, none⟩ (.int .i64 0)).setCell ⟨W.heap.size, 1, none⟩ (.int .i64 0)).setCell ⟨W.heap.size, 2, none⟩ (.int .i64 0)).setCell ⟨W.heap.size, 3, none⟩ (.int .i64 0)).setCell ⟨W.heap.size, 4, none⟩ (.int .i64 0)).setCell ⟨W.heap.size, 5, none⟩ (.int .i64 0)).setCell ⟨W.heap.size, 6, none⟩ (.int .i64 0)).setCell ⟨W.heap.size, 7, none⟩ (.slice none 0 0)).setCell ⟨g, 0, none⟩ (.int .i32 0))).cell? ⟨W.heap.size, 3, none⟩ = some (.int .i64 0) := cell_of_row _ _ 3 _ _ _ HR5.out
  have zz4 : (((((((((((wL.setCell ⟨mb, mo + k, none⟩ (.bool true)).setCell ⟨W.heap.size, 0, none⟩ (.int .i64 0)).setCell ⟨W.heap.size, 1, none⟩ (.int .i64 0)).setCell ⟨W.heap.size, 2, none⟩ (.int .i64 0)).setCell ⟨W.heap.size, 3, none⟩ (.int .i64 0)).setCell ⟨W.heap.size, 4, none⟩ (.int .i64 0)).setCell ⟨W.heap.size, 5, none⟩ (.int .i64 0)).setCell ⟨W.heap.size, 6, none⟩ (.int .i64 0)).setCell ⟨W.heap.size, 7, none⟩ (.slice none 0 0)).setCell ⟨g, 0, none⟩ (.int .i32 0))).cell? ⟨W.heap.size, 4, none⟩ = some (.int .i64 0) := cell_of_row _ _ 4 _ _ _ HR5.out
  have zz5 : (((((((((((wL.setCell ⟨mb, mo + k, none⟩ (.bool true)).setCell ⟨W.heap.size, 0, none⟩ (.int .i64 0)).setCell ⟨W.heap.size, 1, none⟩ (.int .i64 0)).setCell ⟨W.heap.size, 2, none⟩ (.int .i64 0)).setCell ⟨W.heap.size, 3, none⟩ (.int .i64 0)).setCell ⟨W.heap.size, 4, none⟩ (.int .i64 0)).setCell ⟨W.heap.size, 5, none⟩ (.int .i64 0)).setCell ⟨W.heap.size, 6, none⟩ (.int .i64 0)).setCell ⟨W.heap.size, 7, none⟩ (.slice none 0 0)).setCell ⟨g, 0, none⟩ (.int .i32 0))).cell? ⟨W.heap.size, 5, none⟩ = some (.int .i64 0) := cell_of_row _ _ 5 _ _ _ HR5.out
  have zz6 : (((((((((((wL.setCell ⟨mb, mo + k, none⟩ (.bool true)).setCell ⟨W.heap.size, 0, none⟩ (.int .i64 0)).setCell ⟨W.heap.size, 1, none⟩ (.int .i64 0)).setCell ⟨W.heap.size, 2, none⟩ (.int .i64 0)).setCell ⟨W.heap.size, 3, none⟩ (.int .i64 0)).setCell ⟨W.heap.size, 4, none⟩ (.int .i64 0)).setCell ⟨W.heap.size, 5, none⟩ (.int .i64 0)).setCell ⟨W.heap.size, 6, none⟩ (.int .i64 0)).setCell ⟨W.heap.size, 7, none⟩ (.slice none 0 0)).setCell ⟨g, 0, none⟩ (.int .i32 0))).cell? ⟨W.heap.size, 6, none⟩ = some (.int .i64 0) := cell_of_row _ _ 6 _ _ _ HR5.out
  have zz7 : (((((((((((wL.setCell ⟨mb, mo + k, none⟩ (.bool true)).setCell ⟨W.heap.size, 0, none⟩ (.int .i64 0)).setCell ⟨W.heap.size, 1, none⟩ (.int .i64 0)).setCell ⟨W.heap.size, 2, none⟩ (.int .i64 0)).setCell ⟨W.heap.size, 3, none⟩ (.int .i64 0)).setCell ⟨W.heap.size, 4, none⟩ (.int .i64 0)).setCell ⟨W.heap.size, 5, none⟩ (.int .i64 0)).setCell ⟨W.heap.size, 6, none⟩ (.int .i64 0)).setCell ⟨W.heap.size, 7, none⟩ (.slice none 0 0)).setCell ⟨g, 0, none⟩ (.int .i32 0))).cell? ⟨W.heap.size, 7, none⟩ = some (.slice none 0 0) := cell_of_row _ _ 7 _ _ _ HR5.out
  go_wp2
  refine leaves_cons (f := 109) (args := #[.pointer (some ⟨g, 0, none⟩)]) (by simp) (by simp [go_sem]) ?_
  refine (unlock_deferred muLib ⟨g, 0, none⟩ .returning _ HL.out HZ.out).mono ?_
  rintro e u' w'' ⟨rfl, rfl, rfl⟩
  refine ⟨vPacket 0 0 0 0 0 0 0 (.slice none 0 0), by simp [results, go_sem, vPacket, zz0, zz1, zz2, zz3, zz4, zz5, zz6, zz7], _, rfl, HO5.out, HG5.out, ?_, HC5.out⟩
  exact OwU.one owL_nil

set_option maxRecDepth 8000 in
set_option maxHeartbeats 4000000 in
theorem setm_quiet (W : World) (g lo k : Nat) (i0 id : Int) (v1 v2 : Value) (xs ys : List Bool) (hg_ : W.heap[g]? = some (.cells #[.int .i32 0, .int .u32 0, .int .i64 i0, v1, v2] 92 (0, 0))) (ho_ : OwU W lo g [] [own shB v1 xs, own shB v2 ys]) (hk : k < xs.length) (h8 : xs.length ≤ 8) (hy : ys.length = xs.length) (hp : ys.getD k false = false) :
    Calls Try.prog 72 #[.pointer (some ⟨g, 0, none⟩), .int .i64 id, .int .i64 (k : Int), .bool false] W (GPost g lo i0 v1 v2 (xs.set k false) ys 0 0 0 [] W) := by
  have HP := Lib.hid hp
  clear hp
  obtain ⟨mb, mo, mc, rfl, m1, m2, _, _, _⟩ := vset1 ho_ k hk
  obtain ⟨pb, po, pc, rfl, p1, p2, _, _, _⟩ := vset2 ho_ k (by omega)
  have hgl : g < W.heap.size := lt_of_block hg_
  obtain ⟨nx, hnx⟩ : ∃ n, n = xs.length := ⟨_, rfl⟩
  have HNX := Lib.hid hnx
  rw [hy, ← hnx] at hg_ ho_ ⊢
  have HY := Lib.hid hy
  have hk8 : k < nx := by omega
  have hn8 : nx ≤ 8 := by omega
  have hg := Lib.hid hg_
  have ho := Lib.hid ho_
  clear hg_ ho_ hnx hy hk h8
  have hk0 : (0 : Int) ≤ (k : Int) := by omega
  have hkn : (k : Int) < (nx : Int) := by omega
  have htk : ((k : Int)).toNat = k := by omega
  have ngR : ¬ g = W.heap.size := by omega
  have nRg : ¬ W.heap.size = g := by omega
  have npg : ¬ pb = g := by omega
  have ngp : ¬ g = pb := by omega
  have npR : ¬ pb = W.heap.size := by omega
  have nRp : ¬ W.heap.size = pb := by omega
  have nmg : ¬ mb = g := by omega
  have ngm : ¬ g = mb := by omega
  have nmR : ¬ mb = W.heap.size := by omega
  have nRm : ¬ W.heap.size = mb := by omega
  have HG1 := Lib.hid (show ((W.alloc (.cells #[.int .i64 0, .int .i64 0, .int .i64 0, .int .i64 0, .int .i64 0, .int .i64 0, .int .i64 0, .slice none 0 0] 29))).heap[g]? = some (.cells #[.int .i32 0, .int .u32 0, .int .i64 i0, .slice (some ⟨mb, mo, none⟩) nx mc, .slice (some ⟨pb, po, none⟩) nx pc] 92 (0, 0)) from (row_held (gby_alloc (gby_refl W none) _) hg.out))
  have HR1 := Lib.hid (show ((W.alloc (.cells #[.int .i64 0, .int .i64 0, .int .i64 0, .int .i64 0, .int .i64 0, .int .i64 0, .int .i64 0, .slice none 0 0] 29))).heap[W.heap.size]? = some (.cells #[.int .i64 0, .int .i64 0, .int .i64 0, .int .i64 0, .int .i64 0, .int .i64 0, .int .i64 0, .slice none 0 0] 29 (0, 0)) from (heap_alloc_new W _))
  have HO1 := Lib.hid (show OwU ((W.alloc (.cells #[.int .i64 0, .int .i64 0, .int .i64 0, .int .i64 0, .int .i64 0, .int .i64 0, .int .i64 0, .slice none 0 0] 29))) lo g [] [own shB (.slice (some ⟨mb, mo, none⟩) nx mc) xs, own shB (.slice (some ⟨pb, po, none⟩) nx pc) ys] from (OwU.grow ho.out (gby_alloc (gby_refl W none) _)))
  have HC1 := Lib.hid (show Chg W ((W.alloc (.cells #[.int .i64 0, .int .i64 0, .int .i64 0, .int .i64 0, .int .i64 0, .int .i64 0, .int .i64 0, .slice none 0 0] 29))) lo (g + 1) from (chg_gby (gby_alloc (gby_refl W none) _) lo (g + 1)))
  go_enter_defers Try.func72, Try.ntmps72
  have ag0 : ((W.alloc (.cells #[.int .i64 0, .int .i64 0, .int .i64 0, .int .i64 0, .int .i64 0, .int .i64 0, .int .i64 0, .slice none 0 0] 29))).cell? ⟨g, 0, none⟩ = some (.int .i32 0) := cell_of_row _ _ 0 _ _ _ HG1.out
  have ag1 : ((W.alloc (.cells #[.int .i64 0, .int .i64 0, .int .i64 0, .int .i64 0, .int .i64 0, .int .i64 0, .int .i64 0, .slice none 0 0] 29))).cell? ⟨g, 1, none⟩ = some (.int .u32 0) := cell_of_row _ _ 1 _ _ _ HG1.out
  have ag2 : ((W.alloc (.cells #[.int .i64 0, .int .i64 0, .int .i64 0, .int .i64 0, .int .i64 0, .int .i64 0, .int .i64 0, .slice none 0 0] 29))).cell? ⟨g, 2, none⟩ = some (.int .i64 i0) := cell_of_row _ _ 2 _ _ _ HG1.out
  have ag3 : ((W.alloc (.cells #[.int .i64 0, .int .i64 0, .int .i64 0, .int .i64 0, .int .i64 0, .int .i64 0, .int .i64 0, .slice none 0 0] 29))).cell? ⟨g, 3, none⟩ = some (.slice (some ⟨mb, mo, none⟩) nx mc) := cell_of_row _ _ 3 _ _ _ HG1.out
  have ag4 : ((W.alloc (.cells #[.int .i64 0, .int .i64 0, .int .i64 0, .int .i64 0, .int .i64 0, .int .i64 0, .int .i64 0, .slice none 0 0] 29))).cell? ⟨g, 4, none⟩ = some (.slice (some ⟨pb, po, none⟩) nx pc) := cell_of_row _ _ 4 _ _ _ HG1.out
  have agf : ((W.alloc (.cells #[.int .i64 0, .int .i64 0, .int .i64 0, .int .i64 0, .int .i64 0, .int .i64 0, .int .i64 0, .slice none 0 0] 29))).frozen? ⟨g, 0, none⟩ = false := frozen_of_row _ _ 0 _ _ HG1.out
  go_wp2_with fail
  go_at_call 108
  refine (lock_free muLib ⟨g, 0, none⟩ _ ag0 agf).mono ?_
  rintro e w' ⟨rfl, rfl⟩
  clear ag0 ag1 ag2 ag3 ag4 agf
  have HG2 := Lib.hid (show (((W.alloc (.cells #[.int .i64 0, .int .i64 0, .int .i64 0, .int .i64 0, .int .i64 0, .int .i64 0, .int .i64 0, .slice none 0 0] 29)).setCell ⟨g, 0, none⟩ (.int .i32 1))).heap[g]? = some (.cells #[.int .i32 1, .int .u32 0, .int .i64 i0, .slice (some ⟨mb, mo, none⟩) nx mc, .slice (some ⟨pb, po, none⟩) nx pc] 92 (0, 0)) from (heap_setCell_same _ _ 0 _ _ _ HG1.out))
  have HR2 := Lib.hid (show (((W.alloc (.cells #[.int .i64 0, .int .i64 0, .int .i64 0, .int .i64 0, .int .i64 0, .int .i64 0, .int .i64 0, .slice none 0 0] 29)).setCell ⟨g, 0, none⟩ (.int .i32 1))).heap[W.heap.size]? = some (.cells #[.int .i64 0, .int .i64 0, .int .i64 0, .int .i64 0, .int .i64 0, .int .i64 0, .int .i64 0, .slice none 0 0] 29 (0, 0)) from (set_far HR1.out (by dsimp only; omega)))
  have HO2 := Lib.hid (show OwU (((W.alloc (.cells #[.int .i64 0, .int .i64 0, .int .i64 0, .int .i64 0, .int .i64 0, .int .i64 0, .int .i64 0, .slice none 0 0] 29)).setCell ⟨g, 0, none⟩ (.int .i32 1))) lo g [] [own shB (.slice (some ⟨mb, mo, none⟩) nx mc) xs, own shB (.slice (some ⟨pb, po, none⟩) nx pc) ys] from (OwU.keep (chg_one _ _ _ _) (.inl (Nat.le_refl _)) HO1.out))
  have HC2 := Lib.hid (show Chg W (((W.alloc (.cells #[.int .i64 0, .int .i64 0, .int .i64 0, .int .i64 0, .int .i64 0, .int .i64 0, .int .i64 0, .slice none 0 0] 29)).setCell ⟨g, 0, none⟩ (.int .i32 1))) lo (g + 1) from (chg_setp HC1.out _ (by dsimp only; omega) (by dsimp only; omega) _))
  have szL : (((W.alloc (.cells #[.int .i64 0, .int .i64 0, .int .i64 0, .int .i64 0, .int .i64 0, .int .i64 0, .int .i64 0, .slice none 0 0] 29)).setCell ⟨g, 0, none⟩ (.int .i32 1))).heap.size = W.heap.size + 1 := by simp only [World.size_setCell, World.size_alloc]
  generalize ((W.alloc (.cells #[.int .i64 0, .int .i64 0, .int .i64 0, .int .i64 0, .int .i64 0, .int .i64 0, .int .i64 0, .slice none 0 0] 29)).setCell ⟨g, 0, none⟩ (.int .i32 1)) = wL at HG2 HR2 HO2 HC2 szL ⊢
  clear HG1 HR1 HO1 HC1
  have bg0 : (wL).cell? ⟨g, 0, none⟩ = some (.int .i32 1) := cell_of_row _ _ 0 _ _ _ HG2.out
  have bg1 : (wL).cell? ⟨g, 1, none⟩ = some (.int .u32 0) := cell_of_row _ _ 1 _ _ _ HG2.out
  have bg2 : (wL).cell? ⟨g, 2, none⟩ = some (.int .i64 i0) := cell_of_row _ _ 2 _ _ _ HG2.out
  have bg3 : (wL).cell? ⟨g, 3, none⟩ = some (.slice (some ⟨mb, mo, none⟩) nx mc) := cell_of_row _ _ 3 _ _ _ HG2.out
  have bg4 : (wL).cell? ⟨g, 4, none⟩ = some (.slice (some ⟨pb, po, none⟩) nx pc) := cell_of_row _ _ 4 _ _ _ HG2.out
  obtain ⟨mb_, mo_, mc_, hv1_, _, _, mk_, mf_, hset_⟩ := vset1 HO2.out k (by have := HNX.out; omega)
  injection hv1_ with q1_ q2_ q3_
  injection q1_ with q1_
  injection q1_ with q4_ q5_ _
  subst q4_ q5_
  clear q2_ q3_
  have HSET := Lib.hid (hset_ false)
  clear hset_
  have cr0 : (wL).cell? ⟨W.heap.size, 0, none⟩ = some (.int .i64 0) := cell_of_row _ _ 0 _ _ _ HR2.out
  have crf0 : (wL).frozen? ⟨W.heap.size, 0, none⟩ = false := frozen_of_row _ _ 0 _ _ HR2.out
  have cr1 : (wL).cell? ⟨W.heap.size, 1, none⟩ = some (.int .i64 0) := cell_of_row _ _ 1 _ _ _ HR2.out
  have crf1 : (wL).frozen? ⟨W.heap.size, 1, none⟩ = false := frozen_of_row _ _ 1 _ _ HR2.out
  have cr2 : (wL).cell? ⟨W.heap.size, 2, none⟩ = some (.int .i64 0) := cell_of_row _ _ 2 _ _ _ HR2.out
  have crf2 : (wL).frozen? ⟨W.heap.size, 2, none⟩ = false := frozen_of_row _ _ 2 _ _ HR2.out
  have cr3 : (wL).cell? ⟨W.heap.size, 3, none⟩ = some (.int .i64 0) := cell_of_row _ _ 3 _ _ _ HR2.out
  have crf3 : (wL).frozen? ⟨W.heap.size, 3, none⟩ = false := frozen_of_row _ _ 3 _ _ HR2.out
  have cr4 : (wL).cell? ⟨W.heap.size, 4, none⟩ = some (.int .i64 0) := cell_of_row _ _ 4 _ _ _ HR2.out
  have crf4 : (wL).frozen? ⟨W.heap.size, 4, none⟩ = false := frozen_of_row _ _ 4 _ _ HR2.out
  have cr5 : (wL).cell? ⟨W.heap.size, 5, none⟩ = some (.int .i64 0) := cell_of_row _ _ 5 _ _ _ HR2.out
  have crf5 : (wL).frozen? ⟨W.heap.size, 5, none⟩ = false := frozen_of_row _ _ 5 _ _ HR2.out
  have cr6 : (wL).cell? ⟨W.heap.size, 6, none⟩ = some (.int .i64 0) := cell_of_row _ _ 6 _ _ _ HR2.out
  have crf6 : (wL).frozen? ⟨W.heap.size, 6, none⟩ = false := frozen_of_row _ _ 6 _ _ HR2.out
  have cr7 : (wL).cell? ⟨W.heap.size, 7, none⟩ = some (.slice none 0 0) := cell_of_row _ _ 7 _ _ _ HR2.out
  have crf7 : (wL).frozen? ⟨W.heap.size, 7, none⟩ = false := frozen_of_row _ _ 7 _ _ HR2.out
  have HG3 := Lib.hid (show ((wL.setCell ⟨mb, mo + k, none⟩ (.bool false))).heap[g]? = some (.cells #[.int .i32 1, .int .u32 0, .int .i64 i0, .slice (some ⟨mb, mo, none⟩) nx mc, .slice (some ⟨pb, po, none⟩) nx pc] 92 (0, 0)) from (set_far HG2.out (by dsimp only; omega)))
  have HR3 := Lib.hid (show ((wL.setCell ⟨mb, mo + k, none⟩ (.bool false))).heap[W.heap.size]? = some (.cells #[.int .i64 0, .int .i64 0, .int .i64 0, .int .i64 0, .int .i64 0, .int .i64 0, .int .i64 0, .slice none 0 0] 29 (0, 0)) from (set_far HR2.out (by dsimp only; omega)))
  have HO3 := Lib.hid (show OwU ((wL.setCell ⟨mb, mo + k, none⟩ (.bool false))) lo g [] [own shB (.slice (some ⟨mb, mo, none⟩) nx mc) (xs.set k false), own shB (.slice (some ⟨pb, po, none⟩) nx pc) ys] from HSET.out)
  have HC3 := Lib.hid (show Chg W ((wL.setCell ⟨mb, mo + k, none⟩ (.bool false))) lo (g + 1) from (chg_setp HC2.out _ (by dsimp only; omega) (by dsimp only; omega) _))
  obtain ⟨pb_, po_, pc_, hv2_, _, _, pk_, pf_, hset2_⟩ := vset2 HO3.out k (by have := HNX.out; have := HY.out; omega)
  injection hv2_ with q1_ q2_ q3_
  injection q1_ with q1_
  injection q1_ with q4_ q5_ _
  subst q4_ q5_
  clear q2_ q3_
  have HSET2 := Lib.hid (hset2_ false)
  clear hset2_
  rw [HP.out] at pk_
  have HG4 := Lib.hid (show ((((((((((wL.setCell ⟨mb, mo + k, none⟩ (.bool false)).setCell ⟨W.heap.size, 0, none⟩ (.int .i64 0)).setCell ⟨W.heap.size, 1, none⟩ (.int .i64 0)).setCell ⟨W.heap.size, 2, none⟩ (.int .i64 0)).setCell ⟨W.heap.size, 3, none⟩ (.int .i64 0)).setCell ⟨W.heap.size, 4, none⟩ (.int .i64 0)).setCell ⟨W.heap.size, 5, none⟩ (.int .i64 0)).setCell ⟨W.heap.size, 6, none⟩ (.int .i64 0)).setCell ⟨W.heap.size, 7, none⟩ (.slice none 0 0))).heap[g]? = some (.cells #[.int .i32 1, .int .u32 0, .int .i64 i0, .slice (some ⟨mb, mo, none⟩) nx mc, .slice (some ⟨pb, po, none⟩) nx pc] 92 (0, 0)) from (set_far (set_far (set_far (set_far (set_far (set_far (set_far (set_far HG3.out (by dsimp only; omega)) (by dsimp only; omega)) (by dsimp only; omega)) (by dsimp only; omega)) (by dsimp only; omega)) (by dsimp only; omega)) (by dsimp only; omega)) (by dsimp only; omega)))
  have HR4 := Lib.hid (show ((((((((((wL.setCell ⟨mb, mo + k, none⟩ (.bool false)).setCell ⟨W.heap.size, 0, none⟩ (.int .i64 0)).setCell ⟨W.heap.size, 1, none⟩ (.int .i64 0)).setCell ⟨W.heap.size, 2, none⟩ (.int .i64 0)).setCell ⟨W.heap.size, 3, none⟩ (.int .i64 0)).setCell ⟨W.heap.size, 4, none⟩ (.int .i64 0)).setCell ⟨W.heap.size, 5, none⟩ (.int .i64 0)).setCell ⟨W.heap.size, 6, none⟩ (.int .i64 0)).setCell ⟨W.heap.size, 7, none⟩ (.slice none 0 0))).heap[W.heap.size]? = some (.cells #[.int .i64 0, .int .i64 0, .int .i64 0, .int .i64 0, .int .i64 0, .int .i64 0, .int .i64 0, .slice none 0 0] 29 (0, 0)) from (heap_setCell_same _ _ 7 _ _ _ (heap_setCell_same _ _ 6 _ _ _ (heap_setCell_same _ _ 5 _ _ _ (heap_setCell_same _ _ 4 _ _ _ (heap_setCell_same _ _ 3 _ _ _ (heap_setCell_same _ _ 2 _ _ _ (heap_setCell_same _ _ 1 _ _ _ (heap_setCell_same _ _ 0 _ _ _ HR3.out)))))))))
  have HO4 := Lib.hid (show OwU ((((((((((wL.setCell ⟨mb, mo + k, none⟩ (.bool false)).setCell ⟨W.heap.size, 0, none⟩ (.int .i64 0)).setCell ⟨W.heap.size, 1, none⟩ (.int .i64 0)).setCell ⟨W.heap.size, 2, none⟩ (.int .i64 0)).setCell ⟨W.heap.size, 3, none⟩ (.int .i64 0)).setCell ⟨W.heap.size, 4, none⟩ (.int .i64 0)).setCell ⟨W.heap.size, 5, none⟩ (.int .i64 0)).setCell ⟨W.heap.size, 6, none⟩ (.int .i64 0)).setCell ⟨W.heap.size, 7, none⟩ (.slice none 0 0))) lo g [] [own shB (.slice (some ⟨mb, mo, none⟩) nx mc) (xs.set k false), own shB (.slice (some ⟨pb, po, none⟩) nx pc) ys] from (OwU.keep (chg_one _ _ _ _) (.inl (by omega)) (OwU.keep (chg_one _ _ _ _) (.inl (by omega)) (OwU.keep (chg_one _ _ _ _) (.inl (by omega)) (OwU.keep (chg_one _ _ _ _) (.inl (by omega)) (OwU.keep (chg_one _ _ _ _) (.inl (by omega)) (OwU.keep (chg_one _ _ _ _) (.inl (by omega)) (OwU.keep (chg_one _ _ _ _) (.inl (by omega)) (OwU.keep (chg_one _ _ _ _) (.inl (by omega)) HO3.out)))))))))
  have HC4 := Lib.hid (show Chg W ((((((((((wL.setCell ⟨mb, mo + k, none⟩ (.bool false)).setCell ⟨W.heap.size, 0, none⟩ (.int .i64 0)).setCell ⟨W.heap.size, 1, none⟩ (.int .i64 0)).setCell ⟨W.heap.size, 2, none⟩ (.int .i64 0)).setCell ⟨W.heap.size, 3, none⟩ (.int .i64 0)).setCell ⟨W.heap.size, 4, none⟩ (.int .i64 0)).setCell ⟨W.heap.size, 5, none⟩ (.int .i64 0)).setCell ⟨W.heap.size, 6, none⟩ (.int .i64 0)).setCell ⟨W.heap.size, 7, none⟩ (.slice none 0 0))) lo (g + 1) from (chg_fresh (chg_fresh (chg_fresh (chg_fresh (chg_fresh (chg_fresh (chg_fresh (chg_fresh HC3.out _ (Nat.le_refl _) _) _ (Nat.le_refl _) _) _ (Nat.le_refl _) _) _ (Nat.le_refl _) _) _ (Nat.le_refl _) _) _ (Nat.le_refl _) _) _ (Nat.le_refl _) _) _ (Nat.le_refl _) _))
  have hl_ : ((((((((((wL.setCell ⟨mb, mo + k, none⟩ (.bool false)).setCell ⟨W.heap.size, 0, none⟩ (.int .i64 0)).setCell ⟨W.heap.size, 1, none⟩ (.int .i64 0)).setCell ⟨W.heap.size, 2, none⟩ (.int .i64 0)).setCell ⟨W.heap.size, 3, none⟩ (.int .i64 0)).setCell ⟨W.heap.size, 4, none⟩ (.int .i64 0)).setCell ⟨W.heap.size, 5, none⟩ (.int .i64 0)).setCell ⟨W.heap.size, 6, none⟩ (.int .i64 0)).setCell ⟨W.heap.size, 7, none⟩ (.slice none 0 0))).cell? ⟨g, 0, none⟩ = some (.int .i32 1) := cell_of_row _ _ 0 _ _ _ HG4.out
  have hz_ : ((((((((((wL.setCell ⟨mb, mo + k, none⟩ (.bool false)).setCell ⟨W.heap.size, 0, none⟩ (.int .i64 0)).setCell ⟨W.heap.size, 1, none⟩ (.int .i64 0)).setCell ⟨W.heap.size, 2, none⟩ (.int .i64 0)).setCell ⟨W.heap.size, 3, none⟩ (.int .i64 0)).setCell ⟨W.heap.size, 4, none⟩ (.int .i64 0)).setCell ⟨W.heap.size, 5, none⟩ (.int .i64 0)).setCell ⟨W.heap.size, 6, none⟩ (.int .i64 0)).setCell ⟨W.heap.size, 7, none⟩ (.slice none 0 0))).frozen? ⟨g, 0, none⟩ = false := frozen_of_row _ _ 0 _ _ HG4.out
  have HL := Lib.hid hl_
  have HZ := Lib.hid hz_
  clear hl_ hz_
  have HG5 := Lib.hid (show (((((((((((wL.setCell ⟨mb, mo + k, none⟩ (.bool false)).setCell ⟨W.heap.size, 0, none⟩ (.int .i64 0)).setCell ⟨W.heap.size, 1, none⟩ (.int .i64 0)).setCell ⟨W.heap.size, 2, none⟩ (.int .i64 0)).setCell ⟨W.heap.size, 3, none⟩ (.int .i64 0)).setCell ⟨W.heap.size, 4, none⟩ (.int .i64 0)).setCell ⟨W.heap.size, 5, none⟩ (.int .i64 0)).setCell ⟨W.heap.size, 6, none⟩ (.int .i64 0)).setCell ⟨W.heap.size, 7, none⟩ (.slice none 0 0)).setCell ⟨g, 0, none⟩ (.int .i32 0))).heap[g]? = some (.cells #[.int .i32 0, .int .u32 0, .int .i64 i0, .slice (some ⟨mb, mo, none⟩) nx mc, .slice (some ⟨pb, po, none⟩) nx pc] 92 (0, 0)) from (heap_setCell_same _ _ 0 _ _ _ HG4.out))
  have HR5 := Lib.hid (show (((((((((((wL.setCell ⟨mb, mo + k, none⟩ (.bool false)).setCell ⟨W.heap.size, 0, none⟩ (.int .i64 0)).setCell ⟨W.heap.size, 1, none⟩ (.int .i64 0)).setCell ⟨W.heap.size, 2, none⟩ (.int .i64 0)).setCell ⟨W.heap.size, 3, none⟩ (.int .i64 0)).setCell ⟨W.heap.size, 4, none⟩ (.int .i64 0)).setCell ⟨W.heap.size, 5, none⟩ (.int .i64 0)).setCell ⟨W.heap.size, 6, none⟩ (.int .i64 0)).setCell ⟨W.heap.size, 7, none⟩ (.slice none 0 0)).setCell ⟨g, 0, none⟩ (.int .i32 0))).heap[W.heap.size]? = some (.cells #[.int .i64 0, .int .i64 0, .int .i64 0, .int .i64 0, .int .i64 0, .int .i64 0, .int .i64 0, .slice none 0 0] 29 (0, 0)) from (set_far HR4.out (by dsimp only; omega)))
  have HO5 := Lib.hid (show OwU (((((((((((wL.setCell ⟨mb, mo + k, none⟩ (.bool false)).setCell ⟨W.heap.size, 0, none⟩ (.int .i64 0)).setCell ⟨W.heap.size, 1, none⟩ (.int .i64 0)).setCell ⟨W.heap.size, 2, none⟩ (.int .i64 0)).setCell ⟨W.heap.size, 3, none⟩ (.int .i64 0)).setCell ⟨W.heap.size, 4, none⟩ (.int .i64 0)).setCell ⟨W.heap.size, 5, none⟩ (.int .i64 0)).setCell ⟨W.heap.size, 6, none⟩ (.int .i64 0)).setCell ⟨W.heap.size, 7, none⟩ (.slice none 0 0)).setCell ⟨g, 0, none⟩ (.int .i32 0))) lo g [] [own shB (.slice (some ⟨mb, mo, none⟩) nx mc) (xs.set k false), own shB (.slice (some ⟨pb, po, none⟩) nx pc) ys] from (OwU.keep (chg_one _ _ _ _) (.inl (Nat.le_refl _)) HO4.out))
  have HC5 := Lib.hid (show Chg W (((((((((((wL.setCell ⟨mb, mo + k, none⟩ (.bool false)).setCell ⟨W.heap.size, 0, none⟩ (.int .i64 0)).setCell ⟨W.heap.size, 1, none⟩ (.int .i64 0)).setCell ⟨W.heap.size, 2, none⟩ (.int .i64 0)).setCell ⟨W.heap.size, 3, none⟩ (.int .i64 0)).setCell ⟨W.heap.size, 4, none⟩ (.int .i64 0)).setCell ⟨W.heap.size, 5, none⟩ (.int .i64 0)).setCell ⟨W.heap.size, 6, none⟩ (.int .i64 0)).setCell ⟨W.heap.size, 7, none⟩ (.slice none 0 0)).setCell ⟨g, 0, none⟩ (.int .i32 0))) lo (g + 1) from (chg_setp HC4.out _ (by dsimp only; omega) (by dsimp only; omega) _))
  have zz0 : (((((((((((wL.setCell ⟨mb, mo + k, none⟩ (.bool false)).setCell ⟨W.heap.size, 0, none⟩ (.int .i64 0)).setCell ⟨W.heap.size, 1, none⟩ (.int .i64 0)).setCell ⟨W.heap.size, 2, none⟩ (.int .i64 0)).setCell ⟨W.heap.size, 3, none⟩ (.int .i64 0)).setCell ⟨W.heap.size, 4, none⟩ (.int .i64 0)).setCell ⟨W.heap.size, 5, none⟩ (.int .i64 0)).setCell ⟨W.heap.size, 6, none⟩ (.int .i64 0)).setCell ⟨W.heap.size, 7, none⟩ (.slice none 0 0)).setCell ⟨g, 0, none⟩ (.int .i32 0))).cell? ⟨W.heap.size, 0, none⟩ = some (.int .i64 0) := cell_of_row _ _ 0 _ _ _ HR5.out
  have zz1 : (((((((((((wL.setCell ⟨mb, mo + k, none⟩ (.bool false)).setCell ⟨W.heap.size, 0, none⟩ (.int .i64 0)).setCell ⟨W.heap.size, 1, none⟩ (.int .i64 0)).setCell ⟨W.heap.size, 2, none⟩ (.int .i64 0)).setCell ⟨W.heap.size, 3, none⟩ (.int .i64 0)).setCell ⟨W.heap.size, 4, none⟩ (.int .i64 0)).setCell ⟨W.heap.size, 5, none⟩ (.int .i64 0)).setCell ⟨W.heap.size, 6, none⟩ (.int .i64 0)).setCell ⟨W.heap.size, 7, none⟩ (.slice none 0 0)).setCell ⟨g, 0, none⟩ (.int .i32 0))).cell? ⟨W.heap.size, 1, none⟩ = some (.int .i64 0) := cell_of_row _ _ 1 _ _ _ HR5.out
  have zz2 : (((((((((((wL.setCell ⟨mb, mo + k, none⟩ (.bool false)).setCell ⟨W.heap.size, 0, none⟩ (.int .i64 0)).setCell ⟨W.heap.size, 1, none⟩ (.int .i64 0)).setCell ⟨W.heap.size, 2, none⟩ (.int .i64 0)).setCell ⟨W.heap.size, 3, none⟩ (.int .i64 0)).setCell ⟨W.heap.size, 4, none⟩ (.int .i64 0)).setCell ⟨W.heap.size, 5, none⟩ (.int .i64 0)).setCell ⟨W.heap.size, 6, none⟩ (.int .i64 0)).setCell ⟨W.heap.size, 7, none⟩ (.slice none 0 0)).setCell ⟨g, 0, none⟩ (.int .i32 0))).cell? ⟨W.heap.size, 2, none⟩ = some (.int .i64 0) := cell_of_row _ _ 2 _ _ _ HR5.out
  have zz3 : (((((((((((wL.setCell ⟨mb, mo + k, none⟩ (.bool false)).setCell ⟨W.heap.size, 0, none⟩ (.int .i64 0)).setCell ⟨W.heap.size, 1, none⟩ (.int .i64 0)).setCell ⟨W.heap.size, 2, none⟩ (.int .i64 0)).setCell ⟨W.heap.size, 3, none⟩ (.int .i64 0)).setCell ⟨W.heap.size, 4, none⟩ (.int .i64 0)).setCell ⟨W.heap.size, 5, none⟩ (.int .i64 0)).setCell ⟨W.heap.size, 6, none⟩ (.int .i64 0)).setCell ⟨W.heap.size, 7, none⟩ (.slice none 0 0)).setCell ⟨g, 0, none⟩ (.int .i32 0))).cell? ⟨W.heap.size, 3, none⟩ = some (.int .i64 0) := cell_of_row _ _ 3 _ _ _ HR5.out
  have zz4 : (((((((((((wL.setCell ⟨mb, mo + k, none⟩ (.bool false)).setCell ⟨W.heap.size, 0, none⟩ (.int .i64 0)).setCell ⟨W.heap.size, 1, none⟩ (.int .i64 0)).setCell ⟨W.heap.size, 2, none⟩ (.int .i64 0)).setCell ⟨W.heap.size, 3, none⟩ (.int .i64 0)).setCell ⟨W.heap.size, 4, none⟩ (.int .i64 0)).setCell ⟨W.heap.size, 5, none⟩ (.int .i64 0)).setCell ⟨W.heap.size, 6, none⟩ (.int .i64 0)).setCell ⟨W.heap.size, 7, none⟩ (.slice none 0 0)).setCell ⟨g, 0, none⟩ (.int .i32 0))).cell? ⟨W.heap.size, 4, none⟩ = some (.int .i64 0) := cell_of_row _ _ 4 _ _ _ HR5.out
  have zz5 : (((((((((((wL.setCell ⟨mb, mo + k, none⟩ (.bool false)).setCell ⟨W.heap.size, 0, none⟩ (.int .i64 0)).setCell ⟨W.heap.size, 1, none⟩ (.int .i64 0)).setCell ⟨W.heap.size, 2, none⟩ (.int .i64 0)).setCell ⟨W.heap.size, 3, none⟩ (.int .i64 0)).setCell ⟨W.heap.size, 4, none⟩ (.int .i64 0)).setCell ⟨W.heap.size, 5, none⟩ (.int .i64 0)).setCell ⟨W.heap.size, 6, none⟩ (.int .i64 0)).setCell ⟨W.heap.size, 7, none⟩ (.slice none 0 0)).setCell ⟨g, 0, none⟩ (.int .i32 0))).cell? ⟨W.heap.size, 5, none⟩ = some (.int .i64 0) := cell_of_row _ _ 5 _ _ _ HR5.out
  have zz6 : (((((((((((wL.setCell ⟨mb, mo + k, none⟩ (.bool false)).setCell ⟨W.heap.size, 0, none⟩ (.int .i64 0)).setCell ⟨W.heap.size, 1, none⟩ (.int .i64 0)).setCell ⟨W.heap.size, 2, none⟩ (.int .i64 0)).setCell ⟨W.heap.size, 3, none⟩ (.int .i64 0)).setCell ⟨W.heap.size, 4, none⟩ (.int .i64 0)).setCell ⟨W.heap.size, 5, none⟩ (.int .i64 0)).setCell ⟨W.heap.size, 6, none⟩ (.int .i64 0)).setCell ⟨W.heap.size, 7, none⟩ (.slice none 0 0)).setCell ⟨g, 0, none⟩ (.int .i32 0))).cell? ⟨W.heap.size, 6, none⟩ = some (.int .i64 0) := cell_of_row _ _ 6 _ _ _ HR5.out
  have zz7 : (((((((((((wL.setCell ⟨mb, mo + k, none⟩ (.bool false)).setCell ⟨W.heap.size, 0, none⟩ (.int .i64 0)).setCell ⟨W.heap.size, 1, none⟩ (.int .i64 0)).setCell ⟨W.heap.size, 2, none⟩ (.int .i64 0)).setCell ⟨W.heap.size, 3, none⟩ (.int .i64 0)).setCell ⟨W.heap.size, 4, none⟩ (.int .i64 0)).setCell ⟨W.heap.size, 5, none⟩ (.int .i64 0)).setCell ⟨W.heap.size, 6, none⟩ (.int .i64 0)).setCell ⟨W.heap.size, 7, none⟩ (.slice none 0 0)).setCell ⟨g, 0, none⟩ (.int .i32 0))).cell? ⟨W.heap.size, 7, none⟩ = some (.slice none 0 0) := cell_of_row _ _ 7 _ _ _ HR5.out
  go_wp2
  refine leaves_cons (f := 109) (args := #[.pointer (some ⟨g, 0, none⟩)]) (by simp) (by simp [go_sem]) ?_
  refine (unlock_deferred muLib ⟨g, 0, none⟩ .returning _ HL.out HZ.out).mono ?_
  rintro e u' w'' ⟨rfl, rfl, rfl⟩
  refine ⟨vPacket 0 0 0 0 0 0 0 (.slice none 0 0), by simp [results, go_sem, vPacket, zz0, zz1, zz2, zz3, zz4, zz5, zz6, zz7], _, rfl, HO5.out, HG5.out, ?_, HC5.out⟩
  exact OwU.one owL_nil

set_option maxRecDepth 8000 in
set_option maxHeartbeats 4000000 in
theorem setm_call (W : World) (g lo k : Nat) (i0 id : Int) (v1 v2 : Value) (xs ys : List Bool) (hg_ : W.heap[g]? = some (.cells #[.int .i32 0, .int .u32 0, .int .i64 i0, v1, v2] 92 (0, 0))) (ho_ : OwU W lo g [] [own shB v1 xs, own shB v2 ys]) (hk : k < xs.length) (h8 : xs.length ≤ 8) (hy : ys.length = xs.length) (hp : ys.getD k false = true) :
    Calls Try.prog 72 #[.pointer (some ⟨g, 0, none⟩), .int .i64 id, .int .i64 (k : Int), .bool false] W (GPost g lo i0 v1 v2 (xs.set k false) (ys.set k false) 1 id i0 [(k : Int)] W) := by
  have HP := Lib.hid hp
  clear hp
  obtain ⟨mb, mo, mc, rfl, m1, m2, _, _, _⟩ := vset1 ho_ k hk
  obtain ⟨pb, po, pc, rfl, p1, p2, _, _, _⟩ := vset2 ho_ k (by omega)
  have hgl : g < W.heap.size := lt_of_block hg_
  obtain ⟨nx, hnx⟩ : ∃ n, n = xs.length := ⟨_, rfl⟩
  have HNX := Lib.hid hnx
  rw [hy, ← hnx] at hg_ ho_ ⊢
  have HY := Lib.hid hy
  have hk8 : k < nx := by omega
  have hn8 : nx ≤ 8 := by omega
  have hg := Lib.hid hg_
  have ho := Lib.hid ho_
  clear hg_ ho_ hnx hy hk h8
  have hk0 : (0 : Int) ≤ (k : Int) := by omega
  have hkn : (k : Int) < (nx : Int) := by omega
  have htk : ((k : Int)).toNat = k := by omega
  have ngR : ¬ g = W.heap.size := by omega
  have nRg : ¬ W.heap.size = g := by omega
  have npg : ¬ pb = g := by omega
  have ngp : ¬ g = pb := by omega
  have npR : ¬ pb = W.heap.size := by omega
  have nRp : ¬ W.heap.size = pb := by omega
  have nmg : ¬ mb = g := by omega
  have ngm : ¬ g = mb := by omega
  have nmR : ¬ mb = W.heap.size := by omega
  have nRm : ¬ W.heap.size = mb := by omega
  have HG1 := Lib.hid (show ((W.alloc (.cells #[.int .i64 0, .int .i64 0, .int .i64 0, .int .i64 0, .int .i64 0, .int .i64 0, .int .i64 0, .slice none 0 0] 29))).heap[g]? = some (.cells #[.int .i32 0, .int .u32 0, .int .i64 i0, .slice (some ⟨mb, mo, none⟩) nx mc, .slice (some ⟨pb, po, none⟩) nx pc] 92 (0, 0)) from (row_held (gby_alloc (gby_refl W none) _) hg.out))
  have HR1 := Lib.hid (show ((W.alloc (.cells #[.int .i64 0, .int .i64 0, .int .i64 0, .int .i64 0, .int .i64 0, .int .i64 0, .int .i64 0, .slice none 0 0] 29))).heap[W.heap.size]? = some (.cells #[.int .i64 0, .int .i64 0, .int .i64 0, .int .i64 0, .int .i64 0, .int .i64 0, .int .i64 0, .slice none 0 0] 29 (0, 0)) from (heap_alloc_new W _))
  have HO1 := Lib.hid (show OwU ((W.alloc (.cells #[.int .i64 0, .int .i64 0, .int .i64 0, .int .i64 0, .int .i64 0, .int .i64 0, .int .i64 0, .slice none 0 0] 29))) lo g [] [own shB (.slice (some ⟨mb, mo, none⟩) nx mc) xs, own shB (.slice (some ⟨pb, po, none⟩) nx pc) ys] from (OwU.grow ho.out (gby_alloc (gby_refl W none) _)))
  have HC1 := Lib.hid (show Chg W ((W.alloc (.cells #[.int .i64 0, .int .i64 0, .int .i64 0, .int .i64 0, .int .i64 0, .int .i64 0, .int .i64 0, .slice none 0 0] 29))) lo (g + 1) from (chg_gby (gby_alloc (gby_refl W none) _) lo (g + 1)))
  go_enter_defers Try.func72, Try.ntmps72
  have ag0 : ((W.alloc (.cells #[.int .i64 0, .int .i64 0, .int .i64 0, .int .i64 0, .int .i64 0, .int .i64 0, .int .i64 0, .slice none 0 0] 29))).cell? ⟨g, 0, none⟩ = some (.int .i32 0) := cell_of_row _ _ 0 _ _ _ HG1.out
  have ag1 : ((W.alloc (.cells #[.int .i64 0, .int .i64 0, .int .i64 0, .int .i64 0, .int .i64 0, .int .i64 0, .int .i64 0, .slice none 0 0] 29))).cell? ⟨g, 1, none⟩ = some (.int .u32 0) := cell_of_row _ _ 1 _ _ _ HG1.out
  have ag2 : ((W.alloc (.cells #[.int .i64 0, .int .i64 0, .int .i64 0, .int .i64 0, .int .i64 0, .int .i64 0, .int .i64 0, .slice none 0 0] 29))).cell? ⟨g, 2, none⟩ = some (.int .i64 i0) := cell_of_row _ _ 2 _ _ _ HG1.out
  have ag3 : ((W.alloc (.cells #[.int .i64 0, .int .i64 0, .int .i64 0, .int .i64 0, .int .i64 0, .int .i64 0, .int .i64 0, .slice none 0 0] 29))).cell? ⟨g, 3, none⟩ = some (.slice (some ⟨mb, mo, none⟩) nx mc) := cell_of_row _ _ 3 _ _ _ HG1.out
  have ag4 : ((W.alloc (.cells #[.int .i64 0, .int .i64 0, .int .i64 0, .int .i64 0, .int .i64 0, .int .i64 0, .int .i64 0, .slice none 0 0] 29))).cell? ⟨g, 4, none⟩ = some (.slice (some ⟨pb, po, none⟩) nx pc) := cell_of_row _ _ 4 _ _ _ HG1.out
  have agf : ((W.alloc (.cells #[.int .i64 0, .int .i64 0, .int .i64 0, .int .i64 0, .int .i64 0, .int .i64 0, .int .i64 0, .slice none 0 0] 29))).frozen? ⟨g, 0, none⟩ = false := frozen_of_row _ _ 0 _ _ HG1.out
  go_wp2_with fail
  go_at_call 108
  refine (lock_free muLib ⟨g, 0, none⟩ _ ag0 agf).mono ?_
  rintro e w' ⟨rfl, rfl⟩
  clear ag0 ag1 ag2 ag3 ag4 agf
  have HG2 := Lib.hid (show (((W.alloc (.cells #[.int .i64 0, .int .i64 0, .int .i64 0, .int .i64 0, .int .i64 0, .int .i64 0, .int .i64 0, .slice none 0 0] 29)).setCell ⟨g, 0, none⟩ (.int .i32 1))).heap[g]? = some (.cells #[.int .i32 1, .int .u32 0, .int .i64 i0, .slice (some ⟨mb, mo, none⟩) nx mc, .slice (some ⟨pb, po, none⟩) nx pc] 92 (0, 0)) from (heap_setCell_same _ _ 0 _ _ _ HG1.out))
  have HR2 := Lib.hid (show (((W.alloc (.cells #[.int .i64 0, .int .i64 0, .int .i64 0, .int .i64 0, .int .i64 0, .int .i64 0, .int .i64 0, .slice none 0 0] 29)).setCell ⟨g, 0, none⟩ (.int .i32 1))).heap[W.heap.size]? = some (.cells #[.int .i64 0, .int .i64 0, .int .i64 0, .int .i64 0, .int .i64 0, .int .i64 0, .int .i64 0, .slice none 0 0] 29 (0, 0)) from (set_far HR1.out (by dsimp only; omega)))
  have HO2 := Lib.hid (show OwU (((W.alloc (.cells #[.int .i64 0, .int .i64 0, .int .i64 0, .int .i64 0, .int .i64 0, .int .i64 0, .int .i64 0, .slice none 0 0] 29)).setCell ⟨g, 0, none⟩ (.int .i32 1))) lo g [] [own shB (.slice (some ⟨mb, mo, none⟩) nx mc) xs, own shB (.slice (some ⟨pb, po, none⟩) nx pc) ys] from (OwU.keep (chg_one _ _ _ _) (.inl (Nat.le_refl _)) HO1.out))
  have HC2 := Lib.hid (show Chg W (((W.alloc (.cells #[.int .i64 0, .int .i64 0, .int .i64 0, .int .i64 0, .int .i64 0, .int .i64 0, .int .i64 0, .slice none 0 0] 29)).setCell ⟨g, 0, none⟩ (.int .i32 1))) lo (g + 1) from (chg_setp HC1.out _ (by dsimp only; omega) (by dsimp only; omega) _))
  have szL : (((W.alloc (.cells #[.int .i64 0, .int .i64 0, .int .i64 0, .int .i64 0, .int .i64 0, .int .i64 0, .int .i64 0, .slice none 0 0] 29)).setCell ⟨g, 0, none⟩ (.int .i32 1))).heap.size = W.heap.size + 1 := by simp only [World.size_setCell, World.size_alloc]
  generalize ((W.alloc (.cells #[.int .i64 0, .int .i64 0, .int .i64 0, .int .i64 0, .int .i64 0, .int .i64 0, .int .i64 0, .slice none 0 0] 29)).setCell ⟨g, 0, none⟩ (.int .i32 1)) = wL at HG2 HR2 HO2 HC2 szL ⊢
  clear HG1 HR1 HO1 HC1
  have bg0 : (wL).cell? ⟨g, 0, none⟩ = some (.int .i32 1) := cell_of_row _ _ 0 _ _ _ HG2.out
  have bg1 : (wL).cell? ⟨g, 1, none⟩ = some (.int .u32 0) := cell_of_row _ _ 1 _ _ _ HG2.out
  have bg2 : (wL).cell? ⟨g, 2, none⟩ = some (.int .i64 i0) := cell_of_row _ _ 2 _ _ _ HG2.out
  have bg3 : (wL).cell? ⟨g, 3, none⟩ = some (.slice (some ⟨mb, mo, none⟩) nx mc) := cell_of_row _ _ 3 _ _ _ HG2.out
  have bg4 : (wL).cell? ⟨g, 4, none⟩ = some (.slice (some ⟨pb, po, none⟩) nx pc) := cell_of_row _ _ 4 _ _ _ HG2.out
  obtain ⟨mb_, mo_, mc_, hv1_, _, _, mk_, mf_, hset_⟩ := vset1 HO2.out k (by have := HNX.out; omega)
  injection hv1_ with q1_ q2_ q3_
  injection q1_ with q1_
  injection q1_ with q4_ q5_ _
  subst q4_ q5_
  clear q2_ q3_
  have HSET := Lib.hid (hset_ false)
  clear hset_
  have HG3 := Lib.hid (show ((wL.setCell ⟨mb, mo + k, none⟩ (.bool false))).heap[g]? = some (.cells #[.int .i32 1, .int .u32 0, .int .i64 i0, .slice (some ⟨mb, mo, none⟩) nx mc, .slice (some ⟨pb, po, none⟩) nx pc] 92 (0, 0)) from (set_far HG2.out (by dsimp only; omega)))
  have HR3 := Lib.hid (show ((wL.setCell ⟨mb, mo + k, none⟩ (.bool false))).heap[W.heap.size]? = some (.cells #[.int .i64 0, .int .i64 0, .int .i64 0, .int .i64 0, .int .i64 0, .int .i64 0, .int .i64 0, .slice none 0 0] 29 (0, 0)) from (set_far HR2.out (by dsimp only; omega)))
  have HO3 := Lib.hid (show OwU ((wL.setCell ⟨mb, mo + k, none⟩ (.bool false))) lo g [] [own shB (.slice (some ⟨mb, mo, none⟩) nx mc) (xs.set k false), own shB (.slice (some ⟨pb, po, none⟩) nx pc) ys] from HSET.out)
  have HC3 := Lib.hid (show Chg W ((wL.setCell ⟨mb, mo + k, none⟩ (.bool false))) lo (g + 1) from (chg_setp HC2.out _ (by dsimp only; omega) (by dsimp only; omega) _))
  obtain ⟨pb_, po_, pc_, hv2_, _, _, pk_, pf_, hset2_⟩ := vset2 HO3.out k (by have := HNX.out; have := HY.out; omega)
  injection hv2_ with q1_ q2_ q3_
  injection q1_ with q1_
  injection q1_ with q4_ q5_ _
  subst q4_ q5_
  clear q2_ q3_
  have HSET2 := Lib.hid (hset2_ false)
  clear hset2_
  rw [HP.out] at pk_
  have HG4 := Lib.hid (show (((wL.setCell ⟨mb, mo + k, none⟩ (.bool false)).setCell ⟨pb, po + k, none⟩ (.bool false))).heap[g]? = some (.cells #[.int .i32 1, .int .u32 0, .int .i64 i0, .slice (some ⟨mb, mo, none⟩) nx mc, .slice (some ⟨pb, po, none⟩) nx pc] 92 (0, 0)) from (set_far HG3.out (by dsimp only; omega)))
  have HR4 := Lib.hid (show (((wL.setCell ⟨mb, mo + k, none⟩ (.bool false)).setCell ⟨pb, po + k, none⟩ (.bool false))).heap[W.heap.size]? = some (.cells #[.int .i64 0, .int .i64 0, .int .i64 0, .int .i64 0, .int .i64 0, .int .i64 0, .int .i64 0, .slice none 0 0] 29 (0, 0)) from (set_far HR3.out (by dsimp only; omega)))
  have HO4 := Lib.hid (show OwU (((wL.setCell ⟨mb, mo + k, none⟩ (.bool false)).setCell ⟨pb, po + k, none⟩ (.bool false))) lo g [] [own shB (.slice (some ⟨mb, mo, none⟩) nx mc) (xs.set k false), own shB (.slice (some ⟨pb, po, none⟩) nx pc) (ys.set k false)] from HSET2.out)
  have HC4 := Lib.hid (show Chg W (((wL.setCell ⟨mb, mo + k, none⟩ (.bool false)).setCell ⟨pb, po + k, none⟩ (.bool false))) lo (g + 1) from (chg_setp HC3.out _ (by dsimp only; omega) (by dsimp only; omega) _))
  have HOM := Lib.hid (OwU.rd HO4.out)
  have HOP := Lib.hid (OwU.rd (OwU.tail HO4.out))
  go_wp2_with fail
  go_at_call 110
  refine (callOf_any _ i0 id (k : Int) _ _ _ _ HOM.out HOP.out).mono ?_
  rintro e w9 ⟨v9, rfl, o9, g9⟩
  obtain ⟨va, vn, vc, hv_⟩ := RdL.form (OwU.rd o9)
  subst hv_
  have HV9 := Lib.hid o9
  have HG9 := Lib.hid g9
  have sz9 := g9.size
  try simp only [World.size_setCell, World.size_alloc] at sz9
  clear o9 g9 mk_ pk_ bg0 bg1 bg2 bg3 bg4
  unfold vPacket
  have HG5 := Lib.hid (show (w9).heap[g]? = some (.cells #[.int .i32 1, .int .u32 0, .int .i64 i0, .slice (some ⟨mb, mo, none⟩) nx mc, .slice (some ⟨pb, po, none⟩) nx pc] 92 (0, 0)) from (row_held HG9.out HG4.out))
  have HR5 := Lib.hid (show (w9).heap[W.heap.size]? = some (.cells #[.int .i64 0, .int .i64 0, .int .i64 0, .int .i64 0, .int .i64 0, .int .i64 0, .int .i64 0, .slice none 0 0] 29 (0, 0)) from (row_held HG9.out HR4.out))
  have HO5 := Lib.hid (show OwU (w9) lo g [] [own shB (.slice (some ⟨mb, mo, none⟩) nx mc) (xs.set k false), own shB (.slice (some ⟨pb, po, none⟩) nx pc) (ys.set k false)] from (OwU.grow HO4.out HG9.out))
  have HC5 := Lib.hid (show Chg W (w9) lo (g + 1) from (chg_trans HC4.out (chg_gby HG9.out _ _)))
  have cr0 : (w9).cell? ⟨W.heap.size, 0, none⟩ = some (.int .i64 0) := cell_of_row _ _ 0 _ _ _ HR5.out
  have crf0 : (w9).frozen? ⟨W.heap.size, 0, none⟩ = false := frozen_of_row _ _ 0 _ _ HR5.out
  have cr1 : (w9).cell? ⟨W.heap.size, 1, none⟩ = some (.int .i64 0) := cell_of_row _ _ 1 _ _ _ HR5.out
  have crf1 : (w9).frozen? ⟨W.heap.size, 1, none⟩ = false := frozen_of_row _ _ 1 _ _ HR5.out
  have cr2 : (w9).cell? ⟨W.heap.size, 2, none⟩ = some (.int .i64 0) := cell_of_row _ _ 2 _ _ _ HR5.out
  have crf2 : (w9).frozen? ⟨W.heap.size, 2, none⟩ = false := frozen_of_row _ _ 2 _ _ HR5.out
  have cr3 : (w9).cell? ⟨W.heap.size, 3, none⟩ = some (.int .i64 0) := cell_of_row _ _ 3 _ _ _ HR5.out
  have crf3 : (w9).frozen? ⟨W.heap.size, 3, none⟩ = false := frozen_of_row _ _ 3 _ _ HR5.out
  have cr4 : (w9).cell? ⟨W.heap.size, 4, none⟩ = some (.int .i64 0) := cell_of_row _ _ 4 _ _ _ HR5.out
  have crf4 : (w9).frozen? ⟨W.heap.size, 4, none⟩ = false := frozen_of_row _ _ 4 _ _ HR5.out
  have cr5 : (w9).cell? ⟨W.heap.size, 5, none⟩ = some (.int .i64 0) := cell_of_row _ _ 5 _ _ _ HR5.out
  have crf5 : (w9).frozen? ⟨W.heap.size, 5, none⟩ = false := frozen_of_row _ _ 5 _ _ HR5.out
  have cr6 : (w9).cell? ⟨W.heap.size, 6, none⟩ = some (.int .i64 0) := cell_of_row _ _ 6 _ _ _ HR5.out
  have crf6 : (w9).frozen? ⟨W.heap.size, 6, none⟩ = false := frozen_of_row _ _ 6 _ _ HR5.out
  have cr7 : (w9).cell? ⟨W.heap.size, 7, none⟩ = some (.slice none 0 0) := cell_of_row _ _ 7 _ _ _ HR5.out
  have crf7 : (w9).frozen? ⟨W.heap.size, 7, none⟩ = false := frozen_of_row _ _ 7 _ _ HR5.out
  have HG6 := Lib.hid (show (((((((((w9.setCell ⟨W.heap.size, 0, none⟩ (.int .i64 1)).setCell ⟨W.heap.size, 1, none⟩ (.int .i64 id)).setCell ⟨W.heap.size, 2, none⟩ (.int .i64 0)).setCell ⟨W.heap.size, 3, none⟩ (.int .i64 i0)).setCell ⟨W.heap.size, 4, none⟩ (.int .i64 0)).setCell ⟨W.heap.size, 5, none⟩ (.int .i64 0)).setCell ⟨W.heap.size, 6, none⟩ (.int .i64 0)).setCell ⟨W.heap.size, 7, none⟩ (.slice va vn vc))).heap[g]? = some (.cells #[.int .i32 1, .int .u32 0, .int .i64 i0, .slice (some ⟨mb, mo, none⟩) nx mc, .slice (some ⟨pb, po, none⟩) nx pc] 92 (0, 0)) from (set_far (set_far (set_far (set_far (set_far (set_far (set_far (set_far HG5.out (by dsimp only; omega)) (by dsimp only; omega)) (by dsimp only; omega)) (by dsimp only; omega)) (by dsimp only; omega)) (by dsimp only; omega)) (by dsimp only; omega)) (by dsimp only; omega)))
  have HR6 := Lib.hid (show (((((((((w9.setCell ⟨W.heap.size, 0, none⟩ (.int .i64 1)).setCell ⟨W.heap.size, 1, none⟩ (.int .i64 id)).setCell ⟨W.heap.size, 2, none⟩ (.int .i64 0)).setCell ⟨W.heap.size, 3, none⟩ (.int .i64 i0)).setCell ⟨W.heap.size, 4, none⟩ (.int .i64 0)).setCell ⟨W.heap.size, 5, none⟩ (.int .i64 0)).setCell ⟨W.heap.size, 6, none⟩ (.int .i64 0)).setCell ⟨W.heap.size, 7, none⟩ (.slice va vn vc))).heap[W.heap.size]? = some (.cells #[.int .i64 1, .int .i64 id, .int .i64 0, .int .i64 i0, .int .i64 0, .int .i64 0, .int .i64 0, .slice va vn vc] 29 (0, 0)) from (heap_setCell_same _ _ 7 _ _ _ (heap_setCell_same _ _ 6 _ _ _ (heap_setCell_same _ _ 5 _ _ _ (heap_setCell_same _ _ 4 _ _ _ (heap_setCell_same _ _ 3 _ _ _ (heap_setCell_same _ _ 2 _ _ _ (heap_setCell_same _ _ 1 _ _ _ (heap_setCell_same _ _ 0 _ _ _ HR5.out)))))))))
  have HO6 := Lib.hid (show OwU (((((((((w9.setCell ⟨W.heap.size, 0, none⟩ (.int .i64 1)).setCell ⟨W.heap.size, 1, none⟩ (.int .i64 id)).setCell ⟨W.heap.size, 2, none⟩ (.int .i64 0)).setCell ⟨W.heap.size, 3, none⟩ (.int .i64 i0)).setCell ⟨W.heap.size, 4, none⟩ (.int .i64 0)).setCell ⟨W.heap.size, 5, none⟩ (.int .i64 0)).setCell ⟨W.heap.size, 6, none⟩ (.int .i64 0)).setCell ⟨W.heap.size, 7, none⟩ (.slice va vn vc))) lo g [] [own shB (.slice (some ⟨mb, mo, none⟩) nx mc) (xs.set k false), own shB (.slice (some ⟨pb, po, none⟩) nx pc) (ys.set k false)] from (OwU.keep (chg_one _ _ _ _) (.inl (by omega)) (OwU.keep (chg_one _ _ _ _) (.inl (by omega)) (OwU.keep (chg_one _ _ _ _) (.inl (by omega)) (OwU.keep (chg_one _ _ _ _) (.inl (by omega)) (OwU.keep (chg_one _ _ _ _) (.inl (by omega)) (OwU.keep (chg_one _ _ _ _) (.inl (by omega)) (OwU.keep (chg_one _ _ _ _) (.inl (by omega)) (OwU.keep (chg_one _ _ _ _) (.inl (by omega)) HO5.out)))))))))
  have HC6 := Lib.hid (show Chg W (((((((((w9.setCell ⟨W.heap.size, 0, none⟩ (.int .i64 1)).setCell ⟨W.heap.size, 1, none⟩ (.int .i64 id)).setCell ⟨W.heap.size, 2, none⟩ (.int .i64 0)).setCell ⟨W.heap.size, 3, none⟩ (.int .i64 i0)).setCell ⟨W.heap.size, 4, none⟩ (.int .i64 0)).setCell ⟨W.heap.size, 5, none⟩ (.int .i64 0)).setCell ⟨W.heap.size, 6, none⟩ (.int .i64 0)).setCell ⟨W.heap.size, 7, none⟩ (.slice va vn vc))) lo (g + 1) from (chg_fresh (chg_fresh (chg_fresh (chg_fresh (chg_fresh (chg_fresh (chg_fresh (chg_fresh HC5.out _ (Nat.le_refl _) _) _ (Nat.le_refl _) _) _ (Nat.le_refl _) _) _ (Nat.le_refl _) _) _ (Nat.le_refl _) _) _ (Nat.le_refl _) _) _ (Nat.le_refl _) _) _ (Nat.le_refl _) _))
  have hl_ : (((((((((w9.setCell ⟨W.heap.size, 0, none⟩ (.int .i64 1)).setCell ⟨W.heap.size, 1, none⟩ (.int .i64 id)).setCell ⟨W.heap.size, 2, none⟩ (.int .i64 0)).setCell ⟨W.heap.size, 3, none⟩ (.int .i64 i0)).setCell ⟨W.heap.size, 4, none⟩ (.int .i64 0)).setCell ⟨W.heap.size, 5, none⟩ (.int .i64 0)).setCell ⟨W.heap.size, 6, none⟩ (.int .i64 0)).setCell ⟨W.heap.size, 7, none⟩ (.slice va vn vc))).cell? ⟨g, 0, none⟩ = some (.int .i32 1) := cell_of_row _ _ 0 _ _ _ HG6.out
  have hz_ : (((((((((w9.setCell ⟨W.heap.size, 0, none⟩ (.int .i64 1)).setCell ⟨W.heap.size, 1, none⟩ (.int .i64 id)).setCell ⟨W.heap.size, 2, none⟩ (.int .i64 0)).setCell ⟨W.heap.size, 3, none⟩ (.int .i64 i0)).setCell ⟨W.heap.size, 4, none⟩ (.int .i64 0)).setCell ⟨W.heap.size, 5, none⟩ (.int .i64 0)).setCell ⟨W.heap.size, 6, none⟩ (.int .i64 0)).setCell ⟨W.heap.size, 7, none⟩ (.slice va vn vc))).frozen? ⟨g, 0, none⟩ = false := frozen_of_row _ _ 0 _ _ HG6.out
  have HL := Lib.hid hl_
  have HZ := Lib.hid hz_
  clear hl_ hz_
  have HG7 := Lib.hid (show ((((((((((w9.setCell ⟨W.heap.size, 0, none⟩ (.int .i64 1)).setCell ⟨W.heap.size, 1, none⟩ (.int .i64 id)).setCell ⟨W.heap.size, 2, none⟩ (.int .i64 0)).setCell ⟨W.heap.size, 3, none⟩ (.int .i64 i0)).setCell ⟨W.heap.size, 4, none⟩ (.int .i64 0)).setCell ⟨W.heap.size, 5, none⟩ (.int .i64 0)).setCell ⟨W.heap.size, 6, none⟩ (.int .i64 0)).setCell ⟨W.heap.size, 7, none⟩ (.slice va vn vc)).setCell ⟨g, 0, none⟩ (.int .i32 0))).heap[g]? = some (.cells #[.int .i32 0, .int .u32 0, .int .i64 i0, .slice (some ⟨mb, mo, none⟩) nx mc, .slice (some ⟨pb, po, none⟩) nx pc] 92 (0, 0)) from (heap_setCell_same _ _ 0 _ _ _ HG6.out))
  have HR7 := Lib.hid (show ((((((((((w9.setCell ⟨W.heap.size, 0, none⟩ (.int .i64 1)).setCell ⟨W.heap.size, 1, none⟩ (.int .i64 id)).setCell ⟨W.heap.size, 2, none⟩ (.int .i64 0)).setCell ⟨W.heap.size, 3, none⟩ (.int .i64 i0)).setCell ⟨W.heap.size, 4, none⟩ (.int .i64 0)).setCell ⟨W.heap.size, 5, none⟩ (.int .i64 0)).setCell ⟨W.heap.size, 6, none⟩ (.int .i64 0)).setCell ⟨W.heap.size, 7, none⟩ (.slice va vn vc)).setCell ⟨g, 0, none⟩ (.int .i32 0))).heap[W.heap.size]? = some (.cells #[.int .i64 1, .int .i64 id, .int .i64 0, .int .i64 i0, .int .i64 0, .int .i64 0, .int .i64 0, .slice va vn vc] 29 (0, 0)) from (set_far HR6.out (by dsimp only; omega)))
  have HO7 := Lib.hid (show OwU ((((((((((w9.setCell ⟨W.heap.size, 0, none⟩ (.int .i64 1)).setCell ⟨W.heap.size, 1, none⟩ (.int .i64 id)).setCell ⟨W.heap.size, 2, none⟩ (.int .i64 0)).setCell ⟨W.heap.size, 3, none⟩ (.int .i64 i0)).setCell ⟨W.heap.size, 4, none⟩ (.int .i64 0)).setCell ⟨W.heap.size, 5, none⟩ (.int .i64 0)).setCell ⟨W.heap.size, 6, none⟩ (.int .i64 0)).setCell ⟨W.heap.size, 7, none⟩ (.slice va vn vc)).setCell ⟨g, 0, none⟩ (.int .i32 0))) lo g [] [own shB (.slice (some ⟨mb, mo, none⟩) nx mc) (xs.set k false), own shB (.slice (some ⟨pb, po, none⟩) nx pc) (ys.set k false)] from (OwU.keep (chg_one _ _ _ _) (.inl (Nat.le_refl _)) HO6.out))
  have HC7 := Lib.hid (show Chg W ((((((((((w9.setCell ⟨W.heap.size, 0, none⟩ (.int .i64 1)).setCell ⟨W.heap.size, 1, none⟩ (.int .i64 id)).setCell ⟨W.heap.size, 2, none⟩ (.int .i64 0)).setCell ⟨W.heap.size, 3, none⟩ (.int .i64 i0)).setCell ⟨W.heap.size, 4, none⟩ (.int .i64 0)).setCell ⟨W.heap.size, 5, none⟩ (.int .i64 0)).setCell ⟨W.heap.size, 6, none⟩ (.int .i64 0)).setCell ⟨W.heap.size, 7, none⟩ (.slice va vn vc)).setCell ⟨g, 0, none⟩ (.int .i32 0))) lo (g + 1) from (chg_setp HC6.out _ (by dsimp only; omega) (by dsimp only; omega) _))
  have zz0 : ((((((((((w9.setCell ⟨W.heap.size, 0, none⟩ (.int .i64 1)).setCell ⟨W.heap.size, 1, none⟩ (.int .i64 id)).setCell ⟨W.heap.size, 2, none⟩ (.int .i64 0)).setCell ⟨W.heap.size, 3, none⟩ (.int .i64 i0)).setCell ⟨W.heap.size, 4, none⟩ (.int .i64 0)).setCell ⟨W.heap.size, 5, none⟩ (.int .i64 0)).setCell ⟨W.heap.size, 6, none⟩ (.int .i64 0)).setCell ⟨W.heap.size, 7, none⟩ (.slice va vn vc)).setCell ⟨g, 0, none⟩ (.int .i32 0))).cell? ⟨W.heap.size, 0, none⟩ = some (.int .i64 1) := cell_of_row _ _ 0 _ _ _ HR7.out
  have zz1 : ((((((((((w9.setCell ⟨W.heap.size, 0, none⟩ (.int .i64 1)).setCell ⟨W.heap.size, 1, none⟩ (.int .i64 id)).setCell ⟨W.heap.size, 2, none⟩ (.int .i64 0)).setCell ⟨W.heap.size, 3, none⟩ (.int .i64 i0)).setCell ⟨W.heap.size, 4, none⟩ (.int .i64 0)).setCell ⟨W.heap.size, 5, none⟩ (.int .i64 0)).setCell ⟨W.heap.size, 6, none⟩ (.int .i64 0)).setCell ⟨W.heap.size, 7, none⟩ (.slice va vn vc)).setCell ⟨g, 0, none⟩ (.int .i32 0))).cell? ⟨W.heap.size, 1, none⟩ = some (.int .i64 id) := cell_of_row _ _ 1 _ _ _ HR7.out
  have zz2 : ((((((((((w9.setCell ⟨W.heap.size, 0, none⟩ (.int .i64 1)).setCell ⟨W.heap.size, 1, none⟩ (.int .i64 id)).setCell ⟨W.heap.size, 2, none⟩ (.int .i64 0)).setCell ⟨W.heap.size, 3, none⟩ (.int .i64 i0)).setCell ⟨W.heap.size, 4, none⟩ (.int .i64 0)).setCell ⟨W.heap.size, 5, none⟩ (.int .i64 0)).setCell ⟨W.heap.size, 6, none⟩ (.int .i64 0)).setCell ⟨W.heap.size, 7, none⟩ (.slice va vn vc)).setCell ⟨g, 0, none⟩ (.int .i32 0))).cell? ⟨W.heap.size, 2, none⟩ = some (.int .i64 0) := cell_of_row _ _ 2 _ _ _ HR7.out
  have zz3 : ((((((((((w9.setCell ⟨W.heap.size, 0, none⟩ (.int .i64 1)).setCell ⟨W.heap.size, 1, none⟩ (.int .i64 id)).setCell ⟨W.heap.size, 2, none⟩ (.int .i64 0)).setCell ⟨W.heap.size, 3, none⟩ (.int .i64 i0)).setCell ⟨W.heap.size, 4, none⟩ (.int .i64 0)).setCell ⟨W.heap.size, 5, none⟩ (.int .i64 0)).setCell ⟨W.heap.size, 6, none⟩ (.int .i64 0)).setCell ⟨W.heap.size, 7, none⟩ (.slice va vn vc)).setCell ⟨g, 0, none⟩ (.int .i32 0))).cell? ⟨W.heap.size, 3, none⟩ = some (.int .i64 i0) := cell_of_row _ _ 3 _ _ _ HR7.out
  have zz4 : ((((((((((w9.setCell ⟨W.heap.size, 0, none⟩ (.int .i64 1)).setCell ⟨W.heap.size, 1, none⟩ (.int .i64 id)).setCell ⟨W.heap.size, 2, none⟩ (.int .i64 0)).setCell ⟨W.heap.size, 3, none⟩ (.int .i64 i0)).setCell ⟨W.heap.size, 4, none⟩ (.int .i64 0)).setCell ⟨W.heap.size, 5, none⟩ (.int .i64 0)).setCell ⟨W.heap.size, 6, none⟩ (.int .i64 0)).setCell ⟨W.heap.size, 7, none⟩ (.slice va vn vc)).setCell ⟨g, 0, none⟩ (.int .i32 0))).cell? ⟨W.heap.size, 4, none⟩ = some (.int .i64 0) := cell_of_row _ _ 4 _ _ _ HR7.out
  have zz5 : ((((((((((w9.setCell ⟨W.heap.size, 0, none⟩ (.int .i64 1)).setCell ⟨W.heap.size, 1, none⟩ (.int .i64 id)).setCell ⟨W.heap.size, 2, none⟩ (.int .i64 0)).setCell ⟨W.heap.size, 3, none⟩ (.int .i64 i0)).setCell ⟨W.heap.size, 4, none⟩ (.int .i64 0)).setCell ⟨W.heap.size, 5, none⟩ (.int .i64 0)).setCell ⟨W.heap.size, 6, none⟩ (.int .i64 0)).setCell ⟨W.heap.size, 7, none⟩ (.slice va vn vc)).setCell ⟨g, 0, none⟩ (.int .i32 0))).cell? ⟨W.heap.size, 5, none⟩ = some (.int .i64 0) := cell_of_row _ _ 5 _ _ _ HR7.out
  have zz6 : ((((((((((w9.setCell ⟨W.heap.size, 0, none⟩ (.int .i64 1)).setCell ⟨W.heap.size, 1, none⟩ (.int .i64 id)).setCell ⟨W.heap.size, 2, none⟩ (.int .i64 0)).setCell ⟨W.heap.size, 3, none⟩ (.int .i64 i0)).setCell ⟨W.heap.size, 4, none⟩ (.int .i64 0)).setCell ⟨W.heap.size, 5, none⟩ (.int .i64 0)).setCell ⟨W.heap.size, 6, none⟩ (.int .i64 0)).setCell ⟨W.heap.size, 7, none⟩ (.slice va vn vc)).setCell ⟨g, 0, none⟩ (.int .i32 0))).cell? ⟨W.heap.size, 6, none⟩ = some (.int .i64 0) := cell_of_row _ _ 6 _ _ _ HR7.out
  have zz7 : ((((((((((w9.setCell ⟨W.heap.size, 0, none⟩ (.int .i64 1)).setCell ⟨W.heap.size, 1, none⟩ (.int .i64 id)).setCell ⟨W.heap.size, 2, none⟩ (.int .i64 0)).setCell ⟨W.heap.size, 3, none⟩ (.int .i64 i0)).setCell ⟨W.heap.size, 4, none⟩ (.int .i64 0)).setCell ⟨W.heap.size, 5, none⟩ (.int .i64 0)).setCell ⟨W.heap.size, 6, none⟩ (.int .i64 0)).setCell ⟨W.heap.size, 7, none⟩ (.slice va vn vc)).setCell ⟨g, 0, none⟩ (.int .i32 0))).cell? ⟨W.heap.size, 7, none⟩ = some (.slice va vn vc) := cell_of_row _ _ 7 _ _ _ HR7.out
  go_wp2
  refine leaves_cons (f := 109) (args := #[.pointer (some ⟨g, 0, none⟩)]) (by simp) (by simp [go_sem]) ?_
  refine (unlock_deferred muLib ⟨g, 0, none⟩ .returning _ HL.out HZ.out).mono ?_
  rintro e u' w'' ⟨rfl, rfl, rfl⟩
  refine ⟨vPacket 1 id 0 i0 0 0 0 (.slice va vn vc), by simp [results, go_sem, vPacket, zz0, zz1, zz2, zz3, zz4, zz5, zz6, zz7], _, rfl, HO7.out, HG7.out, ?_, HC7.out⟩
  have HV9W := Lib.hid (show OwU w9 (W.heap.size + 1) w9.heap.size [] [own shI (.slice va vn vc) [(k : Int)]] from by have q := HV9.out; (try simp only [World.size_setCell, World.size_alloc] at q); rw [szL] at q; exact q)
  exact OwU.wide (by omega) (by simp only [World.size_setCell]; omega) (OwU.keep (chg_one _ _ _ _) (.inr (by omega)) (OwU.keep (chg_one _ _ _ _) (.inr (by omega)) (OwU.keep (chg_one _ _ _ _) (.inr (by omega)) (OwU.keep (chg_one _ _ _ _) (.inr (by omega)) (OwU.keep (chg_one _ _ _ _) (.inr (by omega)) (OwU.keep (chg_one _ _ _ _) (.inr (by omega)) (OwU.keep (chg_one _ _ _ _) (.inr (by omega)) (OwU.keep (chg_one _ _ _ _) (.inr (by omega)) (OwU.keep (chg_one _ _ _ _) (.inr (by omega)) HV9W.out)))))))))

end Go.Proofs.Ytomiicegkdogkaa
