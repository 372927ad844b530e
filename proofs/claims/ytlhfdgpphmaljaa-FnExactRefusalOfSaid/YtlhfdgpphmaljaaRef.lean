/-
  Refusals, on both sides; packets copied by the program.
-/
import Derived.Test.YtlhfdgpphmaljaaPkD
import Derived.Test.YtlhfdgpphmaljaaClone
import Derived.Test.YtlhfdgpphmaljaaIdNum
import Derived.Test.YtlhfdgpphmaljaaRRefusalOf
import Derived.Test.YtlhfdgpphmaljaaPlainRow
namespace Go.Proofs.Ytlhfdgpphmaljaa
open Go Go.RowKit
set_option linter.unusedVariables false

theorem cloneN (W : World) (v : Value) (xs : List Int) (H : RdL shI W v xs) (hl : szL shI xs ≤ 1048576) :
    Calls Try.prog 102 #[v] W (fun e w' => ∃ v', e = .returned v' ∧ OwL shI w' W.heap.size w'.heap.size v' xs ∧ W.grownBy w' none) := by
  rw [szL_I] at hl
  refine (clone_any W v xs (rdI_in H) hl).mono ?_
  rintro e w' ⟨v', rfl, o, g⟩
  exact ⟨v', rfl, owI_out (by omega) o, g⟩

set_option maxRecDepth 8000 in
set_option maxHeartbeats 4000000 in
theorem copiedPk_d (W : World) (i0 i1 i2 i3 i4 i5 i6 : Int) (v7 : Value) (xs7 : List Int) (H7 : RdL shI W v7 xs7) (hl : szL shI xs7 ≤ 1048576) :
    Calls Try.prog 88 #[vPacket i0 i1 i2 i3 i4 i5 i6 v7] W (NewPacket i0 i1 i2 i3 i4 i5 i6 xs7 W) := by
  have HX := Lib.hid H7
  clear H7
  unfold vPacket
  go_enter Try.func88, Try.ntmps88
  have rA1_ := Lib.hid (show (((W.alloc (.cells #[.int .i64 i0, .int .i64 i1, .int .i64 i2, .int .i64 i3, .int .i64 i4, .int .i64 i5, .int .i64 i6, v7] 26)).alloc (.cells #[.int .i64 0, .int .i64 0, .int .i64 0, .int .i64 0, .int .i64 0, .int .i64 0, .int .i64 0, .slice none 0 0] 26))).heap[W.heap.size]? = some (.cells #[.int .i64 i0, .int .i64 i1, .int .i64 i2, .int .i64 i3, .int .i64 i4, .int .i64 i5, .int .i64 i6, v7] 26 (0, 0)) from by rw [heap_alloc_old _ _ (by simp only [World.size_alloc]; omega)]; exact heap_alloc_new _ _)
  have rR2_ := Lib.hid (show (((W.alloc (.cells #[.int .i64 i0, .int .i64 i1, .int .i64 i2, .int .i64 i3, .int .i64 i4, .int .i64 i5, .int .i64 i6, v7] 26)).alloc (.cells #[.int .i64 0, .int .i64 0, .int .i64 0, .int .i64 0, .int .i64 0, .int .i64 0, .int .i64 0, .slice none 0 0] 26))).heap[W.heap.size + 1]? = some (.cells #[.int .i64 0, .int .i64 0, .int .i64 0, .int .i64 0, .int .i64 0, .int .i64 0, .int .i64 0, .slice none 0 0] 26 (0, 0)) from by exact heap_pair _ _ _)
  have G3_ := Lib.hid (show (W).grownBy (((W.alloc (.cells #[.int .i64 i0, .int .i64 i1, .int .i64 i2, .int .i64 i3, .int .i64 i4, .int .i64 i5, .int .i64 i6, v7] 26)).alloc (.cells #[.int .i64 0, .int .i64 0, .int .i64 0, .int .i64 0, .int .i64 0, .int .i64 0, .int .i64 0, .slice none 0 0] 26))) none from (gby_alloc (gby_alloc (gby_refl _ _) _) _))
  have A_0_ : (((W.alloc (.cells #[.int .i64 i0, .int .i64 i1, .int .i64 i2, .int .i64 i3, .int .i64 i4, .int .i64 i5, .int .i64 i6, v7] 26)).alloc (.cells #[.int .i64 0, .int .i64 0, .int .i64 0, .int .i64 0, .int .i64 0, .int .i64 0, .int .i64 0, .slice none 0 0] 26))).cell? ⟨W.heap.size, 0, none⟩ = some (.int .i64 i0) := cell_of_row _ _ 0 _ _ _ rA1_.out
  have A_1_ : (((W.alloc (.cells #[.int .i64 i0, .int .i64 i1, .int .i64 i2, .int .i64 i3, .int .i64 i4, .int .i64 i5, .int .i64 i6, v7] 26)).alloc (.cells #[.int .i64 0, .int .i64 0, .int .i64 0, .int .i64 0, .int .i64 0, .int .i64 0, .int .i64 0, .slice none 0 0] 26))).cell? ⟨W.heap.size, 1, none⟩ = some (.int .i64 i1) := cell_of_row _ _ 1 _ _ _ rA1_.out
  have A_2_ : (((W.alloc (.cells #[.int .i64 i0, .int .i64 i1, .int .i64 i2, .int .i64 i3, .int .i64 i4, .int .i64 i5, .int .i64 i6, v7] 26)).alloc (.cells #[.int .i64 0, .int .i64 0, .int .i64 0, .int .i64 0, .int .i64 0, .int .i64 0, .int .i64 0, .slice none 0 0] 26))).cell? ⟨W.heap.size, 2, none⟩ = some (.int .i64 i2) := cell_of_row _ _ 2 _ _ _ rA1_.out
  have A_3_ : (((W.alloc (.cells #[.int .i64 i0, .int .i64 i1, .int .i64 i2, .int .i64 i3, .int .i64 i4, .int .i64 i5, .int .i64 i6, v7] 26)).alloc (.cells #[.int .i64 0, .int .i64 0, .int .i64 0, .int .i64 0, .int .i64 0, .int .i64 0, .int .i64 0, .slice none 0 0] 26))).cell? ⟨W.heap.size, 3, none⟩ = some (.int .i64 i3) := cell_of_row _ _ 3 _ _ _ rA1_.out
  have A_4_ : (((W.alloc (.cells #[.int .i64 i0, .int .i64 i1, .int .i64 i2, .int .i64 i3, .int .i64 i4, .int .i64 i5, .int .i64 i6, v7] 26)).alloc (.cells #[.int .i64 0, .int .i64 0, .int .i64 0, .int .i64 0, .int .i64 0, .int .i64 0, .int .i64 0, .slice none 0 0] 26))).cell? ⟨W.heap.size, 4, none⟩ = some (.int .i64 i4) := cell_of_row _ _ 4 _ _ _ rA1_.out
  have A_5_ : (((W.alloc (.cells #[.int .i64 i0, .int .i64 i1, .int .i64 i2, .int .i64 i3, .int .i64 i4, .int .i64 i5, .int .i64 i6, v7] 26)).alloc (.cells #[.int .i64 0, .int .i64 0, .int .i64 0, .int .i64 0, .int .i64 0, .int .i64 0, .int .i64 0, .slice none 0 0] 26))).cell? ⟨W.heap.size, 5, none⟩ = some (.int .i64 i5) := cell_of_row _ _ 5 _ _ _ rA1_.out
  have A_6_ : (((W.alloc (.cells #[.int .i64 i0, .int .i64 i1, .int .i64 i2, .int .i64 i3, .int .i64 i4, .int .i64 i5, .int .i64 i6, v7] 26)).alloc (.cells #[.int .i64 0, .int .i64 0, .int .i64 0, .int .i64 0, .int .i64 0, .int .i64 0, .int .i64 0, .slice none 0 0] 26))).cell? ⟨W.heap.size, 6, none⟩ = some (.int .i64 i6) := cell_of_row _ _ 6 _ _ _ rA1_.out
  have A_7_ : (((W.alloc (.cells #[.int .i64 i0, .int .i64 i1, .int .i64 i2, .int .i64 i3, .int .i64 i4, .int .i64 i5, .int .i64 i6, v7] 26)).alloc (.cells #[.int .i64 0, .int .i64 0, .int .i64 0, .int .i64 0, .int .i64 0, .int .i64 0, .int .i64 0, .slice none 0 0] 26))).cell? ⟨W.heap.size, 7, none⟩ = some (v7) := cell_of_row _ _ 7 _ _ _ rA1_.out
  have R_0_ : (((W.alloc (.cells #[.int .i64 i0, .int .i64 i1, .int .i64 i2, .int .i64 i3, .int .i64 i4, .int .i64 i5, .int .i64 i6, v7] 26)).alloc (.cells #[.int .i64 0, .int .i64 0, .int .i64 0, .int .i64 0, .int .i64 0, .int .i64 0, .int .i64 0, .slice none 0 0] 26))).cell? ⟨W.heap.size + 1, 0, none⟩ = some (.int .i64 0) := cell_of_row _ _ 0 _ _ _ rR2_.out
  have R_1_ : (((W.alloc (.cells #[.int .i64 i0, .int .i64 i1, .int .i64 i2, .int .i64 i3, .int .i64 i4, .int .i64 i5, .int .i64 i6, v7] 26)).alloc (.cells #[.int .i64 0, .int .i64 0, .int .i64 0, .int .i64 0, .int .i64 0, .int .i64 0, .int .i64 0, .slice none 0 0] 26))).cell? ⟨W.heap.size + 1, 1, none⟩ = some (.int .i64 0) := cell_of_row _ _ 1 _ _ _ rR2_.out
  have R_2_ : (((W.alloc (.cells #[.int .i64 i0, .int .i64 i1, .int .i64 i2, .int .i64 i3, .int .i64 i4, .int .i64 i5, .int .i64 i6, v7] 26)).alloc (.cells #[.int .i64 0, .int .i64 0, .int .i64 0, .int .i64 0, .int .i64 0, .int .i64 0, .int .i64 0, .slice none 0 0] 26))).cell? ⟨W.heap.size + 1, 2, none⟩ = some (.int .i64 0) := cell_of_row _ _ 2 _ _ _ rR2_.out
  have R_3_ : (((W.alloc (.cells #[.int .i64 i0, .int .i64 i1, .int .i64 i2, .int .i64 i3, .int .i64 i4, .int .i64 i5, .int .i64 i6, v7] 26)).alloc (.cells #[.int .i64 0, .int .i64 0, .int .i64 0, .int .i64 0, .int .i64 0, .int .i64 0, .int .i64 0, .slice none 0 0] 26))).cell? ⟨W.heap.size + 1, 3, none⟩ = some (.int .i64 0) := cell_of_row _ _ 3 _ _ _ rR2_.out
  have R_4_ : (((W.alloc (.cells #[.int .i64 i0, .int .i64 i1, .int .i64 i2, .int .i64 i3, .int .i64 i4, .int .i64 i5, .int .i64 i6, v7] 26)).alloc (.cells #[.int .i64 0, .int .i64 0, .int .i64 0, .int .i64 0, .int .i64 0, .int .i64 0, .int .i64 0, .slice none 0 0] 26))).cell? ⟨W.heap.size + 1, 4, none⟩ = some (.int .i64 0) := cell_of_row _ _ 4 _ _ _ rR2_.out
  have R_5_ : (((W.alloc (.cells #[.int .i64 i0, .int .i64 i1, .int .i64 i2, .int .i64 i3, .int .i64 i4, .int .i64 i5, .int .i64 i6, v7] 26)).alloc (.cells #[.int .i64 0, .int .i64 0, .int .i64 0, .int .i64 0, .int .i64 0, .int .i64 0, .int .i64 0, .slice none 0 0] 26))).cell? ⟨W.heap.size + 1, 5, none⟩ = some (.int .i64 0) := cell_of_row _ _ 5 _ _ _ rR2_.out
  have R_6_ : (((W.alloc (.cells #[.int .i64 i0, .int .i64 i1, .int .i64 i2, .int .i64 i3, .int .i64 i4, .int .i64 i5, .int .i64 i6, v7] 26)).alloc (.cells #[.int .i64 0, .int .i64 0, .int .i64 0, .int .i64 0, .int .i64 0, .int .i64 0, .int .i64 0, .slice none 0 0] 26))).cell? ⟨W.heap.size + 1, 6, none⟩ = some (.int .i64 0) := cell_of_row _ _ 6 _ _ _ rR2_.out
  have R_7_ : (((W.alloc (.cells #[.int .i64 i0, .int .i64 i1, .int .i64 i2, .int .i64 i3, .int .i64 i4, .int .i64 i5, .int .i64 i6, v7] 26)).alloc (.cells #[.int .i64 0, .int .i64 0, .int .i64 0, .int .i64 0, .int .i64 0, .int .i64 0, .int .i64 0, .slice none 0 0] 26))).cell? ⟨W.heap.size + 1, 7, none⟩ = some (.slice none 0 0) := cell_of_row _ _ 7 _ _ _ rR2_.out
  go_wp2_with fail
  go_at_call 102
  refine (cloneN _ v7 xs7 (HX.out.grow G3_.out) hl).mono ?_
  rintro e w1 ⟨d, rfl, o, g⟩
  have szc := g.size
  simp only [World.size_alloc] at szc o
  clear A_0_ A_1_ A_2_ A_3_ A_4_ A_5_ A_6_ A_7_ R_0_ R_1_ R_2_ R_3_ R_4_ R_5_ R_6_ R_7_
  have rA4_ := Lib.hid (show (w1).heap[W.heap.size]? = some (.cells #[.int .i64 i0, .int .i64 i1, .int .i64 i2, .int .i64 i3, .int .i64 i4, .int .i64 i5, .int .i64 i6, v7] 26 (0, 0)) from row_held g rA1_.out)
  clear rA1_
  have rR5_ := Lib.hid (show (w1).heap[W.heap.size + 1]? = some (.cells #[.int .i64 0, .int .i64 0, .int .i64 0, .int .i64 0, .int .i64 0, .int .i64 0, .int .i64 0, .slice none 0 0] 26 (0, 0)) from row_held g rR2_.out)
  clear rR2_
  have G6_ := Lib.hid (show (W).grownBy (w1) none from gby_trans G3_.out g)
  clear g
  obtain ⟨pd, nd, cd, hv_⟩ := RdL.form o.rd
  subst hv_
  have oC7_ := Lib.hid (show OwU (w1) (W.heap.size + 1 + 1) (w1.heap.size) [] [own shI (.slice pd nd cd) xs7] from OwU.one o)
  clear o
  have A_0_ : (w1).cell? ⟨W.heap.size, 0, none⟩ = some (.int .i64 i0) := cell_of_row _ _ 0 _ _ _ rA4_.out
  have A_1_ : (w1).cell? ⟨W.heap.size, 1, none⟩ = some (.int .i64 i1) := cell_of_row _ _ 1 _ _ _ rA4_.out
  have A_2_ : (w1).cell? ⟨W.heap.size, 2, none⟩ = some (.int .i64 i2) := cell_of_row _ _ 2 _ _ _ rA4_.out
  have A_3_ : (w1).cell? ⟨W.heap.size, 3, none⟩ = some (.int .i64 i3) := cell_of_row _ _ 3 _ _ _ rA4_.out
  have A_4_ : (w1).cell? ⟨W.heap.size, 4, none⟩ = some (.int .i64 i4) := cell_of_row _ _ 4 _ _ _ rA4_.out
  have A_5_ : (w1).cell? ⟨W.heap.size, 5, none⟩ = some (.int .i64 i5) := cell_of_row _ _ 5 _ _ _ rA4_.out
  have A_6_ : (w1).cell? ⟨W.heap.size, 6, none⟩ = some (.int .i64 i6) := cell_of_row _ _ 6 _ _ _ rA4_.out
  have A_7_ : (w1).cell? ⟨W.heap.size, 7, none⟩ = some (v7) := cell_of_row _ _ 7 _ _ _ rA4_.out
  have Af0_ : (w1).frozen? ⟨W.heap.size, 0, none⟩ = false := frozen_of_row _ _ 0 _ _ rA4_.out
  have Af1_ : (w1).frozen? ⟨W.heap.size, 1, none⟩ = false := frozen_of_row _ _ 1 _ _ rA4_.out
  have Af2_ : (w1).frozen? ⟨W.heap.size, 2, none⟩ = false := frozen_of_row _ _ 2 _ _ rA4_.out
  have Af3_ : (w1).frozen? ⟨W.heap.size, 3, none⟩ = false := frozen_of_row _ _ 3 _ _ rA4_.out
  have Af4_ : (w1).frozen? ⟨W.heap.size, 4, none⟩ = false := frozen_of_row _ _ 4 _ _ rA4_.out
  have Af5_ : (w1).frozen? ⟨W.heap.size, 5, none⟩ = false := frozen_of_row _ _ 5 _ _ rA4_.out
  have Af6_ : (w1).frozen? ⟨W.heap.size, 6, none⟩ = false := frozen_of_row _ _ 6 _ _ rA4_.out
  have Af7_ : (w1).frozen? ⟨W.heap.size, 7, none⟩ = false := frozen_of_row _ _ 7 _ _ rA4_.out
  have R_0_ : (w1).cell? ⟨W.heap.size + 1, 0, none⟩ = some (.int .i64 0) := cell_of_row _ _ 0 _ _ _ rR5_.out
  have R_1_ : (w1).cell? ⟨W.heap.size + 1, 1, none⟩ = some (.int .i64 0) := cell_of_row _ _ 1 _ _ _ rR5_.out
  have R_2_ : (w1).cell? ⟨W.heap.size + 1, 2, none⟩ = some (.int .i64 0) := cell_of_row _ _ 2 _ _ _ rR5_.out
  have R_3_ : (w1).cell? ⟨W.heap.size + 1, 3, none⟩ = some (.int .i64 0) := cell_of_row _ _ 3 _ _ _ rR5_.out
  have R_4_ : (w1).cell? ⟨W.heap.size + 1, 4, none⟩ = some (.int .i64 0) := cell_of_row _ _ 4 _ _ _ rR5_.out
  have R_5_ : (w1).cell? ⟨W.heap.size + 1, 5, none⟩ = some (.int .i64 0) := cell_of_row _ _ 5 _ _ _ rR5_.out
  have R_6_ : (w1).cell? ⟨W.heap.size + 1, 6, none⟩ = some (.int .i64 0) := cell_of_row _ _ 6 _ _ _ rR5_.out
  have R_7_ : (w1).cell? ⟨W.heap.size + 1, 7, none⟩ = some (.slice none 0 0) := cell_of_row _ _ 7 _ _ _ rR5_.out
  have Rf0_ : (w1).frozen? ⟨W.heap.size + 1, 0, none⟩ = false := frozen_of_row _ _ 0 _ _ rR5_.out
  have Rf1_ : (w1).frozen? ⟨W.heap.size + 1, 1, none⟩ = false := frozen_of_row _ _ 1 _ _ rR5_.out
  have Rf2_ : (w1).frozen? ⟨W.heap.size + 1, 2, none⟩ = false := frozen_of_row _ _ 2 _ _ rR5_.out
  have Rf3_ : (w1).frozen? ⟨W.heap.size + 1, 3, none⟩ = false := frozen_of_row _ _ 3 _ _ rR5_.out
  have Rf4_ : (w1).frozen? ⟨W.heap.size + 1, 4, none⟩ = false := frozen_of_row _ _ 4 _ _ rR5_.out
  have Rf5_ : (w1).frozen? ⟨W.heap.size + 1, 5, none⟩ = false := frozen_of_row _ _ 5 _ _ rR5_.out
  have Rf6_ : (w1).frozen? ⟨W.heap.size + 1, 6, none⟩ = false := frozen_of_row _ _ 6 _ _ rR5_.out
  have Rf7_ : (w1).frozen? ⟨W.heap.size + 1, 7, none⟩ = false := frozen_of_row _ _ 7 _ _ rR5_.out
  have sa0_ : (w1.setCell ⟨W.heap.size, 7, none⟩ (.slice pd nd cd)).cell? ⟨W.heap.size, 0, none⟩ = some (.int .i64 i0) := cell_of_row _ _ 0 _ _ _ (heap_setCell_same _ _ 7 _ _ (.slice pd nd cd) rA4_.out)
  have sa1_ : (w1.setCell ⟨W.heap.size, 7, none⟩ (.slice pd nd cd)).cell? ⟨W.heap.size, 1, none⟩ = some (.int .i64 i1) := cell_of_row _ _ 1 _ _ _ (heap_setCell_same _ _ 7 _ _ (.slice pd nd cd) rA4_.out)
  have sa2_ : (w1.setCell ⟨W.heap.size, 7, none⟩ (.slice pd nd cd)).cell? ⟨W.heap.size, 2, none⟩ = some (.int .i64 i2) := cell_of_row _ _ 2 _ _ _ (heap_setCell_same _ _ 7 _ _ (.slice pd nd cd) rA4_.out)
  have sa3_ : (w1.setCell ⟨W.heap.size, 7, none⟩ (.slice pd nd cd)).cell? ⟨W.heap.size, 3, none⟩ = some (.int .i64 i3) := cell_of_row _ _ 3 _ _ _ (heap_setCell_same _ _ 7 _ _ (.slice pd nd cd) rA4_.out)
  have sa4_ : (w1.setCell ⟨W.heap.size, 7, none⟩ (.slice pd nd cd)).cell? ⟨W.heap.size, 4, none⟩ = some (.int .i64 i4) := cell_of_row _ _ 4 _ _ _ (heap_setCell_same _ _ 7 _ _ (.slice pd nd cd) rA4_.out)
  have sa5_ : (w1.setCell ⟨W.heap.size, 7, none⟩ (.slice pd nd cd)).cell? ⟨W.heap.size, 5, none⟩ = some (.int .i64 i5) := cell_of_row _ _ 5 _ _ _ (heap_setCell_same _ _ 7 _ _ (.slice pd nd cd) rA4_.out)
  have sa6_ : (w1.setCell ⟨W.heap.size, 7, none⟩ (.slice pd nd cd)).cell? ⟨W.heap.size, 6, none⟩ = some (.int .i64 i6) := cell_of_row _ _ 6 _ _ _ (heap_setCell_same _ _ 7 _ _ (.slice pd nd cd) rA4_.out)
  have sa7_ : (w1.setCell ⟨W.heap.size, 7, none⟩ (.slice pd nd cd)).cell? ⟨W.heap.size, 7, none⟩ = some (.slice pd nd cd) := cell_of_row _ _ 7 _ _ _ (heap_setCell_same _ _ 7 _ _ (.slice pd nd cd) rA4_.out)
  have sr0_ : (w1.setCell ⟨W.heap.size, 7, none⟩ (.slice pd nd cd)).cell? ⟨W.heap.size + 1, 0, none⟩ = some (.int .i64 0) := cell_of_row _ _ 0 _ _ _ (set_far (p := ⟨W.heap.size, 7, none⟩) (v := .slice pd nd cd) rR5_.out (by dsimp only; omega))
  have sf0_ : (w1.setCell ⟨W.heap.size, 7, none⟩ (.slice pd nd cd)).frozen? ⟨W.heap.size + 1, 0, none⟩ = false := frozen_of_row _ _ 0 _ _ (set_far (p := ⟨W.heap.size, 7, none⟩) (v := .slice pd nd cd) rR5_.out (by dsimp only; omega))
  have sr1_ : (w1.setCell ⟨W.heap.size, 7, none⟩ (.slice pd nd cd)).cell? ⟨W.heap.size + 1, 1, none⟩ = some (.int .i64 0) := cell_of_row _ _ 1 _ _ _ (set_far (p := ⟨W.heap.size, 7, none⟩) (v := .slice pd nd cd) rR5_.out (by dsimp only; omega))
  have sf1_ : (w1.setCell ⟨W.heap.size, 7, none⟩ (.slice pd nd cd)).frozen? ⟨W.heap.size + 1, 1, none⟩ = false := frozen_of_row _ _ 1 _ _ (set_far (p := ⟨W.heap.size, 7, none⟩) (v := .slice pd nd cd) rR5_.out (by dsimp only; omega))
  have sr2_ : (w1.setCell ⟨W.heap.size, 7, none⟩ (.slice pd nd cd)).cell? ⟨W.heap.size + 1, 2, none⟩ = some (.int .i64 0) := cell_of_row _ _ 2 _ _ _ (set_far (p := ⟨W.heap.size, 7, none⟩) (v := .slice pd nd cd) rR5_.out (by dsimp only; omega))
  have sf2_ : (w1.setCell ⟨W.heap.size, 7, none⟩ (.slice pd nd cd)).frozen? ⟨W.heap.size + 1, 2, none⟩ = false := frozen_of_row _ _ 2 _ _ (set_far (p := ⟨W.heap.size, 7, none⟩) (v := .slice pd nd cd) rR5_.out (by dsimp only; omega))
  have sr3_ : (w1.setCell ⟨W.heap.size, 7, none⟩ (.slice pd nd cd)).cell? ⟨W.heap.size + 1, 3, none⟩ = some (.int .i64 0) := cell_of_row _ _ 3 _ _ _ (set_far (p := ⟨W.heap.size, 7, none⟩) (v := .slice pd nd cd) rR5_.out (by dsimp only; omega))
  have sf3_ : (w1.setCell ⟨W.heap.size, 7, none⟩ (.slice pd nd cd)).frozen? ⟨W.heap.size + 1, 3, none⟩ = false := frozen_of_row _ _ 3 _ _ (set_far (p := ⟨W.heap.size, 7, none⟩) (v := .slice pd nd cd) rR5_.out (by dsimp only; omega))
  have sr4_ : (w1.setCell ⟨W.heap.size, 7, none⟩ (.slice pd nd cd)).cell? ⟨W.heap.size + 1, 4, none⟩ = some (.int .i64 0) := cell_of_row _ _ 4 _ _ _ (set_far (p := ⟨W.heap.size, 7, none⟩) (v := .slice pd nd cd) rR5_.out (by dsimp only; omega))
  have sf4_ : (w1.setCell ⟨W.heap.size, 7, none⟩ (.slice pd nd cd)).frozen? ⟨W.heap.size + 1, 4, none⟩ = false := frozen_of_row _ _ 4 _ _ (set_far (p := ⟨W.heap.size, 7, none⟩) (v := .slice pd nd cd) rR5_.out (by dsimp only; omega))
  have sr5_ : (w1.setCell ⟨W.heap.size, 7, none⟩ (.slice pd nd cd)).cell? ⟨W.heap.size + 1, 5, none⟩ = some (.int .i64 0) := cell_of_row _ _ 5 _ _ _ (set_far (p := ⟨W.heap.size, 7, none⟩) (v := .slice pd nd cd) rR5_.out (by dsimp only; omega))
  have sf5_ : (w1.setCell ⟨W.heap.size, 7, none⟩ (.slice pd nd cd)).frozen? ⟨W.heap.size + 1, 5, none⟩ = false := frozen_of_row _ _ 5 _ _ (set_far (p := ⟨W.heap.size, 7, none⟩) (v := .slice pd nd cd) rR5_.out (by dsimp only; omega))
  have sr6_ : (w1.setCell ⟨W.heap.size, 7, none⟩ (.slice pd nd cd)).cell? ⟨W.heap.size + 1, 6, none⟩ = some (.int .i64 0) := cell_of_row _ _ 6 _ _ _ (set_far (p := ⟨W.heap.size, 7, none⟩) (v := .slice pd nd cd) rR5_.out (by dsimp only; omega))
  have sf6_ : (w1.setCell ⟨W.heap.size, 7, none⟩ (.slice pd nd cd)).frozen? ⟨W.heap.size + 1, 6, none⟩ = false := frozen_of_row _ _ 6 _ _ (set_far (p := ⟨W.heap.size, 7, none⟩) (v := .slice pd nd cd) rR5_.out (by dsimp only; omega))
  have sr7_ : (w1.setCell ⟨W.heap.size, 7, none⟩ (.slice pd nd cd)).cell? ⟨W.heap.size + 1, 7, none⟩ = some (.slice none 0 0) := cell_of_row _ _ 7 _ _ _ (set_far (p := ⟨W.heap.size, 7, none⟩) (v := .slice pd nd cd) rR5_.out (by dsimp only; omega))
  have sf7_ : (w1.setCell ⟨W.heap.size, 7, none⟩ (.slice pd nd cd)).frozen? ⟨W.heap.size + 1, 7, none⟩ = false := frozen_of_row _ _ 7 _ _ (set_far (p := ⟨W.heap.size, 7, none⟩) (v := .slice pd nd cd) rR5_.out (by dsimp only; omega))
  go_wp2
  refine bodyPost_ret (v := .agg #[.int .i64 i0, .int .i64 i1, .int .i64 i2, .int .i64 i3, .int .i64 i4, .int .i64 i5, .int .i64 i6, .slice pd nd cd]) (by simp [results, go_sem, sr0_, sr1_, sr2_, sr3_, sr4_, sr5_, sr6_, sr7_]) rfl ⟨_, rfl, ?_, ?_⟩
  · refine OwU.wide (lo := W.heap.size + 1 + 1) (hi := w1.heap.size) (by omega) (by simp) (OwU.keep (w := w1) (lo' := W.heap.size) (hi' := W.heap.size + 2) ?_ (.inr (by omega)) oC7_.out)
    repeat (with_reducible refine chg_setp ?_ _ (by dsimp only; omega) (by dsimp only; omega) _)
    exact chg_gby (gby_refl _ _) _ _
  · repeat (with_reducible refine gby_setnew ?_ _ (by first | omega | (dsimp only; omega)) _)
    exact G6_.out

set_option maxRecDepth 8000 in
set_option maxHeartbeats 4000000 in
theorem answerTo_none (W : World) (i0 i1 i2 i3 i4 i5 i6 : Int) (v7 : Value) (b s : Int) :
    Calls Try.prog 61 #[vPacket i0 i1 i2 i3 i4 i5 i6 v7, .int .i64 b, .int .i64 s, .slice none 0 0] W (NewPacket 6 b i1 0 0 i5 s [] W) := by
  unfold vPacket
  go_enter Try.func61, Try.ntmps61
  have rA1_ := Lib.hid (show (((W.alloc (.cells #[.int .i64 i0, .int .i64 i1, .int .i64 i2, .int .i64 i3, .int .i64 i4, .int .i64 i5, .int .i64 i6, v7] 26)).alloc (.cells #[.int .i64 0, .int .i64 0, .int .i64 0, .int .i64 0, .int .i64 0, .int .i64 0, .int .i64 0, .slice none 0 0] 26))).heap[W.heap.size]? = some (.cells #[.int .i64 i0, .int .i64 i1, .int .i64 i2, .int .i64 i3, .int .i64 i4, .int .i64 i5, .int .i64 i6, v7] 26 (0, 0)) from by rw [heap_alloc_old _ _ (by simp only [World.size_alloc]; omega)]; exact heap_alloc_new _ _)
  have rR2_ := Lib.hid (show (((W.alloc (.cells #[.int .i64 i0, .int .i64 i1, .int .i64 i2, .int .i64 i3, .int .i64 i4, .int .i64 i5, .int .i64 i6, v7] 26)).alloc (.cells #[.int .i64 0, .int .i64 0, .int .i64 0, .int .i64 0, .int .i64 0, .int .i64 0, .int .i64 0, .slice none 0 0] 26))).heap[W.heap.size + 1]? = some (.cells #[.int .i64 0, .int .i64 0, .int .i64 0, .int .i64 0, .int .i64 0, .int .i64 0, .int .i64 0, .slice none 0 0] 26 (0, 0)) from by exact heap_pair _ _ _)
  have G3_ := Lib.hid (show (W).grownBy (((W.alloc (.cells #[.int .i64 i0, .int .i64 i1, .int .i64 i2, .int .i64 i3, .int .i64 i4, .int .i64 i5, .int .i64 i6, v7] 26)).alloc (.cells #[.int .i64 0, .int .i64 0, .int .i64 0, .int .i64 0, .int .i64 0, .int .i64 0, .int .i64 0, .slice none 0 0] 26))) none from (gby_alloc (gby_alloc (gby_refl _ _) _) _))
  have A_0_ : (((W.alloc (.cells #[.int .i64 i0, .int .i64 i1, .int .i64 i2, .int .i64 i3, .int .i64 i4, .int .i64 i5, .int .i64 i6, v7] 26)).alloc (.cells #[.int .i64 0, .int .i64 0, .int .i64 0, .int .i64 0, .int .i64 0, .int .i64 0, .int .i64 0, .slice none 0 0] 26))).cell? ⟨W.heap.size, 0, none⟩ = some (.int .i64 i0) := cell_of_row _ _ 0 _ _ _ rA1_.out
  have A_1_ : (((W.alloc (.cells #[.int .i64 i0, .int .i64 i1, .int .i64 i2, .int .i64 i3, .int .i64 i4, .int .i64 i5, .int .i64 i6, v7] 26)).alloc (.cells #[.int .i64 0, .int .i64 0, .int .i64 0, .int .i64 0, .int .i64 0, .int .i64 0, .int .i64 0, .slice none 0 0] 26))).cell? ⟨W.heap.size, 1, none⟩ = some (.int .i64 i1) := cell_of_row _ _ 1 _ _ _ rA1_.out
  have A_2_ : (((W.alloc (.cells #[.int .i64 i0, .int .i64 i1, .int .i64 i2, .int .i64 i3, .int .i64 i4, .int .i64 i5, .int .i64 i6, v7] 26)).alloc (.cells #[.int .i64 0, .int .i64 0, .int .i64 0, .int .i64 0, .int .i64 0, .int .i64 0, .int .i64 0, .slice none 0 0] 26))).cell? ⟨W.heap.size, 2, none⟩ = some (.int .i64 i2) := cell_of_row _ _ 2 _ _ _ rA1_.out
  have A_3_ : (((W.alloc (.cells #[.int .i64 i0, .int .i64 i1, .int .i64 i2, .int .i64 i3, .int .i64 i4, .int .i64 i5, .int .i64 i6, v7] 26)).alloc (.cells #[.int .i64 0, .int .i64 0, .int .i64 0, .int .i64 0, .int .i64 0, .int .i64 0, .int .i64 0, .slice none 0 0] 26))).cell? ⟨W.heap.size, 3, none⟩ = some (.int .i64 i3) := cell_of_row _ _ 3 _ _ _ rA1_.out
  have A_4_ : (((W.alloc (.cells #[.int .i64 i0, .int .i64 i1, .int .i64 i2, .int .i64 i3, .int .i64 i4, .int .i64 i5, .int .i64 i6, v7] 26)).alloc (.cells #[.int .i64 0, .int .i64 0, .int .i64 0, .int .i64 0, .int .i64 0, .int .i64 0, .int .i64 0, .slice none 0 0] 26))).cell? ⟨W.heap.size, 4, none⟩ = some (.int .i64 i4) := cell_of_row _ _ 4 _ _ _ rA1_.out
  have A_5_ : (((W.alloc (.cells #[.int .i64 i0, .int .i64 i1, .int .i64 i2, .int .i64 i3, .int .i64 i4, .int .i64 i5, .int .i64 i6, v7] 26)).alloc (.cells #[.int .i64 0, .int .i64 0, .int .i64 0, .int .i64 0, .int .i64 0, .int .i64 0, .int .i64 0, .slice none 0 0] 26))).cell? ⟨W.heap.size, 5, none⟩ = some (.int .i64 i5) := cell_of_row _ _ 5 _ _ _ rA1_.out
  have A_6_ : (((W.alloc (.cells #[.int .i64 i0, .int .i64 i1, .int .i64 i2, .int .i64 i3, .int .i64 i4, .int .i64 i5, .int .i64 i6, v7] 26)).alloc (.cells #[.int .i64 0, .int .i64 0, .int .i64 0, .int .i64 0, .int .i64 0, .int .i64 0, .int .i64 0, .slice none 0 0] 26))).cell? ⟨W.heap.size, 6, none⟩ = some (.int .i64 i6) := cell_of_row _ _ 6 _ _ _ rA1_.out
  have A_7_ : (((W.alloc (.cells #[.int .i64 i0, .int .i64 i1, .int .i64 i2, .int .i64 i3, .int .i64 i4, .int .i64 i5, .int .i64 i6, v7] 26)).alloc (.cells #[.int .i64 0, .int .i64 0, .int .i64 0, .int .i64 0, .int .i64 0, .int .i64 0, .int .i64 0, .slice none 0 0] 26))).cell? ⟨W.heap.size, 7, none⟩ = some (v7) := cell_of_row _ _ 7 _ _ _ rA1_.out
  have R_0_ : (((W.alloc (.cells #[.int .i64 i0, .int .i64 i1, .int .i64 i2, .int .i64 i3, .int .i64 i4, .int .i64 i5, .int .i64 i6, v7] 26)).alloc (.cells #[.int .i64 0, .int .i64 0, .int .i64 0, .int .i64 0, .int .i64 0, .int .i64 0, .int .i64 0, .slice none 0 0] 26))).cell? ⟨W.heap.size + 1, 0, none⟩ = some (.int .i64 0) := cell_of_row _ _ 0 _ _ _ rR2_.out
  have R_1_ : (((W.alloc (.cells #[.int .i64 i0, .int .i64 i1, .int .i64 i2, .int .i64 i3, .int .i64 i4, .int .i64 i5, .int .i64 i6, v7] 26)).alloc (.cells #[.int .i64 0, .int .i64 0, .int .i64 0, .int .i64 0, .int .i64 0, .int .i64 0, .int .i64 0, .slice none 0 0] 26))).cell? ⟨W.heap.size + 1, 1, none⟩ = some (.int .i64 0) := cell_of_row _ _ 1 _ _ _ rR2_.out
  have R_2_ : (((W.alloc (.cells #[.int .i64 i0, .int .i64 i1, .int .i64 i2, .int .i64 i3, .int .i64 i4, .int .i64 i5, .int .i64 i6, v7] 26)).alloc (.cells #[.int .i64 0, .int .i64 0, .int .i64 0, .int .i64 0, .int .i64 0, .int .i64 0, .int .i64 0, .slice none 0 0] 26))).cell? ⟨W.heap.size + 1, 2, none⟩ = some (.int .i64 0) := cell_of_row _ _ 2 _ _ _ rR2_.out
  have R_3_ : (((W.alloc (.cells #[.int .i64 i0, .int .i64 i1, .int .i64 i2, .int .i64 i3, .int .i64 i4, .int .i64 i5, .int .i64 i6, v7] 26)).alloc (.cells #[.int .i64 0, .int .i64 0, .int .i64 0, .int .i64 0, .int .i64 0, .int .i64 0, .int .i64 0, .slice none 0 0] 26))).cell? ⟨W.heap.size + 1, 3, none⟩ = some (.int .i64 0) := cell_of_row _ _ 3 _ _ _ rR2_.out
  have R_4_ : (((W.alloc (.cells #[.int .i64 i0, .int .i64 i1, .int .i64 i2, .int .i64 i3, .int .i64 i4, .int .i64 i5, .int .i64 i6, v7] 26)).alloc (.cells #[.int .i64 0, .int .i64 0, .int .i64 0, .int .i64 0, .int .i64 0, .int .i64 0, .int .i64 0, .slice none 0 0] 26))).cell? ⟨W.heap.size + 1, 4, none⟩ = some (.int .i64 0) := cell_of_row _ _ 4 _ _ _ rR2_.out
  have R_5_ : (((W.alloc (.cells #[.int .i64 i0, .int .i64 i1, .int .i64 i2, .int .i64 i3, .int .i64 i4, .int .i64 i5, .int .i64 i6, v7] 26)).alloc (.cells #[.int .i64 0, .int .i64 0, .int .i64 0, .int .i64 0, .int .i64 0, .int .i64 0, .int .i64 0, .slice none 0 0] 26))).cell? ⟨W.heap.size + 1, 5, none⟩ = some (.int .i64 0) := cell_of_row _ _ 5 _ _ _ rR2_.out
  have R_6_ : (((W.alloc (.cells #[.int .i64 i0, .int .i64 i1, .int .i64 i2, .int .i64 i3, .int .i64 i4, .int .i64 i5, .int .i64 i6, v7] 26)).alloc (.cells #[.int .i64 0, .int .i64 0, .int .i64 0, .int .i64 0, .int .i64 0, .int .i64 0, .int .i64 0, .slice none 0 0] 26))).cell? ⟨W.heap.size + 1, 6, none⟩ = some (.int .i64 0) := cell_of_row _ _ 6 _ _ _ rR2_.out
  have R_7_ : (((W.alloc (.cells #[.int .i64 i0, .int .i64 i1, .int .i64 i2, .int .i64 i3, .int .i64 i4, .int .i64 i5, .int .i64 i6, v7] 26)).alloc (.cells #[.int .i64 0, .int .i64 0, .int .i64 0, .int .i64 0, .int .i64 0, .int .i64 0, .int .i64 0, .slice none 0 0] 26))).cell? ⟨W.heap.size + 1, 7, none⟩ = some (.slice none 0 0) := cell_of_row _ _ 7 _ _ _ rR2_.out
  have al : (((W.alloc (.cells #[.int .i64 i0, .int .i64 i1, .int .i64 i2, .int .i64 i3, .int .i64 i4, .int .i64 i5, .int .i64 i6, v7] 26)).alloc (.cells #[.int .i64 0, .int .i64 0, .int .i64 0, .int .i64 0, .int .i64 0, .int .i64 0, .int .i64 0, .slice none 0 0] 26))).grownBy ((((W.alloc (.cells #[.int .i64 i0, .int .i64 i1, .int .i64 i2, .int .i64 i3, .int .i64 i4, .int .i64 i5, .int .i64 i6, v7] 26)).alloc (.cells #[.int .i64 0, .int .i64 0, .int .i64 0, .int .i64 0, .int .i64 0, .int .i64 0, .int .i64 0, .slice none 0 0] 26))).alloc (.cells #[.int .i64 6, .int .i64 b, .int .i64 i1, .int .i64 0, .int .i64 0, .int .i64 i5, .int .i64 s, .slice none 0 0] 26)) none := gby_alloc (gby_refl _ _) _
  go_wp2_with fail
  go_at_call 88
  clear A_0_ A_1_ A_2_ A_3_ A_4_ A_5_ A_6_ A_7_ R_0_ R_1_ R_2_ R_3_ R_4_ R_5_ R_6_ R_7_
  have rA4_ := Lib.hid (show ((((W.alloc (.cells #[.int .i64 i0, .int .i64 i1, .int .i64 i2, .int .i64 i3, .int .i64 i4, .int .i64 i5, .int .i64 i6, v7] 26)).alloc (.cells #[.int .i64 0, .int .i64 0, .int .i64 0, .int .i64 0, .int .i64 0, .int .i64 0, .int .i64 0, .slice none 0 0] 26)).alloc (.cells #[.int .i64 6, .int .i64 b, .int .i64 i1, .int .i64 0, .int .i64 0, .int .i64 i5, .int .i64 s, .slice none 0 0] 26))).heap[W.heap.size]? = some (.cells #[.int .i64 i0, .int .i64 i1, .int .i64 i2, .int .i64 i3, .int .i64 i4, .int .i64 i5, .int .i64 i6, v7] 26 (0, 0)) from row_held al rA1_.out)
  clear rA1_
  have rR5_ := Lib.hid (show ((((W.alloc (.cells #[.int .i64 i0, .int .i64 i1, .int .i64 i2, .int .i64 i3, .int .i64 i4, .int .i64 i5, .int .i64 i6, v7] 26)).alloc (.cells #[.int .i64 0, .int .i64 0, .int .i64 0, .int .i64 0, .int .i64 0, .int .i64 0, .int .i64 0, .slice none 0 0] 26)).alloc (.cells #[.int .i64 6, .int .i64 b, .int .i64 i1, .int .i64 0, .int .i64 0, .int .i64 i5, .int .i64 s, .slice none 0 0] 26))).heap[W.heap.size + 1]? = some (.cells #[.int .i64 0, .int .i64 0, .int .i64 0, .int .i64 0, .int .i64 0, .int .i64 0, .int .i64 0, .slice none 0 0] 26 (0, 0)) from row_held al rR2_.out)
  clear rR2_
  have G6_ := Lib.hid (show (W).grownBy ((((W.alloc (.cells #[.int .i64 i0, .int .i64 i1, .int .i64 i2, .int .i64 i3, .int .i64 i4, .int .i64 i5, .int .i64 i6, v7] 26)).alloc (.cells #[.int .i64 0, .int .i64 0, .int .i64 0, .int .i64 0, .int .i64 0, .int .i64 0, .int .i64 0, .slice none 0 0] 26)).alloc (.cells #[.int .i64 6, .int .i64 b, .int .i64 i1, .int .i64 0, .int .i64 0, .int .i64 i5, .int .i64 s, .slice none 0 0] 26))) none from gby_trans G3_.out al)
  clear al
  refine (copiedPk_d _ 6 b i1 0 0 i5 s _ [] (owL_nil (lo := 0) (hi := 0)).rd (by rw [szL_I]; simp)).mono ?_
  rintro e w1 ⟨d7, rfl, o, g⟩
  have szc := g.size
  simp only [World.size_alloc] at szc o
  obtain ⟨pd, nd, cd, hv_⟩ := RdL.form (OwU.rd o)
  subst hv_
  have rA7_ := Lib.hid (show (w1).heap[W.heap.size]? = some (.cells #[.int .i64 i0, .int .i64 i1, .int .i64 i2, .int .i64 i3, .int .i64 i4, .int .i64 i5, .int .i64 i6, v7] 26 (0, 0)) from row_held g rA4_.out)
  clear rA4_
  have rR8_ := Lib.hid (show (w1).heap[W.heap.size + 1]? = some (.cells #[.int .i64 0, .int .i64 0, .int .i64 0, .int .i64 0, .int .i64 0, .int .i64 0, .int .i64 0, .slice none 0 0] 26 (0, 0)) from row_held g rR5_.out)
  clear rR5_
  have G9_ := Lib.hid (show (W).grownBy (w1) none from gby_trans G6_.out g)
  clear g
  have oC10_ := Lib.hid (show OwU (w1) (W.heap.size + 1 + 1 + 1) (w1.heap.size) [] [own shI (.slice pd nd cd) []] from o)
  clear o
  unfold vPacket
  have A_0_ : (w1).cell? ⟨W.heap.size, 0, none⟩ = some (.int .i64 i0) := cell_of_row _ _ 0 _ _ _ rA7_.out
  have A_1_ : (w1).cell? ⟨W.heap.size, 1, none⟩ = some (.int .i64 i1) := cell_of_row _ _ 1 _ _ _ rA7_.out
  have A_2_ : (w1).cell? ⟨W.heap.size, 2, none⟩ = some (.int .i64 i2) := cell_of_row _ _ 2 _ _ _ rA7_.out
  have A_3_ : (w1).cell? ⟨W.heap.size, 3, none⟩ = some (.int .i64 i3) := cell_of_row _ _ 3 _ _ _ rA7_.out
  have A_4_ : (w1).cell? ⟨W.heap.size, 4, none⟩ = some (.int .i64 i4) := cell_of_row _ _ 4 _ _ _ rA7_.out
  have A_5_ : (w1).cell? ⟨W.heap.size, 5, none⟩ = some (.int .i64 i5) := cell_of_row _ _ 5 _ _ _ rA7_.out
  have A_6_ : (w1).cell? ⟨W.heap.size, 6, none⟩ = some (.int .i64 i6) := cell_of_row _ _ 6 _ _ _ rA7_.out
  have A_7_ : (w1).cell? ⟨W.heap.size, 7, none⟩ = some (v7) := cell_of_row _ _ 7 _ _ _ rA7_.out
  have R_0_ : (w1).cell? ⟨W.heap.size + 1, 0, none⟩ = some (.int .i64 0) := cell_of_row _ _ 0 _ _ _ rR8_.out
  have R_1_ : (w1).cell? ⟨W.heap.size + 1, 1, none⟩ = some (.int .i64 0) := cell_of_row _ _ 1 _ _ _ rR8_.out
  have R_2_ : (w1).cell? ⟨W.heap.size + 1, 2, none⟩ = some (.int .i64 0) := cell_of_row _ _ 2 _ _ _ rR8_.out
  have R_3_ : (w1).cell? ⟨W.heap.size + 1, 3, none⟩ = some (.int .i64 0) := cell_of_row _ _ 3 _ _ _ rR8_.out
  have R_4_ : (w1).cell? ⟨W.heap.size + 1, 4, none⟩ = some (.int .i64 0) := cell_of_row _ _ 4 _ _ _ rR8_.out
  have R_5_ : (w1).cell? ⟨W.heap.size + 1, 5, none⟩ = some (.int .i64 0) := cell_of_row _ _ 5 _ _ _ rR8_.out
  have R_6_ : (w1).cell? ⟨W.heap.size + 1, 6, none⟩ = some (.int .i64 0) := cell_of_row _ _ 6 _ _ _ rR8_.out
  have R_7_ : (w1).cell? ⟨W.heap.size + 1, 7, none⟩ = some (.slice none 0 0) := cell_of_row _ _ 7 _ _ _ rR8_.out
  have Rf0_ : (w1).frozen? ⟨W.heap.size + 1, 0, none⟩ = false := frozen_of_row _ _ 0 _ _ rR8_.out
  have Rf1_ : (w1).frozen? ⟨W.heap.size + 1, 1, none⟩ = false := frozen_of_row _ _ 1 _ _ rR8_.out
  have Rf2_ : (w1).frozen? ⟨W.heap.size + 1, 2, none⟩ = false := frozen_of_row _ _ 2 _ _ rR8_.out
  have Rf3_ : (w1).frozen? ⟨W.heap.size + 1, 3, none⟩ = false := frozen_of_row _ _ 3 _ _ rR8_.out
  have Rf4_ : (w1).frozen? ⟨W.heap.size + 1, 4, none⟩ = false := frozen_of_row _ _ 4 _ _ rR8_.out
  have Rf5_ : (w1).frozen? ⟨W.heap.size + 1, 5, none⟩ = false := frozen_of_row _ _ 5 _ _ rR8_.out
  have Rf6_ : (w1).frozen? ⟨W.heap.size + 1, 6, none⟩ = false := frozen_of_row _ _ 6 _ _ rR8_.out
  have Rf7_ : (w1).frozen? ⟨W.heap.size + 1, 7, none⟩ = false := frozen_of_row _ _ 7 _ _ rR8_.out
  go_wp2
  refine bodyPost_ret (v := .agg #[.int .i64 6, .int .i64 b, .int .i64 i1, .int .i64 0, .int .i64 0, .int .i64 i5, .int .i64 s, .slice pd nd cd]) (by simp [results, go_sem, R_0_, R_1_, R_2_, R_3_, R_4_, R_5_, R_6_, R_7_]) rfl ⟨_, rfl, ?_, ?_⟩
  · refine OwU.wide (lo := W.heap.size + 1 + 1 + 1) (hi := w1.heap.size) (by omega) (by simp) (OwU.keep (w := w1) (lo' := W.heap.size) (hi' := W.heap.size + 2) ?_ (.inr (by omega)) oC10_.out)
    repeat (with_reducible refine chg_setp ?_ _ (by dsimp only; omega) (by dsimp only; omega) _)
    exact chg_gby (gby_refl _ _) _ _
  · repeat (with_reducible refine gby_setnew ?_ _ (by first | omega | (dsimp only; omega)) _)
    exact G9_.out

set_option maxRecDepth 8000 in
set_option maxHeartbeats 4000000 in
theorem specRefCls (W : World) (p : DPacket) (v : Value) (b s : Int) (H : RdL shI W v p.f7) (hl : szL shI p.f7 ≤ 1048576) (h : clsD p ≠ 1) : Calls Try.prog 14 #[vPacket p.f0 p.f1 p.f2 p.f3 p.f4 p.f5 p.f6 v, .int .i64 b, .int .i64 s] W (ResIRefusalOf 0 0 0 0 0 0 0 [] false W) := by
  obtain ⟨a, n, c, rfl⟩ := RdL.form H
  have HX := Lib.hid H
  obtain ⟨cl, hcl⟩ : ∃ cl, cl = clsD p := ⟨_, rfl⟩
  have CL := Lib.hid (show ∀ (W : World), RdL shI W (.slice a n c) p.f7 → Calls Try.prog 56 #[vPacket p.f0 p.f1 p.f2 p.f3 p.f4 p.f5 p.f6 (.slice a n c)] W (AnsN (.int .i64 cl) W) from by rw [hcl]; exact fun W H => specClsD W p (.slice a n c) H hl)
  rw [← hcl] at h
  clear hcl H
  unfold vPacket at CL ⊢
  have hne : (cl != 1) = true := by simpa using h
  have hne2 : (cl == 1) = false := beq_eq_false_iff_ne.2 h
  clear h
  go_enter Try.func14, Try.ntmps14
  have rA1_ := Lib.hid (show (((W.alloc (.cells #[.int .i64 p.f0, .int .i64 p.f1, .int .i64 p.f2, .int .i64 p.f3, .int .i64 p.f4, .int .i64 p.f5, .int .i64 p.f6, .slice a n c] 26)).alloc (.cells #[.int .i64 0, .int .i64 0, .int .i64 0, .int .i64 0, .int .i64 0, .int .i64 0, .int .i64 0, .slice none 0 0] 26))).heap[W.heap.size]? = some (.cells #[.int .i64 p.f0, .int .i64 p.f1, .int .i64 p.f2, .int .i64 p.f3, .int .i64 p.f4, .int .i64 p.f5, .int .i64 p.f6, .slice a n c] 26 (0, 0)) from by rw [heap_alloc_old _ _ (by simp only [World.size_alloc]; omega)]; exact heap_alloc_new _ _)
  have rR2_ := Lib.hid (show (((W.alloc (.cells #[.int .i64 p.f0, .int .i64 p.f1, .int .i64 p.f2, .int .i64 p.f3, .int .i64 p.f4, .int .i64 p.f5, .int .i64 p.f6, .slice a n c] 26)).alloc (.cells #[.int .i64 0, .int .i64 0, .int .i64 0, .int .i64 0, .int .i64 0, .int .i64 0, .int .i64 0, .slice none 0 0] 26))).heap[W.heap.size + 1]? = some (.cells #[.int .i64 0, .int .i64 0, .int .i64 0, .int .i64 0, .int .i64 0, .int .i64 0, .int .i64 0, .slice none 0 0] 26 (0, 0)) from by exact heap_pair _ _ _)
  have G3_ := Lib.hid (show (W).grownBy (((W.alloc (.cells #[.int .i64 p.f0, .int .i64 p.f1, .int .i64 p.f2, .int .i64 p.f3, .int .i64 p.f4, .int .i64 p.f5, .int .i64 p.f6, .slice a n c] 26)).alloc (.cells #[.int .i64 0, .int .i64 0, .int .i64 0, .int .i64 0, .int .i64 0, .int .i64 0, .int .i64 0, .slice none 0 0] 26))) none from (gby_alloc (gby_alloc (gby_refl _ _) _) _))
  have A_0_ : (((W.alloc (.cells #[.int .i64 p.f0, .int .i64 p.f1, .int .i64 p.f2, .int .i64 p.f3, .int .i64 p.f4, .int .i64 p.f5, .int .i64 p.f6, .slice a n c] 26)).alloc (.cells #[.int .i64 0, .int .i64 0, .int .i64 0, .int .i64 0, .int .i64 0, .int .i64 0, .int .i64 0, .slice none 0 0] 26))).cell? ⟨W.heap.size, 0, none⟩ = some (.int .i64 p.f0) := cell_of_row _ _ 0 _ _ _ rA1_.out
  have A_1_ : (((W.alloc (.cells #[.int .i64 p.f0, .int .i64 p.f1, .int .i64 p.f2, .int .i64 p.f3, .int .i64 p.f4, .int .i64 p.f5, .int .i64 p.f6, .slice a n c] 26)).alloc (.cells #[.int .i64 0, .int .i64 0, .int .i64 0, .int .i64 0, .int .i64 0, .int .i64 0, .int .i64 0, .slice none 0 0] 26))).cell? ⟨W.heap.size, 1, none⟩ = some (.int .i64 p.f1) := cell_of_row _ _ 1 _ _ _ rA1_.out
  have A_2_ : (((W.alloc (.cells #[.int .i64 p.f0, .int .i64 p.f1, .int .i64 p.f2, .int .i64 p.f3, .int .i64 p.f4, .int .i64 p.f5, .int .i64 p.f6, .slice a n c] 26)).alloc (.cells #[.int .i64 0, .int .i64 0, .int .i64 0, .int .i64 0, .int .i64 0, .int .i64 0, .int .i64 0, .slice none 0 0] 26))).cell? ⟨W.heap.size, 2, none⟩ = some (.int .i64 p.f2) := cell_of_row _ _ 2 _ _ _ rA1_.out
  have A_3_ : (((W.alloc (.cells #[.int .i64 p.f0, .int .i64 p.f1, .int .i64 p.f2, .int .i64 p.f3, .int .i64 p.f4, .int .i64 p.f5, .int .i64 p.f6, .slice a n c] 26)).alloc (.cells #[.int .i64 0, .int .i64 0, .int .i64 0, .int .i64 0, .int .i64 0, .int .i64 0, .int .i64 0, .slice none 0 0] 26))).cell? ⟨W.heap.size, 3, none⟩ = some (.int .i64 p.f3) := cell_of_row _ _ 3 _ _ _ rA1_.out
  have A_4_ : (((W.alloc (.cells #[.int .i64 p.f0, .int .i64 p.f1, .int .i64 p.f2, .int .i64 p.f3, .int .i64 p.f4, .int .i64 p.f5, .int .i64 p.f6, .slice a n c] 26)).alloc (.cells #[.int .i64 0, .int .i64 0, .int .i64 0, .int .i64 0, .int .i64 0, .int .i64 0, .int .i64 0, .slice none 0 0] 26))).cell? ⟨W.heap.size, 4, none⟩ = some (.int .i64 p.f4) := cell_of_row _ _ 4 _ _ _ rA1_.out
  have A_5_ : (((W.alloc (.cells #[.int .i64 p.f0, .int .i64 p.f1, .int .i64 p.f2, .int .i64 p.f3, .int .i64 p.f4, .int .i64 p.f5, .int .i64 p.f6, .slice a n c] 26)).alloc (.cells #[.int .i64 0, .int .i64 0, .int .i64 0, .int .i64 0, .int .i64 0, .int .i64 0, .int .i64 0, .slice none 0 0] 26))).cell? ⟨W.heap.size, 5, none⟩ = some (.int .i64 p.f5) := cell_of_row _ _ 5 _ _ _ rA1_.out
  have A_6_ : (((W.alloc (.cells #[.int .i64 p.f0, .int .i64 p.f1, .int .i64 p.f2, .int .i64 p.f3, .int .i64 p.f4, .int .i64 p.f5, .int .i64 p.f6, .slice a n c] 26)).alloc (.cells #[.int .i64 0, .int .i64 0, .int .i64 0, .int .i64 0, .int .i64 0, .int .i64 0, .int .i64 0, .slice none 0 0] 26))).cell? ⟨W.heap.size, 6, none⟩ = some (.int .i64 p.f6) := cell_of_row _ _ 6 _ _ _ rA1_.out
  have A_7_ : (((W.alloc (.cells #[.int .i64 p.f0, .int .i64 p.f1, .int .i64 p.f2, .int .i64 p.f3, .int .i64 p.f4, .int .i64 p.f5, .int .i64 p.f6, .slice a n c] 26)).alloc (.cells #[.int .i64 0, .int .i64 0, .int .i64 0, .int .i64 0, .int .i64 0, .int .i64 0, .int .i64 0, .slice none 0 0] 26))).cell? ⟨W.heap.size, 7, none⟩ = some (.slice a n c) := cell_of_row _ _ 7 _ _ _ rA1_.out
  have R_0_ : (((W.alloc (.cells #[.int .i64 p.f0, .int .i64 p.f1, .int .i64 p.f2, .int .i64 p.f3, .int .i64 p.f4, .int .i64 p.f5, .int .i64 p.f6, .slice a n c] 26)).alloc (.cells #[.int .i64 0, .int .i64 0, .int .i64 0, .int .i64 0, .int .i64 0, .int .i64 0, .int .i64 0, .slice none 0 0] 26))).cell? ⟨W.heap.size + 1, 0, none⟩ = some (.int .i64 0) := cell_of_row _ _ 0 _ _ _ rR2_.out
  have R_1_ : (((W.alloc (.cells #[.int .i64 p.f0, .int .i64 p.f1, .int .i64 p.f2, .int .i64 p.f3, .int .i64 p.f4, .int .i64 p.f5, .int .i64 p.f6, .slice a n c] 26)).alloc (.cells #[.int .i64 0, .int .i64 0, .int .i64 0, .int .i64 0, .int .i64 0, .int .i64 0, .int .i64 0, .slice none 0 0] 26))).cell? ⟨W.heap.size + 1, 1, none⟩ = some (.int .i64 0) := cell_of_row _ _ 1 _ _ _ rR2_.out
  have R_2_ : (((W.alloc (.cells #[.int .i64 p.f0, .int .i64 p.f1, .int .i64 p.f2, .int .i64 p.f3, .int .i64 p.f4, .int .i64 p.f5, .int .i64 p.f6, .slice a n c] 26)).alloc (.cells #[.int .i64 0, .int .i64 0, .int .i64 0, .int .i64 0, .int .i64 0, .int .i64 0, .int .i64 0, .slice none 0 0] 26))).cell? ⟨W.heap.size + 1, 2, none⟩ = some (.int .i64 0) := cell_of_row _ _ 2 _ _ _ rR2_.out
  have R_3_ : (((W.alloc (.cells #[.int .i64 p.f0, .int .i64 p.f1, .int .i64 p.f2, .int .i64 p.f3, .int .i64 p.f4, .int .i64 p.f5, .int .i64 p.f6, .slice a n c] 26)).alloc (.cells #[.int .i64 0, .int .i64 0, .int .i64 0, .int .i64 0, .int .i64 0, .int .i64 0, .int .i64 0, .slice none 0 0] 26))).cell? ⟨W.heap.size + 1, 3, none⟩ = some (.int .i64 0) := cell_of_row _ _ 3 _ _ _ rR2_.out
  have R_4_ : (((W.alloc (.cells #[.int .i64 p.f0, .int .i64 p.f1, .int .i64 p.f2, .int .i64 p.f3, .int .i64 p.f4, .int .i64 p.f5, .int .i64 p.f6, .slice a n c] 26)).alloc (.cells #[.int .i64 0, .int .i64 0, .int .i64 0, .int .i64 0, .int .i64 0, .int .i64 0, .int .i64 0, .slice none 0 0] 26))).cell? ⟨W.heap.size + 1, 4, none⟩ = some (.int .i64 0) := cell_of_row _ _ 4 _ _ _ rR2_.out
  have R_5_ : (((W.alloc (.cells #[.int .i64 p.f0, .int .i64 p.f1, .int .i64 p.f2, .int .i64 p.f3, .int .i64 p.f4, .int .i64 p.f5, .int .i64 p.f6, .slice a n c] 26)).alloc (.cells #[.int .i64 0, .int .i64 0, .int .i64 0, .int .i64 0, .int .i64 0, .int .i64 0, .int .i64 0, .slice none 0 0] 26))).cell? ⟨W.heap.size + 1, 5, none⟩ = some (.int .i64 0) := cell_of_row _ _ 5 _ _ _ rR2_.out
  have R_6_ : (((W.alloc (.cells #[.int .i64 p.f0, .int .i64 p.f1, .int .i64 p.f2, .int .i64 p.f3, .int .i64 p.f4, .int .i64 p.f5, .int .i64 p.f6, .slice a n c] 26)).alloc (.cells #[.int .i64 0, .int .i64 0, .int .i64 0, .int .i64 0, .int .i64 0, .int .i64 0, .int .i64 0, .slice none 0 0] 26))).cell? ⟨W.heap.size + 1, 6, none⟩ = some (.int .i64 0) := cell_of_row _ _ 6 _ _ _ rR2_.out
  have R_7_ : (((W.alloc (.cells #[.int .i64 p.f0, .int .i64 p.f1, .int .i64 p.f2, .int .i64 p.f3, .int .i64 p.f4, .int .i64 p.f5, .int .i64 p.f6, .slice a n c] 26)).alloc (.cells #[.int .i64 0, .int .i64 0, .int .i64 0, .int .i64 0, .int .i64 0, .int .i64 0, .int .i64 0, .slice none 0 0] 26))).cell? ⟨W.heap.size + 1, 7, none⟩ = some (.slice none 0 0) := cell_of_row _ _ 7 _ _ _ rR2_.out
  go_wp2_with fail
  go_at_call 56
  refine (CL.out _ (HX.out.grow G3_.out)).mono ?_
  rintro e w1 ⟨rfl, g⟩
  have szc := g.size
  try simp only [World.size_alloc] at szc
  clear A_0_ A_1_ A_2_ A_3_ A_4_ A_5_ A_6_ A_7_ R_0_ R_1_ R_2_ R_3_ R_4_ R_5_ R_6_ R_7_
  have rA4_ := Lib.hid (show (w1).heap[W.heap.size]? = some (.cells #[.int .i64 p.f0, .int .i64 p.f1, .int .i64 p.f2, .int .i64 p.f3, .int .i64 p.f4, .int .i64 p.f5, .int .i64 p.f6, .slice a n c] 26 (0, 0)) from row_held g rA1_.out)
  clear rA1_
  have rR5_ := Lib.hid (show (w1).heap[W.heap.size + 1]? = some (.cells #[.int .i64 0, .int .i64 0, .int .i64 0, .int .i64 0, .int .i64 0, .int .i64 0, .int .i64 0, .slice none 0 0] 26 (0, 0)) from row_held g rR2_.out)
  clear rR2_
  have G6_ := Lib.hid (show (W).grownBy (w1) none from gby_trans G3_.out g)
  clear g
  have A_0_ : (w1).cell? ⟨W.heap.size, 0, none⟩ = some (.int .i64 p.f0) := cell_of_row _ _ 0 _ _ _ rA4_.out
  have A_1_ : (w1).cell? ⟨W.heap.size, 1, none⟩ = some (.int .i64 p.f1) := cell_of_row _ _ 1 _ _ _ rA4_.out
  have A_2_ : (w1).cell? ⟨W.heap.size, 2, none⟩ = some (.int .i64 p.f2) := cell_of_row _ _ 2 _ _ _ rA4_.out
  have A_3_ : (w1).cell? ⟨W.heap.size, 3, none⟩ = some (.int .i64 p.f3) := cell_of_row _ _ 3 _ _ _ rA4_.out
  have A_4_ : (w1).cell? ⟨W.heap.size, 4, none⟩ = some (.int .i64 p.f4) := cell_of_row _ _ 4 _ _ _ rA4_.out
  have A_5_ : (w1).cell? ⟨W.heap.size, 5, none⟩ = some (.int .i64 p.f5) := cell_of_row _ _ 5 _ _ _ rA4_.out
  have A_6_ : (w1).cell? ⟨W.heap.size, 6, none⟩ = some (.int .i64 p.f6) := cell_of_row _ _ 6 _ _ _ rA4_.out
  have A_7_ : (w1).cell? ⟨W.heap.size, 7, none⟩ = some (.slice a n c) := cell_of_row _ _ 7 _ _ _ rA4_.out
  have R_0_ : (w1).cell? ⟨W.heap.size + 1, 0, none⟩ = some (.int .i64 0) := cell_of_row _ _ 0 _ _ _ rR5_.out
  have R_1_ : (w1).cell? ⟨W.heap.size + 1, 1, none⟩ = some (.int .i64 0) := cell_of_row _ _ 1 _ _ _ rR5_.out
  have R_2_ : (w1).cell? ⟨W.heap.size + 1, 2, none⟩ = some (.int .i64 0) := cell_of_row _ _ 2 _ _ _ rR5_.out
  have R_3_ : (w1).cell? ⟨W.heap.size + 1, 3, none⟩ = some (.int .i64 0) := cell_of_row _ _ 3 _ _ _ rR5_.out
  have R_4_ : (w1).cell? ⟨W.heap.size + 1, 4, none⟩ = some (.int .i64 0) := cell_of_row _ _ 4 _ _ _ rR5_.out
  have R_5_ : (w1).cell? ⟨W.heap.size + 1, 5, none⟩ = some (.int .i64 0) := cell_of_row _ _ 5 _ _ _ rR5_.out
  have R_6_ : (w1).cell? ⟨W.heap.size + 1, 6, none⟩ = some (.int .i64 0) := cell_of_row _ _ 6 _ _ _ rR5_.out
  have R_7_ : (w1).cell? ⟨W.heap.size + 1, 7, none⟩ = some (.slice none 0 0) := cell_of_row _ _ 7 _ _ _ rR5_.out
  have Rf0_ : (w1).frozen? ⟨W.heap.size + 1, 0, none⟩ = false := frozen_of_row _ _ 0 _ _ rR5_.out
  have Rf1_ : (w1).frozen? ⟨W.heap.size + 1, 1, none⟩ = false := frozen_of_row _ _ 1 _ _ rR5_.out
  have Rf2_ : (w1).frozen? ⟨W.heap.size + 1, 2, none⟩ = false := frozen_of_row _ _ 2 _ _ rR5_.out
  have Rf3_ : (w1).frozen? ⟨W.heap.size + 1, 3, none⟩ = false := frozen_of_row _ _ 3 _ _ rR5_.out
  have Rf4_ : (w1).frozen? ⟨W.heap.size + 1, 4, none⟩ = false := frozen_of_row _ _ 4 _ _ rR5_.out
  have Rf5_ : (w1).frozen? ⟨W.heap.size + 1, 5, none⟩ = false := frozen_of_row _ _ 5 _ _ rR5_.out
  have Rf6_ : (w1).frozen? ⟨W.heap.size + 1, 6, none⟩ = false := frozen_of_row _ _ 6 _ _ rR5_.out
  have Rf7_ : (w1).frozen? ⟨W.heap.size + 1, 7, none⟩ = false := frozen_of_row _ _ 7 _ _ rR5_.out
  go_wp2
  refine bodyPost_ret (v := .tuple #[.agg #[.int .i64 0, .int .i64 0, .int .i64 0, .int .i64 0, .int .i64 0, .int .i64 0, .int .i64 0, .slice none 0 0], .bool false]) (by simp [results, go_sem, R_0_, R_1_, R_2_, R_3_, R_4_, R_5_, R_6_, R_7_]) rfl ⟨_, rfl, ?_, ?_⟩
  · exact OwU.one owL_nil
  · repeat (with_reducible refine gby_setnew ?_ _ (by first | omega | (dsimp only; omega)) _)
    exact G6_.out

set_option maxRecDepth 8000 in
set_option maxHeartbeats 4000000 in
theorem specRefBy (W : World) (p : DPacket) (v : Value) (b s : Int) (H : RdL shI W v p.f7) (hl : szL shI p.f7 ≤ 1048576) (h : clsD p = 1) (hb : b < 0 ∨ 255 < b) : Calls Try.prog 14 #[vPacket p.f0 p.f1 p.f2 p.f3 p.f4 p.f5 p.f6 v, .int .i64 b, .int .i64 s] W (ResIRefusalOf 0 0 0 0 0 0 0 [] false W) := by
  obtain ⟨a, n, c, rfl⟩ := RdL.form H
  have HX := Lib.hid H
  obtain ⟨cl, hcl⟩ : ∃ cl, cl = clsD p := ⟨_, rfl⟩
  have CL := Lib.hid (show ∀ (W : World), RdL shI W (.slice a n c) p.f7 → Calls Try.prog 56 #[vPacket p.f0 p.f1 p.f2 p.f3 p.f4 p.f5 p.f6 (.slice a n c)] W (AnsN (.int .i64 cl) W) from by rw [hcl]; exact fun W H => specClsD W p (.slice a n c) H hl)
  rw [← hcl] at h
  clear hcl H
  unfold vPacket at CL ⊢
  subst h
  go_enter Try.func14, Try.ntmps14
  have rA1_ := Lib.hid (show (((W.alloc (.cells #[.int .i64 p.f0, .int .i64 p.f1, .int .i64 p.f2, .int .i64 p.f3, .int .i64 p.f4, .int .i64 p.f5, .int .i64 p.f6, .slice a n c] 26)).alloc (.cells #[.int .i64 0, .int .i64 0, .int .i64 0, .int .i64 0, .int .i64 0, .int .i64 0, .int .i64 0, .slice none 0 0] 26))).heap[W.heap.size]? = some (.cells #[.int .i64 p.f0, .int .i64 p.f1, .int .i64 p.f2, .int .i64 p.f3, .int .i64 p.f4, .int .i64 p.f5, .int .i64 p.f6, .slice a n c] 26 (0, 0)) from by rw [heap_alloc_old _ _ (by simp only [World.size_alloc]; omega)]; exact heap_alloc_new _ _)
  have rR2_ := Lib.hid (show (((W.alloc (.cells #[.int .i64 p.f0, .int .i64 p.f1, .int .i64 p.f2, .int .i64 p.f3, .int .i64 p.f4, .int .i64 p.f5, .int .i64 p.f6, .slice a n c] 26)).alloc (.cells #[.int .i64 0, .int .i64 0, .int .i64 0, .int .i64 0, .int .i64 0, .int .i64 0, .int .i64 0, .slice none 0 0] 26))).heap[W.heap.size + 1]? = some (.cells #[.int .i64 0, .int .i64 0, .int .i64 0, .int .i64 0, .int .i64 0, .int .i64 0, .int .i64 0, .slice none 0 0] 26 (0, 0)) from by exact heap_pair _ _ _)
  have G3_ := Lib.hid (show (W).grownBy (((W.alloc (.cells #[.int .i64 p.f0, .int .i64 p.f1, .int .i64 p.f2, .int .i64 p.f3, .int .i64 p.f4, .int .i64 p.f5, .int .i64 p.f6, .slice a n c] 26)).alloc (.cells #[.int .i64 0, .int .i64 0, .int .i64 0, .int .i64 0, .int .i64 0, .int .i64 0, .int .i64 0, .slice none 0 0] 26))) none from (gby_alloc (gby_alloc (gby_refl _ _) _) _))
  have A_0_ : (((W.alloc (.cells #[.int .i64 p.f0, .int .i64 p.f1, .int .i64 p.f2, .int .i64 p.f3, .int .i64 p.f4, .int .i64 p.f5, .int .i64 p.f6, .slice a n c] 26)).alloc (.cells #[.int .i64 0, .int .i64 0, .int .i64 0, .int .i64 0, .int .i64 0, .int .i64 0, .int .i64 0, .slice none 0 0] 26))).cell? ⟨W.heap.size, 0, none⟩ = some (.int .i64 p.f0) := cell_of_row _ _ 0 _ _ _ rA1_.out
  have A_1_ : (((W.alloc (.cells #[.int .i64 p.f0, .int .i64 p.f1, .int .i64 p.f2, .int .i64 p.f3, .int .i64 p.f4, .int .i64 p.f5, .int .i64 p.f6, .slice a n c] 26)).alloc (.cells #[.int .i64 0, .int .i64 0, .int .i64 0, .int .i64 0, .int .i64 0, .int .i64 0, .int .i64 0, .slice none 0 0] 26))).cell? ⟨W.heap.size, 1, none⟩ = some (.int .i64 p.f1) := cell_of_row _ _ 1 _ _ _ rA1_.out
  have A_2_ : (((W.alloc (.cells #[.int .i64 p.f0, .int .i64 p.f1, .int .i64 p.f2, .int .i64 p.f3, .int .i64 p.f4, .int .i64 p.f5, .int .i64 p.f6, .slice a n c] 26)).alloc (.cells #[.int .i64 0, .int .i64 0, .int .i64 0, .int .i64 0, .int .i64 0, .int .i64 0, .int .i64 0, .slice none 0 0] 26))).cell? ⟨W.heap.size, 2, none⟩ = some (.int .i64 p.f2) := cell_of_row _ _ 2 _ _ _ rA1_.out
  have A_3_ : (((W.alloc (.cells #[.int .i64 p.f0, .int .i64 p.f1, .int .i64 p.f2, .int .i64 p.f3, .int .i64 p.f4, .int .i64 p.f5, .int .i64 p.f6, .slice a n c] 26)).alloc (.cells #[.int .i64 0, .int .i64 0, .int .i64 0, .int .i64 0, .int .i64 0, .int .i64 0, .int .i64 0, .slice none 0 0] 26))).cell? ⟨W.heap.size, 3, none⟩ = some (.int .i64 p.f3) := cell_of_row _ _ 3 _ _ _ rA1_.out
  have A_4_ : (((W.alloc (.cells #[.int .i64 p.f0, .int .i64 p.f1, .int .i64 p.f2, .int .i64 p.f3, .int .i64 p.f4, .int .i64 p.f5, .int .i64 p.f6, .slice a n c] 26)).alloc (.cells #[.int .i64 0, .int .i64 0, .int .i64 0, .int .i64 0, .int .i64 0, .int .i64 0, .int .i64 0, .slice none 0 0] 26))).cell? ⟨W.heap.size, 4, none⟩ = some (.int .i64 p.f4) := cell_of_row _ _ 4 _ _ _ rA1_.out
  have A_5_ : (((W.alloc (.cells #[.int .i64 p.f0, .int .i64 p.f1, .int .i64 p.f2, .int .i64 p.f3, .int .i64 p.f4, .int .i64 p.f5, .int .i64 p.f6, .slice a n c] 26)).alloc (.cells #[.int .i64 0, .int .i64 0, .int .i64 0, .int .i64 0, .int .i64 0, .int .i64 0, .int .i64 0, .slice none 0 0] 26))).cell? ⟨W.heap.size, 5, none⟩ = some (.int .i64 p.f5) := cell_of_row _ _ 5 _ _ _ rA1_.out
  have A_6_ : (((W.alloc (.cells #[.int .i64 p.f0, .int .i64 p.f1, .int .i64 p.f2, .int .i64 p.f3, .int .i64 p.f4, .int .i64 p.f5, .int .i64 p.f6, .slice a n c] 26)).alloc (.cells #[.int .i64 0, .int .i64 0, .int .i64 0, .int .i64 0, .int .i64 0, .int .i64 0, .int .i64 0, .slice none 0 0] 26))).cell? ⟨W.heap.size, 6, none⟩ = some (.int .i64 p.f6) := cell_of_row _ _ 6 _ _ _ rA1_.out
  have A_7_ : (((W.alloc (.cells #[.int .i64 p.f0, .int .i64 p.f1, .int .i64 p.f2, .int .i64 p.f3, .int .i64 p.f4, .int .i64 p.f5, .int .i64 p.f6, .slice a n c] 26)).alloc (.cells #[.int .i64 0, .int .i64 0, .int .i64 0, .int .i64 0, .int .i64 0, .int .i64 0, .int .i64 0, .slice none 0 0] 26))).cell? ⟨W.heap.size, 7, none⟩ = some (.slice a n c) := cell_of_row _ _ 7 _ _ _ rA1_.out
  have R_0_ : (((W.alloc (.cells #[.int .i64 p.f0, .int .i64 p.f1, .int .i64 p.f2, .int .i64 p.f3, .int .i64 p.f4, .int .i64 p.f5, .int .i64 p.f6, .slice a n c] 26)).alloc (.cells #[.int .i64 0, .int .i64 0, .int .i64 0, .int .i64 0, .int .i64 0, .int .i64 0, .int .i64 0, .slice none 0 0] 26))).cell? ⟨W.heap.size + 1, 0, none⟩ = some (.int .i64 0) := cell_of_row _ _ 0 _ _ _ rR2_.out
  have R_1_ : (((W.alloc (.cells #[.int .i64 p.f0, .int .i64 p.f1, .int .i64 p.f2, .int .i64 p.f3, .int .i64 p.f4, .int .i64 p.f5, .int .i64 p.f6, .slice a n c] 26)).alloc (.cells #[.int .i64 0, .int .i64 0, .int .i64 0, .int .i64 0, .int .i64 0, .int .i64 0, .int .i64 0, .slice none 0 0] 26))).cell? ⟨W.heap.size + 1, 1, none⟩ = some (.int .i64 0) := cell_of_row _ _ 1 _ _ _ rR2_.out
  have R_2_ : (((W.alloc (.cells #[.int .i64 p.f0, .int .i64 p.f1, .int .i64 p.f2, .int .i64 p.f3, .int .i64 p.f4, .int .i64 p.f5, .int .i64 p.f6, .slice a n c] 26)).alloc (.cells #[.int .i64 0, .int .i64 0, .int .i64 0, .int .i64 0, .int .i64 0, .int .i64 0, .int .i64 0, .slice none 0 0] 26))).cell? ⟨W.heap.size + 1, 2, none⟩ = some (.int .i64 0) := cell_of_row _ _ 2 _ _ _ rR2_.out
  have R_3_ : (((W.alloc (.cells #[.int .i64 p.f0, .int .i64 p.f1, .int .i64 p.f2, .int .i64 p.f3, .int .i64 p.f4, .int .i64 p.f5, .int .i64 p.f6, .slice a n c] 26)).alloc (.cells #[.int .i64 0, .int .i64 0, .int .i64 0, .int .i64 0, .int .i64 0, .int .i64 0, .int .i64 0, .slice none 0 0] 26))).cell? ⟨W.heap.size + 1, 3, none⟩ = some (.int .i64 0) := cell_of_row _ _ 3 _ _ _ rR2_.out
  have R_4_ : (((W.alloc (.cells #[.int .i64 p.f0, .int .i64 p.f1, .int .i64 p.f2, .int .i64 p.f3, .int .i64 p.f4, .int .i64 p.f5, .int .i64 p.f6, .slice a n c] 26)).alloc (.cells #[.int .i64 0, .int .i64 0, .int .i64 0, .int .i64 0, .int .i64 0, .int .i64 0, .int .i64 0, .slice none 0 0] 26))).cell? ⟨W.heap.size + 1, 4, none⟩ = some (.int .i64 0) := cell_of_row _ _ 4 _ _ _ rR2_.out
  have R_5_ : (((W.alloc (.cells #[.int .i64 p.f0, .int .i64 p.f1, .int .i64 p.f2, .int .i64 p.f3, .int .i64 p.f4, .int .i64 p.f5, .int .i64 p.f6, .slice a n c] 26)).alloc (.cells #[.int .i64 0, .int .i64 0, .int .i64 0, .int .i64 0, .int .i64 0, .int .i64 0, .int .i64 0, .slice none 0 0] 26))).cell? ⟨W.heap.size + 1, 5, none⟩ = some (.int .i64 0) := cell_of_row _ _ 5 _ _ _ rR2_.out
  have R_6_ : (((W.alloc (.cells #[.int .i64 p.f0, .int .i64 p.f1, .int .i64 p.f2, .int .i64 p.f3, .int .i64 p.f4, .int .i64 p.f5, .int .i64 p.f6, .slice a n c] 26)).alloc (.cells #[.int .i64 0, .int .i64 0, .int .i64 0, .int .i64 0, .int .i64 0, .int .i64 0, .int .i64 0, .slice none 0 0] 26))).cell? ⟨W.heap.size + 1, 6, none⟩ = some (.int .i64 0) := cell_of_row _ _ 6 _ _ _ rR2_.out
  have R_7_ : (((W.alloc (.cells #[.int .i64 p.f0, .int .i64 p.f1, .int .i64 p.f2, .int .i64 p.f3, .int .i64 p.f4, .int .i64 p.f5, .int .i64 p.f6, .slice a n c] 26)).alloc (.cells #[.int .i64 0, .int .i64 0, .int .i64 0, .int .i64 0, .int .i64 0, .int .i64 0, .int .i64 0, .slice none 0 0] 26))).cell? ⟨W.heap.size + 1, 7, none⟩ = some (.slice none 0 0) := cell_of_row _ _ 7 _ _ _ rR2_.out
  go_wp2_with fail
  go_at_call 56
  refine (CL.out _ (HX.out.grow G3_.out)).mono ?_
  rintro e w1 ⟨rfl, g⟩
  have szc := g.size
  try simp only [World.size_alloc] at szc
  clear A_0_ A_1_ A_2_ A_3_ A_4_ A_5_ A_6_ A_7_ R_0_ R_1_ R_2_ R_3_ R_4_ R_5_ R_6_ R_7_
  have rA4_ := Lib.hid (show (w1).heap[W.heap.size]? = some (.cells #[.int .i64 p.f0, .int .i64 p.f1, .int .i64 p.f2, .int .i64 p.f3, .int .i64 p.f4, .int .i64 p.f5, .int .i64 p.f6, .slice a n c] 26 (0, 0)) from row_held g rA1_.out)
  clear rA1_
  have rR5_ := Lib.hid (show (w1).heap[W.heap.size + 1]? = some (.cells #[.int .i64 0, .int .i64 0, .int .i64 0, .int .i64 0, .int .i64 0, .int .i64 0, .int .i64 0, .slice none 0 0] 26 (0, 0)) from row_held g rR2_.out)
  clear rR2_
  have G6_ := Lib.hid (show (W).grownBy (w1) none from gby_trans G3_.out g)
  clear g
  go_wp2_with fail
  go_at_call 57
  refine (isId_no _ _ (by omega)).mono ?_
  rintro e w2 ⟨rfl, hd⟩
  have g := hd.gby none
  have szd := g.size
  clear hd
  have rA7_ := Lib.hid (show (w2).heap[W.heap.size]? = some (.cells #[.int .i64 p.f0, .int .i64 p.f1, .int .i64 p.f2, .int .i64 p.f3, .int .i64 p.f4, .int .i64 p.f5, .int .i64 p.f6, .slice a n c] 26 (0, 0)) from row_held g rA4_.out)
  clear rA4_
  have rR8_ := Lib.hid (show (w2).heap[W.heap.size + 1]? = some (.cells #[.int .i64 0, .int .i64 0, .int .i64 0, .int .i64 0, .int .i64 0, .int .i64 0, .int .i64 0, .slice none 0 0] 26 (0, 0)) from row_held g rR5_.out)
  clear rR5_
  have G9_ := Lib.hid (show (W).grownBy (w2) none from gby_trans G6_.out g)
  clear g
  have A_0_ : (w2).cell? ⟨W.heap.size, 0, none⟩ = some (.int .i64 p.f0) := cell_of_row _ _ 0 _ _ _ rA7_.out
  have A_1_ : (w2).cell? ⟨W.heap.size, 1, none⟩ = some (.int .i64 p.f1) := cell_of_row _ _ 1 _ _ _ rA7_.out
  have A_2_ : (w2).cell? ⟨W.heap.size, 2, none⟩ = some (.int .i64 p.f2) := cell_of_row _ _ 2 _ _ _ rA7_.out
  have A_3_ : (w2).cell? ⟨W.heap.size, 3, none⟩ = some (.int .i64 p.f3) := cell_of_row _ _ 3 _ _ _ rA7_.out
  have A_4_ : (w2).cell? ⟨W.heap.size, 4, none⟩ = some (.int .i64 p.f4) := cell_of_row _ _ 4 _ _ _ rA7_.out
  have A_5_ : (w2).cell? ⟨W.heap.size, 5, none⟩ = some (.int .i64 p.f5) := cell_of_row _ _ 5 _ _ _ rA7_.out
  have A_6_ : (w2).cell? ⟨W.heap.size, 6, none⟩ = some (.int .i64 p.f6) := cell_of_row _ _ 6 _ _ _ rA7_.out
  have A_7_ : (w2).cell? ⟨W.heap.size, 7, none⟩ = some (.slice a n c) := cell_of_row _ _ 7 _ _ _ rA7_.out
  have R_0_ : (w2).cell? ⟨W.heap.size + 1, 0, none⟩ = some (.int .i64 0) := cell_of_row _ _ 0 _ _ _ rR8_.out
  have R_1_ : (w2).cell? ⟨W.heap.size + 1, 1, none⟩ = some (.int .i64 0) := cell_of_row _ _ 1 _ _ _ rR8_.out
  have R_2_ : (w2).cell? ⟨W.heap.size + 1, 2, none⟩ = some (.int .i64 0) := cell_of_row _ _ 2 _ _ _ rR8_.out
  have R_3_ : (w2).cell? ⟨W.heap.size + 1, 3, none⟩ = some (.int .i64 0) := cell_of_row _ _ 3 _ _ _ rR8_.out
  have R_4_ : (w2).cell? ⟨W.heap.size + 1, 4, none⟩ = some (.int .i64 0) := cell_of_row _ _ 4 _ _ _ rR8_.out
  have R_5_ : (w2).cell? ⟨W.heap.size + 1, 5, none⟩ = some (.int .i64 0) := cell_of_row _ _ 5 _ _ _ rR8_.out
  have R_6_ : (w2).cell? ⟨W.heap.size + 1, 6, none⟩ = some (.int .i64 0) := cell_of_row _ _ 6 _ _ _ rR8_.out
  have R_7_ : (w2).cell? ⟨W.heap.size + 1, 7, none⟩ = some (.slice none 0 0) := cell_of_row _ _ 7 _ _ _ rR8_.out
  have Rf0_ : (w2).frozen? ⟨W.heap.size + 1, 0, none⟩ = false := frozen_of_row _ _ 0 _ _ rR8_.out
  have Rf1_ : (w2).frozen? ⟨W.heap.size + 1, 1, none⟩ = false := frozen_of_row _ _ 1 _ _ rR8_.out
  have Rf2_ : (w2).frozen? ⟨W.heap.size + 1, 2, none⟩ = false := frozen_of_row _ _ 2 _ _ rR8_.out
  have Rf3_ : (w2).frozen? ⟨W.heap.size + 1, 3, none⟩ = false := frozen_of_row _ _ 3 _ _ rR8_.out
  have Rf4_ : (w2).frozen? ⟨W.heap.size + 1, 4, none⟩ = false := frozen_of_row _ _ 4 _ _ rR8_.out
  have Rf5_ : (w2).frozen? ⟨W.heap.size + 1, 5, none⟩ = false := frozen_of_row _ _ 5 _ _ rR8_.out
  have Rf6_ : (w2).frozen? ⟨W.heap.size + 1, 6, none⟩ = false := frozen_of_row _ _ 6 _ _ rR8_.out
  have Rf7_ : (w2).frozen? ⟨W.heap.size + 1, 7, none⟩ = false := frozen_of_row _ _ 7 _ _ rR8_.out
  go_wp2
  refine bodyPost_ret (v := .tuple #[.agg #[.int .i64 0, .int .i64 0, .int .i64 0, .int .i64 0, .int .i64 0, .int .i64 0, .int .i64 0, .slice none 0 0], .bool false]) (by simp [results, go_sem, R_0_, R_1_, R_2_, R_3_, R_4_, R_5_, R_6_, R_7_]) rfl ⟨_, rfl, ?_, ?_⟩
  · exact OwU.one owL_nil
  · repeat (with_reducible refine gby_setnew ?_ _ (by first | omega | (dsimp only; omega)) _)
    exact G9_.out

set_option maxRecDepth 8000 in
set_option maxHeartbeats 4000000 in
theorem specRefSt (W : World) (p : DPacket) (v : Value) (b s : Int) (H : RdL shI W v p.f7) (hl : szL shI p.f7 ≤ 1048576) (h : clsD p = 1) (hb : 0 ≤ b ∧ b ≤ 255) (hs : s < 1 ∨ 2 < s) : Calls Try.prog 14 #[vPacket p.f0 p.f1 p.f2 p.f3 p.f4 p.f5 p.f6 v, .int .i64 b, .int .i64 s] W (ResIRefusalOf 0 0 0 0 0 0 0 [] false W) := by
  obtain ⟨a, n, c, rfl⟩ := RdL.form H
  have HX := Lib.hid H
  obtain ⟨cl, hcl⟩ : ∃ cl, cl = clsD p := ⟨_, rfl⟩
  have CL := Lib.hid (show ∀ (W : World), RdL shI W (.slice a n c) p.f7 → Calls Try.prog 56 #[vPacket p.f0 p.f1 p.f2 p.f3 p.f4 p.f5 p.f6 (.slice a n c)] W (AnsN (.int .i64 cl) W) from by rw [hcl]; exact fun W H => specClsD W p (.slice a n c) H hl)
  rw [← hcl] at h
  clear hcl H
  unfold vPacket at CL ⊢
  subst h
  go_enter Try.func14, Try.ntmps14
  have rA1_ := Lib.hid (show (((W.alloc (.cells #[.int .i64 p.f0, .int .i64 p.f1, .int .i64 p.f2, .int .i64 p.f3, .int .i64 p.f4, .int .i64 p.f5, .int .i64 p.f6, .slice a n c] 26)).alloc (.cells #[.int .i64 0, .int .i64 0, .int .i64 0, .int .i64 0, .int .i64 0, .int .i64 0, .int .i64 0, .slice none 0 0] 26))).heap[W.heap.size]? = some (.cells #[.int .i64 p.f0, .int .i64 p.f1, .int .i64 p.f2, .int .i64 p.f3, .int .i64 p.f4, .int .i64 p.f5, .int .i64 p.f6, .slice a n c] 26 (0, 0)) from by rw [heap_alloc_old _ _ (by simp only [World.size_alloc]; omega)]; exact heap_alloc_new _ _)
  have rR2_ := Lib.hid (show (((W.alloc (.cells #[.int .i64 p.f0, .int .i64 p.f1, .int .i64 p.f2, .int .i64 p.f3, .int .i64 p.f4, .int .i64 p.f5, .int .i64 p.f6, .slice a n c] 26)).alloc (.cells #[.int .i64 0, .int .i64 0, .int .i64 0, .int .i64 0, .int .i64 0, .int .i64 0, .int .i64 0, .slice none 0 0] 26))).heap[W.heap.size + 1]? = some (.cells #[.int .i64 0, .int .i64 0, .int .i64 0, .int .i64 0, .int .i64 0, .int .i64 0, .int .i64 0, .slice none 0 0] 26 (0, 0)) from by exact heap_pair _ _ _)
  have G3_ := Lib.hid (show (W).grownBy (((W.alloc (.cells #[.int .i64 p.f0, .int .i64 p.f1, .int .i64 p.f2, .int .i64 p.f3, .int .i64 p.f4, .int .i64 p.f5, .int .i64 p.f6, .slice a n c] 26)).alloc (.cells #[.int .i64 0, .int .i64 0, .int .i64 0, .int .i64 0, .int .i64 0, .int .i64 0, .int .i64 0, .slice none 0 0] 26))) none from (gby_alloc (gby_alloc (gby_refl _ _) _) _))
  have A_0_ : (((W.alloc (.cells #[.int .i64 p.f0, .int .i64 p.f1, .int .i64 p.f2, .int .i64 p.f3, .int .i64 p.f4, .int .i64 p.f5, .int .i64 p.f6, .slice a n c] 26)).alloc (.cells #[.int .i64 0, .int .i64 0, .int .i64 0, .int .i64 0, .int .i64 0, .int .i64 0, .int .i64 0, .slice none 0 0] 26))).cell? ⟨W.heap.size, 0, none⟩ = some (.int .i64 p.f0) := cell_of_row _ _ 0 _ _ _ rA1_.out
  have A_1_ : (((W.alloc (.cells #[.int .i64 p.f0, .int .i64 p.f1, .int .i64 p.f2, .int .i64 p.f3, .int .i64 p.f4, .int .i64 p.f5, .int .i64 p.f6, .slice a n c] 26)).alloc (.cells #[.int .i64 0, .int .i64 0, .int .i64 0, .int .i64 0, .int .i64 0, .int .i64 0, .int .i64 0, .slice none 0 0] 26))).cell? ⟨W.heap.size, 1, none⟩ = some (.int .i64 p.f1) := cell_of_row _ _ 1 _ _ _ rA1_.out
  have A_2_ : (((W.alloc (.cells #[.int .i64 p.f0, .int .i64 p.f1, .int .i64 p.f2, .int .i64 p.f3, .int .i64 p.f4, .int .i64 p.f5, .int .i64 p.f6, .slice a n c] 26)).alloc (.cells #[.int .i64 0, .int .i64 0, .int .i64 0, .int .i64 0, .int .i64 0, .int .i64 0, .int .i64 0, .slice none 0 0] 26))).cell? ⟨W.heap.size, 2, none⟩ = some (.int .i64 p.f2) := cell_of_row _ _ 2 _ _ _ rA1_.out
  have A_3_ : (((W.alloc (.cells #[.int .i64 p.f0, .int .i64 p.f1, .int .i64 p.f2, .int .i64 p.f3, .int .i64 p.f4, .int .i64 p.f5, .int .i64 p.f6, .slice a n c] 26)).alloc (.cells #[.int .i64 0, .int .i64 0, .int .i64 0, .int .i64 0, .int .i64 0, .int .i64 0, .int .i64 0, .slice none 0 0] 26))).cell? ⟨W.heap.size, 3, none⟩ = some (.int .i64 p.f3) := cell_of_row _ _ 3 _ _ _ rA1_.out
  have A_4_ : (((W.alloc (.cells #[.int .i64 p.f0, .int .i64 p.f1, .int .i64 p.f2, .int .i64 p.f3, .int .i64 p.f4, .int .i64 p.f5, .int .i64 p.f6, .slice a n c] 26)).alloc (.cells #[.int .i64 0, .int .i64 0, .int .i64 0, .int .i64 0, .int .i64 0, .int .i64 0, .int .i64 0, .slice none 0 0] 26))).cell? ⟨W.heap.size, 4, none⟩ = some (.int .i64 p.f4) := cell_of_row _ _ 4 _ _ _ rA1_.out
  have A_5_ : (((W.alloc (.cells #[.int .i64 p.f0, .int .i64 p.f1, .int .i64 p.f2, .int .i64 p.f3, .int .i64 p.f4, .int .i64 p.f5, .int .i64 p.f6, .slice a n c] 26)).alloc (.cells #[.int .i64 0, .int .i64 0, .int .i64 0, .int .i64 0, .int .i64 0, .int .i64 0, .int .i64 0, .slice none 0 0] 26))).cell? ⟨W.heap.size, 5, none⟩ = some (.int .i64 p.f5) := cell_of_row _ _ 5 _ _ _ rA1_.out
  have A_6_ : (((W.alloc (.cells #[.int .i64 p.f0, .int .i64 p.f1, .int .i64 p.f2, .int .i64 p.f3, .int .i64 p.f4, .int .i64 p.f5, .int .i64 p.f6, .slice a n c] 26)).alloc (.cells #[.int .i64 0, .int .i64 0, .int .i64 0, .int .i64 0, .int .i64 0, .int .i64 0, .int .i64 0, .slice none 0 0] 26))).cell? ⟨W.heap.size, 6, none⟩ = some (.int .i64 p.f6) := cell_of_row _ _ 6 _ _ _ rA1_.out
  have A_7_ : (((W.alloc (.cells #[.int .i64 p.f0, .int .i64 p.f1, .int .i64 p.f2, .int .i64 p.f3, .int .i64 p.f4, .int .i64 p.f5, .int .i64 p.f6, .slice a n c] 26)).alloc (.cells #[.int .i64 0, .int .i64 0, .int .i64 0, .int .i64 0, .int .i64 0, .int .i64 0, .int .i64 0, .slice none 0 0] 26))).cell? ⟨W.heap.size, 7, none⟩ = some (.slice a n c) := cell_of_row _ _ 7 _ _ _ rA1_.out
  have R_0_ : (((W.alloc (.cells #[.int .i64 p.f0, .int .i64 p.f1, .int .i64 p.f2, .int .i64 p.f3, .int .i64 p.f4, .int .i64 p.f5, .int .i64 p.f6, .slice a n c] 26)).alloc (.cells #[.int .i64 0, .int .i64 0, .int .i64 0, .int .i64 0, .int .i64 0, .int .i64 0, .int .i64 0, .slice none 0 0] 26))).cell? ⟨W.heap.size + 1, 0, none⟩ = some (.int .i64 0) := cell_of_row _ _ 0 _ _ _ rR2_.out
  have R_1_ : (((W.alloc (.cells #[.int .i64 p.f0, .int .i64 p.f1, .int .i64 p.f2, .int .i64 p.f3, .int .i64 p.f4, .int .i64 p.f5, .int .i64 p.f6, .slice a n c] 26)).alloc (.cells #[.int .i64 0, .int .i64 0, .int .i64 0, .int .i64 0, .int .i64 0, .int .i64 0, .int .i64 0, .slice none 0 0] 26))).cell? ⟨W.heap.size + 1, 1, none⟩ = some (.int .i64 0) := cell_of_row _ _ 1 _ _ _ rR2_.out
  have R_2_ : (((W.alloc (.cells #[.int .i64 p.f0, .int .i64 p.f1, .int .i64 p.f2, .int .i64 p.f3, .int .i64 p.f4, .int .i64 p.f5, .int .i64 p.f6, .slice a n c] 26)).alloc (.cells #[.int .i64 0, .int .i64 0, .int .i64 0, .int .i64 0, .int .i64 0, .int .i64 0, .int .i64 0, .slice none 0 0] 26))).cell? ⟨W.heap.size + 1, 2, none⟩ = some (.int .i64 0) := cell_of_row _ _ 2 _ _ _ rR2_.out
  have R_3_ : (((W.alloc (.cells #[.int .i64 p.f0, .int .i64 p.f1, .int .i64 p.f2, .int .i64 p.f3, .int .i64 p.f4, .int .i64 p.f5, .int .i64 p.f6, .slice a n c] 26)).alloc (.cells #[.int .i64 0, .int .i64 0, .int .i64 0, .int .i64 0, .int .i64 0, .int .i64 0, .int .i64 0, .slice none 0 0] 26))).cell? ⟨W.heap.size + 1, 3, none⟩ = some (.int .i64 0) := cell_of_row _ _ 3 _ _ _ rR2_.out
  have R_4_ : (((W.alloc (.cells #[.int .i64 p.f0, .int .i64 p.f1, .int .i64 p.f2, .int .i64 p.f3, .int .i64 p.f4, .int .i64 p.f5, .int .i64 p.f6, .slice a n c] 26)).alloc (.cells #[.int .i64 0, .int .i64 0, .int .i64 0, .int .i64 0, .int .i64 0, .int .i64 0, .int .i64 0, .slice none 0 0] 26))).cell? ⟨W.heap.size + 1, 4, none⟩ = some (.int .i64 0) := cell_of_row _ _ 4 _ _ _ rR2_.out
  have R_5_ : (((W.alloc (.cells #[.int .i64 p.f0, .int .i64 p.f1, .int .i64 p.f2, .int .i64 p.f3, .int .i64 p.f4, .int .i64 p.f5, .int .i64 p.f6, .slice a n c] 26)).alloc (.cells #[.int .i64 0, .int .i64 0, .int .i64 0, .int .i64 0, .int .i64 0, .int .i64 0, .int .i64 0, .slice none 0 0] 26))).cell? ⟨W.heap.size + 1, 5, none⟩ = some (.int .i64 0) := cell_of_row _ _ 5 _ _ _ rR2_.out
  have R_6_ : (((W.alloc (.cells #[.int .i64 p.f0, .int .i64 p.f1, .int .i64 p.f2, .int .i64 p.f3, .int .i64 p.f4, .int .i64 p.f5, .int .i64 p.f6, .slice a n c] 26)).alloc (.cells #[.int .i64 0, .int .i64 0, .int .i64 0, .int .i64 0, .int .i64 0, .int .i64 0, .int .i64 0, .slice none 0 0] 26))).cell? ⟨W.heap.size + 1, 6, none⟩ = some (.int .i64 0) := cell_of_row _ _ 6 _ _ _ rR2_.out
  have R_7_ : (((W.alloc (.cells #[.int .i64 p.f0, .int .i64 p.f1, .int .i64 p.f2, .int .i64 p.f3, .int .i64 p.f4, .int .i64 p.f5, .int .i64 p.f6, .slice a n c] 26)).alloc (.cells #[.int .i64 0, .int .i64 0, .int .i64 0, .int .i64 0, .int .i64 0, .int .i64 0, .int .i64 0, .slice none 0 0] 26))).cell? ⟨W.heap.size + 1, 7, none⟩ = some (.slice none 0 0) := cell_of_row _ _ 7 _ _ _ rR2_.out
  go_wp2_with fail
  go_at_call 56
  refine (CL.out _ (HX.out.grow G3_.out)).mono ?_
  rintro e w1 ⟨rfl, g⟩
  have szc := g.size
  try simp only [World.size_alloc] at szc
  clear A_0_ A_1_ A_2_ A_3_ A_4_ A_5_ A_6_ A_7_ R_0_ R_1_ R_2_ R_3_ R_4_ R_5_ R_6_ R_7_
  have rA4_ := Lib.hid (show (w1).heap[W.heap.size]? = some (.cells #[.int .i64 p.f0, .int .i64 p.f1, .int .i64 p.f2, .int .i64 p.f3, .int .i64 p.f4, .int .i64 p.f5, .int .i64 p.f6, .slice a n c] 26 (0, 0)) from row_held g rA1_.out)
  clear rA1_
  have rR5_ := Lib.hid (show (w1).heap[W.heap.size + 1]? = some (.cells #[.int .i64 0, .int .i64 0, .int .i64 0, .int .i64 0, .int .i64 0, .int .i64 0, .int .i64 0, .slice none 0 0] 26 (0, 0)) from row_held g rR2_.out)
  clear rR2_
  have G6_ := Lib.hid (show (W).grownBy (w1) none from gby_trans G3_.out g)
  clear g
  go_wp2_with fail
  go_at_call 57
  refine (isId_yes _ _ (by omega) (by omega)).mono ?_
  rintro e w2 ⟨rfl, hd⟩
  have g := hd.gby none
  have szd := g.size
  clear hd
  have rA7_ := Lib.hid (show (w2).heap[W.heap.size]? = some (.cells #[.int .i64 p.f0, .int .i64 p.f1, .int .i64 p.f2, .int .i64 p.f3, .int .i64 p.f4, .int .i64 p.f5, .int .i64 p.f6, .slice a n c] 26 (0, 0)) from row_held g rA4_.out)
  clear rA4_
  have rR8_ := Lib.hid (show (w2).heap[W.heap.size + 1]? = some (.cells #[.int .i64 0, .int .i64 0, .int .i64 0, .int .i64 0, .int .i64 0, .int .i64 0, .int .i64 0, .slice none 0 0] 26 (0, 0)) from row_held g rR5_.out)
  clear rR5_
  have G9_ := Lib.hid (show (W).grownBy (w2) none from gby_trans G6_.out g)
  clear g
  go_wp2_with fail
  go_at_call 58
  refine (in_no _ _ _ _ (by omega)).mono ?_
  rintro e w3 ⟨rfl, rfl⟩
  have A_0_ : (w2).cell? ⟨W.heap.size, 0, none⟩ = some (.int .i64 p.f0) := cell_of_row _ _ 0 _ _ _ rA7_.out
  have A_1_ : (w2).cell? ⟨W.heap.size, 1, none⟩ = some (.int .i64 p.f1) := cell_of_row _ _ 1 _ _ _ rA7_.out
  have A_2_ : (w2).cell? ⟨W.heap.size, 2, none⟩ = some (.int .i64 p.f2) := cell_of_row _ _ 2 _ _ _ rA7_.out
  have A_3_ : (w2).cell? ⟨W.heap.size, 3, none⟩ = some (.int .i64 p.f3) := cell_of_row _ _ 3 _ _ _ rA7_.out
  have A_4_ : (w2).cell? ⟨W.heap.size, 4, none⟩ = some (.int .i64 p.f4) := cell_of_row _ _ 4 _ _ _ rA7_.out
  have A_5_ : (w2).cell? ⟨W.heap.size, 5, none⟩ = some (.int .i64 p.f5) := cell_of_row _ _ 5 _ _ _ rA7_.out
  have A_6_ : (w2).cell? ⟨W.heap.size, 6, none⟩ = some (.int .i64 p.f6) := cell_of_row _ _ 6 _ _ _ rA7_.out
  have A_7_ : (w2).cell? ⟨W.heap.size, 7, none⟩ = some (.slice a n c) := cell_of_row _ _ 7 _ _ _ rA7_.out
  have R_0_ : (w2).cell? ⟨W.heap.size + 1, 0, none⟩ = some (.int .i64 0) := cell_of_row _ _ 0 _ _ _ rR8_.out
  have R_1_ : (w2).cell? ⟨W.heap.size + 1, 1, none⟩ = some (.int .i64 0) := cell_of_row _ _ 1 _ _ _ rR8_.out
  have R_2_ : (w2).cell? ⟨W.heap.size + 1, 2, none⟩ = some (.int .i64 0) := cell_of_row _ _ 2 _ _ _ rR8_.out
  have R_3_ : (w2).cell? ⟨W.heap.size + 1, 3, none⟩ = some (.int .i64 0) := cell_of_row _ _ 3 _ _ _ rR8_.out
  have R_4_ : (w2).cell? ⟨W.heap.size + 1, 4, none⟩ = some (.int .i64 0) := cell_of_row _ _ 4 _ _ _ rR8_.out
  have R_5_ : (w2).cell? ⟨W.heap.size + 1, 5, none⟩ = some (.int .i64 0) := cell_of_row _ _ 5 _ _ _ rR8_.out
  have R_6_ : (w2).cell? ⟨W.heap.size + 1, 6, none⟩ = some (.int .i64 0) := cell_of_row _ _ 6 _ _ _ rR8_.out
  have R_7_ : (w2).cell? ⟨W.heap.size + 1, 7, none⟩ = some (.slice none 0 0) := cell_of_row _ _ 7 _ _ _ rR8_.out
  have Rf0_ : (w2).frozen? ⟨W.heap.size + 1, 0, none⟩ = false := frozen_of_row _ _ 0 _ _ rR8_.out
  have Rf1_ : (w2).frozen? ⟨W.heap.size + 1, 1, none⟩ = false := frozen_of_row _ _ 1 _ _ rR8_.out
  have Rf2_ : (w2).frozen? ⟨W.heap.size + 1, 2, none⟩ = false := frozen_of_row _ _ 2 _ _ rR8_.out
  have Rf3_ : (w2).frozen? ⟨W.heap.size + 1, 3, none⟩ = false := frozen_of_row _ _ 3 _ _ rR8_.out
  have Rf4_ : (w2).frozen? ⟨W.heap.size + 1, 4, none⟩ = false := frozen_of_row _ _ 4 _ _ rR8_.out
  have Rf5_ : (w2).frozen? ⟨W.heap.size + 1, 5, none⟩ = false := frozen_of_row _ _ 5 _ _ rR8_.out
  have Rf6_ : (w2).frozen? ⟨W.heap.size + 1, 6, none⟩ = false := frozen_of_row _ _ 6 _ _ rR8_.out
  have Rf7_ : (w2).frozen? ⟨W.heap.size + 1, 7, none⟩ = false := frozen_of_row _ _ 7 _ _ rR8_.out
  go_wp2
  refine bodyPost_ret (v := .tuple #[.agg #[.int .i64 0, .int .i64 0, .int .i64 0, .int .i64 0, .int .i64 0, .int .i64 0, .int .i64 0, .slice none 0 0], .bool false]) (by simp [results, go_sem, R_0_, R_1_, R_2_, R_3_, R_4_, R_5_, R_6_, R_7_]) rfl ⟨_, rfl, ?_, ?_⟩
  · exact OwU.one owL_nil
  · repeat (with_reducible refine gby_setnew ?_ _ (by first | omega | (dsimp only; omega)) _)
    exact G9_.out

set_option maxRecDepth 8000 in
set_option maxHeartbeats 4000000 in
theorem specRefGood (W : World) (p : DPacket) (v : Value) (b s : Int) (H : RdL shI W v p.f7) (hl : szL shI p.f7 ≤ 1048576) (h : clsD p = 1) (hb : 0 ≤ b ∧ b ≤ 255) (hs : 1 ≤ s ∧ s ≤ 2) : Calls Try.prog 14 #[vPacket p.f0 p.f1 p.f2 p.f3 p.f4 p.f5 p.f6 v, .int .i64 b, .int .i64 s] W (ResIRefusalOf 6 b p.f1 0 0 p.f5 s [] true W) := by
  obtain ⟨a, n, c, rfl⟩ := RdL.form H
  have HX := Lib.hid H
  obtain ⟨cl, hcl⟩ : ∃ cl, cl = clsD p := ⟨_, rfl⟩
  have CL := Lib.hid (show ∀ (W : World), RdL shI W (.slice a n c) p.f7 → Calls Try.prog 56 #[vPacket p.f0 p.f1 p.f2 p.f3 p.f4 p.f5 p.f6 (.slice a n c)] W (AnsN (.int .i64 cl) W) from by rw [hcl]; exact fun W H => specClsD W p (.slice a n c) H hl)
  rw [← hcl] at h
  clear hcl H
  unfold vPacket at CL ⊢
  subst h
  go_enter Try.func14, Try.ntmps14
  have rA1_ := Lib.hid (show (((W.alloc (.cells #[.int .i64 p.f0, .int .i64 p.f1, .int .i64 p.f2, .int .i64 p.f3, .int .i64 p.f4, .int .i64 p.f5, .int .i64 p.f6, .slice a n c] 26)).alloc (.cells #[.int .i64 0, .int .i64 0, .int .i64 0, .int .i64 0, .int .i64 0, .int .i64 0, .int .i64 0, .slice none 0 0] 26))).heap[W.heap.size]? = some (.cells #[.int .i64 p.f0, .int .i64 p.f1, .int .i64 p.f2, .int .i64 p.f3, .int .i64 p.f4, .int .i64 p.f5, .int .i64 p.f6, .slice a n c] 26 (0, 0)) from by rw [heap_alloc_old _ _ (by simp only [World.size_alloc]; omega)]; exact heap_alloc_new _ _)
  have rR2_ := Lib.hid (show (((W.alloc (.cells #[.int .i64 p.f0, .int .i64 p.f1, .int .i64 p.f2, .int .i64 p.f3, .int .i64 p.f4, .int .i64 p.f5, .int .i64 p.f6, .slice a n c] 26)).alloc (.cells #[.int .i64 0, .int .i64 0, .int .i64 0, .int .i64 0, .int .i64 0, .int .i64 0, .int .i64 0, .slice none 0 0] 26))).heap[W.heap.size + 1]? = some (.cells #[.int .i64 0, .int .i64 0, .int .i64 0, .int .i64 0, .int .i64 0, .int .i64 0, .int .i64 0, .slice none 0 0] 26 (0, 0)) from by exact heap_pair _ _ _)
  have G3_ := Lib.hid (show (W).grownBy (((W.alloc (.cells #[.int .i64 p.f0, .int .i64 p.f1, .int .i64 p.f2, .int .i64 p.f3, .int .i64 p.f4, .int .i64 p.f5, .int .i64 p.f6, .slice a n c] 26)).alloc (.cells #[.int .i64 0, .int .i64 0, .int .i64 0, .int .i64 0, .int .i64 0, .int .i64 0, .int .i64 0, .slice none 0 0] 26))) none from (gby_alloc (gby_alloc (gby_refl _ _) _) _))
  have A_0_ : (((W.alloc (.cells #[.int .i64 p.f0, .int .i64 p.f1, .int .i64 p.f2, .int .i64 p.f3, .int .i64 p.f4, .int .i64 p.f5, .int .i64 p.f6, .slice a n c] 26)).alloc (.cells #[.int .i64 0, .int .i64 0, .int .i64 0, .int .i64 0, .int .i64 0, .int .i64 0, .int .i64 0, .slice none 0 0] 26))).cell? ⟨W.heap.size, 0, none⟩ = some (.int .i64 p.f0) := cell_of_row _ _ 0 _ _ _ rA1_.out
  have A_1_ : (((W.alloc (.cells #[.int .i64 p.f0, .int .i64 p.f1, .int .i64 p.f2, .int .i64 p.f3, .int .i64 p.f4, .int .i64 p.f5, .int .i64 p.f6, .slice a n c] 26)).alloc (.cells #[.int .i64 0, .int .i64 0, .int .i64 0, .int .i64 0, .int .i64 0, .int .i64 0, .int .i64 0, .slice none 0 0] 26))).cell? ⟨W.heap.size, 1, none⟩ = some (.int .i64 p.f1) := cell_of_row _ _ 1 _ _ _ rA1_.out
  have A_2_ : (((W.alloc (.cells #[.int .i64 p.f0, .int .i64 p.f1, .int .i64 p.f2, .int .i64 p.f3, .int .i64 p.f4, .int .i64 p.f5, .int .i64 p.f6, .slice a n c] 26)).alloc (.cells #[.int .i64 0, .int .i64 0, .int .i64 0, .int .i64 0, .int .i64 0, .int .i64 0, .int .i64 0, .slice none 0 0] 26))).cell? ⟨W.heap.size, 2, none⟩ = some (.int .i64 p.f2) := cell_of_row _ _ 2 _ _ _ rA1_.out
  have A_3_ : (((W.alloc (.cells #[.int .i64 p.f0, .int .i64 p.f1, .int .i64 p.f2, .int .i64 p.f3, .int .i64 p.f4, .int .i64 p.f5, .int .i64 p.f6, .slice a n c] 26)).alloc (.cells #[.int .i64 0, .int .i64 0, .int .i64 0, .int .i64 0, .int .i64 0, .int .i64 0, .int .i64 0, .slice none 0 0] 26))).cell? ⟨W.heap.size, 3, none⟩ = some (.int .i64 p.f3) := cell_of_row _ _ 3 _ _ _ rA1_.out
  have A_4_ : (((W.alloc (.cells #[.int .i64 p.f0, .int .i64 p.f1, .int .i64 p.f2, .int .i64 p.f3, .int .i64 p.f4, .int .i64 p.f5, .int .i64 p.f6, .slice a n c] 26)).alloc (.cells #[.int .i64 0, .int .i64 0, .int .i64 0, .int .i64 0, .int .i64 0, .int .i64 0, .int .i64 0, .slice none 0 0] 26))).cell? ⟨W.heap.size, 4, none⟩ = some (.int .i64 p.f4) := cell_of_row _ _ 4 _ _ _ rA1_.out
  have A_5_ : (((W.alloc (.cells #[.int .i64 p.f0, .int .i64 p.f1, .int .i64 p.f2, .int .i64 p.f3, .int .i64 p.f4, .int .i64 p.f5, .int .i64 p.f6, .slice a n c] 26)).alloc (.cells #[.int .i64 0, .int .i64 0, .int .i64 0, .int .i64 0, .int .i64 0, .int .i64 0, .int .i64 0, .slice none 0 0] 26))).cell? ⟨W.heap.size, 5, none⟩ = some (.int .i64 p.f5) := cell_of_row _ _ 5 _ _ _ rA1_.out
  have A_6_ : (((W.alloc (.cells #[.int .i64 p.f0, .int .i64 p.f1, .int .i64 p.f2, .int .i64 p.f3, .int .i64 p.f4, .int .i64 p.f5, .int .i64 p.f6, .slice a n c] 26)).alloc (.cells #[.int .i64 0, .int .i64 0, .int .i64 0, .int .i64 0, .int .i64 0, .int .i64 0, .int .i64 0, .slice none 0 0] 26))).cell? ⟨W.heap.size, 6, none⟩ = some (.int .i64 p.f6) := cell_of_row _ _ 6 _ _ _ rA1_.out
  have A_7_ : (((W.alloc (.cells #[.int .i64 p.f0, .int .i64 p.f1, .int .i64 p.f2, .int .i64 p.f3, .int .i64 p.f4, .int .i64 p.f5, .int .i64 p.f6, .slice a n c] 26)).alloc (.cells #[.int .i64 0, .int .i64 0, .int .i64 0, .int .i64 0, .int .i64 0, .int .i64 0, .int .i64 0, .slice none 0 0] 26))).cell? ⟨W.heap.size, 7, none⟩ = some (.slice a n c) := cell_of_row _ _ 7 _ _ _ rA1_.out
  have R_0_ : (((W.alloc (.cells #[.int .i64 p.f0, .int .i64 p.f1, .int .i64 p.f2, .int .i64 p.f3, .int .i64 p.f4, .int .i64 p.f5, .int .i64 p.f6, .slice a n c] 26)).alloc (.cells #[.int .i64 0, .int .i64 0, .int .i64 0, .int .i64 0, .int .i64 0, .int .i64 0, .int .i64 0, .slice none 0 0] 26))).cell? ⟨W.heap.size + 1, 0, none⟩ = some (.int .i64 0) := cell_of_row _ _ 0 _ _ _ rR2_.out
  have R_1_ : (((W.alloc (.cells #[.int .i64 p.f0, .int .i64 p.f1, .int .i64 p.f2, .int .i64 p.f3, .int .i64 p.f4, .int .i64 p.f5, .int .i64 p.f6, .slice a n c] 26)).alloc (.cells #[.int .i64 0, .int .i64 0, .int .i64 0, .int .i64 0, .int .i64 0, .int .i64 0, .int .i64 0, .slice none 0 0] 26))).cell? ⟨W.heap.size + 1, 1, none⟩ = some (.int .i64 0) := cell_of_row _ _ 1 _ _ _ rR2_.out
  have R_2_ : (((W.alloc (.cells #[.int .i64 p.f0, .int .i64 p.f1, .int .i64 p.f2, .int .i64 p.f3, .int .i64 p.f4, .int .i64 p.f5, .int .i64 p.f6, .slice a n c] 26)).alloc (.cells #[.int .i64 0, .int .i64 0, .int .i64 0, .int .i64 0, .int .i64 0, .int .i64 0, .int .i64 0, .slice none 0 0] 26))).cell? ⟨W.heap.size + 1, 2, none⟩ = some (.int .i64 0) := cell_of_row _ _ 2 _ _ _ rR2_.out
  have R_3_ : (((W.alloc (.cells #[.int .i64 p.f0, .int .i64 p.f1, .int .i64 p.f2, .int .i64 p.f3, .int .i64 p.f4, .int .i64 p.f5, .int .i64 p.f6, .slice a n c] 26)).alloc (.cells #[.int .i64 0, .int .i64 0, .int .i64 0, .int .i64 0, .int .i64 0, .int .i64 0, .int .i64 0, .slice none 0 0] 26))).cell? ⟨W.heap.size + 1, 3, none⟩ = some (.int .i64 0) := cell_of_row _ _ 3 _ _ _ rR2_.out
  have R_4_ : (((W.alloc (.cells #[.int .i64 p.f0, .int .i64 p.f1, .int .i64 p.f2, .int .i64 p.f3, .int .i64 p.f4, .int .i64 p.f5, .int .i64 p.f6, .slice a n c] 26)).alloc (.cells #[.int .i64 0, .int .i64 0, .int .i64 0, .int .i64 0, .int .i64 0, .int .i64 0, .int .i64 0, .slice none 0 0] 26))).cell? ⟨W.heap.size + 1, 4, none⟩ = some (.int .i64 0) := cell_of_row _ _ 4 _ _ _ rR2_.out
  have R_5_ : (((W.alloc (.cells #[.int .i64 p.f0, .int .i64 p.f1, .int .i64 p.f2, .int .i64 p.f3, .int .i64 p.f4, .int .i64 p.f5, .int .i64 p.f6, .slice a n c] 26)).alloc (.cells #[.int .i64 0, .int .i64 0, .int .i64 0, .int .i64 0, .int .i64 0, .int .i64 0, .int .i64 0, .slice none 0 0] 26))).cell? ⟨W.heap.size + 1, 5, none⟩ = some (.int .i64 0) := cell_of_row _ _ 5 _ _ _ rR2_.out
  have R_6_ : (((W.alloc (.cells #[.int .i64 p.f0, .int .i64 p.f1, .int .i64 p.f2, .int .i64 p.f3, .int .i64 p.f4, .int .i64 p.f5, .int .i64 p.f6, .slice a n c] 26)).alloc (.cells #[.int .i64 0, .int .i64 0, .int .i64 0, .int .i64 0, .int .i64 0, .int .i64 0, .int .i64 0, .slice none 0 0] 26))).cell? ⟨W.heap.size + 1, 6, none⟩ = some (.int .i64 0) := cell_of_row _ _ 6 _ _ _ rR2_.out
  have R_7_ : (((W.alloc (.cells #[.int .i64 p.f0, .int .i64 p.f1, .int .i64 p.f2, .int .i64 p.f3, .int .i64 p.f4, .int .i64 p.f5, .int .i64 p.f6, .slice a n c] 26)).alloc (.cells #[.int .i64 0, .int .i64 0, .int .i64 0, .int .i64 0, .int .i64 0, .int .i64 0, .int .i64 0, .slice none 0 0] 26))).cell? ⟨W.heap.size + 1, 7, none⟩ = some (.slice none 0 0) := cell_of_row _ _ 7 _ _ _ rR2_.out
  go_wp2_with fail
  go_at_call 56
  refine (CL.out _ (HX.out.grow G3_.out)).mono ?_
  rintro e w1 ⟨rfl, g⟩
  have szc := g.size
  try simp only [World.size_alloc] at szc
  clear A_0_ A_1_ A_2_ A_3_ A_4_ A_5_ A_6_ A_7_ R_0_ R_1_ R_2_ R_3_ R_4_ R_5_ R_6_ R_7_
  have rA4_ := Lib.hid (show (w1).heap[W.heap.size]? = some (.cells #[.int .i64 p.f0, .int .i64 p.f1, .int .i64 p.f2, .int .i64 p.f3, .int .i64 p.f4, .int .i64 p.f5, .int .i64 p.f6, .slice a n c] 26 (0, 0)) from row_held g rA1_.out)
  clear rA1_
  have rR5_ := Lib.hid (show (w1).heap[W.heap.size + 1]? = some (.cells #[.int .i64 0, .int .i64 0, .int .i64 0, .int .i64 0, .int .i64 0, .int .i64 0, .int .i64 0, .slice none 0 0] 26 (0, 0)) from row_held g rR2_.out)
  clear rR2_
  have G6_ := Lib.hid (show (W).grownBy (w1) none from gby_trans G3_.out g)
  clear g
  go_wp2_with fail
  go_at_call 57
  refine (isId_yes _ _ (by omega) (by omega)).mono ?_
  rintro e w2 ⟨rfl, hd⟩
  have g := hd.gby none
  have szd := g.size
  clear hd
  have rA7_ := Lib.hid (show (w2).heap[W.heap.size]? = some (.cells #[.int .i64 p.f0, .int .i64 p.f1, .int .i64 p.f2, .int .i64 p.f3, .int .i64 p.f4, .int .i64 p.f5, .int .i64 p.f6, .slice a n c] 26 (0, 0)) from row_held g rA4_.out)
  clear rA4_
  have rR8_ := Lib.hid (show (w2).heap[W.heap.size + 1]? = some (.cells #[.int .i64 0, .int .i64 0, .int .i64 0, .int .i64 0, .int .i64 0, .int .i64 0, .int .i64 0, .slice none 0 0] 26 (0, 0)) from row_held g rR5_.out)
  clear rR5_
  have G9_ := Lib.hid (show (W).grownBy (w2) none from gby_trans G6_.out g)
  clear g
  go_wp2_with fail
  go_at_call 58
  refine (in_yes _ _ _ _ (by omega) (by omega)).mono ?_
  rintro e w3 ⟨rfl, rfl⟩
  have A_0_ : (w2).cell? ⟨W.heap.size, 0, none⟩ = some (.int .i64 p.f0) := cell_of_row _ _ 0 _ _ _ rA7_.out
  have A_1_ : (w2).cell? ⟨W.heap.size, 1, none⟩ = some (.int .i64 p.f1) := cell_of_row _ _ 1 _ _ _ rA7_.out
  have A_2_ : (w2).cell? ⟨W.heap.size, 2, none⟩ = some (.int .i64 p.f2) := cell_of_row _ _ 2 _ _ _ rA7_.out
  have A_3_ : (w2).cell? ⟨W.heap.size, 3, none⟩ = some (.int .i64 p.f3) := cell_of_row _ _ 3 _ _ _ rA7_.out
  have A_4_ : (w2).cell? ⟨W.heap.size, 4, none⟩ = some (.int .i64 p.f4) := cell_of_row _ _ 4 _ _ _ rA7_.out
  have A_5_ : (w2).cell? ⟨W.heap.size, 5, none⟩ = some (.int .i64 p.f5) := cell_of_row _ _ 5 _ _ _ rA7_.out
  have A_6_ : (w2).cell? ⟨W.heap.size, 6, none⟩ = some (.int .i64 p.f6) := cell_of_row _ _ 6 _ _ _ rA7_.out
  have A_7_ : (w2).cell? ⟨W.heap.size, 7, none⟩ = some (.slice a n c) := cell_of_row _ _ 7 _ _ _ rA7_.out
  have R_0_ : (w2).cell? ⟨W.heap.size + 1, 0, none⟩ = some (.int .i64 0) := cell_of_row _ _ 0 _ _ _ rR8_.out
  have R_1_ : (w2).cell? ⟨W.heap.size + 1, 1, none⟩ = some (.int .i64 0) := cell_of_row _ _ 1 _ _ _ rR8_.out
  have R_2_ : (w2).cell? ⟨W.heap.size + 1, 2, none⟩ = some (.int .i64 0) := cell_of_row _ _ 2 _ _ _ rR8_.out
  have R_3_ : (w2).cell? ⟨W.heap.size + 1, 3, none⟩ = some (.int .i64 0) := cell_of_row _ _ 3 _ _ _ rR8_.out
  have R_4_ : (w2).cell? ⟨W.heap.size + 1, 4, none⟩ = some (.int .i64 0) := cell_of_row _ _ 4 _ _ _ rR8_.out
  have R_5_ : (w2).cell? ⟨W.heap.size + 1, 5, none⟩ = some (.int .i64 0) := cell_of_row _ _ 5 _ _ _ rR8_.out
  have R_6_ : (w2).cell? ⟨W.heap.size + 1, 6, none⟩ = some (.int .i64 0) := cell_of_row _ _ 6 _ _ _ rR8_.out
  have R_7_ : (w2).cell? ⟨W.heap.size + 1, 7, none⟩ = some (.slice none 0 0) := cell_of_row _ _ 7 _ _ _ rR8_.out
  have Rf0_ : (w2).frozen? ⟨W.heap.size + 1, 0, none⟩ = false := frozen_of_row _ _ 0 _ _ rR8_.out
  have Rf1_ : (w2).frozen? ⟨W.heap.size + 1, 1, none⟩ = false := frozen_of_row _ _ 1 _ _ rR8_.out
  have Rf2_ : (w2).frozen? ⟨W.heap.size + 1, 2, none⟩ = false := frozen_of_row _ _ 2 _ _ rR8_.out
  have Rf3_ : (w2).frozen? ⟨W.heap.size + 1, 3, none⟩ = false := frozen_of_row _ _ 3 _ _ rR8_.out
  have Rf4_ : (w2).frozen? ⟨W.heap.size + 1, 4, none⟩ = false := frozen_of_row _ _ 4 _ _ rR8_.out
  have Rf5_ : (w2).frozen? ⟨W.heap.size + 1, 5, none⟩ = false := frozen_of_row _ _ 5 _ _ rR8_.out
  have Rf6_ : (w2).frozen? ⟨W.heap.size + 1, 6, none⟩ = false := frozen_of_row _ _ 6 _ _ rR8_.out
  have Rf7_ : (w2).frozen? ⟨W.heap.size + 1, 7, none⟩ = false := frozen_of_row _ _ 7 _ _ rR8_.out
  go_wp2
  refine bodyPost_ret (v := .tuple #[.agg #[.int .i64 6, .int .i64 b, .int .i64 p.f1, .int .i64 0, .int .i64 0, .int .i64 p.f5, .int .i64 s, .slice none 0 0], .bool true]) (by simp [results, go_sem, R_0_, R_1_, R_2_, R_3_, R_4_, R_5_, R_6_, R_7_]) rfl ⟨_, rfl, ?_, ?_⟩
  · exact OwU.one owL_nil
  · repeat (with_reducible refine gby_setnew ?_ _ (by first | omega | (dsimp only; omega)) _)
    exact G9_.out

set_option maxRecDepth 8000 in
set_option maxHeartbeats 4000000 in
theorem implRefCls (W : World) (p : DPacket) (v : Value) (b s : Int) (H : RdL shI W v p.f7) (hl : szL shI p.f7 ≤ 1048576) (h : clsD p ≠ 1) : Calls Try.prog 16 #[vPacket p.f0 p.f1 p.f2 p.f3 p.f4 p.f5 p.f6 v, .int .i64 b, .int .i64 s] W (ResIRefusalOf 0 0 0 0 0 0 0 [] false W) := by
  obtain ⟨a, n, c, rfl⟩ := RdL.form H
  have HX := Lib.hid H
  obtain ⟨cl, hcl⟩ : ∃ cl, cl = clsD p := ⟨_, rfl⟩
  have CL := Lib.hid (show ∀ (W : World), RdL shI W (.slice a n c) p.f7 → Calls Try.prog 43 #[vPacket p.f0 p.f1 p.f2 p.f3 p.f4 p.f5 p.f6 (.slice a n c)] W (AnsN (.int .i64 cl) W) from by rw [hcl]; exact fun W H => implClsD W p (.slice a n c) H hl)
  rw [← hcl] at h
  clear hcl H
  unfold vPacket at CL ⊢
  have hne : (cl != 1) = true := by simpa using h
  have hne2 : (cl == 1) = false := beq_eq_false_iff_ne.2 h
  clear h
  go_enter Try.func16, Try.ntmps16
  have rA1_ := Lib.hid (show (((W.alloc (.cells #[.int .i64 p.f0, .int .i64 p.f1, .int .i64 p.f2, .int .i64 p.f3, .int .i64 p.f4, .int .i64 p.f5, .int .i64 p.f6, .slice a n c] 26)).alloc (.cells #[.int .i64 0, .int .i64 0, .int .i64 0, .int .i64 0, .int .i64 0, .int .i64 0, .int .i64 0, .slice none 0 0] 26))).heap[W.heap.size]? = some (.cells #[.int .i64 p.f0, .int .i64 p.f1, .int .i64 p.f2, .int .i64 p.f3, .int .i64 p.f4, .int .i64 p.f5, .int .i64 p.f6, .slice a n c] 26 (0, 0)) from by rw [heap_alloc_old _ _ (by simp only [World.size_alloc]; omega)]; exact heap_alloc_new _ _)
  have rR2_ := Lib.hid (show (((W.alloc (.cells #[.int .i64 p.f0, .int .i64 p.f1, .int .i64 p.f2, .int .i64 p.f3, .int .i64 p.f4, .int .i64 p.f5, .int .i64 p.f6, .slice a n c] 26)).alloc (.cells #[.int .i64 0, .int .i64 0, .int .i64 0, .int .i64 0, .int .i64 0, .int .i64 0, .int .i64 0, .slice none 0 0] 26))).heap[W.heap.size + 1]? = some (.cells #[.int .i64 0, .int .i64 0, .int .i64 0, .int .i64 0, .int .i64 0, .int .i64 0, .int .i64 0, .slice none 0 0] 26 (0, 0)) from by exact heap_pair _ _ _)
  have G3_ := Lib.hid (show (W).grownBy (((W.alloc (.cells #[.int .i64 p.f0, .int .i64 p.f1, .int .i64 p.f2, .int .i64 p.f3, .int .i64 p.f4, .int .i64 p.f5, .int .i64 p.f6, .slice a n c] 26)).alloc (.cells #[.int .i64 0, .int .i64 0, .int .i64 0, .int .i64 0, .int .i64 0, .int .i64 0, .int .i64 0, .slice none 0 0] 26))) none from (gby_alloc (gby_alloc (gby_refl _ _) _) _))
  have A_0_ : (((W.alloc (.cells #[.int .i64 p.f0, .int .i64 p.f1, .int .i64 p.f2, .int .i64 p.f3, .int .i64 p.f4, .int .i64 p.f5, .int .i64 p.f6, .slice a n c] 26)).alloc (.cells #[.int .i64 0, .int .i64 0, .int .i64 0, .int .i64 0, .int .i64 0, .int .i64 0, .int .i64 0, .slice none 0 0] 26))).cell? ⟨W.heap.size, 0, none⟩ = some (.int .i64 p.f0) := cell_of_row _ _ 0 _ _ _ rA1_.out
  have A_1_ : (((W.alloc (.cells #[.int .i64 p.f0, .int .i64 p.f1, .int .i64 p.f2, .int .i64 p.f3, .int .i64 p.f4, .int .i64 p.f5, .int .i64 p.f6, .slice a n c] 26)).alloc (.cells #[.int .i64 0, .int .i64 0, .int .i64 0, .int .i64 0, .int .i64 0, .int .i64 0, .int .i64 0, .slice none 0 0] 26))).cell? ⟨W.heap.size, 1, none⟩ = some (.int .i64 p.f1) := cell_of_row _ _ 1 _ _ _ rA1_.out
  have A_2_ : (((W.alloc (.cells #[.int .i64 p.f0, .int .i64 p.f1, .int .i64 p.f2, .int .i64 p.f3, .int .i64 p.f4, .int .i64 p.f5, .int .i64 p.f6, .slice a n c] 26)).alloc (.cells #[.int .i64 0, .int .i64 0, .int .i64 0, .int .i64 0, .int .i64 0, .int .i64 0, .int .i64 0, .slice none 0 0] 26))).cell? ⟨W.heap.size, 2, none⟩ = some (.int .i64 p.f2) := cell_of_row _ _ 2 _ _ _ rA1_.out
  have A_3_ : (((W.alloc (.cells #[.int .i64 p.f0, .int .i64 p.f1, .int .i64 p.f2, .int .i64 p.f3, .int .i64 p.f4, .int .i64 p.f5, .int .i64 p.f6, .slice a n c] 26)).alloc (.cells #[.int .i64 0, .int .i64 0, .int .i64 0, .int .i64 0, .int .i64 0, .int .i64 0, .int .i64 0, .slice none 0 0] 26))).cell? ⟨W.heap.size, 3, none⟩ = some (.int .i64 p.f3) := cell_of_row _ _ 3 _ _ _ rA1_.out
  have A_4_ : (((W.alloc (.cells #[.int .i64 p.f0, .int .i64 p.f1, .int .i64 p.f2, .int .i64 p.f3, .int .i64 p.f4, .int .i64 p.f5, .int .i64 p.f6, .slice a n c] 26)).alloc (.cells #[.int .i64 0, .int .i64 0, .int .i64 0, .int .i64 0, .int .i64 0, .int .i64 0, .int .i64 0, .slice none 0 0] 26))).cell? ⟨W.heap.size, 4, none⟩ = some (.int .i64 p.f4) := cell_of_row _ _ 4 _ _ _ rA1_.out
  have A_5_ : (((W.alloc (.cells #[.int .i64 p.f0, .int .i64 p.f1, .int .i64 p.f2, .int .i64 p.f3, .int .i64 p.f4, .int .i64 p.f5, .int .i64 p.f6, .slice a n c] 26)).alloc (.cells #[.int .i64 0, .int .i64 0, .int .i64 0, .int .i64 0, .int .i64 0, .int .i64 0, .int .i64 0, .slice none 0 0] 26))).cell? ⟨W.heap.size, 5, none⟩ = some (.int .i64 p.f5) := cell_of_row _ _ 5 _ _ _ rA1_.out
  have A_6_ : (((W.alloc (.cells #[.int .i64 p.f0, .int .i64 p.f1, .int .i64 p.f2, .int .i64 p.f3, .int .i64 p.f4, .int .i64 p.f5, .int .i64 p.f6, .slice a n c] 26)).alloc (.cells #[.int .i64 0, .int .i64 0, .int .i64 0, .int .i64 0, .int .i64 0, .int .i64 0, .int .i64 0, .slice none 0 0] 26))).cell? ⟨W.heap.size, 6, none⟩ = some (.int .i64 p.f6) := cell_of_row _ _ 6 _ _ _ rA1_.out
  have A_7_ : (((W.alloc (.cells #[.int .i64 p.f0, .int .i64 p.f1, .int .i64 p.f2, .int .i64 p.f3, .int .i64 p.f4, .int .i64 p.f5, .int .i64 p.f6, .slice a n c] 26)).alloc (.cells #[.int .i64 0, .int .i64 0, .int .i64 0, .int .i64 0, .int .i64 0, .int .i64 0, .int .i64 0, .slice none 0 0] 26))).cell? ⟨W.heap.size, 7, none⟩ = some (.slice a n c) := cell_of_row _ _ 7 _ _ _ rA1_.out
  have R_0_ : (((W.alloc (.cells #[.int .i64 p.f0, .int .i64 p.f1, .int .i64 p.f2, .int .i64 p.f3, .int .i64 p.f4, .int .i64 p.f5, .int .i64 p.f6, .slice a n c] 26)).alloc (.cells #[.int .i64 0, .int .i64 0, .int .i64 0, .int .i64 0, .int .i64 0, .int .i64 0, .int .i64 0, .slice none 0 0] 26))).cell? ⟨W.heap.size + 1, 0, none⟩ = some (.int .i64 0) := cell_of_row _ _ 0 _ _ _ rR2_.out
  have R_1_ : (((W.alloc (.cells #[.int .i64 p.f0, .int .i64 p.f1, .int .i64 p.f2, .int .i64 p.f3, .int .i64 p.f4, .int .i64 p.f5, .int .i64 p.f6, .slice a n c] 26)).alloc (.cells #[.int .i64 0, .int .i64 0, .int .i64 0, .int .i64 0, .int .i64 0, .int .i64 0, .int .i64 0, .slice none 0 0] 26))).cell? ⟨W.heap.size + 1, 1, none⟩ = some (.int .i64 0) := cell_of_row _ _ 1 _ _ _ rR2_.out
  have R_2_ : (((W.alloc (.cells #[.int .i64 p.f0, .int .i64 p.f1, .int .i64 p.f2, .int .i64 p.f3, .int .i64 p.f4, .int .i64 p.f5, .int .i64 p.f6, .slice a n c] 26)).alloc (.cells #[.int .i64 0, .int .i64 0, .int .i64 0, .int .i64 0, .int .i64 0, .int .i64 0, .int .i64 0, .slice none 0 0] 26))).cell? ⟨W.heap.size + 1, 2, none⟩ = some (.int .i64 0) := cell_of_row _ _ 2 _ _ _ rR2_.out
  have R_3_ : (((W.alloc (.cells #[.int .i64 p.f0, .int .i64 p.f1, .int .i64 p.f2, .int .i64 p.f3, .int .i64 p.f4, .int .i64 p.f5, .int .i64 p.f6, .slice a n c] 26)).alloc (.cells #[.int .i64 0, .int .i64 0, .int .i64 0, .int .i64 0, .int .i64 0, .int .i64 0, .int .i64 0, .slice none 0 0] 26))).cell? ⟨W.heap.size + 1, 3, none⟩ = some (.int .i64 0) := cell_of_row _ _ 3 _ _ _ rR2_.out
  have R_4_ : (((W.alloc (.cells #[.int .i64 p.f0, .int .i64 p.f1, .int .i64 p.f2, .int .i64 p.f3, .int .i64 p.f4, .int .i64 p.f5, .int .i64 p.f6, .slice a n c] 26)).alloc (.cells #[.int .i64 0, .int .i64 0, .int .i64 0, .int .i64 0, .int .i64 0, .int .i64 0, .int .i64 0, .slice none 0 0] 26))).cell? ⟨W.heap.size + 1, 4, none⟩ = some (.int .i64 0) := cell_of_row _ _ 4 _ _ _ rR2_.out
  have R_5_ : (((W.alloc (.cells #[.int .i64 p.f0, .int .i64 p.f1, .int .i64 p.f2, .int .i64 p.f3, .int .i64 p.f4, .int .i64 p.f5, .int .i64 p.f6, .slice a n c] 26)).alloc (.cells #[.int .i64 0, .int .i64 0, .int .i64 0, .int .i64 0, .int .i64 0, .int .i64 0, .int .i64 0, .slice none 0 0] 26))).cell? ⟨W.heap.size + 1, 5, none⟩ = some (.int .i64 0) := cell_of_row _ _ 5 _ _ _ rR2_.out
  have R_6_ : (((W.alloc (.cells #[.int .i64 p.f0, .int .i64 p.f1, .int .i64 p.f2, .int .i64 p.f3, .int .i64 p.f4, .int .i64 p.f5, .int .i64 p.f6, .slice a n c] 26)).alloc (.cells #[.int .i64 0, .int .i64 0, .int .i64 0, .int .i64 0, .int .i64 0, .int .i64 0, .int .i64 0, .slice none 0 0] 26))).cell? ⟨W.heap.size + 1, 6, none⟩ = some (.int .i64 0) := cell_of_row _ _ 6 _ _ _ rR2_.out
  have R_7_ : (((W.alloc (.cells #[.int .i64 p.f0, .int .i64 p.f1, .int .i64 p.f2, .int .i64 p.f3, .int .i64 p.f4, .int .i64 p.f5, .int .i64 p.f6, .slice a n c] 26)).alloc (.cells #[.int .i64 0, .int .i64 0, .int .i64 0, .int .i64 0, .int .i64 0, .int .i64 0, .int .i64 0, .slice none 0 0] 26))).cell? ⟨W.heap.size + 1, 7, none⟩ = some (.slice none 0 0) := cell_of_row _ _ 7 _ _ _ rR2_.out
  go_wp2_with fail
  go_at_call 43
  refine (CL.out _ (HX.out.grow G3_.out)).mono ?_
  rintro e w1 ⟨rfl, g⟩
  have szc := g.size
  try simp only [World.size_alloc] at szc
  clear A_0_ A_1_ A_2_ A_3_ A_4_ A_5_ A_6_ A_7_ R_0_ R_1_ R_2_ R_3_ R_4_ R_5_ R_6_ R_7_
  have rA4_ := Lib.hid (show (w1).heap[W.heap.size]? = some (.cells #[.int .i64 p.f0, .int .i64 p.f1, .int .i64 p.f2, .int .i64 p.f3, .int .i64 p.f4, .int .i64 p.f5, .int .i64 p.f6, .slice a n c] 26 (0, 0)) from row_held g rA1_.out)
  clear rA1_
  have rR5_ := Lib.hid (show (w1).heap[W.heap.size + 1]? = some (.cells #[.int .i64 0, .int .i64 0, .int .i64 0, .int .i64 0, .int .i64 0, .int .i64 0, .int .i64 0, .slice none 0 0] 26 (0, 0)) from row_held g rR2_.out)
  clear rR2_
  have G6_ := Lib.hid (show (W).grownBy (w1) none from gby_trans G3_.out g)
  clear g
  have A_0_ : (w1).cell? ⟨W.heap.size, 0, none⟩ = some (.int .i64 p.f0) := cell_of_row _ _ 0 _ _ _ rA4_.out
  have A_1_ : (w1).cell? ⟨W.heap.size, 1, none⟩ = some (.int .i64 p.f1) := cell_of_row _ _ 1 _ _ _ rA4_.out
  have A_2_ : (w1).cell? ⟨W.heap.size, 2, none⟩ = some (.int .i64 p.f2) := cell_of_row _ _ 2 _ _ _ rA4_.out
  have A_3_ : (w1).cell? ⟨W.heap.size, 3, none⟩ = some (.int .i64 p.f3) := cell_of_row _ _ 3 _ _ _ rA4_.out
  have A_4_ : (w1).cell? ⟨W.heap.size, 4, none⟩ = some (.int .i64 p.f4) := cell_of_row _ _ 4 _ _ _ rA4_.out
  have A_5_ : (w1).cell? ⟨W.heap.size, 5, none⟩ = some (.int .i64 p.f5) := cell_of_row _ _ 5 _ _ _ rA4_.out
  have A_6_ : (w1).cell? ⟨W.heap.size, 6, none⟩ = some (.int .i64 p.f6) := cell_of_row _ _ 6 _ _ _ rA4_.out
  have A_7_ : (w1).cell? ⟨W.heap.size, 7, none⟩ = some (.slice a n c) := cell_of_row _ _ 7 _ _ _ rA4_.out
  have R_0_ : (w1).cell? ⟨W.heap.size + 1, 0, none⟩ = some (.int .i64 0) := cell_of_row _ _ 0 _ _ _ rR5_.out
  have R_1_ : (w1).cell? ⟨W.heap.size + 1, 1, none⟩ = some (.int .i64 0) := cell_of_row _ _ 1 _ _ _ rR5_.out
  have R_2_ : (w1).cell? ⟨W.heap.size + 1, 2, none⟩ = some (.int .i64 0) := cell_of_row _ _ 2 _ _ _ rR5_.out
  have R_3_ : (w1).cell? ⟨W.heap.size + 1, 3, none⟩ = some (.int .i64 0) := cell_of_row _ _ 3 _ _ _ rR5_.out
  have R_4_ : (w1).cell? ⟨W.heap.size + 1, 4, none⟩ = some (.int .i64 0) := cell_of_row _ _ 4 _ _ _ rR5_.out
  have R_5_ : (w1).cell? ⟨W.heap.size + 1, 5, none⟩ = some (.int .i64 0) := cell_of_row _ _ 5 _ _ _ rR5_.out
  have R_6_ : (w1).cell? ⟨W.heap.size + 1, 6, none⟩ = some (.int .i64 0) := cell_of_row _ _ 6 _ _ _ rR5_.out
  have R_7_ : (w1).cell? ⟨W.heap.size + 1, 7, none⟩ = some (.slice none 0 0) := cell_of_row _ _ 7 _ _ _ rR5_.out
  have Rf0_ : (w1).frozen? ⟨W.heap.size + 1, 0, none⟩ = false := frozen_of_row _ _ 0 _ _ rR5_.out
  have Rf1_ : (w1).frozen? ⟨W.heap.size + 1, 1, none⟩ = false := frozen_of_row _ _ 1 _ _ rR5_.out
  have Rf2_ : (w1).frozen? ⟨W.heap.size + 1, 2, none⟩ = false := frozen_of_row _ _ 2 _ _ rR5_.out
  have Rf3_ : (w1).frozen? ⟨W.heap.size + 1, 3, none⟩ = false := frozen_of_row _ _ 3 _ _ rR5_.out
  have Rf4_ : (w1).frozen? ⟨W.heap.size + 1, 4, none⟩ = false := frozen_of_row _ _ 4 _ _ rR5_.out
  have Rf5_ : (w1).frozen? ⟨W.heap.size + 1, 5, none⟩ = false := frozen_of_row _ _ 5 _ _ rR5_.out
  have Rf6_ : (w1).frozen? ⟨W.heap.size + 1, 6, none⟩ = false := frozen_of_row _ _ 6 _ _ rR5_.out
  have Rf7_ : (w1).frozen? ⟨W.heap.size + 1, 7, none⟩ = false := frozen_of_row _ _ 7 _ _ rR5_.out
  go_wp2
  refine bodyPost_ret (v := .tuple #[.agg #[.int .i64 0, .int .i64 0, .int .i64 0, .int .i64 0, .int .i64 0, .int .i64 0, .int .i64 0, .slice none 0 0], .bool false]) (by simp [results, go_sem, R_0_, R_1_, R_2_, R_3_, R_4_, R_5_, R_6_, R_7_]) rfl ⟨_, rfl, ?_, ?_⟩
  · exact OwU.one owL_nil
  · repeat (with_reducible refine gby_setnew ?_ _ (by first | omega | (dsimp only; omega)) _)
    exact G6_.out

set_option maxRecDepth 8000 in
set_option maxHeartbeats 4000000 in
theorem implRefBy (W : World) (p : DPacket) (v : Value) (b s : Int) (H : RdL shI W v p.f7) (hl : szL shI p.f7 ≤ 1048576) (h : clsD p = 1) (hb : b < 0 ∨ 255 < b) : Calls Try.prog 16 #[vPacket p.f0 p.f1 p.f2 p.f3 p.f4 p.f5 p.f6 v, .int .i64 b, .int .i64 s] W (ResIRefusalOf 0 0 0 0 0 0 0 [] false W) := by
  obtain ⟨a, n, c, rfl⟩ := RdL.form H
  have HX := Lib.hid H
  obtain ⟨cl, hcl⟩ : ∃ cl, cl = clsD p := ⟨_, rfl⟩
  have CL := Lib.hid (show ∀ (W : World), RdL shI W (.slice a n c) p.f7 → Calls Try.prog 43 #[vPacket p.f0 p.f1 p.f2 p.f3 p.f4 p.f5 p.f6 (.slice a n c)] W (AnsN (.int .i64 cl) W) from by rw [hcl]; exact fun W H => implClsD W p (.slice a n c) H hl)
  rw [← hcl] at h
  clear hcl H
  unfold vPacket at CL ⊢
  subst h
  go_enter Try.func16, Try.ntmps16
  have rA1_ := Lib.hid (show (((W.alloc (.cells #[.int .i64 p.f0, .int .i64 p.f1, .int .i64 p.f2, .int .i64 p.f3, .int .i64 p.f4, .int .i64 p.f5, .int .i64 p.f6, .slice a n c] 26)).alloc (.cells #[.int .i64 0, .int .i64 0, .int .i64 0, .int .i64 0, .int .i64 0, .int .i64 0, .int .i64 0, .slice none 0 0] 26))).heap[W.heap.size]? = some (.cells #[.int .i64 p.f0, .int .i64 p.f1, .int .i64 p.f2, .int .i64 p.f3, .int .i64 p.f4, .int .i64 p.f5, .int .i64 p.f6, .slice a n c] 26 (0, 0)) from by rw [heap_alloc_old _ _ (by simp only [World.size_alloc]; omega)]; exact heap_alloc_new _ _)
  have rR2_ := Lib.hid (show (((W.alloc (.cells #[.int .i64 p.f0, .int .i64 p.f1, .int .i64 p.f2, .int .i64 p.f3, .int .i64 p.f4, .int .i64 p.f5, .int .i64 p.f6, .slice a n c] 26)).alloc (.cells #[.int .i64 0, .int .i64 0, .int .i64 0, .int .i64 0, .int .i64 0, .int .i64 0, .int .i64 0, .slice none 0 0] 26))).heap[W.heap.size + 1]? = some (.cells #[.int .i64 0, .int .i64 0, .int .i64 0, .int .i64 0, .int .i64 0, .int .i64 0, .int .i64 0, .slice none 0 0] 26 (0, 0)) from by exact heap_pair _ _ _)
  have G3_ := Lib.hid (show (W).grownBy (((W.alloc (.cells #[.int .i64 p.f0, .int .i64 p.f1, .int .i64 p.f2, .int .i64 p.f3, .int .i64 p.f4, .int .i64 p.f5, .int .i64 p.f6, .slice a n c] 26)).alloc (.cells #[.int .i64 0, .int .i64 0, .int .i64 0, .int .i64 0, .int .i64 0, .int .i64 0, .int .i64 0, .slice none 0 0] 26))) none from (gby_alloc (gby_alloc (gby_refl _ _) _) _))
  have A_0_ : (((W.alloc (.cells #[.int .i64 p.f0, .int .i64 p.f1, .int .i64 p.f2, .int .i64 p.f3, .int .i64 p.f4, .int .i64 p.f5, .int .i64 p.f6, .slice a n c] 26)).alloc (.cells #[.int .i64 0, .int .i64 0, .int .i64 0, .int .i64 0, .int .i64 0, .int .i64 0, .int .i64 0, .slice none 0 0] 26))).cell? ⟨W.heap.size, 0, none⟩ = some (.int .i64 p.f0) := cell_of_row _ _ 0 _ _ _ rA1_.out
  have A_1_ : (((W.alloc (.cells #[.int .i64 p.f0, .int .i64 p.f1, .int .i64 p.f2, .int .i64 p.f3, .int .i64 p.f4, .int .i64 p.f5, .int .i64 p.f6, .slice a n c] 26)).alloc (.cells #[.int .i64 0, .int .i64 0, .int .i64 0, .int .i64 0, .int .i64 0, .int .i64 0, .int .i64 0, .slice none 0 0] 26))).cell? ⟨W.heap.size, 1, none⟩ = some (.int .i64 p.f1) := cell_of_row _ _ 1 _ _ _ rA1_.out
  have A_2_ : (((W.alloc (.cells #[.int .i64 p.f0, .int .i64 p.f1, .int .i64 p.f2, .int .i64 p.f3, .int .i64 p.f4, .int .i64 p.f5, .int .i64 p.f6, .slice a n c] 26)).alloc (.cells #[.int .i64 0, .int .i64 0, .int .i64 0, .int .i64 0, .int .i64 0, .int .i64 0, .int .i64 0, .slice none 0 0] 26))).cell? ⟨W.heap.size, 2, none⟩ = some (.int .i64 p.f2) := cell_of_row _ _ 2 _ _ _ rA1_.out
  have A_3_ : (((W.alloc (.cells #[.int .i64 p.f0, .int .i64 p.f1, .int .i64 p.f2, .int .i64 p.f3, .int .i64 p.f4, .int .i64 p.f5, .int .i64 p.f6, .slice a n c] 26)).alloc (.cells #[.int .i64 0, .int .i64 0, .int .i64 0, .int .i64 0, .int .i64 0, .int .i64 0, .int .i64 0, .slice none 0 0] 26))).cell? ⟨W.heap.size, 3, none⟩ = some (.int .i64 p.f3) := cell_of_row _ _ 3 _ _ _ rA1_.out
  have A_4_ : (((W.alloc (.cells #[.int .i64 p.f0, .int .i64 p.f1, .int .i64 p.f2, .int .i64 p.f3, .int .i64 p.f4, .int .i64 p.f5, .int .i64 p.f6, .slice a n c] 26)).alloc (.cells #[.int .i64 0, .int .i64 0, .int .i64 0, .int .i64 0, .int .i64 0, .int .i64 0, .int .i64 0, .slice none 0 0] 26))).cell? ⟨W.heap.size, 4, none⟩ = some (.int .i64 p.f4) := cell_of_row _ _ 4 _ _ _ rA1_.out
  have A_5_ : (((W.alloc (.cells #[.int .i64 p.f0, .int .i64 p.f1, .int .i64 p.f2, .int .i64 p.f3, .int .i64 p.f4, .int .i64 p.f5, .int .i64 p.f6, .slice a n c] 26)).alloc (.cells #[.int .i64 0, .int .i64 0, .int .i64 0, .int .i64 0, .int .i64 0, .int .i64 0, .int .i64 0, .slice none 0 0] 26))).cell? ⟨W.heap.size, 5, none⟩ = some (.int .i64 p.f5) := cell_of_row _ _ 5 _ _ _ rA1_.out
  have A_6_ : (((W.alloc (.cells #[.int .i64 p.f0, .int .i64 p.f1, .int .i64 p.f2, .int .i64 p.f3, .int .i64 p.f4, .int .i64 p.f5, .int .i64 p.f6, .slice a n c] 26)).alloc (.cells #[.int .i64 0, .int .i64 0, .int .i64 0, .int .i64 0, .int .i64 0, .int .i64 0, .int .i64 0, .slice none 0 0] 26))).cell? ⟨W.heap.size, 6, none⟩ = some (.int .i64 p.f6) := cell_of_row _ _ 6 _ _ _ rA1_.out
  have A_7_ : (((W.alloc (.cells #[.int .i64 p.f0, .int .i64 p.f1, .int .i64 p.f2, .int .i64 p.f3, .int .i64 p.f4, .int .i64 p.f5, .int .i64 p.f6, .slice a n c] 26)).alloc (.cells #[.int .i64 0, .int .i64 0, .int .i64 0, .int .i64 0, .int .i64 0, .int .i64 0, .int .i64 0, .slice none 0 0] 26))).cell? ⟨W.heap.size, 7, none⟩ = some (.slice a n c) := cell_of_row _ _ 7 _ _ _ rA1_.out
  have R_0_ : (((W.alloc (.cells #[.int .i64 p.f0, .int .i64 p.f1, .int .i64 p.f2, .int .i64 p.f3, .int .i64 p.f4, .int .i64 p.f5, .int .i64 p.f6, .slice a n c] 26)).alloc (.cells #[.int .i64 0, .int .i64 0, .int .i64 0, .int .i64 0, .int .i64 0, .int .i64 0, .int .i64 0, .slice none 0 0] 26))).cell? ⟨W.heap.size + 1, 0, none⟩ = some (.int .i64 0) := cell_of_row _ _ 0 _ _ _ rR2_.out
  have R_1_ : (((W.alloc (.cells #[.int .i64 p.f0, .int .i64 p.f1, .int .i64 p.f2, .int .i64 p.f3, .int .i64 p.f4, .int .i64 p.f5, .int .i64 p.f6, .slice a n c] 26)).alloc (.cells #[.int .i64 0, .int .i64 0, .int .i64 0, .int .i64 0, .int .i64 0, .int .i64 0, .int .i64 0, .slice none 0 0] 26))).cell? ⟨W.heap.size + 1, 1, none⟩ = some (.int .i64 0) := cell_of_row _ _ 1 _ _ _ rR2_.out
  have R_2_ : (((W.alloc (.cells #[.int .i64 p.f0, .int .i64 p.f1, .int .i64 p.f2, .int .i64 p.f3, .int .i64 p.f4, .int .i64 p.f5, .int .i64 p.f6, .slice a n c] 26)).alloc (.cells #[.int .i64 0, .int .i64 0, .int .i64 0, .int .i64 0, .int .i64 0, .int .i64 0, .int .i64 0, .slice none 0 0] 26))).cell? ⟨W.heap.size + 1, 2, none⟩ = some (.int .i64 0) := cell_of_row _ _ 2 _ _ _ rR2_.out
  have R_3_ : (((W.alloc (.cells #[.int .i64 p.f0, .int .i64 p.f1, .int .i64 p.f2, .int .i64 p.f3, .int .i64 p.f4, .int .i64 p.f5, .int .i64 p.f6, .slice a n c] 26)).alloc (.cells #[.int .i64 0, .int .i64 0, .int .i64 0, .int .i64 0, .int .i64 0, .int .i64 0, .int .i64 0, .slice none 0 0] 26))).cell? ⟨W.heap.size + 1, 3, none⟩ = some (.int .i64 0) := cell_of_row _ _ 3 _ _ _ rR2_.out
  have R_4_ : (((W.alloc (.cells #[.int .i64 p.f0, .int .i64 p.f1, .int .i64 p.f2, .int .i64 p.f3, .int .i64 p.f4, .int .i64 p.f5, .int .i64 p.f6, .slice a n c] 26)).alloc (.cells #[.int .i64 0, .int .i64 0, .int .i64 0, .int .i64 0, .int .i64 0, .int .i64 0, .int .i64 0, .slice none 0 0] 26))).cell? ⟨W.heap.size + 1, 4, none⟩ = some (.int .i64 0) := cell_of_row _ _ 4 _ _ _ rR2_.out
  have R_5_ : (((W.alloc (.cells #[.int .i64 p.f0, .int .i64 p.f1, .int .i64 p.f2, .int .i64 p.f3, .int .i64 p.f4, .int .i64 p.f5, .int .i64 p.f6, .slice a n c] 26)).alloc (.cells #[.int .i64 0, .int .i64 0, .int .i64 0, .int .i64 0, .int .i64 0, .int .i64 0, .int .i64 0, .slice none 0 0] 26))).cell? ⟨W.heap.size + 1, 5, none⟩ = some (.int .i64 0) := cell_of_row _ _ 5 _ _ _ rR2_.out
  have R_6_ : (((W.alloc (.cells #[.int .i64 p.f0, .int .i64 p.f1, .int .i64 p.f2, .int .i64 p.f3, .int .i64 p.f4, .int .i64 p.f5, .int .i64 p.f6, .slice a n c] 26)).alloc (.cells #[.int .i64 0, .int .i64 0, .int .i64 0, .int .i64 0, .int .i64 0, .int .i64 0, .int .i64 0, .slice none 0 0] 26))).cell? ⟨W.heap.size + 1, 6, none⟩ = some (.int .i64 0) := cell_of_row _ _ 6 _ _ _ rR2_.out
  have R_7_ : (((W.alloc (.cells #[.int .i64 p.f0, .int .i64 p.f1, .int .i64 p.f2, .int .i64 p.f3, .int .i64 p.f4, .int .i64 p.f5, .int .i64 p.f6, .slice a n c] 26)).alloc (.cells #[.int .i64 0, .int .i64 0, .int .i64 0, .int .i64 0, .int .i64 0, .int .i64 0, .int .i64 0, .slice none 0 0] 26))).cell? ⟨W.heap.size + 1, 7, none⟩ = some (.slice none 0 0) := cell_of_row _ _ 7 _ _ _ rR2_.out
  go_wp2_with fail
  go_at_call 43
  refine (CL.out _ (HX.out.grow G3_.out)).mono ?_
  rintro e w1 ⟨rfl, g⟩
  have szc := g.size
  try simp only [World.size_alloc] at szc
  clear A_0_ A_1_ A_2_ A_3_ A_4_ A_5_ A_6_ A_7_ R_0_ R_1_ R_2_ R_3_ R_4_ R_5_ R_6_ R_7_
  have rA4_ := Lib.hid (show (w1).heap[W.heap.size]? = some (.cells #[.int .i64 p.f0, .int .i64 p.f1, .int .i64 p.f2, .int .i64 p.f3, .int .i64 p.f4, .int .i64 p.f5, .int .i64 p.f6, .slice a n c] 26 (0, 0)) from row_held g rA1_.out)
  clear rA1_
  have rR5_ := Lib.hid (show (w1).heap[W.heap.size + 1]? = some (.cells #[.int .i64 0, .int .i64 0, .int .i64 0, .int .i64 0, .int .i64 0, .int .i64 0, .int .i64 0, .slice none 0 0] 26 (0, 0)) from row_held g rR2_.out)
  clear rR2_
  have G6_ := Lib.hid (show (W).grownBy (w1) none from gby_trans G3_.out g)
  clear g
  go_wp2_with fail
  go_at_call 59
  refine (implIsId_no _ _ (by omega)).mono ?_
  rintro e w2 ⟨rfl, hd⟩
  have g := hd.gby none
  have szd := g.size
  clear hd
  have rA7_ := Lib.hid (show (w2).heap[W.heap.size]? = some (.cells #[.int .i64 p.f0, .int .i64 p.f1, .int .i64 p.f2, .int .i64 p.f3, .int .i64 p.f4, .int .i64 p.f5, .int .i64 p.f6, .slice a n c] 26 (0, 0)) from row_held g rA4_.out)
  clear rA4_
  have rR8_ := Lib.hid (show (w2).heap[W.heap.size + 1]? = some (.cells #[.int .i64 0, .int .i64 0, .int .i64 0, .int .i64 0, .int .i64 0, .int .i64 0, .int .i64 0, .slice none 0 0] 26 (0, 0)) from row_held g rR5_.out)
  clear rR5_
  have G9_ := Lib.hid (show (W).grownBy (w2) none from gby_trans G6_.out g)
  clear g
  have A_0_ : (w2).cell? ⟨W.heap.size, 0, none⟩ = some (.int .i64 p.f0) := cell_of_row _ _ 0 _ _ _ rA7_.out
  have A_1_ : (w2).cell? ⟨W.heap.size, 1, none⟩ = some (.int .i64 p.f1) := cell_of_row _ _ 1 _ _ _ rA7_.out
  have A_2_ : (w2).cell? ⟨W.heap.size, 2, none⟩ = some (.int .i64 p.f2) := cell_of_row _ _ 2 _ _ _ rA7_.out
  have A_3_ : (w2).cell? ⟨W.heap.size, 3, none⟩ = some (.int .i64 p.f3) := cell_of_row _ _ 3 _ _ _ rA7_.out
  have A_4_ : (w2).cell? ⟨W.heap.size, 4, none⟩ = some (.int .i64 p.f4) := cell_of_row _ _ 4 _ _ _ rA7_.out
  have A_5_ : (w2).cell? ⟨W.heap.size, 5, none⟩ = some (.int .i64 p.f5) := cell_of_row _ _ 5 _ _ _ rA7_.out
  have A_6_ : (w2).cell? ⟨W.heap.size, 6, none⟩ = some (.int .i64 p.f6) := cell_of_row _ _ 6 _ _ _ rA7_.out
  have A_7_ : (w2).cell? ⟨W.heap.size, 7, none⟩ = some (.slice a n c) := cell_of_row _ _ 7 _ _ _ rA7_.out
  have R_0_ : (w2).cell? ⟨W.heap.size + 1, 0, none⟩ = some (.int .i64 0) := cell_of_row _ _ 0 _ _ _ rR8_.out
  have R_1_ : (w2).cell? ⟨W.heap.size + 1, 1, none⟩ = some (.int .i64 0) := cell_of_row _ _ 1 _ _ _ rR8_.out
  have R_2_ : (w2).cell? ⟨W.heap.size + 1, 2, none⟩ = some (.int .i64 0) := cell_of_row _ _ 2 _ _ _ rR8_.out
  have R_3_ : (w2).cell? ⟨W.heap.size + 1, 3, none⟩ = some (.int .i64 0) := cell_of_row _ _ 3 _ _ _ rR8_.out
  have R_4_ : (w2).cell? ⟨W.heap.size + 1, 4, none⟩ = some (.int .i64 0) := cell_of_row _ _ 4 _ _ _ rR8_.out
  have R_5_ : (w2).cell? ⟨W.heap.size + 1, 5, none⟩ = some (.int .i64 0) := cell_of_row _ _ 5 _ _ _ rR8_.out
  have R_6_ : (w2).cell? ⟨W.heap.size + 1, 6, none⟩ = some (.int .i64 0) := cell_of_row _ _ 6 _ _ _ rR8_.out
  have R_7_ : (w2).cell? ⟨W.heap.size + 1, 7, none⟩ = some (.slice none 0 0) := cell_of_row _ _ 7 _ _ _ rR8_.out
  have Rf0_ : (w2).frozen? ⟨W.heap.size + 1, 0, none⟩ = false := frozen_of_row _ _ 0 _ _ rR8_.out
  have Rf1_ : (w2).frozen? ⟨W.heap.size + 1, 1, none⟩ = false := frozen_of_row _ _ 1 _ _ rR8_.out
  have Rf2_ : (w2).frozen? ⟨W.heap.size + 1, 2, none⟩ = false := frozen_of_row _ _ 2 _ _ rR8_.out
  have Rf3_ : (w2).frozen? ⟨W.heap.size + 1, 3, none⟩ = false := frozen_of_row _ _ 3 _ _ rR8_.out
  have Rf4_ : (w2).frozen? ⟨W.heap.size + 1, 4, none⟩ = false := frozen_of_row _ _ 4 _ _ rR8_.out
  have Rf5_ : (w2).frozen? ⟨W.heap.size + 1, 5, none⟩ = false := frozen_of_row _ _ 5 _ _ rR8_.out
  have Rf6_ : (w2).frozen? ⟨W.heap.size + 1, 6, none⟩ = false := frozen_of_row _ _ 6 _ _ rR8_.out
  have Rf7_ : (w2).frozen? ⟨W.heap.size + 1, 7, none⟩ = false := frozen_of_row _ _ 7 _ _ rR8_.out
  go_wp2
  refine bodyPost_ret (v := .tuple #[.agg #[.int .i64 0, .int .i64 0, .int .i64 0, .int .i64 0, .int .i64 0, .int .i64 0, .int .i64 0, .slice none 0 0], .bool false]) (by simp [results, go_sem, R_0_, R_1_, R_2_, R_3_, R_4_, R_5_, R_6_, R_7_]) rfl ⟨_, rfl, ?_, ?_⟩
  · exact OwU.one owL_nil
  · repeat (with_reducible refine gby_setnew ?_ _ (by first | omega | (dsimp only; omega)) _)
    exact G9_.out

set_option maxRecDepth 8000 in
set_option maxHeartbeats 4000000 in
theorem implRefSt (W : World) (p : DPacket) (v : Value) (b s : Int) (H : RdL shI W v p.f7) (hl : szL shI p.f7 ≤ 1048576) (h : clsD p = 1) (hb : 0 ≤ b ∧ b ≤ 255) (hs : s < 1 ∨ 2 < s) : Calls Try.prog 16 #[vPacket p.f0 p.f1 p.f2 p.f3 p.f4 p.f5 p.f6 v, .int .i64 b, .int .i64 s] W (ResIRefusalOf 0 0 0 0 0 0 0 [] false W) := by
  obtain ⟨a, n, c, rfl⟩ := RdL.form H
  have HX := Lib.hid H
  obtain ⟨cl, hcl⟩ : ∃ cl, cl = clsD p := ⟨_, rfl⟩
  have CL := Lib.hid (show ∀ (W : World), RdL shI W (.slice a n c) p.f7 → Calls Try.prog 43 #[vPacket p.f0 p.f1 p.f2 p.f3 p.f4 p.f5 p.f6 (.slice a n c)] W (AnsN (.int .i64 cl) W) from by rw [hcl]; exact fun W H => implClsD W p (.slice a n c) H hl)
  rw [← hcl] at h
  clear hcl H
  unfold vPacket at CL ⊢
  subst h
  go_enter Try.func16, Try.ntmps16
  have rA1_ := Lib.hid (show (((W.alloc (.cells #[.int .i64 p.f0, .int .i64 p.f1, .int .i64 p.f2, .int .i64 p.f3, .int .i64 p.f4, .int .i64 p.f5, .int .i64 p.f6, .slice a n c] 26)).alloc (.cells #[.int .i64 0, .int .i64 0, .int .i64 0, .int .i64 0, .int .i64 0, .int .i64 0, .int .i64 0, .slice none 0 0] 26))).heap[W.heap.size]? = some (.cells #[.int .i64 p.f0, .int .i64 p.f1, .int .i64 p.f2, .int .i64 p.f3, .int .i64 p.f4, .int .i64 p.f5, .int .i64 p.f6, .slice a n c] 26 (0, 0)) from by rw [heap_alloc_old _ _ (by simp only [World.size_alloc]; omega)]; exact heap_alloc_new _ _)
  have rR2_ := Lib.hid (show (((W.alloc (.cells #[.int .i64 p.f0, .int .i64 p.f1, .int .i64 p.f2, .int .i64 p.f3, .int .i64 p.f4, .int .i64 p.f5, .int .i64 p.f6, .slice a n c] 26)).alloc (.cells #[.int .i64 0, .int .i64 0, .int .i64 0, .int .i64 0, .int .i64 0, .int .i64 0, .int .i64 0, .slice none 0 0] 26))).heap[W.heap.size + 1]? = some (.cells #[.int .i64 0, .int .i64 0, .int .i64 0, .int .i64 0, .int .i64 0, .int .i64 0, .int .i64 0, .slice none 0 0] 26 (0, 0)) from by exact heap_pair _ _ _)
  have G3_ := Lib.hid (show (W).grownBy (((W.alloc (.cells #[.int .i64 p.f0, .int .i64 p.f1, .int .i64 p.f2, .int .i64 p.f3, .int .i64 p.f4, .int .i64 p.f5, .int .i64 p.f6, .slice a n c] 26)).alloc (.cells #[.int .i64 0, .int .i64 0, .int .i64 0, .int .i64 0, .int .i64 0, .int .i64 0, .int .i64 0, .slice none 0 0] 26))) none from (gby_alloc (gby_alloc (gby_refl _ _) _) _))
  have A_0_ : (((W.alloc (.cells #[.int .i64 p.f0, .int .i64 p.f1, .int .i64 p.f2, .int .i64 p.f3, .int .i64 p.f4, .int .i64 p.f5, .int .i64 p.f6, .slice a n c] 26)).alloc (.cells #[.int .i64 0, .int .i64 0, .int .i64 0, .int .i64 0, .int .i64 0, .int .i64 0, .int .i64 0, .slice none 0 0] 26))).cell? ⟨W.heap.size, 0, none⟩ = some (.int .i64 p.f0) := cell_of_row _ _ 0 _ _ _ rA1_.out
  have A_1_ : (((W.alloc (.cells #[.int .i64 p.f0, .int .i64 p.f1, .int .i64 p.f2, .int .i64 p.f3, .int .i64 p.f4, .int .i64 p.f5, .int .i64 p.f6, .slice a n c] 26)).alloc (.cells #[.int .i64 0, .int .i64 0, .int .i64 0, .int .i64 0, .int .i64 0, .int .i64 0, .int .i64 0, .slice none 0 0] 26))).cell? ⟨W.heap.size, 1, none⟩ = some (.int .i64 p.f1) := cell_of_row _ _ 1 _ _ _ rA1_.out
  have A_2_ : (((W.alloc (.cells #[.int .i64 p.f0, .int .i64 p.f1, .int .i64 p.f2, .int .i64 p.f3, .int .i64 p.f4, .int .i64 p.f5, .int .i64 p.f6, .slice a n c] 26)).alloc (.cells #[.int .i64 0, .int .i64 0, .int .i64 0, .int .i64 0, .int .i64 0, .int .i64 0, .int .i64 0, .slice none 0 0] 26))).cell? ⟨W.heap.size, 2, none⟩ = some (.int .i64 p.f2) := cell_of_row _ _ 2 _ _ _ rA1_.out
  have A_3_ : (((W.alloc (.cells #[.int .i64 p.f0, .int .i64 p.f1, .int .i64 p.f2, .int .i64 p.f3, .int .i64 p.f4, .int .i64 p.f5, .int .i64 p.f6, .slice a n c] 26)).alloc (.cells #[.int .i64 0, .int .i64 0, .int .i64 0, .int .i64 0, .int .i64 0, .int .i64 0, .int .i64 0, .slice none 0 0] 26))).cell? ⟨W.heap.size, 3, none⟩ = some (.int .i64 p.f3) := cell_of_row _ _ 3 _ _ _ rA1_.out
  have A_4_ : (((W.alloc (.cells #[.int .i64 p.f0, .int .i64 p.f1, .int .i64 p.f2, .int .i64 p.f3, .int .i64 p.f4, .int .i64 p.f5, .int .i64 p.f6, .slice a n c] 26)).alloc (.cells #[.int .i64 0, .int .i64 0, .int .i64 0, .int .i64 0, .int .i64 0, .int .i64 0, .int .i64 0, .slice none 0 0] 26))).cell? ⟨W.heap.size, 4, none⟩ = some (.int .i64 p.f4) := cell_of_row _ _ 4 _ _ _ rA1_.out
  have A_5_ : (((W.alloc (.cells #[.int .i64 p.f0, .int .i64 p.f1, .int .i64 p.f2, .int .i64 p.f3, .int .i64 p.f4, .int .i64 p.f5, .int .i64 p.f6, .slice a n c] 26)).alloc (.cells #[.int .i64 0, .int .i64 0, .int .i64 0, .int .i64 0, .int .i64 0, .int .i64 0, .int .i64 0, .slice none 0 0] 26))).cell? ⟨W.heap.size, 5, none⟩ = some (.int .i64 p.f5) := cell_of_row _ _ 5 _ _ _ rA1_.out
  have A_6_ : (((W.alloc (.cells #[.int .i64 p.f0, .int .i64 p.f1, .int .i64 p.f2, .int .i64 p.f3, .int .i64 p.f4, .int .i64 p.f5, .int .i64 p.f6, .slice a n c] 26)).alloc (.cells #[.int .i64 0, .int .i64 0, .int .i64 0, .int .i64 0, .int .i64 0, .int .i64 0, .int .i64 0, .slice none 0 0] 26))).cell? ⟨W.heap.size, 6, none⟩ = some (.int .i64 p.f6) := cell_of_row _ _ 6 _ _ _ rA1_.out
  have A_7_ : (((W.alloc (.cells #[.int .i64 p.f0, .int .i64 p.f1, .int .i64 p.f2, .int .i64 p.f3, .int .i64 p.f4, .int .i64 p.f5, .int .i64 p.f6, .slice a n c] 26)).alloc (.cells #[.int .i64 0, .int .i64 0, .int .i64 0, .int .i64 0, .int .i64 0, .int .i64 0, .int .i64 0, .slice none 0 0] 26))).cell? ⟨W.heap.size, 7, none⟩ = some (.slice a n c) := cell_of_row _ _ 7 _ _ _ rA1_.out
  have R_0_ : (((W.alloc (.cells #[.int .i64 p.f0, .int .i64 p.f1, .int .i64 p.f2, .int .i64 p.f3, .int .i64 p.f4, .int .i64 p.f5, .int .i64 p.f6, .slice a n c] 26)).alloc (.cells #[.int .i64 0, .int .i64 0, .int .i64 0, .int .i64 0, .int .i64 0, .int .i64 0, .int .i64 0, .slice none 0 0] 26))).cell? ⟨W.heap.size + 1, 0, none⟩ = some (.int .i64 0) := cell_of_row _ _ 0 _ _ _ rR2_.out
  have R_1_ : (((W.alloc (.cells #[.int .i64 p.f0, .int .i64 p.f1, .int .i64 p.f2, .int .i64 p.f3, .int .i64 p.f4, .int .i64 p.f5, .int .i64 p.f6, .slice a n c] 26)).alloc (.cells #[.int .i64 0, .int .i64 0, .int .i64 0, .int .i64 0, .int .i64 0, .int .i64 0, .int .i64 0, .slice none 0 0] 26))).cell? ⟨W.heap.size + 1, 1, none⟩ = some (.int .i64 0) := cell_of_row _ _ 1 _ _ _ rR2_.out
  have R_2_ : (((W.alloc (.cells #[.int .i64 p.f0, .int .i64 p.f1, .int .i64 p.f2, .int .i64 p.f3, .int .i64 p.f4, .int .i64 p.f5, .int .i64 p.f6, .slice a n c] 26)).alloc (.cells #[.int .i64 0, .int .i64 0, .int .i64 0, .int .i64 0, .int .i64 0, .int .i64 0, .int .i64 0, .slice none 0 0] 26))).cell? ⟨W.heap.size + 1, 2, none⟩ = some (.int .i64 0) := cell_of_row _ _ 2 _ _ _ rR2_.out
  have R_3_ : (((W.alloc (.cells #[.int .i64 p.f0, .int .i64 p.f1, .int .i64 p.f2, .int .i64 p.f3, .int .i64 p.f4, .int .i64 p.f5, .int .i64 p.f6, .slice a n c] 26)).alloc (.cells #[.int .i64 0, .int .i64 0, .int .i64 0, .int .i64 0, .int .i64 0, .int .i64 0, .int .i64 0, .slice none 0 0] 26))).cell? ⟨W.heap.size + 1, 3, none⟩ = some (.int .i64 0) := cell_of_row _ _ 3 _ _ _ rR2_.out
  have R_4_ : (((W.alloc (.cells #[.int .i64 p.f0, .int .i64 p.f1, .int .i64 p.f2, .int .i64 p.f3, .int .i64 p.f4, .int .i64 p.f5, .int .i64 p.f6, .slice a n c] 26)).alloc (.cells #[.int .i64 0, .int .i64 0, .int .i64 0, .int .i64 0, .int .i64 0, .int .i64 0, .int .i64 0, .slice none 0 0] 26))).cell? ⟨W.heap.size + 1, 4, none⟩ = some (.int .i64 0) := cell_of_row _ _ 4 _ _ _ rR2_.out
  have R_5_ : (((W.alloc (.cells #[.int .i64 p.f0, .int .i64 p.f1, .int .i64 p.f2, .int .i64 p.f3, .int .i64 p.f4, .int .i64 p.f5, .int .i64 p.f6, .slice a n c] 26)).alloc (.cells #[.int .i64 0, .int .i64 0, .int .i64 0, .int .i64 0, .int .i64 0, .int .i64 0, .int .i64 0, .slice none 0 0] 26))).cell? ⟨W.heap.size + 1, 5, none⟩ = some (.int .i64 0) := cell_of_row _ _ 5 _ _ _ rR2_.out
  have R_6_ : (((W.alloc (.cells #[.int .i64 p.f0, .int .i64 p.f1, .int .i64 p.f2, .int .i64 p.f3, .int .i64 p.f4, .int .i64 p.f5, .int .i64 p.f6, .slice a n c] 26)).alloc (.cells #[.int .i64 0, .int .i64 0, .int .i64 0, .int .i64 0, .int .i64 0, .int .i64 0, .int .i64 0, .slice none 0 0] 26))).cell? ⟨W.heap.size + 1, 6, none⟩ = some (.int .i64 0) := cell_of_row _ _ 6 _ _ _ rR2_.out
  have R_7_ : (((W.alloc (.cells #[.int .i64 p.f0, .int .i64 p.f1, .int .i64 p.f2, .int .i64 p.f3, .int .i64 p.f4, .int .i64 p.f5, .int .i64 p.f6, .slice a n c] 26)).alloc (.cells #[.int .i64 0, .int .i64 0, .int .i64 0, .int .i64 0, .int .i64 0, .int .i64 0, .int .i64 0, .slice none 0 0] 26))).cell? ⟨W.heap.size + 1, 7, none⟩ = some (.slice none 0 0) := cell_of_row _ _ 7 _ _ _ rR2_.out
  go_wp2_with fail
  go_at_call 43
  refine (CL.out _ (HX.out.grow G3_.out)).mono ?_
  rintro e w1 ⟨rfl, g⟩
  have szc := g.size
  try simp only [World.size_alloc] at szc
  clear A_0_ A_1_ A_2_ A_3_ A_4_ A_5_ A_6_ A_7_ R_0_ R_1_ R_2_ R_3_ R_4_ R_5_ R_6_ R_7_
  have rA4_ := Lib.hid (show (w1).heap[W.heap.size]? = some (.cells #[.int .i64 p.f0, .int .i64 p.f1, .int .i64 p.f2, .int .i64 p.f3, .int .i64 p.f4, .int .i64 p.f5, .int .i64 p.f6, .slice a n c] 26 (0, 0)) from row_held g rA1_.out)
  clear rA1_
  have rR5_ := Lib.hid (show (w1).heap[W.heap.size + 1]? = some (.cells #[.int .i64 0, .int .i64 0, .int .i64 0, .int .i64 0, .int .i64 0, .int .i64 0, .int .i64 0, .slice none 0 0] 26 (0, 0)) from row_held g rR2_.out)
  clear rR2_
  have G6_ := Lib.hid (show (W).grownBy (w1) none from gby_trans G3_.out g)
  clear g
  go_wp2_with fail
  go_at_call 59
  refine (implIsId_yes _ _ (by omega) (by omega)).mono ?_
  rintro e w2 ⟨rfl, hd⟩
  have g := hd.gby none
  have szd := g.size
  clear hd
  have rA7_ := Lib.hid (show (w2).heap[W.heap.size]? = some (.cells #[.int .i64 p.f0, .int .i64 p.f1, .int .i64 p.f2, .int .i64 p.f3, .int .i64 p.f4, .int .i64 p.f5, .int .i64 p.f6, .slice a n c] 26 (0, 0)) from row_held g rA4_.out)
  clear rA4_
  have rR8_ := Lib.hid (show (w2).heap[W.heap.size + 1]? = some (.cells #[.int .i64 0, .int .i64 0, .int .i64 0, .int .i64 0, .int .i64 0, .int .i64 0, .int .i64 0, .slice none 0 0] 26 (0, 0)) from row_held g rR5_.out)
  clear rR5_
  have G9_ := Lib.hid (show (W).grownBy (w2) none from gby_trans G6_.out g)
  clear g
  go_wp2_with fail
  go_at_call 60
  refine (rng_no _ _ _ _ (by omega)).mono ?_
  rintro e w3 ⟨rfl, rfl⟩
  have A_0_ : (w2).cell? ⟨W.heap.size, 0, none⟩ = some (.int .i64 p.f0) := cell_of_row _ _ 0 _ _ _ rA7_.out
  have A_1_ : (w2).cell? ⟨W.heap.size, 1, none⟩ = some (.int .i64 p.f1) := cell_of_row _ _ 1 _ _ _ rA7_.out
  have A_2_ : (w2).cell? ⟨W.heap.size, 2, none⟩ = some (.int .i64 p.f2) := cell_of_row _ _ 2 _ _ _ rA7_.out
  have A_3_ : (w2).cell? ⟨W.heap.size, 3, none⟩ = some (.int .i64 p.f3) := cell_of_row _ _ 3 _ _ _ rA7_.out
  have A_4_ : (w2).cell? ⟨W.heap.size, 4, none⟩ = some (.int .i64 p.f4) := cell_of_row _ _ 4 _ _ _ rA7_.out
  have A_5_ : (w2).cell? ⟨W.heap.size, 5, none⟩ = some (.int .i64 p.f5) := cell_of_row _ _ 5 _ _ _ rA7_.out
  have A_6_ : (w2).cell? ⟨W.heap.size, 6, none⟩ = some (.int .i64 p.f6) := cell_of_row _ _ 6 _ _ _ rA7_.out
  have A_7_ : (w2).cell? ⟨W.heap.size, 7, none⟩ = some (.slice a n c) := cell_of_row _ _ 7 _ _ _ rA7_.out
  have R_0_ : (w2).cell? ⟨W.heap.size + 1, 0, none⟩ = some (.int .i64 0) := cell_of_row _ _ 0 _ _ _ rR8_.out
  have R_1_ : (w2).cell? ⟨W.heap.size + 1, 1, none⟩ = some (.int .i64 0) := cell_of_row _ _ 1 _ _ _ rR8_.out
  have R_2_ : (w2).cell? ⟨W.heap.size + 1, 2, none⟩ = some (.int .i64 0) := cell_of_row _ _ 2 _ _ _ rR8_.out
  have R_3_ : (w2).cell? ⟨W.heap.size + 1, 3, none⟩ = some (.int .i64 0) := cell_of_row _ _ 3 _ _ _ rR8_.out
  have R_4_ : (w2).cell? ⟨W.heap.size + 1, 4, none⟩ = some (.int .i64 0) := cell_of_row _ _ 4 _ _ _ rR8_.out
  have R_5_ : (w2).cell? ⟨W.heap.size + 1, 5, none⟩ = some (.int .i64 0) := cell_of_row _ _ 5 _ _ _ rR8_.out
  have R_6_ : (w2).cell? ⟨W.heap.size + 1, 6, none⟩ = some (.int .i64 0) := cell_of_row _ _ 6 _ _ _ rR8_.out
  have R_7_ : (w2).cell? ⟨W.heap.size + 1, 7, none⟩ = some (.slice none 0 0) := cell_of_row _ _ 7 _ _ _ rR8_.out
  have Rf0_ : (w2).frozen? ⟨W.heap.size + 1, 0, none⟩ = false := frozen_of_row _ _ 0 _ _ rR8_.out
  have Rf1_ : (w2).frozen? ⟨W.heap.size + 1, 1, none⟩ = false := frozen_of_row _ _ 1 _ _ rR8_.out
  have Rf2_ : (w2).frozen? ⟨W.heap.size + 1, 2, none⟩ = false := frozen_of_row _ _ 2 _ _ rR8_.out
  have Rf3_ : (w2).frozen? ⟨W.heap.size + 1, 3, none⟩ = false := frozen_of_row _ _ 3 _ _ rR8_.out
  have Rf4_ : (w2).frozen? ⟨W.heap.size + 1, 4, none⟩ = false := frozen_of_row _ _ 4 _ _ rR8_.out
  have Rf5_ : (w2).frozen? ⟨W.heap.size + 1, 5, none⟩ = false := frozen_of_row _ _ 5 _ _ rR8_.out
  have Rf6_ : (w2).frozen? ⟨W.heap.size + 1, 6, none⟩ = false := frozen_of_row _ _ 6 _ _ rR8_.out
  have Rf7_ : (w2).frozen? ⟨W.heap.size + 1, 7, none⟩ = false := frozen_of_row _ _ 7 _ _ rR8_.out
  go_wp2
  refine bodyPost_ret (v := .tuple #[.agg #[.int .i64 0, .int .i64 0, .int .i64 0, .int .i64 0, .int .i64 0, .int .i64 0, .int .i64 0, .slice none 0 0], .bool false]) (by simp [results, go_sem, R_0_, R_1_, R_2_, R_3_, R_4_, R_5_, R_6_, R_7_]) rfl ⟨_, rfl, ?_, ?_⟩
  · exact OwU.one owL_nil
  · repeat (with_reducible refine gby_setnew ?_ _ (by first | omega | (dsimp only; omega)) _)
    exact G9_.out

set_option maxRecDepth 8000 in
set_option maxHeartbeats 4000000 in
theorem implRefGood (W : World) (p : DPacket) (v : Value) (b s : Int) (H : RdL shI W v p.f7) (hl : szL shI p.f7 ≤ 1048576) (h : clsD p = 1) (hb : 0 ≤ b ∧ b ≤ 255) (hs : 1 ≤ s ∧ s ≤ 2) : Calls Try.prog 16 #[vPacket p.f0 p.f1 p.f2 p.f3 p.f4 p.f5 p.f6 v, .int .i64 b, .int .i64 s] W (ResIRefusalOf 6 b p.f1 0 0 p.f5 s [] true W) := by
  obtain ⟨a, n, c, rfl⟩ := RdL.form H
  have HX := Lib.hid H
  obtain ⟨cl, hcl⟩ : ∃ cl, cl = clsD p := ⟨_, rfl⟩
  have CL := Lib.hid (show ∀ (W : World), RdL shI W (.slice a n c) p.f7 → Calls Try.prog 43 #[vPacket p.f0 p.f1 p.f2 p.f3 p.f4 p.f5 p.f6 (.slice a n c)] W (AnsN (.int .i64 cl) W) from by rw [hcl]; exact fun W H => implClsD W p (.slice a n c) H hl)
  rw [← hcl] at h
  clear hcl H
  unfold vPacket at CL ⊢
  subst h
  go_enter Try.func16, Try.ntmps16
  have rA1_ := Lib.hid (show (((W.alloc (.cells #[.int .i64 p.f0, .int .i64 p.f1, .int .i64 p.f2, .int .i64 p.f3, .int .i64 p.f4, .int .i64 p.f5, .int .i64 p.f6, .slice a n c] 26)).alloc (.cells #[.int .i64 0, .int .i64 0, .int .i64 0, .int .i64 0, .int .i64 0, .int .i64 0, .int .i64 0, .slice none 0 0] 26))).heap[W.heap.size]? = some (.cells #[.int .i64 p.f0, .int .i64 p.f1, .int .i64 p.f2, .int .i64 p.f3, .int .i64 p.f4, .int .i64 p.f5, .int .i64 p.f6, .slice a n c] 26 (0, 0)) from by rw [heap_alloc_old _ _ (by simp only [World.size_alloc]; omega)]; exact heap_alloc_new _ _)
  have rR2_ := Lib.hid (show (((W.alloc (.cells #[.int .i64 p.f0, .int .i64 p.f1, .int .i64 p.f2, .int .i64 p.f3, .int .i64 p.f4, .int .i64 p.f5, .int .i64 p.f6, .slice a n c] 26)).alloc (.cells #[.int .i64 0, .int .i64 0, .int .i64 0, .int .i64 0, .int .i64 0, .int .i64 0, .int .i64 0, .slice none 0 0] 26))).heap[W.heap.size + 1]? = some (.cells #[.int .i64 0, .int .i64 0, .int .i64 0, .int .i64 0, .int .i64 0, .int .i64 0, .int .i64 0, .slice none 0 0] 26 (0, 0)) from by exact heap_pair _ _ _)
  have G3_ := Lib.hid (show (W).grownBy (((W.alloc (.cells #[.int .i64 p.f0, .int .i64 p.f1, .int .i64 p.f2, .int .i64 p.f3, .int .i64 p.f4, .int .i64 p.f5, .int .i64 p.f6, .slice a n c] 26)).alloc (.cells #[.int .i64 0, .int .i64 0, .int .i64 0, .int .i64 0, .int .i64 0, .int .i64 0, .int .i64 0, .slice none 0 0] 26))) none from (gby_alloc (gby_alloc (gby_refl _ _) _) _))
  have A_0_ : (((W.alloc (.cells #[.int .i64 p.f0, .int .i64 p.f1, .int .i64 p.f2, .int .i64 p.f3, .int .i64 p.f4, .int .i64 p.f5, .int .i64 p.f6, .slice a n c] 26)).alloc (.cells #[.int .i64 0, .int .i64 0, .int .i64 0, .int .i64 0, .int .i64 0, .int .i64 0, .int .i64 0, .slice none 0 0] 26))).cell? ⟨W.heap.size, 0, none⟩ = some (.int .i64 p.f0) := cell_of_row _ _ 0 _ _ _ rA1_.out
  have A_1_ : (((W.alloc (.cells #[.int .i64 p.f0, .int .i64 p.f1, .int .i64 p.f2, .int .i64 p.f3, .int .i64 p.f4, .int .i64 p.f5, .int .i64 p.f6, .slice a n c] 26)).alloc (.cells #[.int .i64 0, .int .i64 0, .int .i64 0, .int .i64 0, .int .i64 0, .int .i64 0, .int .i64 0, .slice none 0 0] 26))).cell? ⟨W.heap.size, 1, none⟩ = some (.int .i64 p.f1) := cell_of_row _ _ 1 _ _ _ rA1_.out
  have A_2_ : (((W.alloc (.cells #[.int .i64 p.f0, .int .i64 p.f1, .int .i64 p.f2, .int .i64 p.f3, .int .i64 p.f4, .int .i64 p.f5, .int .i64 p.f6, .slice a n c] 26)).alloc (.cells #[.int .i64 0, .int .i64 0, .int .i64 0, .int .i64 0, .int .i64 0, .int .i64 0, .int .i64 0, .slice none 0 0] 26))).cell? ⟨W.heap.size, 2, none⟩ = some (.int .i64 p.f2) := cell_of_row _ _ 2 _ _ _ rA1_.out
  have A_3_ : (((W.alloc (.cells #[.int .i64 p.f0, .int .i64 p.f1, .int .i64 p.f2, .int .i64 p.f3, .int .i64 p.f4, .int .i64 p.f5, .int .i64 p.f6, .slice a n c] 26)).alloc (.cells #[.int .i64 0, .int .i64 0, .int .i64 0, .int .i64 0, .int .i64 0, .int .i64 0, .int .i64 0, .slice none 0 0] 26))).cell? ⟨W.heap.size, 3, none⟩ = some (.int .i64 p.f3) := cell_of_row _ _ 3 _ _ _ rA1_.out
  have A_4_ : (((W.alloc (.cells #[.int .i64 p.f0, .int .i64 p.f1, .int .i64 p.f2, .int .i64 p.f3, .int .i64 p.f4, .int .i64 p.f5, .int .i64 p.f6, .slice a n c] 26)).alloc (.cells #[.int .i64 0, .int .i64 0, .int .i64 0, .int .i64 0, .int .i64 0, .int .i64 0, .int .i64 0, .slice none 0 0] 26))).cell? ⟨W.heap.size, 4, none⟩ = some (.int .i64 p.f4) := cell_of_row _ _ 4 _ _ _ rA1_.out
  have A_5_ : (((W.alloc (.cells #[.int .i64 p.f0, .int .i64 p.f1, .int .i64 p.f2, .int .i64 p.f3, .int .i64 p.f4, .int .i64 p.f5, .int .i64 p.f6, .slice a n c] 26)).alloc (.cells #[.int .i64 0, .int .i64 0, .int .i64 0, .int .i64 0, .int .i64 0, .int .i64 0, .int .i64 0, .slice none 0 0] 26))).cell? ⟨W.heap.size, 5, none⟩ = some (.int .i64 p.f5) := cell_of_row _ _ 5 _ _ _ rA1_.out
  have A_6_ : (((W.alloc (.cells #[.int .i64 p.f0, .int .i64 p.f1, .int .i64 p.f2, .int .i64 p.f3, .int .i64 p.f4, .int .i64 p.f5, .int .i64 p.f6, .slice a n c] 26)).alloc (.cells #[.int .i64 0, .int .i64 0, .int .i64 0, .int .i64 0, .int .i64 0, .int .i64 0, .int .i64 0, .slice none 0 0] 26))).cell? ⟨W.heap.size, 6, none⟩ = some (.int .i64 p.f6) := cell_of_row _ _ 6 _ _ _ rA1_.out
  have A_7_ : (((W.alloc (.cells #[.int .i64 p.f0, .int .i64 p.f1, .int .i64 p.f2, .int .i64 p.f3, .int .i64 p.f4, .int .i64 p.f5, .int .i64 p.f6, .slice a n c] 26)).alloc (.cells #[.int .i64 0, .int .i64 0, .int .i64 0, .int .i64 0, .int .i64 0, .int .i64 0, .int .i64 0, .slice none 0 0] 26))).cell? ⟨W.heap.size, 7, none⟩ = some (.slice a n c) := cell_of_row _ _ 7 _ _ _ rA1_.out
  have R_0_ : (((W.alloc (.cells #[.int .i64 p.f0, .int .i64 p.f1, .int .i64 p.f2, .int .i64 p.f3, .int .i64 p.f4, .int .i64 p.f5, .int .i64 p.f6, .slice a n c] 26)).alloc (.cells #[.int .i64 0, .int .i64 0, .int .i64 0, .int .i64 0, .int .i64 0, .int .i64 0, .int .i64 0, .slice none 0 0] 26))).cell? ⟨W.heap.size + 1, 0, none⟩ = some (.int .i64 0) := cell_of_row _ _ 0 _ _ _ rR2_.out
  have R_1_ : (((W.alloc (.cells #[.int .i64 p.f0, .int .i64 p.f1, .int .i64 p.f2, .int .i64 p.f3, .int .i64 p.f4, .int .i64 p.f5, .int .i64 p.f6, .slice a n c] 26)).alloc (.cells #[.int .i64 0, .int .i64 0, .int .i64 0, .int .i64 0, .int .i64 0, .int .i64 0, .int .i64 0, .slice none 0 0] 26))).cell? ⟨W.heap.size + 1, 1, none⟩ = some (.int .i64 0) := cell_of_row _ _ 1 _ _ _ rR2_.out
  have R_2_ : (((W.alloc (.cells #[.int .i64 p.f0, .int .i64 p.f1, .int .i64 p.f2, .int .i64 p.f3, .int .i64 p.f4, .int .i64 p.f5, .int .i64 p.f6, .slice a n c] 26)).alloc (.cells #[.int .i64 0, .int .i64 0, .int .i64 0, .int .i64 0, .int .i64 0, .int .i64 0, .int .i64 0, .slice none 0 0] 26))).cell? ⟨W.heap.size + 1, 2, none⟩ = some (.int .i64 0) := cell_of_row _ _ 2 _ _ _ rR2_.out
  have R_3_ : (((W.alloc (.cells #[.int .i64 p.f0, .int .i64 p.f1, .int .i64 p.f2, .int .i64 p.f3, .int .i64 p.f4, .int .i64 p.f5, .int .i64 p.f6, .slice a n c] 26)).alloc (.cells #[.int .i64 0, .int .i64 0, .int .i64 0, .int .i64 0, .int .i64 0, .int .i64 0, .int .i64 0, .slice none 0 0] 26))).cell? ⟨W.heap.size + 1, 3, none⟩ = some (.int .i64 0) := cell_of_row _ _ 3 _ _ _ rR2_.out
  have R_4_ : (((W.alloc (.cells #[.int .i64 p.f0, .int .i64 p.f1, .int .i64 p.f2, .int .i64 p.f3, .int .i64 p.f4, .int .i64 p.f5, .int .i64 p.f6, .slice a n c] 26)).alloc (.cells #[.int .i64 0, .int .i64 0, .int .i64 0, .int .i64 0, .int .i64 0, .int .i64 0, .int .i64 0, .slice none 0 0] 26))).cell? ⟨W.heap.size + 1, 4, none⟩ = some (.int .i64 0) := cell_of_row _ _ 4 _ _ _ rR2_.out
  have R_5_ : (((W.alloc (.cells #[.int .i64 p.f0, .int .i64 p.f1, .int .i64 p.f2, .int .i64 p.f3, .int .i64 p.f4, .int .i64 p.f5, .int .i64 p.f6, .slice a n c] 26)).alloc (.cells #[.int .i64 0, .int .i64 0, .int .i64 0, .int .i64 0, .int .i64 0, .int .i64 0, .int .i64 0, .slice none 0 0] 26))).cell? ⟨W.heap.size + 1, 5, none⟩ = some (.int .i64 0) := cell_of_row _ _ 5 _ _ _ rR2_.out
  have R_6_ : (((W.alloc (.cells #[.int .i64 p.f0, .int .i64 p.f1, .int .i64 p.f2, .int .i64 p.f3, .int .i64 p.f4, .int .i64 p.f5, .int .i64 p.f6, .slice a n c] 26)).alloc (.cells #[.int .i64 0, .int .i64 0, .int .i64 0, .int .i64 0, .int .i64 0, .int .i64 0, .int .i64 0, .slice none 0 0] 26))).cell? ⟨W.heap.size + 1, 6, none⟩ = some (.int .i64 0) := cell_of_row _ _ 6 _ _ _ rR2_.out
  have R_7_ : (((W.alloc (.cells #[.int .i64 p.f0, .int .i64 p.f1, .int .i64 p.f2, .int .i64 p.f3, .int .i64 p.f4, .int .i64 p.f5, .int .i64 p.f6, .slice a n c] 26)).alloc (.cells #[.int .i64 0, .int .i64 0, .int .i64 0, .int .i64 0, .int .i64 0, .int .i64 0, .int .i64 0, .slice none 0 0] 26))).cell? ⟨W.heap.size + 1, 7, none⟩ = some (.slice none 0 0) := cell_of_row _ _ 7 _ _ _ rR2_.out
  go_wp2_with fail
  go_at_call 43
  refine (CL.out _ (HX.out.grow G3_.out)).mono ?_
  rintro e w1 ⟨rfl, g⟩
  have szc := g.size
  try simp only [World.size_alloc] at szc
  clear A_0_ A_1_ A_2_ A_3_ A_4_ A_5_ A_6_ A_7_ R_0_ R_1_ R_2_ R_3_ R_4_ R_5_ R_6_ R_7_
  have rA4_ := Lib.hid (show (w1).heap[W.heap.size]? = some (.cells #[.int .i64 p.f0, .int .i64 p.f1, .int .i64 p.f2, .int .i64 p.f3, .int .i64 p.f4, .int .i64 p.f5, .int .i64 p.f6, .slice a n c] 26 (0, 0)) from row_held g rA1_.out)
  clear rA1_
  have rR5_ := Lib.hid (show (w1).heap[W.heap.size + 1]? = some (.cells #[.int .i64 0, .int .i64 0, .int .i64 0, .int .i64 0, .int .i64 0, .int .i64 0, .int .i64 0, .slice none 0 0] 26 (0, 0)) from row_held g rR2_.out)
  clear rR2_
  have G6_ := Lib.hid (show (W).grownBy (w1) none from gby_trans G3_.out g)
  clear g
  go_wp2_with fail
  go_at_call 59
  refine (implIsId_yes _ _ (by omega) (by omega)).mono ?_
  rintro e w2 ⟨rfl, hd⟩
  have g := hd.gby none
  have szd := g.size
  clear hd
  have rA7_ := Lib.hid (show (w2).heap[W.heap.size]? = some (.cells #[.int .i64 p.f0, .int .i64 p.f1, .int .i64 p.f2, .int .i64 p.f3, .int .i64 p.f4, .int .i64 p.f5, .int .i64 p.f6, .slice a n c] 26 (0, 0)) from row_held g rA4_.out)
  clear rA4_
  have rR8_ := Lib.hid (show (w2).heap[W.heap.size + 1]? = some (.cells #[.int .i64 0, .int .i64 0, .int .i64 0, .int .i64 0, .int .i64 0, .int .i64 0, .int .i64 0, .slice none 0 0] 26 (0, 0)) from row_held g rR5_.out)
  clear rR5_
  have G9_ := Lib.hid (show (W).grownBy (w2) none from gby_trans G6_.out g)
  clear g
  go_wp2_with fail
  go_at_call 60
  refine (rng_yes _ _ _ _ (by omega) (by omega)).mono ?_
  rintro e w3 ⟨rfl, rfl⟩
  have A_0_ : (w2).cell? ⟨W.heap.size, 0, none⟩ = some (.int .i64 p.f0) := cell_of_row _ _ 0 _ _ _ rA7_.out
  have A_1_ : (w2).cell? ⟨W.heap.size, 1, none⟩ = some (.int .i64 p.f1) := cell_of_row _ _ 1 _ _ _ rA7_.out
  have A_2_ : (w2).cell? ⟨W.heap.size, 2, none⟩ = some (.int .i64 p.f2) := cell_of_row _ _ 2 _ _ _ rA7_.out
  have A_3_ : (w2).cell? ⟨W.heap.size, 3, none⟩ = some (.int .i64 p.f3) := cell_of_row _ _ 3 _ _ _ rA7_.out
  have A_4_ : (w2).cell? ⟨W.heap.size, 4, none⟩ = some (.int .i64 p.f4) := cell_of_row _ _ 4 _ _ _ rA7_.out
  have A_5_ : (w2).cell? ⟨W.heap.size, 5, none⟩ = some (.int .i64 p.f5) := cell_of_row _ _ 5 _ _ _ rA7_.out
  have A_6_ : (w2).cell? ⟨W.heap.size, 6, none⟩ = some (.int .i64 p.f6) := cell_of_row _ _ 6 _ _ _ rA7_.out
  have A_7_ : (w2).cell? ⟨W.heap.size, 7, none⟩ = some (.slice a n c) := cell_of_row _ _ 7 _ _ _ rA7_.out
  have R_0_ : (w2).cell? ⟨W.heap.size + 1, 0, none⟩ = some (.int .i64 0) := cell_of_row _ _ 0 _ _ _ rR8_.out
  have R_1_ : (w2).cell? ⟨W.heap.size + 1, 1, none⟩ = some (.int .i64 0) := cell_of_row _ _ 1 _ _ _ rR8_.out
  have R_2_ : (w2).cell? ⟨W.heap.size + 1, 2, none⟩ = some (.int .i64 0) := cell_of_row _ _ 2 _ _ _ rR8_.out
  have R_3_ : (w2).cell? ⟨W.heap.size + 1, 3, none⟩ = some (.int .i64 0) := cell_of_row _ _ 3 _ _ _ rR8_.out
  have R_4_ : (w2).cell? ⟨W.heap.size + 1, 4, none⟩ = some (.int .i64 0) := cell_of_row _ _ 4 _ _ _ rR8_.out
  have R_5_ : (w2).cell? ⟨W.heap.size + 1, 5, none⟩ = some (.int .i64 0) := cell_of_row _ _ 5 _ _ _ rR8_.out
  have R_6_ : (w2).cell? ⟨W.heap.size + 1, 6, none⟩ = some (.int .i64 0) := cell_of_row _ _ 6 _ _ _ rR8_.out
  have R_7_ : (w2).cell? ⟨W.heap.size + 1, 7, none⟩ = some (.slice none 0 0) := cell_of_row _ _ 7 _ _ _ rR8_.out
  go_wp2_with fail
  go_at_call 61
  refine (answerTo_none _ _ _ _ _ _ _ _ _ b s).mono ?_
  rintro e w4 ⟨d7, rfl, o, g⟩
  have sze := g.size
  obtain ⟨pd, nd, cd, hv_⟩ := RdL.form (OwU.rd o)
  subst hv_
  clear A_0_ A_1_ A_2_ A_3_ A_4_ A_5_ A_6_ A_7_ R_0_ R_1_ R_2_ R_3_ R_4_ R_5_ R_6_ R_7_
  have rA10_ := Lib.hid (show (w4).heap[W.heap.size]? = some (.cells #[.int .i64 p.f0, .int .i64 p.f1, .int .i64 p.f2, .int .i64 p.f3, .int .i64 p.f4, .int .i64 p.f5, .int .i64 p.f6, .slice a n c] 26 (0, 0)) from row_held g rA7_.out)
  clear rA7_
  have rR11_ := Lib.hid (show (w4).heap[W.heap.size + 1]? = some (.cells #[.int .i64 0, .int .i64 0, .int .i64 0, .int .i64 0, .int .i64 0, .int .i64 0, .int .i64 0, .slice none 0 0] 26 (0, 0)) from row_held g rR8_.out)
  clear rR8_
  have G12_ := Lib.hid (show (W).grownBy (w4) none from gby_trans G9_.out g)
  clear g
  unfold vPacket
  have oC13_ := Lib.hid (show OwU (w4) (w2.heap.size) (w4.heap.size) [] [own shI (.slice pd nd cd) []] from o)
  clear o
  have A_0_ : (w4).cell? ⟨W.heap.size, 0, none⟩ = some (.int .i64 p.f0) := cell_of_row _ _ 0 _ _ _ rA10_.out
  have A_1_ : (w4).cell? ⟨W.heap.size, 1, none⟩ = some (.int .i64 p.f1) := cell_of_row _ _ 1 _ _ _ rA10_.out
  have A_2_ : (w4).cell? ⟨W.heap.size, 2, none⟩ = some (.int .i64 p.f2) := cell_of_row _ _ 2 _ _ _ rA10_.out
  have A_3_ : (w4).cell? ⟨W.heap.size, 3, none⟩ = some (.int .i64 p.f3) := cell_of_row _ _ 3 _ _ _ rA10_.out
  have A_4_ : (w4).cell? ⟨W.heap.size, 4, none⟩ = some (.int .i64 p.f4) := cell_of_row _ _ 4 _ _ _ rA10_.out
  have A_5_ : (w4).cell? ⟨W.heap.size, 5, none⟩ = some (.int .i64 p.f5) := cell_of_row _ _ 5 _ _ _ rA10_.out
  have A_6_ : (w4).cell? ⟨W.heap.size, 6, none⟩ = some (.int .i64 p.f6) := cell_of_row _ _ 6 _ _ _ rA10_.out
  have A_7_ : (w4).cell? ⟨W.heap.size, 7, none⟩ = some (.slice a n c) := cell_of_row _ _ 7 _ _ _ rA10_.out
  have R_0_ : (w4).cell? ⟨W.heap.size + 1, 0, none⟩ = some (.int .i64 0) := cell_of_row _ _ 0 _ _ _ rR11_.out
  have R_1_ : (w4).cell? ⟨W.heap.size + 1, 1, none⟩ = some (.int .i64 0) := cell_of_row _ _ 1 _ _ _ rR11_.out
  have R_2_ : (w4).cell? ⟨W.heap.size + 1, 2, none⟩ = some (.int .i64 0) := cell_of_row _ _ 2 _ _ _ rR11_.out
  have R_3_ : (w4).cell? ⟨W.heap.size + 1, 3, none⟩ = some (.int .i64 0) := cell_of_row _ _ 3 _ _ _ rR11_.out
  have R_4_ : (w4).cell? ⟨W.heap.size + 1, 4, none⟩ = some (.int .i64 0) := cell_of_row _ _ 4 _ _ _ rR11_.out
  have R_5_ : (w4).cell? ⟨W.heap.size + 1, 5, none⟩ = some (.int .i64 0) := cell_of_row _ _ 5 _ _ _ rR11_.out
  have R_6_ : (w4).cell? ⟨W.heap.size + 1, 6, none⟩ = some (.int .i64 0) := cell_of_row _ _ 6 _ _ _ rR11_.out
  have R_7_ : (w4).cell? ⟨W.heap.size + 1, 7, none⟩ = some (.slice none 0 0) := cell_of_row _ _ 7 _ _ _ rR11_.out
  have Rf0_ : (w4).frozen? ⟨W.heap.size + 1, 0, none⟩ = false := frozen_of_row _ _ 0 _ _ rR11_.out
  have Rf1_ : (w4).frozen? ⟨W.heap.size + 1, 1, none⟩ = false := frozen_of_row _ _ 1 _ _ rR11_.out
  have Rf2_ : (w4).frozen? ⟨W.heap.size + 1, 2, none⟩ = false := frozen_of_row _ _ 2 _ _ rR11_.out
  have Rf3_ : (w4).frozen? ⟨W.heap.size + 1, 3, none⟩ = false := frozen_of_row _ _ 3 _ _ rR11_.out
  have Rf4_ : (w4).frozen? ⟨W.heap.size + 1, 4, none⟩ = false := frozen_of_row _ _ 4 _ _ rR11_.out
  have Rf5_ : (w4).frozen? ⟨W.heap.size + 1, 5, none⟩ = false := frozen_of_row _ _ 5 _ _ rR11_.out
  have Rf6_ : (w4).frozen? ⟨W.heap.size + 1, 6, none⟩ = false := frozen_of_row _ _ 6 _ _ rR11_.out
  have Rf7_ : (w4).frozen? ⟨W.heap.size + 1, 7, none⟩ = false := frozen_of_row _ _ 7 _ _ rR11_.out
  go_wp2
  refine bodyPost_ret (v := .tuple #[.agg #[.int .i64 6, .int .i64 b, .int .i64 p.f1, .int .i64 0, .int .i64 0, .int .i64 p.f5, .int .i64 s, .slice pd nd cd], .bool true]) (by simp [results, go_sem, R_0_, R_1_, R_2_, R_3_, R_4_, R_5_, R_6_, R_7_]) rfl ⟨_, rfl, ?_, ?_⟩
  · refine OwU.wide (lo := w2.heap.size) (hi := w4.heap.size) (by omega) (by simp) (OwU.keep (w := w4) (lo' := W.heap.size) (hi' := W.heap.size + 2) ?_ (.inr (by omega)) oC13_.out)
    repeat (with_reducible refine chg_setp ?_ _ (by dsimp only; omega) (by dsimp only; omega) _)
    exact chg_gby (gby_refl _ _) _ _
  · repeat (with_reducible refine gby_setnew ?_ _ (by first | omega | (dsimp only; omega)) _)
    exact G12_.out

theorem refusalOf_both (i0_0 i0_1 i0_2 i0_3 i0_4 i0_5 i0_6 : Int) (xs0_7 : List Int) (i1 i2 : Int) (h7 : szL shI xs0_7 ≤ 1048576) : ∃ (ir0_0 ir0_1 ir0_2 ir0_3 ir0_4 ir0_5 ir0_6 : Int) (xsr0_7 : List Int) (br1 : Bool), szL shI xsr0_7 ≤ 1048576 ∧ (∀ (W : World), ∀ u0_7, RdL shI W u0_7 xs0_7 → Calls Try.prog 14 #[.agg #[.int .i64 i0_0, .int .i64 i0_1, .int .i64 i0_2, .int .i64 i0_3, .int .i64 i0_4, .int .i64 i0_5, .int .i64 i0_6, u0_7], .int .i64 i1, .int .i64 i2] W (ResSRefusalOf ir0_0 ir0_1 ir0_2 ir0_3 ir0_4 ir0_5 ir0_6 xsr0_7 br1 W)) ∧ ∀ (W : World), ∀ u0_7, RdL shI W u0_7 xs0_7 → Calls Try.prog 16 #[.agg #[.int .i64 i0_0, .int .i64 i0_1, .int .i64 i0_2, .int .i64 i0_3, .int .i64 i0_4, .int .i64 i0_5, .int .i64 i0_6, u0_7], .int .i64 i1, .int .i64 i2] W (ResIRefusalOf ir0_0 ir0_1 ir0_2 ir0_3 ir0_4 ir0_5 ir0_6 xsr0_7 br1 W) := by
  have key : ∀ p : DPacket, szL shI p.f7 ≤ 1048576 → ∃ (a b c d e f g : Int) (r : Bool), (∀ (W : World), ∀ u, RdL shI W u p.f7 → Calls Try.prog 14 #[vPacket p.f0 p.f1 p.f2 p.f3 p.f4 p.f5 p.f6 u, .int .i64 i1, .int .i64 i2] W (ResIRefusalOf a b c d e f g [] r W)) ∧ ∀ (W : World), ∀ u, RdL shI W u p.f7 → Calls Try.prog 16 #[vPacket p.f0 p.f1 p.f2 p.f3 p.f4 p.f5 p.f6 u, .int .i64 i1, .int .i64 i2] W (ResIRefusalOf a b c d e f g [] r W) := by
    intro p hl
    by_cases h : clsD p = 1
    · by_cases hb : 0 ≤ i1 ∧ i1 ≤ 255
      · by_cases hs : 1 ≤ i2 ∧ i2 ≤ 2
        · exact ⟨_, _, _, _, _, _, _, _, fun W u H => specRefGood W p u i1 i2 H hl h hb hs, fun W u H => implRefGood W p u i1 i2 H hl h hb hs⟩
        · exact ⟨_, _, _, _, _, _, _, _, fun W u H => specRefSt W p u i1 i2 H hl h hb (by omega), fun W u H => implRefSt W p u i1 i2 H hl h hb (by omega)⟩
      · exact ⟨_, _, _, _, _, _, _, _, fun W u H => specRefBy W p u i1 i2 H hl h (by omega), fun W u H => implRefBy W p u i1 i2 H hl h (by omega)⟩
    · exact ⟨_, _, _, _, _, _, _, _, fun W u H => specRefCls W p u i1 i2 H hl h, fun W u H => implRefCls W p u i1 i2 H hl h⟩
  obtain ⟨a, b, c, d, e, f, g, r, hs, hi⟩ := key ⟨i0_0, i0_1, i0_2, i0_3, i0_4, i0_5, i0_6, xs0_7⟩ h7
  exact ⟨a, b, c, d, e, f, g, [], r, by rw [szL_I]; simp, fun W u H => (hs W u H).mono (fun e w h => resS_ofRefusalOf e w h), hi⟩

end Go.Proofs.Ytlhfdgpphmaljaa
