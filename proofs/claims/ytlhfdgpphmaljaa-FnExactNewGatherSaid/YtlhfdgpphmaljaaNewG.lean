/-
  Gatherings begun, on both sides.
-/
import Derived.Test.YtlhfdgpphmaljaaPkD
import Derived.Test.YtlhfdgpphmaljaaQGather
import Derived.Test.YtlhfdgpphmaljaaRNewGather
import Derived.Test.YtlhfdgpphmaljaaPlainRow
namespace Go.Proofs.Ytlhfdgpphmaljaa
open Go Go.RowKit
set_option linter.unusedVariables false

set_option maxRecDepth 8000 in
set_option maxHeartbeats 4000000 in
theorem specNewGNo (W : World) (p : DPacket) (v : Value) (H : RdL shI W v p.f7) (hl : szL shI p.f7 ≤ 1048576) (h : clsD p ≠ 1) : Calls Try.prog 20 #[vPacket p.f0 p.f1 p.f2 p.f3 p.f4 p.f5 p.f6 v] W (ResINewGather 0 0 0 [] 0 false W) := by
  obtain ⟨a, n, c, rfl⟩ := RdL.form H
  have HX := Lib.hid H
  obtain ⟨cl, hcl⟩ : ∃ cl, cl = clsD p := ⟨_, rfl⟩
  have CL := Lib.hid (show ∀ (W : World), RdL shI W (.slice a n c) p.f7 → Calls Try.prog 56 #[vPacket p.f0 p.f1 p.f2 p.f3 p.f4 p.f5 p.f6 (.slice a n c)] W (AnsN (.int .i64 cl) W) from by rw [hcl]; exact fun W H => specClsD W p (.slice a n c) H hl)
  rw [← hcl] at h
  clear hcl H
  unfold vPacket at CL ⊢
  have hne : (cl != 1) = true := by simpa using h
  have hne2 : (cl == 1) = false := beq_eq_false_iff_ne.2 h
  clear h
  go_enter Try.func20, Try.ntmps20
  have rA1_ := Lib.hid (show (((W.alloc (.cells #[.int .i64 p.f0, .int .i64 p.f1, .int .i64 p.f2, .int .i64 p.f3, .int .i64 p.f4, .int .i64 p.f5, .int .i64 p.f6, .slice a n c] 26)).alloc (.cells #[.int .i64 0, .int .i64 0, .int .i64 0, .slice none 0 0, .int .i64 0] 34))).heap[W.heap.size]? = some (.cells #[.int .i64 p.f0, .int .i64 p.f1, .int .i64 p.f2, .int .i64 p.f3, .int .i64 p.f4, .int .i64 p.f5, .int .i64 p.f6, .slice a n c] 26 (0, 0)) from by rw [heap_alloc_old _ _ (by simp only [World.size_alloc]; omega)]; exact heap_alloc_new _ _)
  have rR2_ := Lib.hid (show (((W.alloc (.cells #[.int .i64 p.f0, .int .i64 p.f1, .int .i64 p.f2, .int .i64 p.f3, .int .i64 p.f4, .int .i64 p.f5, .int .i64 p.f6, .slice a n c] 26)).alloc (.cells #[.int .i64 0, .int .i64 0, .int .i64 0, .slice none 0 0, .int .i64 0] 34))).heap[W.heap.size + 1]? = some (.cells #[.int .i64 0, .int .i64 0, .int .i64 0, .slice none 0 0, .int .i64 0] 34 (0, 0)) from by exact heap_pair _ _ _)
  have G3_ := Lib.hid (show (W).grownBy (((W.alloc (.cells #[.int .i64 p.f0, .int .i64 p.f1, .int .i64 p.f2, .int .i64 p.f3, .int .i64 p.f4, .int .i64 p.f5, .int .i64 p.f6, .slice a n c] 26)).alloc (.cells #[.int .i64 0, .int .i64 0, .int .i64 0, .slice none 0 0, .int .i64 0] 34))) none from (gby_alloc (gby_alloc (gby_refl _ _) _) _))
  have A_0_ : (((W.alloc (.cells #[.int .i64 p.f0, .int .i64 p.f1, .int .i64 p.f2, .int .i64 p.f3, .int .i64 p.f4, .int .i64 p.f5, .int .i64 p.f6, .slice a n c] 26)).alloc (.cells #[.int .i64 0, .int .i64 0, .int .i64 0, .slice none 0 0, .int .i64 0] 34))).cell? ⟨W.heap.size, 0, none⟩ = some (.int .i64 p.f0) := cell_of_row _ _ 0 _ _ _ rA1_.out
  have A_1_ : (((W.alloc (.cells #[.int .i64 p.f0, .int .i64 p.f1, .int .i64 p.f2, .int .i64 p.f3, .int .i64 p.f4, .int .i64 p.f5, .int .i64 p.f6, .slice a n c] 26)).alloc (.cells #[.int .i64 0, .int .i64 0, .int .i64 0, .slice none 0 0, .int .i64 0] 34))).cell? ⟨W.heap.size, 1, none⟩ = some (.int .i64 p.f1) := cell_of_row _ _ 1 _ _ _ rA1_.out
  have A_2_ : (((W.alloc (.cells #[.int .i64 p.f0, .int .i64 p.f1, .int .i64 p.f2, .int .i64 p.f3, .int .i64 p.f4, .int .i64 p.f5, .int .i64 p.f6, .slice a n c] 26)).alloc (.cells #[.int .i64 0, .int .i64 0, .int .i64 0, .slice none 0 0, .int .i64 0] 34))).cell? ⟨W.heap.size, 2, none⟩ = some (.int .i64 p.f2) := cell_of_row _ _ 2 _ _ _ rA1_.out
  have A_3_ : (((W.alloc (.cells #[.int .i64 p.f0, .int .i64 p.f1, .int .i64 p.f2, .int .i64 p.f3, .int .i64 p.f4, .int .i64 p.f5, .int .i64 p.f6, .slice a n c] 26)).alloc (.cells #[.int .i64 0, .int .i64 0, .int .i64 0, .slice none 0 0, .int .i64 0] 34))).cell? ⟨W.heap.size, 3, none⟩ = some (.int .i64 p.f3) := cell_of_row _ _ 3 _ _ _ rA1_.out
  have A_4_ : (((W.alloc (.cells #[.int .i64 p.f0, .int .i64 p.f1, .int .i64 p.f2, .int .i64 p.f3, .int .i64 p.f4, .int .i64 p.f5, .int .i64 p.f6, .slice a n c] 26)).alloc (.cells #[.int .i64 0, .int .i64 0, .int .i64 0, .slice none 0 0, .int .i64 0] 34))).cell? ⟨W.heap.size, 4, none⟩ = some (.int .i64 p.f4) := cell_of_row _ _ 4 _ _ _ rA1_.out
  have A_5_ : (((W.alloc (.cells #[.int .i64 p.f0, .int .i64 p.f1, .int .i64 p.f2, .int .i64 p.f3, .int .i64 p.f4, .int .i64 p.f5, .int .i64 p.f6, .slice a n c] 26)).alloc (.cells #[.int .i64 0, .int .i64 0, .int .i64 0, .slice none 0 0, .int .i64 0] 34))).cell? ⟨W.heap.size, 5, none⟩ = some (.int .i64 p.f5) := cell_of_row _ _ 5 _ _ _ rA1_.out
  have A_6_ : (((W.alloc (.cells #[.int .i64 p.f0, .int .i64 p.f1, .int .i64 p.f2, .int .i64 p.f3, .int .i64 p.f4, .int .i64 p.f5, .int .i64 p.f6, .slice a n c] 26)).alloc (.cells #[.int .i64 0, .int .i64 0, .int .i64 0, .slice none 0 0, .int .i64 0] 34))).cell? ⟨W.heap.size, 6, none⟩ = some (.int .i64 p.f6) := cell_of_row _ _ 6 _ _ _ rA1_.out
  have A_7_ : (((W.alloc (.cells #[.int .i64 p.f0, .int .i64 p.f1, .int .i64 p.f2, .int .i64 p.f3, .int .i64 p.f4, .int .i64 p.f5, .int .i64 p.f6, .slice a n c] 26)).alloc (.cells #[.int .i64 0, .int .i64 0, .int .i64 0, .slice none 0 0, .int .i64 0] 34))).cell? ⟨W.heap.size, 7, none⟩ = some (.slice a n c) := cell_of_row _ _ 7 _ _ _ rA1_.out
  have R_0_ : (((W.alloc (.cells #[.int .i64 p.f0, .int .i64 p.f1, .int .i64 p.f2, .int .i64 p.f3, .int .i64 p.f4, .int .i64 p.f5, .int .i64 p.f6, .slice a n c] 26)).alloc (.cells #[.int .i64 0, .int .i64 0, .int .i64 0, .slice none 0 0, .int .i64 0] 34))).cell? ⟨W.heap.size + 1, 0, none⟩ = some (.int .i64 0) := cell_of_row _ _ 0 _ _ _ rR2_.out
  have R_1_ : (((W.alloc (.cells #[.int .i64 p.f0, .int .i64 p.f1, .int .i64 p.f2, .int .i64 p.f3, .int .i64 p.f4, .int .i64 p.f5, .int .i64 p.f6, .slice a n c] 26)).alloc (.cells #[.int .i64 0, .int .i64 0, .int .i64 0, .slice none 0 0, .int .i64 0] 34))).cell? ⟨W.heap.size + 1, 1, none⟩ = some (.int .i64 0) := cell_of_row _ _ 1 _ _ _ rR2_.out
  have R_2_ : (((W.alloc (.cells #[.int .i64 p.f0, .int .i64 p.f1, .int .i64 p.f2, .int .i64 p.f3, .int .i64 p.f4, .int .i64 p.f5, .int .i64 p.f6, .slice a n c] 26)).alloc (.cells #[.int .i64 0, .int .i64 0, .int .i64 0, .slice none 0 0, .int .i64 0] 34))).cell? ⟨W.heap.size + 1, 2, none⟩ = some (.int .i64 0) := cell_of_row _ _ 2 _ _ _ rR2_.out
  have R_3_ : (((W.alloc (.cells #[.int .i64 p.f0, .int .i64 p.f1, .int .i64 p.f2, .int .i64 p.f3, .int .i64 p.f4, .int .i64 p.f5, .int .i64 p.f6, .slice a n c] 26)).alloc (.cells #[.int .i64 0, .int .i64 0, .int .i64 0, .slice none 0 0, .int .i64 0] 34))).cell? ⟨W.heap.size + 1, 3, none⟩ = some (.slice none 0 0) := cell_of_row _ _ 3 _ _ _ rR2_.out
  have R_4_ : (((W.alloc (.cells #[.int .i64 p.f0, .int .i64 p.f1, .int .i64 p.f2, .int .i64 p.f3, .int .i64 p.f4, .int .i64 p.f5, .int .i64 p.f6, .slice a n c] 26)).alloc (.cells #[.int .i64 0, .int .i64 0, .int .i64 0, .slice none 0 0, .int .i64 0] 34))).cell? ⟨W.heap.size + 1, 4, none⟩ = some (.int .i64 0) := cell_of_row _ _ 4 _ _ _ rR2_.out
  go_wp2_with fail
  go_at_call 56
  refine (CL.out _ (HX.out.grow G3_.out)).mono ?_
  rintro e w1 ⟨rfl, g⟩
  have szc := g.size
  try simp only [World.size_alloc] at szc
  clear A_0_ A_1_ A_2_ A_3_ A_4_ A_5_ A_6_ A_7_ R_0_ R_1_ R_2_ R_3_ R_4_
  have rA4_ := Lib.hid (show (w1).heap[W.heap.size]? = some (.cells #[.int .i64 p.f0, .int .i64 p.f1, .int .i64 p.f2, .int .i64 p.f3, .int .i64 p.f4, .int .i64 p.f5, .int .i64 p.f6, .slice a n c] 26 (0, 0)) from row_held g rA1_.out)
  clear rA1_
  have rR5_ := Lib.hid (show (w1).heap[W.heap.size + 1]? = some (.cells #[.int .i64 0, .int .i64 0, .int .i64 0, .slice none 0 0, .int .i64 0] 34 (0, 0)) from row_held g rR2_.out)
  clear rR2_
  have G6_ := Lib.hid (show (W).grownBy (w1) none from gby_trans G3_.out g)
  clear g
  have A_0_ : (w1).cell? ⟨W.heap.size, 0, none⟩ = some (.int .i64 p.f0) := cell_of_row _ _ 0 _ _ _ rA4_.out
  have A_1_ : (w1).cell? ⟨W.heap.size, 1, none⟩ = some (.int .i64 p.f1) := cell_of_row _ _ 1 _ _ _ rA4_.out
  have A_2_ : (w1).cell? ⟨W.heap.size, 2, none⟩ = some (.int .i64 p.f2) := cell_of_row _ _ 2 _ _ _ rA4_.out
  have A_3_ : (w1).cell? ⟨W.heap.size, 3, none⟩ = some (.int .i64 p.f3) := cell_of_row _ _ 3 _ _ _ rA4_.out
  have A_4_ : (w1).cell? ⟨W.heap.size, 4, none⟩ = some (.int .i64 p.f4) := cell_of_row _ _ 4 _ _ _ rA4_.out
  have A_5_ : (w1).cell? ⟨W.heap.size, 5, none⟩ = some (.int .i64 p.f5) := cell_of_row _ _ 5 _ _ _ rA4_.out
  have A_6_ : (w1).cell? ⟨W.heap.size, 6, none⟩ = some (.int .i64 p.f6) := cell_of_row _ _ 6 _ _ _ rA4_.out
  have A_7_ : (w1).cell? ⟨W.heap.size, 7, none⟩ = some (.slice a n c) := cell_of_row _ _ 7 _ _ _ rA4_.out
  have R_0_ : (w1).cell? ⟨W.heap.size + 1, 0, none⟩ = some (.int .i64 0) := cell_of_row _ _ 0 _ _ _ rR5_.out
  have R_1_ : (w1).cell? ⟨W.heap.size + 1, 1, none⟩ = some (.int .i64 0) := cell_of_row _ _ 1 _ _ _ rR5_.out
  have R_2_ : (w1).cell? ⟨W.heap.size + 1, 2, none⟩ = some (.int .i64 0) := cell_of_row _ _ 2 _ _ _ rR5_.out
  have R_3_ : (w1).cell? ⟨W.heap.size + 1, 3, none⟩ = some (.slice none 0 0) := cell_of_row _ _ 3 _ _ _ rR5_.out
  have R_4_ : (w1).cell? ⟨W.heap.size + 1, 4, none⟩ = some (.int .i64 0) := cell_of_row _ _ 4 _ _ _ rR5_.out
  have Rf0_ : (w1).frozen? ⟨W.heap.size + 1, 0, none⟩ = false := frozen_of_row _ _ 0 _ _ rR5_.out
  have Rf1_ : (w1).frozen? ⟨W.heap.size + 1, 1, none⟩ = false := frozen_of_row _ _ 1 _ _ rR5_.out
  have Rf2_ : (w1).frozen? ⟨W.heap.size + 1, 2, none⟩ = false := frozen_of_row _ _ 2 _ _ rR5_.out
  have Rf3_ : (w1).frozen? ⟨W.heap.size + 1, 3, none⟩ = false := frozen_of_row _ _ 3 _ _ rR5_.out
  have Rf4_ : (w1).frozen? ⟨W.heap.size + 1, 4, none⟩ = false := frozen_of_row _ _ 4 _ _ rR5_.out
  go_wp2
  refine bodyPost_ret (v := .tuple #[.agg #[.int .i64 0, .int .i64 0, .int .i64 0, .slice none 0 0, .int .i64 0], .bool false]) (by simp [results, go_sem, R_0_, R_1_, R_2_, R_3_, R_4_]) rfl ⟨_, rfl, OwU.one owL_nil, ?_⟩
  repeat (with_reducible refine gby_setnew ?_ _ (by dsimp only; omega) _)
  exact G6_.out

set_option maxRecDepth 8000 in
set_option maxHeartbeats 4000000 in
theorem specNewGCr (W : World) (p : DPacket) (v : Value) (H : RdL shI W v p.f7) (hl : szL shI p.f7 ≤ 1048576) (h : clsD p = 1) (hk : p.f0 = 4) : Calls Try.prog 20 #[vPacket p.f0 p.f1 p.f2 p.f3 p.f4 p.f5 p.f6 v] W (ResINewGather p.f1 p.f5 1 [] 0 true W) := by
  obtain ⟨a, n, c, rfl⟩ := RdL.form H
  have HX := Lib.hid H
  obtain ⟨cl, hcl⟩ : ∃ cl, cl = clsD p := ⟨_, rfl⟩
  have CL := Lib.hid (show ∀ (W : World), RdL shI W (.slice a n c) p.f7 → Calls Try.prog 56 #[vPacket p.f0 p.f1 p.f2 p.f3 p.f4 p.f5 p.f6 (.slice a n c)] W (AnsN (.int .i64 cl) W) from by rw [hcl]; exact fun W H => specClsD W p (.slice a n c) H hl)
  rw [← hcl] at h
  clear hcl H
  unfold vPacket at CL ⊢
  subst h
  rw [hk] at CL ⊢
  clear hk
  go_enter Try.func20, Try.ntmps20
  have rA1_ := Lib.hid (show (((W.alloc (.cells #[.int .i64 4, .int .i64 p.f1, .int .i64 p.f2, .int .i64 p.f3, .int .i64 p.f4, .int .i64 p.f5, .int .i64 p.f6, .slice a n c] 26)).alloc (.cells #[.int .i64 0, .int .i64 0, .int .i64 0, .slice none 0 0, .int .i64 0] 34))).heap[W.heap.size]? = some (.cells #[.int .i64 4, .int .i64 p.f1, .int .i64 p.f2, .int .i64 p.f3, .int .i64 p.f4, .int .i64 p.f5, .int .i64 p.f6, .slice a n c] 26 (0, 0)) from by rw [heap_alloc_old _ _ (by simp only [World.size_alloc]; omega)]; exact heap_alloc_new _ _)
  have rR2_ := Lib.hid (show (((W.alloc (.cells #[.int .i64 4, .int .i64 p.f1, .int .i64 p.f2, .int .i64 p.f3, .int .i64 p.f4, .int .i64 p.f5, .int .i64 p.f6, .slice a n c] 26)).alloc (.cells #[.int .i64 0, .int .i64 0, .int .i64 0, .slice none 0 0, .int .i64 0] 34))).heap[W.heap.size + 1]? = some (.cells #[.int .i64 0, .int .i64 0, .int .i64 0, .slice none 0 0, .int .i64 0] 34 (0, 0)) from by exact heap_pair _ _ _)
  have G3_ := Lib.hid (show (W).grownBy (((W.alloc (.cells #[.int .i64 4, .int .i64 p.f1, .int .i64 p.f2, .int .i64 p.f3, .int .i64 p.f4, .int .i64 p.f5, .int .i64 p.f6, .slice a n c] 26)).alloc (.cells #[.int .i64 0, .int .i64 0, .int .i64 0, .slice none 0 0, .int .i64 0] 34))) none from (gby_alloc (gby_alloc (gby_refl _ _) _) _))
  have A_0_ : (((W.alloc (.cells #[.int .i64 4, .int .i64 p.f1, .int .i64 p.f2, .int .i64 p.f3, .int .i64 p.f4, .int .i64 p.f5, .int .i64 p.f6, .slice a n c] 26)).alloc (.cells #[.int .i64 0, .int .i64 0, .int .i64 0, .slice none 0 0, .int .i64 0] 34))).cell? ⟨W.heap.size, 0, none⟩ = some (.int .i64 4) := cell_of_row _ _ 0 _ _ _ rA1_.out
  have A_1_ : (((W.alloc (.cells #[.int .i64 4, .int .i64 p.f1, .int .i64 p.f2, .int .i64 p.f3, .int .i64 p.f4, .int .i64 p.f5, .int .i64 p.f6, .slice a n c] 26)).alloc (.cells #[.int .i64 0, .int .i64 0, .int .i64 0, .slice none 0 0, .int .i64 0] 34))).cell? ⟨W.heap.size, 1, none⟩ = some (.int .i64 p.f1) := cell_of_row _ _ 1 _ _ _ rA1_.out
  have A_2_ : (((W.alloc (.cells #[.int .i64 4, .int .i64 p.f1, .int .i64 p.f2, .int .i64 p.f3, .int .i64 p.f4, .int .i64 p.f5, .int .i64 p.f6, .slice a n c] 26)).alloc (.cells #[.int .i64 0, .int .i64 0, .int .i64 0, .slice none 0 0, .int .i64 0] 34))).cell? ⟨W.heap.size, 2, none⟩ = some (.int .i64 p.f2) := cell_of_row _ _ 2 _ _ _ rA1_.out
  have A_3_ : (((W.alloc (.cells #[.int .i64 4, .int .i64 p.f1, .int .i64 p.f2, .int .i64 p.f3, .int .i64 p.f4, .int .i64 p.f5, .int .i64 p.f6, .slice a n c] 26)).alloc (.cells #[.int .i64 0, .int .i64 0, .int .i64 0, .slice none 0 0, .int .i64 0] 34))).cell? ⟨W.heap.size, 3, none⟩ = some (.int .i64 p.f3) := cell_of_row _ _ 3 _ _ _ rA1_.out
  have A_4_ : (((W.alloc (.cells #[.int .i64 4, .int .i64 p.f1, .int .i64 p.f2, .int .i64 p.f3, .int .i64 p.f4, .int .i64 p.f5, .int .i64 p.f6, .slice a n c] 26)).alloc (.cells #[.int .i64 0, .int .i64 0, .int .i64 0, .slice none 0 0, .int .i64 0] 34))).cell? ⟨W.heap.size, 4, none⟩ = some (.int .i64 p.f4) := cell_of_row _ _ 4 _ _ _ rA1_.out
  have A_5_ : (((W.alloc (.cells #[.int .i64 4, .int .i64 p.f1, .int .i64 p.f2, .int .i64 p.f3, .int .i64 p.f4, .int .i64 p.f5, .int .i64 p.f6, .slice a n c] 26)).alloc (.cells #[.int .i64 0, .int .i64 0, .int .i64 0, .slice none 0 0, .int .i64 0] 34))).cell? ⟨W.heap.size, 5, none⟩ = some (.int .i64 p.f5) := cell_of_row _ _ 5 _ _ _ rA1_.out
  have A_6_ : (((W.alloc (.cells #[.int .i64 4, .int .i64 p.f1, .int .i64 p.f2, .int .i64 p.f3, .int .i64 p.f4, .int .i64 p.f5, .int .i64 p.f6, .slice a n c] 26)).alloc (.cells #[.int .i64 0, .int .i64 0, .int .i64 0, .slice none 0 0, .int .i64 0] 34))).cell? ⟨W.heap.size, 6, none⟩ = some (.int .i64 p.f6) := cell_of_row _ _ 6 _ _ _ rA1_.out
  have A_7_ : (((W.alloc (.cells #[.int .i64 4, .int .i64 p.f1, .int .i64 p.f2, .int .i64 p.f3, .int .i64 p.f4, .int .i64 p.f5, .int .i64 p.f6, .slice a n c] 26)).alloc (.cells #[.int .i64 0, .int .i64 0, .int .i64 0, .slice none 0 0, .int .i64 0] 34))).cell? ⟨W.heap.size, 7, none⟩ = some (.slice a n c) := cell_of_row _ _ 7 _ _ _ rA1_.out
  have R_0_ : (((W.alloc (.cells #[.int .i64 4, .int .i64 p.f1, .int .i64 p.f2, .int .i64 p.f3, .int .i64 p.f4, .int .i64 p.f5, .int .i64 p.f6, .slice a n c] 26)).alloc (.cells #[.int .i64 0, .int .i64 0, .int .i64 0, .slice none 0 0, .int .i64 0] 34))).cell? ⟨W.heap.size + 1, 0, none⟩ = some (.int .i64 0) := cell_of_row _ _ 0 _ _ _ rR2_.out
  have R_1_ : (((W.alloc (.cells #[.int .i64 4, .int .i64 p.f1, .int .i64 p.f2, .int .i64 p.f3, .int .i64 p.f4, .int .i64 p.f5, .int .i64 p.f6, .slice a n c] 26)).alloc (.cells #[.int .i64 0, .int .i64 0, .int .i64 0, .slice none 0 0, .int .i64 0] 34))).cell? ⟨W.heap.size + 1, 1, none⟩ = some (.int .i64 0) := cell_of_row _ _ 1 _ _ _ rR2_.out
  have R_2_ : (((W.alloc (.cells #[.int .i64 4, .int .i64 p.f1, .int .i64 p.f2, .int .i64 p.f3, .int .i64 p.f4, .int .i64 p.f5, .int .i64 p.f6, .slice a n c] 26)).alloc (.cells #[.int .i64 0, .int .i64 0, .int .i64 0, .slice none 0 0, .int .i64 0] 34))).cell? ⟨W.heap.size + 1, 2, none⟩ = some (.int .i64 0) := cell_of_row _ _ 2 _ _ _ rR2_.out
  have R_3_ : (((W.alloc (.cells #[.int .i64 4, .int .i64 p.f1, .int .i64 p.f2, .int .i64 p.f3, .int .i64 p.f4, .int .i64 p.f5, .int .i64 p.f6, .slice a n c] 26)).alloc (.cells #[.int .i64 0, .int .i64 0, .int .i64 0, .slice none 0 0, .int .i64 0] 34))).cell? ⟨W.heap.size + 1, 3, none⟩ = some (.slice none 0 0) := cell_of_row _ _ 3 _ _ _ rR2_.out
  have R_4_ : (((W.alloc (.cells #[.int .i64 4, .int .i64 p.f1, .int .i64 p.f2, .int .i64 p.f3, .int .i64 p.f4, .int .i64 p.f5, .int .i64 p.f6, .slice a n c] 26)).alloc (.cells #[.int .i64 0, .int .i64 0, .int .i64 0, .slice none 0 0, .int .i64 0] 34))).cell? ⟨W.heap.size + 1, 4, none⟩ = some (.int .i64 0) := cell_of_row _ _ 4 _ _ _ rR2_.out
  go_wp2_with fail
  go_at_call 56
  refine (CL.out _ (HX.out.grow G3_.out)).mono ?_
  rintro e w1 ⟨rfl, g⟩
  have szc := g.size
  try simp only [World.size_alloc] at szc
  clear A_0_ A_1_ A_2_ A_3_ A_4_ A_5_ A_6_ A_7_ R_0_ R_1_ R_2_ R_3_ R_4_
  have rA4_ := Lib.hid (show (w1).heap[W.heap.size]? = some (.cells #[.int .i64 4, .int .i64 p.f1, .int .i64 p.f2, .int .i64 p.f3, .int .i64 p.f4, .int .i64 p.f5, .int .i64 p.f6, .slice a n c] 26 (0, 0)) from row_held g rA1_.out)
  clear rA1_
  have rR5_ := Lib.hid (show (w1).heap[W.heap.size + 1]? = some (.cells #[.int .i64 0, .int .i64 0, .int .i64 0, .slice none 0 0, .int .i64 0] 34 (0, 0)) from row_held g rR2_.out)
  clear rR2_
  have G6_ := Lib.hid (show (W).grownBy (w1) none from gby_trans G3_.out g)
  clear g
  have A_1_ : (w1).cell? ⟨W.heap.size, 1, none⟩ = some (.int .i64 p.f1) := cell_of_row _ _ 1 _ _ _ rA4_.out
  have A_4_ : (w1).cell? ⟨W.heap.size, 4, none⟩ = some (.int .i64 p.f4) := cell_of_row _ _ 4 _ _ _ rA4_.out
  have A_5_ : (w1).cell? ⟨W.heap.size, 5, none⟩ = some (.int .i64 p.f5) := cell_of_row _ _ 5 _ _ _ rA4_.out
  have HRw := Lib.hid rR5_.out
  have HGw := Lib.hid G6_.out
  have al : (w1).grownBy ((w1).alloc (.cells #[.int .i64 p.f1, .int .i64 p.f5, .int .i64 p.f4, .slice none 0 0, .int .i64 0] 34)) none := gby_alloc (gby_refl _ _) _
  have rA7_ := Lib.hid (show ((w1.alloc (.cells #[.int .i64 p.f1, .int .i64 p.f5, .int .i64 p.f4, .slice none 0 0, .int .i64 0] 34))).heap[W.heap.size]? = some (.cells #[.int .i64 4, .int .i64 p.f1, .int .i64 p.f2, .int .i64 p.f3, .int .i64 p.f4, .int .i64 p.f5, .int .i64 p.f6, .slice a n c] 26 (0, 0)) from row_held al rA4_.out)
  clear rA4_
  have rR8_ := Lib.hid (show ((w1.alloc (.cells #[.int .i64 p.f1, .int .i64 p.f5, .int .i64 p.f4, .slice none 0 0, .int .i64 0] 34))).heap[W.heap.size + 1]? = some (.cells #[.int .i64 0, .int .i64 0, .int .i64 0, .slice none 0 0, .int .i64 0] 34 (0, 0)) from row_held al rR5_.out)
  clear rR5_
  have G9_ := Lib.hid (show (W).grownBy ((w1.alloc (.cells #[.int .i64 p.f1, .int .i64 p.f5, .int .i64 p.f4, .slice none 0 0, .int .i64 0] 34))) none from gby_trans G6_.out al)
  have rg10_ := Lib.hid (show ((w1.alloc (.cells #[.int .i64 p.f1, .int .i64 p.f5, .int .i64 p.f4, .slice none 0 0, .int .i64 0] 34))).heap[w1.heap.size]? = some (.cells #[.int .i64 p.f1, .int .i64 p.f5, .int .i64 p.f4, .slice none 0 0, .int .i64 0] 34 (0, 0)) from heap_alloc_new _ _)
  clear al
  have g_0_ : ((w1.alloc (.cells #[.int .i64 p.f1, .int .i64 p.f5, .int .i64 p.f4, .slice none 0 0, .int .i64 0] 34))).cell? ⟨w1.heap.size, 0, none⟩ = some (.int .i64 p.f1) := cell_of_row _ _ 0 _ _ _ rg10_.out
  have g_1_ : ((w1.alloc (.cells #[.int .i64 p.f1, .int .i64 p.f5, .int .i64 p.f4, .slice none 0 0, .int .i64 0] 34))).cell? ⟨w1.heap.size, 1, none⟩ = some (.int .i64 p.f5) := cell_of_row _ _ 1 _ _ _ rg10_.out
  have g_2_ : ((w1.alloc (.cells #[.int .i64 p.f1, .int .i64 p.f5, .int .i64 p.f4, .slice none 0 0, .int .i64 0] 34))).cell? ⟨w1.heap.size, 2, none⟩ = some (.int .i64 p.f4) := cell_of_row _ _ 2 _ _ _ rg10_.out
  have g_3_ : ((w1.alloc (.cells #[.int .i64 p.f1, .int .i64 p.f5, .int .i64 p.f4, .slice none 0 0, .int .i64 0] 34))).cell? ⟨w1.heap.size, 3, none⟩ = some (.slice none 0 0) := cell_of_row _ _ 3 _ _ _ rg10_.out
  have g_4_ : ((w1.alloc (.cells #[.int .i64 p.f1, .int .i64 p.f5, .int .i64 p.f4, .slice none 0 0, .int .i64 0] 34))).cell? ⟨w1.heap.size, 4, none⟩ = some (.int .i64 0) := cell_of_row _ _ 4 _ _ _ rg10_.out
  have gf0_ : ((w1.alloc (.cells #[.int .i64 p.f1, .int .i64 p.f5, .int .i64 p.f4, .slice none 0 0, .int .i64 0] 34))).frozen? ⟨w1.heap.size, 0, none⟩ = false := frozen_of_row _ _ 0 _ _ rg10_.out
  have gf1_ : ((w1.alloc (.cells #[.int .i64 p.f1, .int .i64 p.f5, .int .i64 p.f4, .slice none 0 0, .int .i64 0] 34))).frozen? ⟨w1.heap.size, 1, none⟩ = false := frozen_of_row _ _ 1 _ _ rg10_.out
  have gf2_ : ((w1.alloc (.cells #[.int .i64 p.f1, .int .i64 p.f5, .int .i64 p.f4, .slice none 0 0, .int .i64 0] 34))).frozen? ⟨w1.heap.size, 2, none⟩ = false := frozen_of_row _ _ 2 _ _ rg10_.out
  have gf3_ : ((w1.alloc (.cells #[.int .i64 p.f1, .int .i64 p.f5, .int .i64 p.f4, .slice none 0 0, .int .i64 0] 34))).frozen? ⟨w1.heap.size, 3, none⟩ = false := frozen_of_row _ _ 3 _ _ rg10_.out
  have gf4_ : ((w1.alloc (.cells #[.int .i64 p.f1, .int .i64 p.f5, .int .i64 p.f4, .slice none 0 0, .int .i64 0] 34))).frozen? ⟨w1.heap.size, 4, none⟩ = false := frozen_of_row _ _ 4 _ _ rg10_.out
  have A_0_ : ((w1.alloc (.cells #[.int .i64 p.f1, .int .i64 p.f5, .int .i64 p.f4, .slice none 0 0, .int .i64 0] 34))).cell? ⟨W.heap.size, 0, none⟩ = some (.int .i64 4) := cell_of_row _ _ 0 _ _ _ rA7_.out
  have A_1_ : ((w1.alloc (.cells #[.int .i64 p.f1, .int .i64 p.f5, .int .i64 p.f4, .slice none 0 0, .int .i64 0] 34))).cell? ⟨W.heap.size, 1, none⟩ = some (.int .i64 p.f1) := cell_of_row _ _ 1 _ _ _ rA7_.out
  have A_2_ : ((w1.alloc (.cells #[.int .i64 p.f1, .int .i64 p.f5, .int .i64 p.f4, .slice none 0 0, .int .i64 0] 34))).cell? ⟨W.heap.size, 2, none⟩ = some (.int .i64 p.f2) := cell_of_row _ _ 2 _ _ _ rA7_.out
  have A_3_ : ((w1.alloc (.cells #[.int .i64 p.f1, .int .i64 p.f5, .int .i64 p.f4, .slice none 0 0, .int .i64 0] 34))).cell? ⟨W.heap.size, 3, none⟩ = some (.int .i64 p.f3) := cell_of_row _ _ 3 _ _ _ rA7_.out
  have A_4_ : ((w1.alloc (.cells #[.int .i64 p.f1, .int .i64 p.f5, .int .i64 p.f4, .slice none 0 0, .int .i64 0] 34))).cell? ⟨W.heap.size, 4, none⟩ = some (.int .i64 p.f4) := cell_of_row _ _ 4 _ _ _ rA7_.out
  have A_5_ : ((w1.alloc (.cells #[.int .i64 p.f1, .int .i64 p.f5, .int .i64 p.f4, .slice none 0 0, .int .i64 0] 34))).cell? ⟨W.heap.size, 5, none⟩ = some (.int .i64 p.f5) := cell_of_row _ _ 5 _ _ _ rA7_.out
  have A_6_ : ((w1.alloc (.cells #[.int .i64 p.f1, .int .i64 p.f5, .int .i64 p.f4, .slice none 0 0, .int .i64 0] 34))).cell? ⟨W.heap.size, 6, none⟩ = some (.int .i64 p.f6) := cell_of_row _ _ 6 _ _ _ rA7_.out
  have A_7_ : ((w1.alloc (.cells #[.int .i64 p.f1, .int .i64 p.f5, .int .i64 p.f4, .slice none 0 0, .int .i64 0] 34))).cell? ⟨W.heap.size, 7, none⟩ = some (.slice a n c) := cell_of_row _ _ 7 _ _ _ rA7_.out
  have R1_ := row_held (gby_alloc (gby_refl w1 none) (.cells #[.int .i64 p.f1, .int .i64 p.f5, .int .i64 1, .slice none 0 0, .int .i64 0] 34)) HRw.out
  have g1_ := heap_alloc_new w1 (.cells #[.int .i64 p.f1, .int .i64 p.f5, .int .i64 1, .slice none 0 0, .int .i64 0] 34)
  have h0_ : (w1.alloc (.cells #[.int .i64 p.f1, .int .i64 p.f5, .int .i64 1, .slice none 0 0, .int .i64 0] 34)).cell? ⟨w1.heap.size, 0, none⟩ = some (.int .i64 p.f1) := cell_of_row _ _ 0 _ _ _ g1_
  have h1_ : (w1.alloc (.cells #[.int .i64 p.f1, .int .i64 p.f5, .int .i64 1, .slice none 0 0, .int .i64 0] 34)).cell? ⟨w1.heap.size, 1, none⟩ = some (.int .i64 p.f5) := cell_of_row _ _ 1 _ _ _ g1_
  have h2_ : (w1.alloc (.cells #[.int .i64 p.f1, .int .i64 p.f5, .int .i64 1, .slice none 0 0, .int .i64 0] 34)).cell? ⟨w1.heap.size, 2, none⟩ = some (.int .i64 1) := cell_of_row _ _ 2 _ _ _ g1_
  have h3_ : (w1.alloc (.cells #[.int .i64 p.f1, .int .i64 p.f5, .int .i64 1, .slice none 0 0, .int .i64 0] 34)).cell? ⟨w1.heap.size, 3, none⟩ = some (.slice none 0 0) := cell_of_row _ _ 3 _ _ _ g1_
  have h4_ : (w1.alloc (.cells #[.int .i64 p.f1, .int .i64 p.f5, .int .i64 1, .slice none 0 0, .int .i64 0] 34)).cell? ⟨w1.heap.size, 4, none⟩ = some (.int .i64 0) := cell_of_row _ _ 4 _ _ _ g1_
  have R_0_ : (w1.alloc (.cells #[.int .i64 p.f1, .int .i64 p.f5, .int .i64 1, .slice none 0 0, .int .i64 0] 34)).cell? ⟨W.heap.size + 1, 0, none⟩ = some (.int .i64 0) := cell_of_row _ _ 0 _ _ _ R1_
  have Rf0_ : (w1.alloc (.cells #[.int .i64 p.f1, .int .i64 p.f5, .int .i64 1, .slice none 0 0, .int .i64 0] 34)).frozen? ⟨W.heap.size + 1, 0, none⟩ = false := frozen_of_row _ _ 0 _ _ R1_
  have R_1_ : (w1.alloc (.cells #[.int .i64 p.f1, .int .i64 p.f5, .int .i64 1, .slice none 0 0, .int .i64 0] 34)).cell? ⟨W.heap.size + 1, 1, none⟩ = some (.int .i64 0) := cell_of_row _ _ 1 _ _ _ R1_
  have Rf1_ : (w1.alloc (.cells #[.int .i64 p.f1, .int .i64 p.f5, .int .i64 1, .slice none 0 0, .int .i64 0] 34)).frozen? ⟨W.heap.size + 1, 1, none⟩ = false := frozen_of_row _ _ 1 _ _ R1_
  have R_2_ : (w1.alloc (.cells #[.int .i64 p.f1, .int .i64 p.f5, .int .i64 1, .slice none 0 0, .int .i64 0] 34)).cell? ⟨W.heap.size + 1, 2, none⟩ = some (.int .i64 0) := cell_of_row _ _ 2 _ _ _ R1_
  have Rf2_ : (w1.alloc (.cells #[.int .i64 p.f1, .int .i64 p.f5, .int .i64 1, .slice none 0 0, .int .i64 0] 34)).frozen? ⟨W.heap.size + 1, 2, none⟩ = false := frozen_of_row _ _ 2 _ _ R1_
  have R_3_ : (w1.alloc (.cells #[.int .i64 p.f1, .int .i64 p.f5, .int .i64 1, .slice none 0 0, .int .i64 0] 34)).cell? ⟨W.heap.size + 1, 3, none⟩ = some (.slice none 0 0) := cell_of_row _ _ 3 _ _ _ R1_
  have Rf3_ : (w1.alloc (.cells #[.int .i64 p.f1, .int .i64 p.f5, .int .i64 1, .slice none 0 0, .int .i64 0] 34)).frozen? ⟨W.heap.size + 1, 3, none⟩ = false := frozen_of_row _ _ 3 _ _ R1_
  have R_4_ : (w1.alloc (.cells #[.int .i64 p.f1, .int .i64 p.f5, .int .i64 1, .slice none 0 0, .int .i64 0] 34)).cell? ⟨W.heap.size + 1, 4, none⟩ = some (.int .i64 0) := cell_of_row _ _ 4 _ _ _ R1_
  have Rf4_ : (w1.alloc (.cells #[.int .i64 p.f1, .int .i64 p.f5, .int .i64 1, .slice none 0 0, .int .i64 0] 34)).frozen? ⟨W.heap.size + 1, 4, none⟩ = false := frozen_of_row _ _ 4 _ _ R1_
  clear R1_ g1_
  go_wp2
  refine bodyPost_ret (v := .tuple #[.agg #[.int .i64 p.f1, .int .i64 p.f5, .int .i64 1, .slice none 0 0, .int .i64 0], .bool true]) (by simp [results, go_sem, R_0_, R_1_, R_2_, R_3_, R_4_]) rfl ⟨_, rfl, OwU.one owL_nil, ?_⟩
  repeat (with_reducible refine gby_setnew ?_ _ (by dsimp only; omega) _)
  exact (gby_alloc HGw.out _)

set_option maxRecDepth 8000 in
set_option maxHeartbeats 4000000 in
theorem specNewGRd (W : World) (p : DPacket) (v : Value) (H : RdL shI W v p.f7) (hl : szL shI p.f7 ≤ 1048576) (h : clsD p = 1) (hk : p.f0 ≠ 4) : Calls Try.prog 20 #[vPacket p.f0 p.f1 p.f2 p.f3 p.f4 p.f5 p.f6 v] W (ResINewGather p.f1 p.f5 p.f4 [] 0 true W) := by
  obtain ⟨a, n, c, rfl⟩ := RdL.form H
  have HX := Lib.hid H
  obtain ⟨cl, hcl⟩ : ∃ cl, cl = clsD p := ⟨_, rfl⟩
  have CL := Lib.hid (show ∀ (W : World), RdL shI W (.slice a n c) p.f7 → Calls Try.prog 56 #[vPacket p.f0 p.f1 p.f2 p.f3 p.f4 p.f5 p.f6 (.slice a n c)] W (AnsN (.int .i64 cl) W) from by rw [hcl]; exact fun W H => specClsD W p (.slice a n c) H hl)
  rw [← hcl] at h
  clear hcl H
  unfold vPacket at CL ⊢
  subst h
  have hk2 : (p.f0 == 4) = false := beq_eq_false_iff_ne.2 hk
  clear hk
  go_enter Try.func20, Try.ntmps20
  have rA1_ := Lib.hid (show (((W.alloc (.cells #[.int .i64 p.f0, .int .i64 p.f1, .int .i64 p.f2, .int .i64 p.f3, .int .i64 p.f4, .int .i64 p.f5, .int .i64 p.f6, .slice a n c] 26)).alloc (.cells #[.int .i64 0, .int .i64 0, .int .i64 0, .slice none 0 0, .int .i64 0] 34))).heap[W.heap.size]? = some (.cells #[.int .i64 p.f0, .int .i64 p.f1, .int .i64 p.f2, .int .i64 p.f3, .int .i64 p.f4, .int .i64 p.f5, .int .i64 p.f6, .slice a n c] 26 (0, 0)) from by rw [heap_alloc_old _ _ (by simp only [World.size_alloc]; omega)]; exact heap_alloc_new _ _)
  have rR2_ := Lib.hid (show (((W.alloc (.cells #[.int .i64 p.f0, .int .i64 p.f1, .int .i64 p.f2, .int .i64 p.f3, .int .i64 p.f4, .int .i64 p.f5, .int .i64 p.f6, .slice a n c] 26)).alloc (.cells #[.int .i64 0, .int .i64 0, .int .i64 0, .slice none 0 0, .int .i64 0] 34))).heap[W.heap.size + 1]? = some (.cells #[.int .i64 0, .int .i64 0, .int .i64 0, .slice none 0 0, .int .i64 0] 34 (0, 0)) from by exact heap_pair _ _ _)
  have G3_ := Lib.hid (show (W).grownBy (((W.alloc (.cells #[.int .i64 p.f0, .int .i64 p.f1, .int .i64 p.f2, .int .i64 p.f3, .int .i64 p.f4, .int .i64 p.f5, .int .i64 p.f6, .slice a n c] 26)).alloc (.cells #[.int .i64 0, .int .i64 0, .int .i64 0, .slice none 0 0, .int .i64 0] 34))) none from (gby_alloc (gby_alloc (gby_refl _ _) _) _))
  have A_0_ : (((W.alloc (.cells #[.int .i64 p.f0, .int .i64 p.f1, .int .i64 p.f2, .int .i64 p.f3, .int .i64 p.f4, .int .i64 p.f5, .int .i64 p.f6, .slice a n c] 26)).alloc (.cells #[.int .i64 0, .int .i64 0, .int .i64 0, .slice none 0 0, .int .i64 0] 34))).cell? ⟨W.heap.size, 0, none⟩ = some (.int .i64 p.f0) := cell_of_row _ _ 0 _ _ _ rA1_.out
  have A_1_ : (((W.alloc (.cells #[.int .i64 p.f0, .int .i64 p.f1, .int .i64 p.f2, .int .i64 p.f3, .int .i64 p.f4, .int .i64 p.f5, .int .i64 p.f6, .slice a n c] 26)).alloc (.cells #[.int .i64 0, .int .i64 0, .int .i64 0, .slice none 0 0, .int .i64 0] 34))).cell? ⟨W.heap.size, 1, none⟩ = some (.int .i64 p.f1) := cell_of_row _ _ 1 _ _ _ rA1_.out
  have A_2_ : (((W.alloc (.cells #[.int .i64 p.f0, .int .i64 p.f1, .int .i64 p.f2, .int .i64 p.f3, .int .i64 p.f4, .int .i64 p.f5, .int .i64 p.f6, .slice a n c] 26)).alloc (.cells #[.int .i64 0, .int .i64 0, .int .i64 0, .slice none 0 0, .int .i64 0] 34))).cell? ⟨W.heap.size, 2, none⟩ = some (.int .i64 p.f2) := cell_of_row _ _ 2 _ _ _ rA1_.out
  have A_3_ : (((W.alloc (.cells #[.int .i64 p.f0, .int .i64 p.f1, .int .i64 p.f2, .int .i64 p.f3, .int .i64 p.f4, .int .i64 p.f5, .int .i64 p.f6, .slice a n c] 26)).alloc (.cells #[.int .i64 0, .int .i64 0, .int .i64 0, .slice none 0 0, .int .i64 0] 34))).cell? ⟨W.heap.size, 3, none⟩ = some (.int .i64 p.f3) := cell_of_row _ _ 3 _ _ _ rA1_.out
  have A_4_ : (((W.alloc (.cells #[.int .i64 p.f0, .int .i64 p.f1, .int .i64 p.f2, .int .i64 p.f3, .int .i64 p.f4, .int .i64 p.f5, .int .i64 p.f6, .slice a n c] 26)).alloc (.cells #[.int .i64 0, .int .i64 0, .int .i64 0, .slice none 0 0, .int .i64 0] 34))).cell? ⟨W.heap.size, 4, none⟩ = some (.int .i64 p.f4) := cell_of_row _ _ 4 _ _ _ rA1_.out
  have A_5_ : (((W.alloc (.cells #[.int .i64 p.f0, .int .i64 p.f1, .int .i64 p.f2, .int .i64 p.f3, .int .i64 p.f4, .int .i64 p.f5, .int .i64 p.f6, .slice a n c] 26)).alloc (.cells #[.int .i64 0, .int .i64 0, .int .i64 0, .slice none 0 0, .int .i64 0] 34))).cell? ⟨W.heap.size, 5, none⟩ = some (.int .i64 p.f5) := cell_of_row _ _ 5 _ _ _ rA1_.out
  have A_6_ : (((W.alloc (.cells #[.int .i64 p.f0, .int .i64 p.f1, .int .i64 p.f2, .int .i64 p.f3, .int .i64 p.f4, .int .i64 p.f5, .int .i64 p.f6, .slice a n c] 26)).alloc (.cells #[.int .i64 0, .int .i64 0, .int .i64 0, .slice none 0 0, .int .i64 0] 34))).cell? ⟨W.heap.size, 6, none⟩ = some (.int .i64 p.f6) := cell_of_row _ _ 6 _ _ _ rA1_.out
  have A_7_ : (((W.alloc (.cells #[.int .i64 p.f0, .int .i64 p.f1, .int .i64 p.f2, .int .i64 p.f3, .int .i64 p.f4, .int .i64 p.f5, .int .i64 p.f6, .slice a n c] 26)).alloc (.cells #[.int .i64 0, .int .i64 0, .int .i64 0, .slice none 0 0, .int .i64 0] 34))).cell? ⟨W.heap.size, 7, none⟩ = some (.slice a n c) := cell_of_row _ _ 7 _ _ _ rA1_.out
  have R_0_ : (((W.alloc (.cells #[.int .i64 p.f0, .int .i64 p.f1, .int .i64 p.f2, .int .i64 p.f3, .int .i64 p.f4, .int .i64 p.f5, .int .i64 p.f6, .slice a n c] 26)).alloc (.cells #[.int .i64 0, .int .i64 0, .int .i64 0, .slice none 0 0, .int .i64 0] 34))).cell? ⟨W.heap.size + 1, 0, none⟩ = some (.int .i64 0) := cell_of_row _ _ 0 _ _ _ rR2_.out
  have R_1_ : (((W.alloc (.cells #[.int .i64 p.f0, .int .i64 p.f1, .int .i64 p.f2, .int .i64 p.f3, .int .i64 p.f4, .int .i64 p.f5, .int .i64 p.f6, .slice a n c] 26)).alloc (.cells #[.int .i64 0, .int .i64 0, .int .i64 0, .slice none 0 0, .int .i64 0] 34))).cell? ⟨W.heap.size + 1, 1, none⟩ = some (.int .i64 0) := cell_of_row _ _ 1 _ _ _ rR2_.out
  have R_2_ : (((W.alloc (.cells #[.int .i64 p.f0, .int .i64 p.f1, .int .i64 p.f2, .int .i64 p.f3, .int .i64 p.f4, .int .i64 p.f5, .int .i64 p.f6, .slice a n c] 26)).alloc (.cells #[.int .i64 0, .int .i64 0, .int .i64 0, .slice none 0 0, .int .i64 0] 34))).cell? ⟨W.heap.size + 1, 2, none⟩ = some (.int .i64 0) := cell_of_row _ _ 2 _ _ _ rR2_.out
  have R_3_ : (((W.alloc (.cells #[.int .i64 p.f0, .int .i64 p.f1, .int .i64 p.f2, .int .i64 p.f3, .int .i64 p.f4, .int .i64 p.f5, .int .i64 p.f6, .slice a n c] 26)).alloc (.cells #[.int .i64 0, .int .i64 0, .int .i64 0, .slice none 0 0, .int .i64 0] 34))).cell? ⟨W.heap.size + 1, 3, none⟩ = some (.slice none 0 0) := cell_of_row _ _ 3 _ _ _ rR2_.out
  have R_4_ : (((W.alloc (.cells #[.int .i64 p.f0, .int .i64 p.f1, .int .i64 p.f2, .int .i64 p.f3, .int .i64 p.f4, .int .i64 p.f5, .int .i64 p.f6, .slice a n c] 26)).alloc (.cells #[.int .i64 0, .int .i64 0, .int .i64 0, .slice none 0 0, .int .i64 0] 34))).cell? ⟨W.heap.size + 1, 4, none⟩ = some (.int .i64 0) := cell_of_row _ _ 4 _ _ _ rR2_.out
  go_wp2_with fail
  go_at_call 56
  refine (CL.out _ (HX.out.grow G3_.out)).mono ?_
  rintro e w1 ⟨rfl, g⟩
  have szc := g.size
  try simp only [World.size_alloc] at szc
  clear A_0_ A_1_ A_2_ A_3_ A_4_ A_5_ A_6_ A_7_ R_0_ R_1_ R_2_ R_3_ R_4_
  have rA4_ := Lib.hid (show (w1).heap[W.heap.size]? = some (.cells #[.int .i64 p.f0, .int .i64 p.f1, .int .i64 p.f2, .int .i64 p.f3, .int .i64 p.f4, .int .i64 p.f5, .int .i64 p.f6, .slice a n c] 26 (0, 0)) from row_held g rA1_.out)
  clear rA1_
  have rR5_ := Lib.hid (show (w1).heap[W.heap.size + 1]? = some (.cells #[.int .i64 0, .int .i64 0, .int .i64 0, .slice none 0 0, .int .i64 0] 34 (0, 0)) from row_held g rR2_.out)
  clear rR2_
  have G6_ := Lib.hid (show (W).grownBy (w1) none from gby_trans G3_.out g)
  clear g
  have A_1_ : (w1).cell? ⟨W.heap.size, 1, none⟩ = some (.int .i64 p.f1) := cell_of_row _ _ 1 _ _ _ rA4_.out
  have A_4_ : (w1).cell? ⟨W.heap.size, 4, none⟩ = some (.int .i64 p.f4) := cell_of_row _ _ 4 _ _ _ rA4_.out
  have A_5_ : (w1).cell? ⟨W.heap.size, 5, none⟩ = some (.int .i64 p.f5) := cell_of_row _ _ 5 _ _ _ rA4_.out
  have HRw := Lib.hid rR5_.out
  have HGw := Lib.hid G6_.out
  have al : (w1).grownBy ((w1).alloc (.cells #[.int .i64 p.f1, .int .i64 p.f5, .int .i64 p.f4, .slice none 0 0, .int .i64 0] 34)) none := gby_alloc (gby_refl _ _) _
  have rA7_ := Lib.hid (show ((w1.alloc (.cells #[.int .i64 p.f1, .int .i64 p.f5, .int .i64 p.f4, .slice none 0 0, .int .i64 0] 34))).heap[W.heap.size]? = some (.cells #[.int .i64 p.f0, .int .i64 p.f1, .int .i64 p.f2, .int .i64 p.f3, .int .i64 p.f4, .int .i64 p.f5, .int .i64 p.f6, .slice a n c] 26 (0, 0)) from row_held al rA4_.out)
  clear rA4_
  have rR8_ := Lib.hid (show ((w1.alloc (.cells #[.int .i64 p.f1, .int .i64 p.f5, .int .i64 p.f4, .slice none 0 0, .int .i64 0] 34))).heap[W.heap.size + 1]? = some (.cells #[.int .i64 0, .int .i64 0, .int .i64 0, .slice none 0 0, .int .i64 0] 34 (0, 0)) from row_held al rR5_.out)
  clear rR5_
  have G9_ := Lib.hid (show (W).grownBy ((w1.alloc (.cells #[.int .i64 p.f1, .int .i64 p.f5, .int .i64 p.f4, .slice none 0 0, .int .i64 0] 34))) none from gby_trans G6_.out al)
  have rg10_ := Lib.hid (show ((w1.alloc (.cells #[.int .i64 p.f1, .int .i64 p.f5, .int .i64 p.f4, .slice none 0 0, .int .i64 0] 34))).heap[w1.heap.size]? = some (.cells #[.int .i64 p.f1, .int .i64 p.f5, .int .i64 p.f4, .slice none 0 0, .int .i64 0] 34 (0, 0)) from heap_alloc_new _ _)
  clear al
  have A_0_ : ((w1.alloc (.cells #[.int .i64 p.f1, .int .i64 p.f5, .int .i64 p.f4, .slice none 0 0, .int .i64 0] 34))).cell? ⟨W.heap.size, 0, none⟩ = some (.int .i64 p.f0) := cell_of_row _ _ 0 _ _ _ rA7_.out
  have A_1_ : ((w1.alloc (.cells #[.int .i64 p.f1, .int .i64 p.f5, .int .i64 p.f4, .slice none 0 0, .int .i64 0] 34))).cell? ⟨W.heap.size, 1, none⟩ = some (.int .i64 p.f1) := cell_of_row _ _ 1 _ _ _ rA7_.out
  have A_2_ : ((w1.alloc (.cells #[.int .i64 p.f1, .int .i64 p.f5, .int .i64 p.f4, .slice none 0 0, .int .i64 0] 34))).cell? ⟨W.heap.size, 2, none⟩ = some (.int .i64 p.f2) := cell_of_row _ _ 2 _ _ _ rA7_.out
  have A_3_ : ((w1.alloc (.cells #[.int .i64 p.f1, .int .i64 p.f5, .int .i64 p.f4, .slice none 0 0, .int .i64 0] 34))).cell? ⟨W.heap.size, 3, none⟩ = some (.int .i64 p.f3) := cell_of_row _ _ 3 _ _ _ rA7_.out
  have A_4_ : ((w1.alloc (.cells #[.int .i64 p.f1, .int .i64 p.f5, .int .i64 p.f4, .slice none 0 0, .int .i64 0] 34))).cell? ⟨W.heap.size, 4, none⟩ = some (.int .i64 p.f4) := cell_of_row _ _ 4 _ _ _ rA7_.out
  have A_5_ : ((w1.alloc (.cells #[.int .i64 p.f1, .int .i64 p.f5, .int .i64 p.f4, .slice none 0 0, .int .i64 0] 34))).cell? ⟨W.heap.size, 5, none⟩ = some (.int .i64 p.f5) := cell_of_row _ _ 5 _ _ _ rA7_.out
  have A_6_ : ((w1.alloc (.cells #[.int .i64 p.f1, .int .i64 p.f5, .int .i64 p.f4, .slice none 0 0, .int .i64 0] 34))).cell? ⟨W.heap.size, 6, none⟩ = some (.int .i64 p.f6) := cell_of_row _ _ 6 _ _ _ rA7_.out
  have A_7_ : ((w1.alloc (.cells #[.int .i64 p.f1, .int .i64 p.f5, .int .i64 p.f4, .slice none 0 0, .int .i64 0] 34))).cell? ⟨W.heap.size, 7, none⟩ = some (.slice a n c) := cell_of_row _ _ 7 _ _ _ rA7_.out
  have R_0_ : ((w1.alloc (.cells #[.int .i64 p.f1, .int .i64 p.f5, .int .i64 p.f4, .slice none 0 0, .int .i64 0] 34))).cell? ⟨W.heap.size + 1, 0, none⟩ = some (.int .i64 0) := cell_of_row _ _ 0 _ _ _ rR8_.out
  have R_1_ : ((w1.alloc (.cells #[.int .i64 p.f1, .int .i64 p.f5, .int .i64 p.f4, .slice none 0 0, .int .i64 0] 34))).cell? ⟨W.heap.size + 1, 1, none⟩ = some (.int .i64 0) := cell_of_row _ _ 1 _ _ _ rR8_.out
  have R_2_ : ((w1.alloc (.cells #[.int .i64 p.f1, .int .i64 p.f5, .int .i64 p.f4, .slice none 0 0, .int .i64 0] 34))).cell? ⟨W.heap.size + 1, 2, none⟩ = some (.int .i64 0) := cell_of_row _ _ 2 _ _ _ rR8_.out
  have R_3_ : ((w1.alloc (.cells #[.int .i64 p.f1, .int .i64 p.f5, .int .i64 p.f4, .slice none 0 0, .int .i64 0] 34))).cell? ⟨W.heap.size + 1, 3, none⟩ = some (.slice none 0 0) := cell_of_row _ _ 3 _ _ _ rR8_.out
  have R_4_ : ((w1.alloc (.cells #[.int .i64 p.f1, .int .i64 p.f5, .int .i64 p.f4, .slice none 0 0, .int .i64 0] 34))).cell? ⟨W.heap.size + 1, 4, none⟩ = some (.int .i64 0) := cell_of_row _ _ 4 _ _ _ rR8_.out
  have Rf0_ : ((w1.alloc (.cells #[.int .i64 p.f1, .int .i64 p.f5, .int .i64 p.f4, .slice none 0 0, .int .i64 0] 34))).frozen? ⟨W.heap.size + 1, 0, none⟩ = false := frozen_of_row _ _ 0 _ _ rR8_.out
  have Rf1_ : ((w1.alloc (.cells #[.int .i64 p.f1, .int .i64 p.f5, .int .i64 p.f4, .slice none 0 0, .int .i64 0] 34))).frozen? ⟨W.heap.size + 1, 1, none⟩ = false := frozen_of_row _ _ 1 _ _ rR8_.out
  have Rf2_ : ((w1.alloc (.cells #[.int .i64 p.f1, .int .i64 p.f5, .int .i64 p.f4, .slice none 0 0, .int .i64 0] 34))).frozen? ⟨W.heap.size + 1, 2, none⟩ = false := frozen_of_row _ _ 2 _ _ rR8_.out
  have Rf3_ : ((w1.alloc (.cells #[.int .i64 p.f1, .int .i64 p.f5, .int .i64 p.f4, .slice none 0 0, .int .i64 0] 34))).frozen? ⟨W.heap.size + 1, 3, none⟩ = false := frozen_of_row _ _ 3 _ _ rR8_.out
  have Rf4_ : ((w1.alloc (.cells #[.int .i64 p.f1, .int .i64 p.f5, .int .i64 p.f4, .slice none 0 0, .int .i64 0] 34))).frozen? ⟨W.heap.size + 1, 4, none⟩ = false := frozen_of_row _ _ 4 _ _ rR8_.out
  have g_0_ : ((w1.alloc (.cells #[.int .i64 p.f1, .int .i64 p.f5, .int .i64 p.f4, .slice none 0 0, .int .i64 0] 34))).cell? ⟨w1.heap.size, 0, none⟩ = some (.int .i64 p.f1) := cell_of_row _ _ 0 _ _ _ rg10_.out
  have g_1_ : ((w1.alloc (.cells #[.int .i64 p.f1, .int .i64 p.f5, .int .i64 p.f4, .slice none 0 0, .int .i64 0] 34))).cell? ⟨w1.heap.size, 1, none⟩ = some (.int .i64 p.f5) := cell_of_row _ _ 1 _ _ _ rg10_.out
  have g_2_ : ((w1.alloc (.cells #[.int .i64 p.f1, .int .i64 p.f5, .int .i64 p.f4, .slice none 0 0, .int .i64 0] 34))).cell? ⟨w1.heap.size, 2, none⟩ = some (.int .i64 p.f4) := cell_of_row _ _ 2 _ _ _ rg10_.out
  have g_3_ : ((w1.alloc (.cells #[.int .i64 p.f1, .int .i64 p.f5, .int .i64 p.f4, .slice none 0 0, .int .i64 0] 34))).cell? ⟨w1.heap.size, 3, none⟩ = some (.slice none 0 0) := cell_of_row _ _ 3 _ _ _ rg10_.out
  have g_4_ : ((w1.alloc (.cells #[.int .i64 p.f1, .int .i64 p.f5, .int .i64 p.f4, .slice none 0 0, .int .i64 0] 34))).cell? ⟨w1.heap.size, 4, none⟩ = some (.int .i64 0) := cell_of_row _ _ 4 _ _ _ rg10_.out
  go_wp2
  refine bodyPost_ret (v := .tuple #[.agg #[.int .i64 p.f1, .int .i64 p.f5, .int .i64 p.f4, .slice none 0 0, .int .i64 0], .bool true]) (by simp [results, go_sem, R_0_, R_1_, R_2_, R_3_, R_4_]) rfl ⟨_, rfl, OwU.one owL_nil, ?_⟩
  repeat (with_reducible refine gby_setnew ?_ _ (by dsimp only; omega) _)
  exact G9_.out

set_option maxRecDepth 8000 in
set_option maxHeartbeats 4000000 in
theorem implNewGNo (W : World) (p : DPacket) (v : Value) (H : RdL shI W v p.f7) (hl : szL shI p.f7 ≤ 1048576) (h : clsD p ≠ 1) : Calls Try.prog 21 #[vPacket p.f0 p.f1 p.f2 p.f3 p.f4 p.f5 p.f6 v] W (ResINewGather 0 0 0 [] 0 false W) := by
  obtain ⟨a, n, c, rfl⟩ := RdL.form H
  have HX := Lib.hid H
  obtain ⟨cl, hcl⟩ : ∃ cl, cl = clsD p := ⟨_, rfl⟩
  have CL := Lib.hid (show ∀ (W : World), RdL shI W (.slice a n c) p.f7 → Calls Try.prog 43 #[vPacket p.f0 p.f1 p.f2 p.f3 p.f4 p.f5 p.f6 (.slice a n c)] W (AnsN (.int .i64 cl) W) from by rw [hcl]; exact fun W H => implClsD W p (.slice a n c) H hl)
  rw [← hcl] at h
  clear hcl H
  unfold vPacket at CL ⊢
  have hne : (cl != 1) = true := by simpa using h
  have hne2 : (cl == 1) = false := beq_eq_false_iff_ne.2 h
  clear h
  go_enter Try.func21, Try.ntmps21
  have rA1_ := Lib.hid (show (((W.alloc (.cells #[.int .i64 p.f0, .int .i64 p.f1, .int .i64 p.f2, .int .i64 p.f3, .int .i64 p.f4, .int .i64 p.f5, .int .i64 p.f6, .slice a n c] 26)).alloc (.cells #[.int .i64 0, .int .i64 0, .int .i64 0, .slice none 0 0, .int .i64 0] 34))).heap[W.heap.size]? = some (.cells #[.int .i64 p.f0, .int .i64 p.f1, .int .i64 p.f2, .int .i64 p.f3, .int .i64 p.f4, .int .i64 p.f5, .int .i64 p.f6, .slice a n c] 26 (0, 0)) from by rw [heap_alloc_old _ _ (by simp only [World.size_alloc]; omega)]; exact heap_alloc_new _ _)
  have rR2_ := Lib.hid (show (((W.alloc (.cells #[.int .i64 p.f0, .int .i64 p.f1, .int .i64 p.f2, .int .i64 p.f3, .int .i64 p.f4, .int .i64 p.f5, .int .i64 p.f6, .slice a n c] 26)).alloc (.cells #[.int .i64 0, .int .i64 0, .int .i64 0, .slice none 0 0, .int .i64 0] 34))).heap[W.heap.size + 1]? = some (.cells #[.int .i64 0, .int .i64 0, .int .i64 0, .slice none 0 0, .int .i64 0] 34 (0, 0)) from by exact heap_pair _ _ _)
  have G3_ := Lib.hid (show (W).grownBy (((W.alloc (.cells #[.int .i64 p.f0, .int .i64 p.f1, .int .i64 p.f2, .int .i64 p.f3, .int .i64 p.f4, .int .i64 p.f5, .int .i64 p.f6, .slice a n c] 26)).alloc (.cells #[.int .i64 0, .int .i64 0, .int .i64 0, .slice none 0 0, .int .i64 0] 34))) none from (gby_alloc (gby_alloc (gby_refl _ _) _) _))
  have A_0_ : (((W.alloc (.cells #[.int .i64 p.f0, .int .i64 p.f1, .int .i64 p.f2, .int .i64 p.f3, .int .i64 p.f4, .int .i64 p.f5, .int .i64 p.f6, .slice a n c] 26)).alloc (.cells #[.int .i64 0, .int .i64 0, .int .i64 0, .slice none 0 0, .int .i64 0] 34))).cell? ⟨W.heap.size, 0, none⟩ = some (.int .i64 p.f0) := cell_of_row _ _ 0 _ _ _ rA1_.out
  have A_1_ : (((W.alloc (.cells #[.int .i64 p.f0, .int .i64 p.f1, .int .i64 p.f2, .int .i64 p.f3, .int .i64 p.f4, .int .i64 p.f5, .int .i64 p.f6, .slice a n c] 26)).alloc (.cells #[.int .i64 0, .int .i64 0, .int .i64 0, .slice none 0 0, .int .i64 0] 34))).cell? ⟨W.heap.size, 1, none⟩ = some (.int .i64 p.f1) := cell_of_row _ _ 1 _ _ _ rA1_.out
  have A_2_ : (((W.alloc (.cells #[.int .i64 p.f0, .int .i64 p.f1, .int .i64 p.f2, .int .i64 p.f3, .int .i64 p.f4, .int .i64 p.f5, .int .i64 p.f6, .slice a n c] 26)).alloc (.cells #[.int .i64 0, .int .i64 0, .int .i64 0, .slice none 0 0, .int .i64 0] 34))).cell? ⟨W.heap.size, 2, none⟩ = some (.int .i64 p.f2) := cell_of_row _ _ 2 _ _ _ rA1_.out
  have A_3_ : (((W.alloc (.cells #[.int .i64 p.f0, .int .i64 p.f1, .int .i64 p.f2, .int .i64 p.f3, .int .i64 p.f4, .int .i64 p.f5, .int .i64 p.f6, .slice a n c] 26)).alloc (.cells #[.int .i64 0, .int .i64 0, .int .i64 0, .slice none 0 0, .int .i64 0] 34))).cell? ⟨W.heap.size, 3, none⟩ = some (.int .i64 p.f3) := cell_of_row _ _ 3 _ _ _ rA1_.out
  have A_4_ : (((W.alloc (.cells #[.int .i64 p.f0, .int .i64 p.f1, .int .i64 p.f2, .int .i64 p.f3, .int .i64 p.f4, .int .i64 p.f5, .int .i64 p.f6, .slice a n c] 26)).alloc (.cells #[.int .i64 0, .int .i64 0, .int .i64 0, .slice none 0 0, .int .i64 0] 34))).cell? ⟨W.heap.size, 4, none⟩ = some (.int .i64 p.f4) := cell_of_row _ _ 4 _ _ _ rA1_.out
  have A_5_ : (((W.alloc (.cells #[.int .i64 p.f0, .int .i64 p.f1, .int .i64 p.f2, .int .i64 p.f3, .int .i64 p.f4, .int .i64 p.f5, .int .i64 p.f6, .slice a n c] 26)).alloc (.cells #[.int .i64 0, .int .i64 0, .int .i64 0, .slice none 0 0, .int .i64 0] 34))).cell? ⟨W.heap.size, 5, none⟩ = some (.int .i64 p.f5) := cell_of_row _ _ 5 _ _ _ rA1_.out
  have A_6_ : (((W.alloc (.cells #[.int .i64 p.f0, .int .i64 p.f1, .int .i64 p.f2, .int .i64 p.f3, .int .i64 p.f4, .int .i64 p.f5, .int .i64 p.f6, .slice a n c] 26)).alloc (.cells #[.int .i64 0, .int .i64 0, .int .i64 0, .slice none 0 0, .int .i64 0] 34))).cell? ⟨W.heap.size, 6, none⟩ = some (.int .i64 p.f6) := cell_of_row _ _ 6 _ _ _ rA1_.out
  have A_7_ : (((W.alloc (.cells #[.int .i64 p.f0, .int .i64 p.f1, .int .i64 p.f2, .int .i64 p.f3, .int .i64 p.f4, .int .i64 p.f5, .int .i64 p.f6, .slice a n c] 26)).alloc (.cells #[.int .i64 0, .int .i64 0, .int .i64 0, .slice none 0 0, .int .i64 0] 34))).cell? ⟨W.heap.size, 7, none⟩ = some (.slice a n c) := cell_of_row _ _ 7 _ _ _ rA1_.out
  have R_0_ : (((W.alloc (.cells #[.int .i64 p.f0, .int .i64 p.f1, .int .i64 p.f2, .int .i64 p.f3, .int .i64 p.f4, .int .i64 p.f5, .int .i64 p.f6, .slice a n c] 26)).alloc (.cells #[.int .i64 0, .int .i64 0, .int .i64 0, .slice none 0 0, .int .i64 0] 34))).cell? ⟨W.heap.size + 1, 0, none⟩ = some (.int .i64 0) := cell_of_row _ _ 0 _ _ _ rR2_.out
  have R_1_ : (((W.alloc (.cells #[.int .i64 p.f0, .int .i64 p.f1, .int .i64 p.f2, .int .i64 p.f3, .int .i64 p.f4, .int .i64 p.f5, .int .i64 p.f6, .slice a n c] 26)).alloc (.cells #[.int .i64 0, .int .i64 0, .int .i64 0, .slice none 0 0, .int .i64 0] 34))).cell? ⟨W.heap.size + 1, 1, none⟩ = some (.int .i64 0) := cell_of_row _ _ 1 _ _ _ rR2_.out
  have R_2_ : (((W.alloc (.cells #[.int .i64 p.f0, .int .i64 p.f1, .int .i64 p.f2, .int .i64 p.f3, .int .i64 p.f4, .int .i64 p.f5, .int .i64 p.f6, .slice a n c] 26)).alloc (.cells #[.int .i64 0, .int .i64 0, .int .i64 0, .slice none 0 0, .int .i64 0] 34))).cell? ⟨W.heap.size + 1, 2, none⟩ = some (.int .i64 0) := cell_of_row _ _ 2 _ _ _ rR2_.out
  have R_3_ : (((W.alloc (.cells #[.int .i64 p.f0, .int .i64 p.f1, .int .i64 p.f2, .int .i64 p.f3, .int .i64 p.f4, .int .i64 p.f5, .int .i64 p.f6, .slice a n c] 26)).alloc (.cells #[.int .i64 0, .int .i64 0, .int .i64 0, .slice none 0 0, .int .i64 0] 34))).cell? ⟨W.heap.size + 1, 3, none⟩ = some (.slice none 0 0) := cell_of_row _ _ 3 _ _ _ rR2_.out
  have R_4_ : (((W.alloc (.cells #[.int .i64 p.f0, .int .i64 p.f1, .int .i64 p.f2, .int .i64 p.f3, .int .i64 p.f4, .int .i64 p.f5, .int .i64 p.f6, .slice a n c] 26)).alloc (.cells #[.int .i64 0, .int .i64 0, .int .i64 0, .slice none 0 0, .int .i64 0] 34))).cell? ⟨W.heap.size + 1, 4, none⟩ = some (.int .i64 0) := cell_of_row _ _ 4 _ _ _ rR2_.out
  go_wp2_with fail
  go_at_call 43
  refine (CL.out _ (HX.out.grow G3_.out)).mono ?_
  rintro e w1 ⟨rfl, g⟩
  have szc := g.size
  try simp only [World.size_alloc] at szc
  clear A_0_ A_1_ A_2_ A_3_ A_4_ A_5_ A_6_ A_7_ R_0_ R_1_ R_2_ R_3_ R_4_
  have rA4_ := Lib.hid (show (w1).heap[W.heap.size]? = some (.cells #[.int .i64 p.f0, .int .i64 p.f1, .int .i64 p.f2, .int .i64 p.f3, .int .i64 p.f4, .int .i64 p.f5, .int .i64 p.f6, .slice a n c] 26 (0, 0)) from row_held g rA1_.out)
  clear rA1_
  have rR5_ := Lib.hid (show (w1).heap[W.heap.size + 1]? = some (.cells #[.int .i64 0, .int .i64 0, .int .i64 0, .slice none 0 0, .int .i64 0] 34 (0, 0)) from row_held g rR2_.out)
  clear rR2_
  have G6_ := Lib.hid (show (W).grownBy (w1) none from gby_trans G3_.out g)
  clear g
  have A_0_ : (w1).cell? ⟨W.heap.size, 0, none⟩ = some (.int .i64 p.f0) := cell_of_row _ _ 0 _ _ _ rA4_.out
  have A_1_ : (w1).cell? ⟨W.heap.size, 1, none⟩ = some (.int .i64 p.f1) := cell_of_row _ _ 1 _ _ _ rA4_.out
  have A_2_ : (w1).cell? ⟨W.heap.size, 2, none⟩ = some (.int .i64 p.f2) := cell_of_row _ _ 2 _ _ _ rA4_.out
  have A_3_ : (w1).cell? ⟨W.heap.size, 3, none⟩ = some (.int .i64 p.f3) := cell_of_row _ _ 3 _ _ _ rA4_.out
  have A_4_ : (w1).cell? ⟨W.heap.size, 4, none⟩ = some (.int .i64 p.f4) := cell_of_row _ _ 4 _ _ _ rA4_.out
  have A_5_ : (w1).cell? ⟨W.heap.size, 5, none⟩ = some (.int .i64 p.f5) := cell_of_row _ _ 5 _ _ _ rA4_.out
  have A_6_ : (w1).cell? ⟨W.heap.size, 6, none⟩ = some (.int .i64 p.f6) := cell_of_row _ _ 6 _ _ _ rA4_.out
  have A_7_ : (w1).cell? ⟨W.heap.size, 7, none⟩ = some (.slice a n c) := cell_of_row _ _ 7 _ _ _ rA4_.out
  have R_0_ : (w1).cell? ⟨W.heap.size + 1, 0, none⟩ = some (.int .i64 0) := cell_of_row _ _ 0 _ _ _ rR5_.out
  have R_1_ : (w1).cell? ⟨W.heap.size + 1, 1, none⟩ = some (.int .i64 0) := cell_of_row _ _ 1 _ _ _ rR5_.out
  have R_2_ : (w1).cell? ⟨W.heap.size + 1, 2, none⟩ = some (.int .i64 0) := cell_of_row _ _ 2 _ _ _ rR5_.out
  have R_3_ : (w1).cell? ⟨W.heap.size + 1, 3, none⟩ = some (.slice none 0 0) := cell_of_row _ _ 3 _ _ _ rR5_.out
  have R_4_ : (w1).cell? ⟨W.heap.size + 1, 4, none⟩ = some (.int .i64 0) := cell_of_row _ _ 4 _ _ _ rR5_.out
  have Rf0_ : (w1).frozen? ⟨W.heap.size + 1, 0, none⟩ = false := frozen_of_row _ _ 0 _ _ rR5_.out
  have Rf1_ : (w1).frozen? ⟨W.heap.size + 1, 1, none⟩ = false := frozen_of_row _ _ 1 _ _ rR5_.out
  have Rf2_ : (w1).frozen? ⟨W.heap.size + 1, 2, none⟩ = false := frozen_of_row _ _ 2 _ _ rR5_.out
  have Rf3_ : (w1).frozen? ⟨W.heap.size + 1, 3, none⟩ = false := frozen_of_row _ _ 3 _ _ rR5_.out
  have Rf4_ : (w1).frozen? ⟨W.heap.size + 1, 4, none⟩ = false := frozen_of_row _ _ 4 _ _ rR5_.out
  go_wp2
  refine bodyPost_ret (v := .tuple #[.agg #[.int .i64 0, .int .i64 0, .int .i64 0, .slice none 0 0, .int .i64 0], .bool false]) (by simp [results, go_sem, R_0_, R_1_, R_2_, R_3_, R_4_]) rfl ⟨_, rfl, OwU.one owL_nil, ?_⟩
  repeat (with_reducible refine gby_setnew ?_ _ (by dsimp only; omega) _)
  exact G6_.out

set_option maxRecDepth 8000 in
set_option maxHeartbeats 4000000 in
theorem implNewGCr (W : World) (p : DPacket) (v : Value) (H : RdL shI W v p.f7) (hl : szL shI p.f7 ≤ 1048576) (h : clsD p = 1) (hk : p.f0 = 4) : Calls Try.prog 21 #[vPacket p.f0 p.f1 p.f2 p.f3 p.f4 p.f5 p.f6 v] W (ResINewGather p.f1 p.f5 1 [] 0 true W) := by
  obtain ⟨a, n, c, rfl⟩ := RdL.form H
  have HX := Lib.hid H
  obtain ⟨cl, hcl⟩ : ∃ cl, cl = clsD p := ⟨_, rfl⟩
  have CL := Lib.hid (show ∀ (W : World), RdL shI W (.slice a n c) p.f7 → Calls Try.prog 43 #[vPacket p.f0 p.f1 p.f2 p.f3 p.f4 p.f5 p.f6 (.slice a n c)] W (AnsN (.int .i64 cl) W) from by rw [hcl]; exact fun W H => implClsD W p (.slice a n c) H hl)
  rw [← hcl] at h
  clear hcl H
  unfold vPacket at CL ⊢
  subst h
  rw [hk] at CL ⊢
  clear hk
  go_enter Try.func21, Try.ntmps21
  have rA1_ := Lib.hid (show (((W.alloc (.cells #[.int .i64 4, .int .i64 p.f1, .int .i64 p.f2, .int .i64 p.f3, .int .i64 p.f4, .int .i64 p.f5, .int .i64 p.f6, .slice a n c] 26)).alloc (.cells #[.int .i64 0, .int .i64 0, .int .i64 0, .slice none 0 0, .int .i64 0] 34))).heap[W.heap.size]? = some (.cells #[.int .i64 4, .int .i64 p.f1, .int .i64 p.f2, .int .i64 p.f3, .int .i64 p.f4, .int .i64 p.f5, .int .i64 p.f6, .slice a n c] 26 (0, 0)) from by rw [heap_alloc_old _ _ (by simp only [World.size_alloc]; omega)]; exact heap_alloc_new _ _)
  have rR2_ := Lib.hid (show (((W.alloc (.cells #[.int .i64 4, .int .i64 p.f1, .int .i64 p.f2, .int .i64 p.f3, .int .i64 p.f4, .int .i64 p.f5, .int .i64 p.f6, .slice a n c] 26)).alloc (.cells #[.int .i64 0, .int .i64 0, .int .i64 0, .slice none 0 0, .int .i64 0] 34))).heap[W.heap.size + 1]? = some (.cells #[.int .i64 0, .int .i64 0, .int .i64 0, .slice none 0 0, .int .i64 0] 34 (0, 0)) from by exact heap_pair _ _ _)
  have G3_ := Lib.hid (show (W).grownBy (((W.alloc (.cells #[.int .i64 4, .int .i64 p.f1, .int .i64 p.f2, .int .i64 p.f3, .int .i64 p.f4, .int .i64 p.f5, .int .i64 p.f6, .slice a n c] 26)).alloc (.cells #[.int .i64 0, .int .i64 0, .int .i64 0, .slice none 0 0, .int .i64 0] 34))) none from (gby_alloc (gby_alloc (gby_refl _ _) _) _))
  have A_0_ : (((W.alloc (.cells #[.int .i64 4, .int .i64 p.f1, .int .i64 p.f2, .int .i64 p.f3, .int .i64 p.f4, .int .i64 p.f5, .int .i64 p.f6, .slice a n c] 26)).alloc (.cells #[.int .i64 0, .int .i64 0, .int .i64 0, .slice none 0 0, .int .i64 0] 34))).cell? ⟨W.heap.size, 0, none⟩ = some (.int .i64 4) := cell_of_row _ _ 0 _ _ _ rA1_.out
  have A_1_ : (((W.alloc (.cells #[.int .i64 4, .int .i64 p.f1, .int .i64 p.f2, .int .i64 p.f3, .int .i64 p.f4, .int .i64 p.f5, .int .i64 p.f6, .slice a n c] 26)).alloc (.cells #[.int .i64 0, .int .i64 0, .int .i64 0, .slice none 0 0, .int .i64 0] 34))).cell? ⟨W.heap.size, 1, none⟩ = some (.int .i64 p.f1) := cell_of_row _ _ 1 _ _ _ rA1_.out
  have A_2_ : (((W.alloc (.cells #[.int .i64 4, .int .i64 p.f1, .int .i64 p.f2, .int .i64 p.f3, .int .i64 p.f4, .int .i64 p.f5, .int .i64 p.f6, .slice a n c] 26)).alloc (.cells #[.int .i64 0, .int .i64 0, .int .i64 0, .slice none 0 0, .int .i64 0] 34))).cell? ⟨W.heap.size, 2, none⟩ = some (.int .i64 p.f2) := cell_of_row _ _ 2 _ _ _ rA1_.out
  have A_3_ : (((W.alloc (.cells #[.int .i64 4, .int .i64 p.f1, .int .i64 p.f2, .int .i64 p.f3, .int .i64 p.f4, .int .i64 p.f5, .int .i64 p.f6, .slice a n c] 26)).alloc (.cells #[.int .i64 0, .int .i64 0, .int .i64 0, .slice none 0 0, .int .i64 0] 34))).cell? ⟨W.heap.size, 3, none⟩ = some (.int .i64 p.f3) := cell_of_row _ _ 3 _ _ _ rA1_.out
  have A_4_ : (((W.alloc (.cells #[.int .i64 4, .int .i64 p.f1, .int .i64 p.f2, .int .i64 p.f3, .int .i64 p.f4, .int .i64 p.f5, .int .i64 p.f6, .slice a n c] 26)).alloc (.cells #[.int .i64 0, .int .i64 0, .int .i64 0, .slice none 0 0, .int .i64 0] 34))).cell? ⟨W.heap.size, 4, none⟩ = some (.int .i64 p.f4) := cell_of_row _ _ 4 _ _ _ rA1_.out
  have A_5_ : (((W.alloc (.cells #[.int .i64 4, .int .i64 p.f1, .int .i64 p.f2, .int .i64 p.f3, .int .i64 p.f4, .int .i64 p.f5, .int .i64 p.f6, .slice a n c] 26)).alloc (.cells #[.int .i64 0, .int .i64 0, .int .i64 0, .slice none 0 0, .int .i64 0] 34))).cell? ⟨W.heap.size, 5, none⟩ = some (.int .i64 p.f5) := cell_of_row _ _ 5 _ _ _ rA1_.out
  have A_6_ : (((W.alloc (.cells #[.int .i64 4, .int .i64 p.f1, .int .i64 p.f2, .int .i64 p.f3, .int .i64 p.f4, .int .i64 p.f5, .int .i64 p.f6, .slice a n c] 26)).alloc (.cells #[.int .i64 0, .int .i64 0, .int .i64 0, .slice none 0 0, .int .i64 0] 34))).cell? ⟨W.heap.size, 6, none⟩ = some (.int .i64 p.f6) := cell_of_row _ _ 6 _ _ _ rA1_.out
  have A_7_ : (((W.alloc (.cells #[.int .i64 4, .int .i64 p.f1, .int .i64 p.f2, .int .i64 p.f3, .int .i64 p.f4, .int .i64 p.f5, .int .i64 p.f6, .slice a n c] 26)).alloc (.cells #[.int .i64 0, .int .i64 0, .int .i64 0, .slice none 0 0, .int .i64 0] 34))).cell? ⟨W.heap.size, 7, none⟩ = some (.slice a n c) := cell_of_row _ _ 7 _ _ _ rA1_.out
  have R_0_ : (((W.alloc (.cells #[.int .i64 4, .int .i64 p.f1, .int .i64 p.f2, .int .i64 p.f3, .int .i64 p.f4, .int .i64 p.f5, .int .i64 p.f6, .slice a n c] 26)).alloc (.cells #[.int .i64 0, .int .i64 0, .int .i64 0, .slice none 0 0, .int .i64 0] 34))).cell? ⟨W.heap.size + 1, 0, none⟩ = some (.int .i64 0) := cell_of_row _ _ 0 _ _ _ rR2_.out
  have R_1_ : (((W.alloc (.cells #[.int .i64 4, .int .i64 p.f1, .int .i64 p.f2, .int .i64 p.f3, .int .i64 p.f4, .int .i64 p.f5, .int .i64 p.f6, .slice a n c] 26)).alloc (.cells #[.int .i64 0, .int .i64 0, .int .i64 0, .slice none 0 0, .int .i64 0] 34))).cell? ⟨W.heap.size + 1, 1, none⟩ = some (.int .i64 0) := cell_of_row _ _ 1 _ _ _ rR2_.out
  have R_2_ : (((W.alloc (.cells #[.int .i64 4, .int .i64 p.f1, .int .i64 p.f2, .int .i64 p.f3, .int .i64 p.f4, .int .i64 p.f5, .int .i64 p.f6, .slice a n c] 26)).alloc (.cells #[.int .i64 0, .int .i64 0, .int .i64 0, .slice none 0 0, .int .i64 0] 34))).cell? ⟨W.heap.size + 1, 2, none⟩ = some (.int .i64 0) := cell_of_row _ _ 2 _ _ _ rR2_.out
  have R_3_ : (((W.alloc (.cells #[.int .i64 4, .int .i64 p.f1, .int .i64 p.f2, .int .i64 p.f3, .int .i64 p.f4, .int .i64 p.f5, .int .i64 p.f6, .slice a n c] 26)).alloc (.cells #[.int .i64 0, .int .i64 0, .int .i64 0, .slice none 0 0, .int .i64 0] 34))).cell? ⟨W.heap.size + 1, 3, none⟩ = some (.slice none 0 0) := cell_of_row _ _ 3 _ _ _ rR2_.out
  have R_4_ : (((W.alloc (.cells #[.int .i64 4, .int .i64 p.f1, .int .i64 p.f2, .int .i64 p.f3, .int .i64 p.f4, .int .i64 p.f5, .int .i64 p.f6, .slice a n c] 26)).alloc (.cells #[.int .i64 0, .int .i64 0, .int .i64 0, .slice none 0 0, .int .i64 0] 34))).cell? ⟨W.heap.size + 1, 4, none⟩ = some (.int .i64 0) := cell_of_row _ _ 4 _ _ _ rR2_.out
  go_wp2_with fail
  go_at_call 43
  refine (CL.out _ (HX.out.grow G3_.out)).mono ?_
  rintro e w1 ⟨rfl, g⟩
  have szc := g.size
  try simp only [World.size_alloc] at szc
  clear A_0_ A_1_ A_2_ A_3_ A_4_ A_5_ A_6_ A_7_ R_0_ R_1_ R_2_ R_3_ R_4_
  have rA4_ := Lib.hid (show (w1).heap[W.heap.size]? = some (.cells #[.int .i64 4, .int .i64 p.f1, .int .i64 p.f2, .int .i64 p.f3, .int .i64 p.f4, .int .i64 p.f5, .int .i64 p.f6, .slice a n c] 26 (0, 0)) from row_held g rA1_.out)
  clear rA1_
  have rR5_ := Lib.hid (show (w1).heap[W.heap.size + 1]? = some (.cells #[.int .i64 0, .int .i64 0, .int .i64 0, .slice none 0 0, .int .i64 0] 34 (0, 0)) from row_held g rR2_.out)
  clear rR2_
  have G6_ := Lib.hid (show (W).grownBy (w1) none from gby_trans G3_.out g)
  clear g
  have A_0_ : (w1).cell? ⟨W.heap.size, 0, none⟩ = some (.int .i64 4) := cell_of_row _ _ 0 _ _ _ rA4_.out
  have A_1_ : (w1).cell? ⟨W.heap.size, 1, none⟩ = some (.int .i64 p.f1) := cell_of_row _ _ 1 _ _ _ rA4_.out
  have A_2_ : (w1).cell? ⟨W.heap.size, 2, none⟩ = some (.int .i64 p.f2) := cell_of_row _ _ 2 _ _ _ rA4_.out
  have A_3_ : (w1).cell? ⟨W.heap.size, 3, none⟩ = some (.int .i64 p.f3) := cell_of_row _ _ 3 _ _ _ rA4_.out
  have A_4_ : (w1).cell? ⟨W.heap.size, 4, none⟩ = some (.int .i64 p.f4) := cell_of_row _ _ 4 _ _ _ rA4_.out
  have A_5_ : (w1).cell? ⟨W.heap.size, 5, none⟩ = some (.int .i64 p.f5) := cell_of_row _ _ 5 _ _ _ rA4_.out
  have A_6_ : (w1).cell? ⟨W.heap.size, 6, none⟩ = some (.int .i64 p.f6) := cell_of_row _ _ 6 _ _ _ rA4_.out
  have A_7_ : (w1).cell? ⟨W.heap.size, 7, none⟩ = some (.slice a n c) := cell_of_row _ _ 7 _ _ _ rA4_.out
  have R_0_ : (w1).cell? ⟨W.heap.size + 1, 0, none⟩ = some (.int .i64 0) := cell_of_row _ _ 0 _ _ _ rR5_.out
  have R_1_ : (w1).cell? ⟨W.heap.size + 1, 1, none⟩ = some (.int .i64 0) := cell_of_row _ _ 1 _ _ _ rR5_.out
  have R_2_ : (w1).cell? ⟨W.heap.size + 1, 2, none⟩ = some (.int .i64 0) := cell_of_row _ _ 2 _ _ _ rR5_.out
  have R_3_ : (w1).cell? ⟨W.heap.size + 1, 3, none⟩ = some (.slice none 0 0) := cell_of_row _ _ 3 _ _ _ rR5_.out
  have R_4_ : (w1).cell? ⟨W.heap.size + 1, 4, none⟩ = some (.int .i64 0) := cell_of_row _ _ 4 _ _ _ rR5_.out
  have Rf0_ : (w1).frozen? ⟨W.heap.size + 1, 0, none⟩ = false := frozen_of_row _ _ 0 _ _ rR5_.out
  have Rf1_ : (w1).frozen? ⟨W.heap.size + 1, 1, none⟩ = false := frozen_of_row _ _ 1 _ _ rR5_.out
  have Rf2_ : (w1).frozen? ⟨W.heap.size + 1, 2, none⟩ = false := frozen_of_row _ _ 2 _ _ rR5_.out
  have Rf3_ : (w1).frozen? ⟨W.heap.size + 1, 3, none⟩ = false := frozen_of_row _ _ 3 _ _ rR5_.out
  have Rf4_ : (w1).frozen? ⟨W.heap.size + 1, 4, none⟩ = false := frozen_of_row _ _ 4 _ _ rR5_.out
  go_wp2
  refine bodyPost_ret (v := .tuple #[.agg #[.int .i64 p.f1, .int .i64 p.f5, .int .i64 1, .slice none 0 0, .int .i64 0], .bool true]) (by simp [results, go_sem, R_0_, R_1_, R_2_, R_3_, R_4_]) rfl ⟨_, rfl, OwU.one owL_nil, ?_⟩
  repeat (with_reducible refine gby_setnew ?_ _ (by dsimp only; omega) _)
  exact G6_.out

set_option maxRecDepth 8000 in
set_option maxHeartbeats 4000000 in
theorem implNewGRd (W : World) (p : DPacket) (v : Value) (H : RdL shI W v p.f7) (hl : szL shI p.f7 ≤ 1048576) (h : clsD p = 1) (hk : p.f0 ≠ 4) : Calls Try.prog 21 #[vPacket p.f0 p.f1 p.f2 p.f3 p.f4 p.f5 p.f6 v] W (ResINewGather p.f1 p.f5 p.f4 [] 0 true W) := by
  obtain ⟨a, n, c, rfl⟩ := RdL.form H
  have HX := Lib.hid H
  obtain ⟨cl, hcl⟩ : ∃ cl, cl = clsD p := ⟨_, rfl⟩
  have CL := Lib.hid (show ∀ (W : World), RdL shI W (.slice a n c) p.f7 → Calls Try.prog 43 #[vPacket p.f0 p.f1 p.f2 p.f3 p.f4 p.f5 p.f6 (.slice a n c)] W (AnsN (.int .i64 cl) W) from by rw [hcl]; exact fun W H => implClsD W p (.slice a n c) H hl)
  rw [← hcl] at h
  clear hcl H
  unfold vPacket at CL ⊢
  subst h
  have hk2 : (p.f0 == 4) = false := beq_eq_false_iff_ne.2 hk
  clear hk
  go_enter Try.func21, Try.ntmps21
  have rA1_ := Lib.hid (show (((W.alloc (.cells #[.int .i64 p.f0, .int .i64 p.f1, .int .i64 p.f2, .int .i64 p.f3, .int .i64 p.f4, .int .i64 p.f5, .int .i64 p.f6, .slice a n c] 26)).alloc (.cells #[.int .i64 0, .int .i64 0, .int .i64 0, .slice none 0 0, .int .i64 0] 34))).heap[W.heap.size]? = some (.cells #[.int .i64 p.f0, .int .i64 p.f1, .int .i64 p.f2, .int .i64 p.f3, .int .i64 p.f4, .int .i64 p.f5, .int .i64 p.f6, .slice a n c] 26 (0, 0)) from by rw [heap_alloc_old _ _ (by simp only [World.size_alloc]; omega)]; exact heap_alloc_new _ _)
  have rR2_ := Lib.hid (show (((W.alloc (.cells #[.int .i64 p.f0, .int .i64 p.f1, .int .i64 p.f2, .int .i64 p.f3, .int .i64 p.f4, .int .i64 p.f5, .int .i64 p.f6, .slice a n c] 26)).alloc (.cells #[.int .i64 0, .int .i64 0, .int .i64 0, .slice none 0 0, .int .i64 0] 34))).heap[W.heap.size + 1]? = some (.cells #[.int .i64 0, .int .i64 0, .int .i64 0, .slice none 0 0, .int .i64 0] 34 (0, 0)) from by exact heap_pair _ _ _)
  have G3_ := Lib.hid (show (W).grownBy (((W.alloc (.cells #[.int .i64 p.f0, .int .i64 p.f1, .int .i64 p.f2, .int .i64 p.f3, .int .i64 p.f4, .int .i64 p.f5, .int .i64 p.f6, .slice a n c] 26)).alloc (.cells #[.int .i64 0, .int .i64 0, .int .i64 0, .slice none 0 0, .int .i64 0] 34))) none from (gby_alloc (gby_alloc (gby_refl _ _) _) _))
  have A_0_ : (((W.alloc (.cells #[.int .i64 p.f0, .int .i64 p.f1, .int .i64 p.f2, .int .i64 p.f3, .int .i64 p.f4, .int .i64 p.f5, .int .i64 p.f6, .slice a n c] 26)).alloc (.cells #[.int .i64 0, .int .i64 0, .int .i64 0, .slice none 0 0, .int .i64 0] 34))).cell? ⟨W.heap.size, 0, none⟩ = some (.int .i64 p.f0) := cell_of_row _ _ 0 _ _ _ rA1_.out
  have A_1_ : (((W.alloc (.cells #[.int .i64 p.f0, .int .i64 p.f1, .int .i64 p.f2, .int .i64 p.f3, .int .i64 p.f4, .int .i64 p.f5, .int .i64 p.f6, .slice a n c] 26)).alloc (.cells #[.int .i64 0, .int .i64 0, .int .i64 0, .slice none 0 0, .int .i64 0] 34))).cell? ⟨W.heap.size, 1, none⟩ = some (.int .i64 p.f1) := cell_of_row _ _ 1 _ _ _ rA1_.out
  have A_2_ : (((W.alloc (.cells #[.int .i64 p.f0, .int .i64 p.f1, .int .i64 p.f2, .int .i64 p.f3, .int .i64 p.f4, .int .i64 p.f5, .int .i64 p.f6, .slice a n c] 26)).alloc (.cells #[.int .i64 0, .int .i64 0, .int .i64 0, .slice none 0 0, .int .i64 0] 34))).cell? ⟨W.heap.size, 2, none⟩ = some (.int .i64 p.f2) := cell_of_row _ _ 2 _ _ _ rA1_.out
  have A_3_ : (((W.alloc (.cells #[.int .i64 p.f0, .int .i64 p.f1, .int .i64 p.f2, .int .i64 p.f3, .int .i64 p.f4, .int .i64 p.f5, .int .i64 p.f6, .slice a n c] 26)).alloc (.cells #[.int .i64 0, .int .i64 0, .int .i64 0, .slice none 0 0, .int .i64 0] 34))).cell? ⟨W.heap.size, 3, none⟩ = some (.int .i64 p.f3) := cell_of_row _ _ 3 _ _ _ rA1_.out
  have A_4_ : (((W.alloc (.cells #[.int .i64 p.f0, .int .i64 p.f1, .int .i64 p.f2, .int .i64 p.f3, .int .i64 p.f4, .int .i64 p.f5, .int .i64 p.f6, .slice a n c] 26)).alloc (.cells #[.int .i64 0, .int .i64 0, .int .i64 0, .slice none 0 0, .int .i64 0] 34))).cell? ⟨W.heap.size, 4, none⟩ = some (.int .i64 p.f4) := cell_of_row _ _ 4 _ _ _ rA1_.out
  have A_5_ : (((W.alloc (.cells #[.int .i64 p.f0, .int .i64 p.f1, .int .i64 p.f2, .int .i64 p.f3, .int .i64 p.f4, .int .i64 p.f5, .int .i64 p.f6, .slice a n c] 26)).alloc (.cells #[.int .i64 0, .int .i64 0, .int .i64 0, .slice none 0 0, .int .i64 0] 34))).cell? ⟨W.heap.size, 5, none⟩ = some (.int .i64 p.f5) := cell_of_row _ _ 5 _ _ _ rA1_.out
  have A_6_ : (((W.alloc (.cells #[.int .i64 p.f0, .int .i64 p.f1, .int .i64 p.f2, .int .i64 p.f3, .int .i64 p.f4, .int .i64 p.f5, .int .i64 p.f6, .slice a n c] 26)).alloc (.cells #[.int .i64 0, .int .i64 0, .int .i64 0, .slice none 0 0, .int .i64 0] 34))).cell? ⟨W.heap.size, 6, none⟩ = some (.int .i64 p.f6) := cell_of_row _ _ 6 _ _ _ rA1_.out
  have A_7_ : (((W.alloc (.cells #[.int .i64 p.f0, .int .i64 p.f1, .int .i64 p.f2, .int .i64 p.f3, .int .i64 p.f4, .int .i64 p.f5, .int .i64 p.f6, .slice a n c] 26)).alloc (.cells #[.int .i64 0, .int .i64 0, .int .i64 0, .slice none 0 0, .int .i64 0] 34))).cell? ⟨W.heap.size, 7, none⟩ = some (.slice a n c) := cell_of_row _ _ 7 _ _ _ rA1_.out
  have R_0_ : (((W.alloc (.cells #[.int .i64 p.f0, .int .i64 p.f1, .int .i64 p.f2, .int .i64 p.f3, .int .i64 p.f4, .int .i64 p.f5, .int .i64 p.f6, .slice a n c] 26)).alloc (.cells #[.int .i64 0, .int .i64 0, .int .i64 0, .slice none 0 0, .int .i64 0] 34))).cell? ⟨W.heap.size + 1, 0, none⟩ = some (.int .i64 0) := cell_of_row _ _ 0 _ _ _ rR2_.out
  have R_1_ : (((W.alloc (.cells #[.int .i64 p.f0, .int .i64 p.f1, .int .i64 p.f2, .int .i64 p.f3, .int .i64 p.f4, .int .i64 p.f5, .int .i64 p.f6, .slice a n c] 26)).alloc (.cells #[.int .i64 0, .int .i64 0, .int .i64 0, .slice none 0 0, .int .i64 0] 34))).cell? ⟨W.heap.size + 1, 1, none⟩ = some (.int .i64 0) := cell_of_row _ _ 1 _ _ _ rR2_.out
  have R_2_ : (((W.alloc (.cells #[.int .i64 p.f0, .int .i64 p.f1, .int .i64 p.f2, .int .i64 p.f3, .int .i64 p.f4, .int .i64 p.f5, .int .i64 p.f6, .slice a n c] 26)).alloc (.cells #[.int .i64 0, .int .i64 0, .int .i64 0, .slice none 0 0, .int .i64 0] 34))).cell? ⟨W.heap.size + 1, 2, none⟩ = some (.int .i64 0) := cell_of_row _ _ 2 _ _ _ rR2_.out
  have R_3_ : (((W.alloc (.cells #[.int .i64 p.f0, .int .i64 p.f1, .int .i64 p.f2, .int .i64 p.f3, .int .i64 p.f4, .int .i64 p.f5, .int .i64 p.f6, .slice a n c] 26)).alloc (.cells #[.int .i64 0, .int .i64 0, .int .i64 0, .slice none 0 0, .int .i64 0] 34))).cell? ⟨W.heap.size + 1, 3, none⟩ = some (.slice none 0 0) := cell_of_row _ _ 3 _ _ _ rR2_.out
  have R_4_ : (((W.alloc (.cells #[.int .i64 p.f0, .int .i64 p.f1, .int .i64 p.f2, .int .i64 p.f3, .int .i64 p.f4, .int .i64 p.f5, .int .i64 p.f6, .slice a n c] 26)).alloc (.cells #[.int .i64 0, .int .i64 0, .int .i64 0, .slice none 0 0, .int .i64 0] 34))).cell? ⟨W.heap.size + 1, 4, none⟩ = some (.int .i64 0) := cell_of_row _ _ 4 _ _ _ rR2_.out
  go_wp2_with fail
  go_at_call 43
  refine (CL.out _ (HX.out.grow G3_.out)).mono ?_
  rintro e w1 ⟨rfl, g⟩
  have szc := g.size
  try simp only [World.size_alloc] at szc
  clear A_0_ A_1_ A_2_ A_3_ A_4_ A_5_ A_6_ A_7_ R_0_ R_1_ R_2_ R_3_ R_4_
  have rA4_ := Lib.hid (show (w1).heap[W.heap.size]? = some (.cells #[.int .i64 p.f0, .int .i64 p.f1, .int .i64 p.f2, .int .i64 p.f3, .int .i64 p.f4, .int .i64 p.f5, .int .i64 p.f6, .slice a n c] 26 (0, 0)) from row_held g rA1_.out)
  clear rA1_
  have rR5_ := Lib.hid (show (w1).heap[W.heap.size + 1]? = some (.cells #[.int .i64 0, .int .i64 0, .int .i64 0, .slice none 0 0, .int .i64 0] 34 (0, 0)) from row_held g rR2_.out)
  clear rR2_
  have G6_ := Lib.hid (show (W).grownBy (w1) none from gby_trans G3_.out g)
  clear g
  have A_0_ : (w1).cell? ⟨W.heap.size, 0, none⟩ = some (.int .i64 p.f0) := cell_of_row _ _ 0 _ _ _ rA4_.out
  have A_1_ : (w1).cell? ⟨W.heap.size, 1, none⟩ = some (.int .i64 p.f1) := cell_of_row _ _ 1 _ _ _ rA4_.out
  have A_2_ : (w1).cell? ⟨W.heap.size, 2, none⟩ = some (.int .i64 p.f2) := cell_of_row _ _ 2 _ _ _ rA4_.out
  have A_3_ : (w1).cell? ⟨W.heap.size, 3, none⟩ = some (.int .i64 p.f3) := cell_of_row _ _ 3 _ _ _ rA4_.out
  have A_4_ : (w1).cell? ⟨W.heap.size, 4, none⟩ = some (.int .i64 p.f4) := cell_of_row _ _ 4 _ _ _ rA4_.out
  have A_5_ : (w1).cell? ⟨W.heap.size, 5, none⟩ = some (.int .i64 p.f5) := cell_of_row _ _ 5 _ _ _ rA4_.out
  have A_6_ : (w1).cell? ⟨W.heap.size, 6, none⟩ = some (.int .i64 p.f6) := cell_of_row _ _ 6 _ _ _ rA4_.out
  have A_7_ : (w1).cell? ⟨W.heap.size, 7, none⟩ = some (.slice a n c) := cell_of_row _ _ 7 _ _ _ rA4_.out
  have R_0_ : (w1).cell? ⟨W.heap.size + 1, 0, none⟩ = some (.int .i64 0) := cell_of_row _ _ 0 _ _ _ rR5_.out
  have R_1_ : (w1).cell? ⟨W.heap.size + 1, 1, none⟩ = some (.int .i64 0) := cell_of_row _ _ 1 _ _ _ rR5_.out
  have R_2_ : (w1).cell? ⟨W.heap.size + 1, 2, none⟩ = some (.int .i64 0) := cell_of_row _ _ 2 _ _ _ rR5_.out
  have R_3_ : (w1).cell? ⟨W.heap.size + 1, 3, none⟩ = some (.slice none 0 0) := cell_of_row _ _ 3 _ _ _ rR5_.out
  have R_4_ : (w1).cell? ⟨W.heap.size + 1, 4, none⟩ = some (.int .i64 0) := cell_of_row _ _ 4 _ _ _ rR5_.out
  have Rf0_ : (w1).frozen? ⟨W.heap.size + 1, 0, none⟩ = false := frozen_of_row _ _ 0 _ _ rR5_.out
  have Rf1_ : (w1).frozen? ⟨W.heap.size + 1, 1, none⟩ = false := frozen_of_row _ _ 1 _ _ rR5_.out
  have Rf2_ : (w1).frozen? ⟨W.heap.size + 1, 2, none⟩ = false := frozen_of_row _ _ 2 _ _ rR5_.out
  have Rf3_ : (w1).frozen? ⟨W.heap.size + 1, 3, none⟩ = false := frozen_of_row _ _ 3 _ _ rR5_.out
  have Rf4_ : (w1).frozen? ⟨W.heap.size + 1, 4, none⟩ = false := frozen_of_row _ _ 4 _ _ rR5_.out
  go_wp2
  refine bodyPost_ret (v := .tuple #[.agg #[.int .i64 p.f1, .int .i64 p.f5, .int .i64 p.f4, .slice none 0 0, .int .i64 0], .bool true]) (by simp [results, go_sem, R_0_, R_1_, R_2_, R_3_, R_4_]) rfl ⟨_, rfl, OwU.one owL_nil, ?_⟩
  repeat (with_reducible refine gby_setnew ?_ _ (by dsimp only; omega) _)
  exact G6_.out

theorem newGather_both (i0_0 i0_1 i0_2 i0_3 i0_4 i0_5 i0_6 : Int) (xs0_7 : List Int) (h7 : szL shI xs0_7 ≤ 1048576) : ∃ (ir0_0 : Int) (ir0_1 : Int) (ir0_2 : Int) (xsr0_3 : List Int) (ir0_4 : Int) (br1 : Bool), szL shI xsr0_3 ≤ 1048576 ∧ (∀ (W : World), ∀ u0_7, RdL shI W u0_7 xs0_7 → Calls Try.prog 20 #[.agg #[.int .i64 i0_0, .int .i64 i0_1, .int .i64 i0_2, .int .i64 i0_3, .int .i64 i0_4, .int .i64 i0_5, .int .i64 i0_6, u0_7]] W (ResSNewGather ir0_0 ir0_1 ir0_2 xsr0_3 ir0_4 br1 W)) ∧ ∀ (W : World), ∀ u0_7, RdL shI W u0_7 xs0_7 → Calls Try.prog 21 #[.agg #[.int .i64 i0_0, .int .i64 i0_1, .int .i64 i0_2, .int .i64 i0_3, .int .i64 i0_4, .int .i64 i0_5, .int .i64 i0_6, u0_7]] W (ResINewGather ir0_0 ir0_1 ir0_2 xsr0_3 ir0_4 br1 W) := by
  have key : ∀ p : DPacket, szL shI p.f7 ≤ 1048576 → ∃ (a b c : Int) (r : Bool), (∀ (W : World), ∀ u, RdL shI W u p.f7 → Calls Try.prog 20 #[vPacket p.f0 p.f1 p.f2 p.f3 p.f4 p.f5 p.f6 u] W (ResINewGather a b c [] 0 r W)) ∧ ∀ (W : World), ∀ u, RdL shI W u p.f7 → Calls Try.prog 21 #[vPacket p.f0 p.f1 p.f2 p.f3 p.f4 p.f5 p.f6 u] W (ResINewGather a b c [] 0 r W) := by
    intro p hl
    by_cases h : clsD p = 1
    · by_cases hk : p.f0 = 4
      · exact ⟨_, _, _, _, fun W u H => specNewGCr W p u H hl h hk, fun W u H => implNewGCr W p u H hl h hk⟩
      · exact ⟨_, _, _, _, fun W u H => specNewGRd W p u H hl h hk, fun W u H => implNewGRd W p u H hl h hk⟩
    · exact ⟨_, _, _, _, fun W u H => specNewGNo W p u H hl h, fun W u H => implNewGNo W p u H hl h⟩
  obtain ⟨a, b, c, r, hs, hi⟩ := key ⟨i0_0, i0_1, i0_2, i0_3, i0_4, i0_5, i0_6, xs0_7⟩ h7
  exact ⟨a, b, c, [], 0, r, by rw [szL_I]; simp, fun W u H => (hs W u H).mono (fun e w h => resS_ofNewGather e w h), hi⟩

end Go.Proofs.Ytlhfdgpphmaljaa
