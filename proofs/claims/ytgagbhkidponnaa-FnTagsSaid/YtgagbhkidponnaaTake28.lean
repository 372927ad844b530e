/-
  TakeTag and FreeTag, on both sides.
-/
import Derived.Test.YtgagbhkidponnaaTagW
namespace Go.Proofs.Ytgagbhkidponnaa
open Go Go.RowKit
set_option linter.unusedVariables false

set_option maxRecDepth 8000 in
set_option maxHeartbeats 2000000 in
theorem implTake_len (W : World) (v0 : Value) (xs : List Bool) (H : RdL shB W v0 xs) (hl : szL shB xs ≤ 1048576) (hne : xs.length ≠ 8) : Calls Try.prog 39 #[vTags v0] W (ResITakeTag xs (-1) W) := by
  obtain ⟨a, n, cap, rfl⟩ := RdL.form H
  have hn : n = xs.length := (rdP_cells plainB H).1
  obtain ⟨_, _, hv_, _, h1⟩ := rdB_in H
  injection hv_ with e1 e2 e3
  subst e1 e3
  clear e2
  have HA := Lib.hid h1
  have HX := Lib.hid H
  have HN := Lib.hid hn
  clear H h1
  unfold vTags
  have h8 : ((n : Int) == 8) = false := beq_eq_false_iff_ne.2 (by omega)
  clear hn
  go_enter Try.func39, Try.ntmps39
  have rA1_ := Lib.hid (show (((W.alloc (.cells #[.slice a n cap] 57)).alloc (.cells #[.slice none 0 0] 57))).heap[W.heap.size]? = some (.cells #[.slice a n cap] 57 (0, 0)) from by rw [heap_alloc_old _ _ (by simp only [World.size_alloc]; omega)]; exact heap_alloc_new _ _)
  have rR2_ := Lib.hid (show (((W.alloc (.cells #[.slice a n cap] 57)).alloc (.cells #[.slice none 0 0] 57))).heap[W.heap.size + 1]? = some (.cells #[.slice none 0 0] 57 (0, 0)) from by exact heap_pair _ _ _)
  have G3_ := Lib.hid (show (W).grownBy (((W.alloc (.cells #[.slice a n cap] 57)).alloc (.cells #[.slice none 0 0] 57))) none from (gby_alloc (gby_alloc (gby_refl _ _) _) _))
  have A_0_ : (((W.alloc (.cells #[.slice a n cap] 57)).alloc (.cells #[.slice none 0 0] 57))).cell? ⟨W.heap.size, 0, none⟩ = some (.slice a n cap) := cell_of_row _ _ 0 _ _ _ rA1_.out
  have R_0_ : (((W.alloc (.cells #[.slice a n cap] 57)).alloc (.cells #[.slice none 0 0] 57))).cell? ⟨W.heap.size + 1, 0, none⟩ = some (.slice none 0 0) := cell_of_row _ _ 0 _ _ _ rR2_.out
  go_wp2_with fail
  go_at_call 69
  refine (copiedTags_d _ _ xs (HX.out.grow G3_.out) hl).mono ?_
  rintro e w1 ⟨d, rfl, o, g⟩
  have sz_ := g.size
  try simp only [World.size_alloc] at sz_ o
  clear A_0_ R_0_
  have rA4_ := Lib.hid (show (w1).heap[W.heap.size]? = some (.cells #[.slice a n cap] 57 (0, 0)) from row_held g rA1_.out)
  clear rA1_
  have rR5_ := Lib.hid (show (w1).heap[W.heap.size + 1]? = some (.cells #[.slice none 0 0] 57 (0, 0)) from row_held g rR2_.out)
  clear rR2_
  have G6_ := Lib.hid (show (W).grownBy (w1) none from gby_trans G3_.out g)
  clear g
  have sz1 := sz_
  clear sz_
  obtain ⟨p, n2, c2, hv2⟩ := RdL.form (OwU.rd o)
  subst hv2
  have hn2 : n2 = xs.length := (rdP_cells plainB (OwU.rd o)).1
  have hn3 : n = n2 := by have := HN.out; omega
  subst hn3
  clear hn2
  unfold vTags
  have oC7_ := Lib.hid (show OwU (w1) (W.heap.size + 1 + 1) (w1.heap.size) [] [own shB (.slice p n c2) xs] from o)
  clear o
  have A_0_ : (w1).cell? ⟨W.heap.size, 0, none⟩ = some (.slice a n cap) := cell_of_row _ _ 0 _ _ _ rA4_.out
  have Af0_ : (w1).frozen? ⟨W.heap.size, 0, none⟩ = false := frozen_of_row _ _ 0 _ _ rA4_.out
  have R_0_ : (w1).cell? ⟨W.heap.size + 1, 0, none⟩ = some (.slice none 0 0) := cell_of_row _ _ 0 _ _ _ rR5_.out
  go_wp2_with fail
  go_at_call 70
  clear A_0_ Af0_ R_0_
  have rR8_ := Lib.hid (show ((w1.setCell ⟨W.heap.size, 0, none⟩ (.slice p n c2))).heap[W.heap.size + 1]? = some (.cells #[.slice none 0 0] 57 (0, 0)) from (set_far rR5_.out (by dsimp only; omega)))
  clear rR5_
  have rA9_ := Lib.hid (show ((w1.setCell ⟨W.heap.size, 0, none⟩ (.slice p n c2))).heap[W.heap.size]? = some (.cells #[.slice p n c2] 57 (0, 0)) from (heap_setCell_same _ _ 0 _ _ _ rA4_.out))
  clear rA4_
  have oC10_ := Lib.hid (show OwU ((w1.setCell ⟨W.heap.size, 0, none⟩ (.slice p n c2))) (W.heap.size + 1 + 1) (w1.heap.size) [] [own shB (.slice p n c2) xs] from (OwU.keep (chg_one _ _ _ _) (by omega) oC7_.out))
  clear oC7_
  have G11_ := Lib.hid (show (W).grownBy ((w1.setCell ⟨W.heap.size, 0, none⟩ (.slice p n c2))) none from (gby_setnew G6_.out _ (by dsimp only; omega) _))
  have A_0_ : ((w1.setCell ⟨W.heap.size, 0, none⟩ (.slice p n c2))).cell? ⟨W.heap.size, 0, none⟩ = some (.slice p n c2) := cell_of_row _ _ 0 _ _ _ rA9_.out
  have R_0_ : ((w1.setCell ⟨W.heap.size, 0, none⟩ (.slice p n c2))).cell? ⟨W.heap.size + 1, 0, none⟩ = some (.slice none 0 0) := cell_of_row _ _ 0 _ _ _ rR8_.out
  refine (implTagsOk _ p n c2 false (by first | rfl | exact h8)).mono ?_
  rintro e w2 ⟨rfl, g⟩
  have sz2 := g.size
  try simp only [World.size_setCell] at sz2
  clear A_0_ R_0_
  have rA12_ := Lib.hid (show (w2).heap[W.heap.size]? = some (.cells #[.slice p n c2] 57 (0, 0)) from row_held g rA9_.out)
  clear rA9_
  have rR13_ := Lib.hid (show (w2).heap[W.heap.size + 1]? = some (.cells #[.slice none 0 0] 57 (0, 0)) from row_held g rR8_.out)
  clear rR8_
  have oC14_ := Lib.hid (show OwU (w2) (W.heap.size + 1 + 1) (w1.heap.size) [] [own shB (.slice p n c2) xs] from OwU.grow oC10_.out g)
  clear oC10_
  have G15_ := Lib.hid (show (W).grownBy (w2) none from gby_trans G11_.out g)
  clear g
  have A_0_ : (w2).cell? ⟨W.heap.size, 0, none⟩ = some (.slice p n c2) := cell_of_row _ _ 0 _ _ _ rA12_.out
  have R_0_ : (w2).cell? ⟨W.heap.size + 1, 0, none⟩ = some (.slice none 0 0) := cell_of_row _ _ 0 _ _ _ rR13_.out
  clear A_0_ R_0_
  have A_0_ : (w2).cell? ⟨W.heap.size, 0, none⟩ = some (.slice p n c2) := cell_of_row _ _ 0 _ _ _ rA12_.out
  have R_0_ : (w2).cell? ⟨W.heap.size + 1, 0, none⟩ = some (.slice none 0 0) := cell_of_row _ _ 0 _ _ _ rR13_.out
  have Rf0_ : (w2).frozen? ⟨W.heap.size + 1, 0, none⟩ = false := frozen_of_row _ _ 0 _ _ rR13_.out
  have z0 : (w2.setCell ⟨W.heap.size + 1, 0, none⟩ (.slice p n c2)).cell? ⟨W.heap.size + 1, 0, none⟩ = some (.slice p n c2) := cell_of_row _ _ 0 _ _ _ (heap_setCell_same _ _ 0 _ _ _ rR13_.out)
  go_wp2
  refine bodyPost_ret (v := .tuple #[.agg #[.slice p n c2], .int .i64 (-1)]) (by simp [results, go_sem, z0]) rfl ⟨_, rfl, ?_, ?_⟩
  · exact OwU.one (OwL.wide (OwL.keep (owU_out oC14_.out) (chg_one _ _ _ _) (.inr (by omega))) (by omega) (by simp; omega))
  · exact gby_setnew G15_.out _ (by dsimp only; omega) _

set_option maxRecDepth 8000 in
set_option maxHeartbeats 2000000 in
theorem implTake_busy (W : World) (v0 : Value) (xs : List Bool) (H : RdL shB W v0 xs) (hl : szL shB xs ≤ 1048576) (h8' : xs.length = 8) (hf : ∀ j, j < xs.length → xs.getD j false = true) : Calls Try.prog 39 #[vTags v0] W (ResITakeTag xs (-1) W) := by
  obtain ⟨a, n, cap, rfl⟩ := RdL.form H
  have hn : n = xs.length := (rdP_cells plainB H).1
  obtain ⟨_, _, hv_, _, h1⟩ := rdB_in H
  injection hv_ with e1 e2 e3
  subst e1 e3
  clear e2
  have HA := Lib.hid h1
  have HX := Lib.hid H
  have HN := Lib.hid hn
  clear H h1
  unfold vTags
  obtain rfl : n = 8 := by omega
  have HB := Lib.hid hf
  clear hn hf h8'
  go_enter Try.func39, Try.ntmps39
  have rA1_ := Lib.hid (show (((W.alloc (.cells #[.slice a 8 cap] 57)).alloc (.cells #[.slice none 0 0] 57))).heap[W.heap.size]? = some (.cells #[.slice a 8 cap] 57 (0, 0)) from by rw [heap_alloc_old _ _ (by simp only [World.size_alloc]; omega)]; exact heap_alloc_new _ _)
  have rR2_ := Lib.hid (show (((W.alloc (.cells #[.slice a 8 cap] 57)).alloc (.cells #[.slice none 0 0] 57))).heap[W.heap.size + 1]? = some (.cells #[.slice none 0 0] 57 (0, 0)) from by exact heap_pair _ _ _)
  have G3_ := Lib.hid (show (W).grownBy (((W.alloc (.cells #[.slice a 8 cap] 57)).alloc (.cells #[.slice none 0 0] 57))) none from (gby_alloc (gby_alloc (gby_refl _ _) _) _))
  have A_0_ : (((W.alloc (.cells #[.slice a 8 cap] 57)).alloc (.cells #[.slice none 0 0] 57))).cell? ⟨W.heap.size, 0, none⟩ = some (.slice a 8 cap) := cell_of_row _ _ 0 _ _ _ rA1_.out
  have R_0_ : (((W.alloc (.cells #[.slice a 8 cap] 57)).alloc (.cells #[.slice none 0 0] 57))).cell? ⟨W.heap.size + 1, 0, none⟩ = some (.slice none 0 0) := cell_of_row _ _ 0 _ _ _ rR2_.out
  go_wp2_with fail
  go_at_call 69
  refine (copiedTags_d _ _ xs (HX.out.grow G3_.out) hl).mono ?_
  rintro e w1 ⟨d, rfl, o, g⟩
  have sz_ := g.size
  try simp only [World.size_alloc] at sz_ o
  clear A_0_ R_0_
  have rA4_ := Lib.hid (show (w1).heap[W.heap.size]? = some (.cells #[.slice a 8 cap] 57 (0, 0)) from row_held g rA1_.out)
  clear rA1_
  have rR5_ := Lib.hid (show (w1).heap[W.heap.size + 1]? = some (.cells #[.slice none 0 0] 57 (0, 0)) from row_held g rR2_.out)
  clear rR2_
  have G6_ := Lib.hid (show (W).grownBy (w1) none from gby_trans G3_.out g)
  clear g
  have sz1 := sz_
  clear sz_
  obtain ⟨p, n2, c2, hv2⟩ := RdL.form (OwU.rd o)
  subst hv2
  have hn2 : n2 = xs.length := (rdP_cells plainB (OwU.rd o)).1
  have hn3 : n2 = 8 := by have := HN.out; omega
  subst hn3
  clear hn2
  unfold vTags
  have oC7_ := Lib.hid (show OwU (w1) (W.heap.size + 1 + 1) (w1.heap.size) [] [own shB (.slice p 8 c2) xs] from o)
  clear o
  have A_0_ : (w1).cell? ⟨W.heap.size, 0, none⟩ = some (.slice a 8 cap) := cell_of_row _ _ 0 _ _ _ rA4_.out
  have Af0_ : (w1).frozen? ⟨W.heap.size, 0, none⟩ = false := frozen_of_row _ _ 0 _ _ rA4_.out
  have R_0_ : (w1).cell? ⟨W.heap.size + 1, 0, none⟩ = some (.slice none 0 0) := cell_of_row _ _ 0 _ _ _ rR5_.out
  go_wp2_with fail
  go_at_call 70
  clear A_0_ Af0_ R_0_
  have rR8_ := Lib.hid (show ((w1.setCell ⟨W.heap.size, 0, none⟩ (.slice p 8 c2))).heap[W.heap.size + 1]? = some (.cells #[.slice none 0 0] 57 (0, 0)) from (set_far rR5_.out (by dsimp only; omega)))
  clear rR5_
  have rA9_ := Lib.hid (show ((w1.setCell ⟨W.heap.size, 0, none⟩ (.slice p 8 c2))).heap[W.heap.size]? = some (.cells #[.slice p 8 c2] 57 (0, 0)) from (heap_setCell_same _ _ 0 _ _ _ rA4_.out))
  clear rA4_
  have oC10_ := Lib.hid (show OwU ((w1.setCell ⟨W.heap.size, 0, none⟩ (.slice p 8 c2))) (W.heap.size + 1 + 1) (w1.heap.size) [] [own shB (.slice p 8 c2) xs] from (OwU.keep (chg_one _ _ _ _) (by omega) oC7_.out))
  clear oC7_
  have G11_ := Lib.hid (show (W).grownBy ((w1.setCell ⟨W.heap.size, 0, none⟩ (.slice p 8 c2))) none from (gby_setnew G6_.out _ (by dsimp only; omega) _))
  have A_0_ : ((w1.setCell ⟨W.heap.size, 0, none⟩ (.slice p 8 c2))).cell? ⟨W.heap.size, 0, none⟩ = some (.slice p 8 c2) := cell_of_row _ _ 0 _ _ _ rA9_.out
  have R_0_ : ((w1.setCell ⟨W.heap.size, 0, none⟩ (.slice p 8 c2))).cell? ⟨W.heap.size + 1, 0, none⟩ = some (.slice none 0 0) := cell_of_row _ _ 0 _ _ _ rR8_.out
  refine (implTagsOk _ p 8 c2 true (by first | rfl | exact h8)).mono ?_
  rintro e w2 ⟨rfl, g⟩
  have sz2 := g.size
  try simp only [World.size_setCell] at sz2
  clear A_0_ R_0_
  have rA12_ := Lib.hid (show (w2).heap[W.heap.size]? = some (.cells #[.slice p 8 c2] 57 (0, 0)) from row_held g rA9_.out)
  clear rA9_
  have rR13_ := Lib.hid (show (w2).heap[W.heap.size + 1]? = some (.cells #[.slice none 0 0] 57 (0, 0)) from row_held g rR8_.out)
  clear rR8_
  have oC14_ := Lib.hid (show OwU (w2) (W.heap.size + 1 + 1) (w1.heap.size) [] [own shB (.slice p 8 c2) xs] from OwU.grow oC10_.out g)
  clear oC10_
  have G15_ := Lib.hid (show (W).grownBy (w2) none from gby_trans G11_.out g)
  clear g
  have A_0_ : (w2).cell? ⟨W.heap.size, 0, none⟩ = some (.slice p 8 c2) := cell_of_row _ _ 0 _ _ _ rA12_.out
  have R_0_ : (w2).cell? ⟨W.heap.size + 1, 0, none⟩ = some (.slice none 0 0) := cell_of_row _ _ 0 _ _ _ rR13_.out
  go_wp2_with fail
  go_at_call 71
  refine (least_no _ _ xs (OwU.rd oC14_.out) (by have := HN.out; omega) HB.out).mono ?_
  rintro e w3 ⟨rfl, g⟩
  have sz3 := g.size
  clear A_0_ R_0_
  have rA16_ := Lib.hid (show (w3).heap[W.heap.size]? = some (.cells #[.slice p 8 c2] 57 (0, 0)) from row_held g rA12_.out)
  clear rA12_
  have rR17_ := Lib.hid (show (w3).heap[W.heap.size + 1]? = some (.cells #[.slice none 0 0] 57 (0, 0)) from row_held g rR13_.out)
  clear rR13_
  have oC18_ := Lib.hid (show OwU (w3) (W.heap.size + 1 + 1) (w1.heap.size) [] [own shB (.slice p 8 c2) xs] from OwU.grow oC14_.out g)
  clear oC14_
  have G19_ := Lib.hid (show (W).grownBy (w3) none from gby_trans G15_.out g)
  clear g
  have A_0_ : (w3).cell? ⟨W.heap.size, 0, none⟩ = some (.slice p 8 c2) := cell_of_row _ _ 0 _ _ _ rA16_.out
  have R_0_ : (w3).cell? ⟨W.heap.size + 1, 0, none⟩ = some (.slice none 0 0) := cell_of_row _ _ 0 _ _ _ rR17_.out
  clear A_0_ R_0_
  have A_0_ : (w3).cell? ⟨W.heap.size, 0, none⟩ = some (.slice p 8 c2) := cell_of_row _ _ 0 _ _ _ rA16_.out
  have R_0_ : (w3).cell? ⟨W.heap.size + 1, 0, none⟩ = some (.slice none 0 0) := cell_of_row _ _ 0 _ _ _ rR17_.out
  have Rf0_ : (w3).frozen? ⟨W.heap.size + 1, 0, none⟩ = false := frozen_of_row _ _ 0 _ _ rR17_.out
  have z0 : (w3.setCell ⟨W.heap.size + 1, 0, none⟩ (.slice p 8 c2)).cell? ⟨W.heap.size + 1, 0, none⟩ = some (.slice p 8 c2) := cell_of_row _ _ 0 _ _ _ (heap_setCell_same _ _ 0 _ _ _ rR17_.out)
  go_wp2
  refine bodyPost_ret (v := .tuple #[.agg #[.slice p 8 c2], .int .i64 (-1)]) (by simp [results, go_sem, z0]) rfl ⟨_, rfl, ?_, ?_⟩
  · exact OwU.one (OwL.wide (OwL.keep (owU_out oC18_.out) (chg_one _ _ _ _) (.inr (by omega))) (by omega) (by simp; omega))
  · exact gby_setnew G19_.out _ (by dsimp only; omega) _

set_option maxRecDepth 8000 in
set_option maxHeartbeats 2000000 in
theorem implTake_yes (W : World) (v0 : Value) (xs : List Bool) (H : RdL shB W v0 xs) (hl : szL shB xs ≤ 1048576) (h8' : xs.length = 8) (k0 : Nat) (hf : FreeAt xs k0) : Calls Try.prog 39 #[vTags v0] W (ResITakeTag (xs.set k0 true) (k0 : Int) W) := by
  obtain ⟨a, n, cap, rfl⟩ := RdL.form H
  have hn : n = xs.length := (rdP_cells plainB H).1
  obtain ⟨_, _, hv_, _, h1⟩ := rdB_in H
  injection hv_ with e1 e2 e3
  subst e1 e3
  clear e2
  have HA := Lib.hid h1
  have HX := Lib.hid H
  have HN := Lib.hid hn
  clear H h1
  unfold vTags
  obtain rfl : n = 8 := by omega
  have HF := Lib.hid hf
  have hk8 : k0 < 8 := by have := hf.1; omega
  have hki : (k0 : Int) < 8 := by omega
  have hk0 : (0 : Int) ≤ (k0 : Int) := by omega
  have htn : ((k0 : Int)).toNat = k0 := by omega
  clear hn hf h8'
  go_enter Try.func39, Try.ntmps39
  have rA1_ := Lib.hid (show (((W.alloc (.cells #[.slice a 8 cap] 57)).alloc (.cells #[.slice none 0 0] 57))).heap[W.heap.size]? = some (.cells #[.slice a 8 cap] 57 (0, 0)) from by rw [heap_alloc_old _ _ (by simp only [World.size_alloc]; omega)]; exact heap_alloc_new _ _)
  have rR2_ := Lib.hid (show (((W.alloc (.cells #[.slice a 8 cap] 57)).alloc (.cells #[.slice none 0 0] 57))).heap[W.heap.size + 1]? = some (.cells #[.slice none 0 0] 57 (0, 0)) from by exact heap_pair _ _ _)
  have G3_ := Lib.hid (show (W).grownBy (((W.alloc (.cells #[.slice a 8 cap] 57)).alloc (.cells #[.slice none 0 0] 57))) none from (gby_alloc (gby_alloc (gby_refl _ _) _) _))
  have A_0_ : (((W.alloc (.cells #[.slice a 8 cap] 57)).alloc (.cells #[.slice none 0 0] 57))).cell? ⟨W.heap.size, 0, none⟩ = some (.slice a 8 cap) := cell_of_row _ _ 0 _ _ _ rA1_.out
  have R_0_ : (((W.alloc (.cells #[.slice a 8 cap] 57)).alloc (.cells #[.slice none 0 0] 57))).cell? ⟨W.heap.size + 1, 0, none⟩ = some (.slice none 0 0) := cell_of_row _ _ 0 _ _ _ rR2_.out
  go_wp2_with fail
  go_at_call 69
  refine (copiedTags_d _ _ xs (HX.out.grow G3_.out) hl).mono ?_
  rintro e w1 ⟨d, rfl, o, g⟩
  have sz_ := g.size
  try simp only [World.size_alloc] at sz_ o
  clear A_0_ R_0_
  have rA4_ := Lib.hid (show (w1).heap[W.heap.size]? = some (.cells #[.slice a 8 cap] 57 (0, 0)) from row_held g rA1_.out)
  clear rA1_
  have rR5_ := Lib.hid (show (w1).heap[W.heap.size + 1]? = some (.cells #[.slice none 0 0] 57 (0, 0)) from row_held g rR2_.out)
  clear rR2_
  have G6_ := Lib.hid (show (W).grownBy (w1) none from gby_trans G3_.out g)
  clear g
  have sz1 := sz_
  clear sz_
  obtain ⟨p, n2, c2, hv2⟩ := RdL.form (OwU.rd o)
  subst hv2
  have hn2 : n2 = xs.length := (rdP_cells plainB (OwU.rd o)).1
  have hn3 : n2 = 8 := by have := HN.out; omega
  subst hn3
  clear hn2
  unfold vTags
  have oC7_ := Lib.hid (show OwU (w1) (W.heap.size + 1 + 1) (w1.heap.size) [] [own shB (.slice p 8 c2) xs] from o)
  clear o
  have A_0_ : (w1).cell? ⟨W.heap.size, 0, none⟩ = some (.slice a 8 cap) := cell_of_row _ _ 0 _ _ _ rA4_.out
  have Af0_ : (w1).frozen? ⟨W.heap.size, 0, none⟩ = false := frozen_of_row _ _ 0 _ _ rA4_.out
  have R_0_ : (w1).cell? ⟨W.heap.size + 1, 0, none⟩ = some (.slice none 0 0) := cell_of_row _ _ 0 _ _ _ rR5_.out
  go_wp2_with fail
  go_at_call 70
  clear A_0_ Af0_ R_0_
  have rR8_ := Lib.hid (show ((w1.setCell ⟨W.heap.size, 0, none⟩ (.slice p 8 c2))).heap[W.heap.size + 1]? = some (.cells #[.slice none 0 0] 57 (0, 0)) from (set_far rR5_.out (by dsimp only; omega)))
  clear rR5_
  have rA9_ := Lib.hid (show ((w1.setCell ⟨W.heap.size, 0, none⟩ (.slice p 8 c2))).heap[W.heap.size]? = some (.cells #[.slice p 8 c2] 57 (0, 0)) from (heap_setCell_same _ _ 0 _ _ _ rA4_.out))
  clear rA4_
  have oC10_ := Lib.hid (show OwU ((w1.setCell ⟨W.heap.size, 0, none⟩ (.slice p 8 c2))) (W.heap.size + 1 + 1) (w1.heap.size) [] [own shB (.slice p 8 c2) xs] from (OwU.keep (chg_one _ _ _ _) (by omega) oC7_.out))
  clear oC7_
  have G11_ := Lib.hid (show (W).grownBy ((w1.setCell ⟨W.heap.size, 0, none⟩ (.slice p 8 c2))) none from (gby_setnew G6_.out _ (by dsimp only; omega) _))
  have A_0_ : ((w1.setCell ⟨W.heap.size, 0, none⟩ (.slice p 8 c2))).cell? ⟨W.heap.size, 0, none⟩ = some (.slice p 8 c2) := cell_of_row _ _ 0 _ _ _ rA9_.out
  have R_0_ : ((w1.setCell ⟨W.heap.size, 0, none⟩ (.slice p 8 c2))).cell? ⟨W.heap.size + 1, 0, none⟩ = some (.slice none 0 0) := cell_of_row _ _ 0 _ _ _ rR8_.out
  refine (implTagsOk _ p 8 c2 true (by first | rfl | exact h8)).mono ?_
  rintro e w2 ⟨rfl, g⟩
  have sz2 := g.size
  try simp only [World.size_setCell] at sz2
  clear A_0_ R_0_
  have rA12_ := Lib.hid (show (w2).heap[W.heap.size]? = some (.cells #[.slice p 8 c2] 57 (0, 0)) from row_held g rA9_.out)
  clear rA9_
  have rR13_ := Lib.hid (show (w2).heap[W.heap.size + 1]? = some (.cells #[.slice none 0 0] 57 (0, 0)) from row_held g rR8_.out)
  clear rR8_
  have oC14_ := Lib.hid (show OwU (w2) (W.heap.size + 1 + 1) (w1.heap.size) [] [own shB (.slice p 8 c2) xs] from OwU.grow oC10_.out g)
  clear oC10_
  have G15_ := Lib.hid (show (W).grownBy (w2) none from gby_trans G11_.out g)
  clear g
  have A_0_ : (w2).cell? ⟨W.heap.size, 0, none⟩ = some (.slice p 8 c2) := cell_of_row _ _ 0 _ _ _ rA12_.out
  have R_0_ : (w2).cell? ⟨W.heap.size + 1, 0, none⟩ = some (.slice none 0 0) := cell_of_row _ _ 0 _ _ _ rR13_.out
  go_wp2_with fail
  go_at_call 71
  refine (least_yes _ _ xs (OwU.rd oC14_.out) (by have := HN.out; omega) k0 HF.out).mono ?_
  rintro e w3 ⟨rfl, g⟩
  have sz3 := g.size
  clear A_0_ R_0_
  have rA16_ := Lib.hid (show (w3).heap[W.heap.size]? = some (.cells #[.slice p 8 c2] 57 (0, 0)) from row_held g rA12_.out)
  clear rA12_
  have rR17_ := Lib.hid (show (w3).heap[W.heap.size + 1]? = some (.cells #[.slice none 0 0] 57 (0, 0)) from row_held g rR13_.out)
  clear rR13_
  have oC18_ := Lib.hid (show OwU (w3) (W.heap.size + 1 + 1) (w1.heap.size) [] [own shB (.slice p 8 c2) xs] from OwU.grow oC14_.out g)
  clear oC14_
  have G19_ := Lib.hid (show (W).grownBy (w3) none from gby_trans G15_.out g)
  clear g
  have A_0_ : (w3).cell? ⟨W.heap.size, 0, none⟩ = some (.slice p 8 c2) := cell_of_row _ _ 0 _ _ _ rA16_.out
  have R_0_ : (w3).cell? ⟨W.heap.size + 1, 0, none⟩ = some (.slice none 0 0) := cell_of_row _ _ 0 _ _ _ rR17_.out
  obtain ⟨bb, off2, cc, hvv, s1, s2, s3, s4, s5⟩ := owB_at (owU_out oC18_.out) k0 (by have := HN.out; omega)
  injection hvv with e1 e2 e3
  subst e1
  subst e3
  have S5 := Lib.hid (s5 true)
  clear s5 e2
  clear A_0_ R_0_
  have A_0_ : (w3).cell? ⟨W.heap.size, 0, none⟩ = some (.slice (some ⟨bb, off2, none⟩) 8 c2) := cell_of_row _ _ 0 _ _ _ rA16_.out
  have R_0_ : (w3).cell? ⟨W.heap.size + 1, 0, none⟩ = some (.slice none 0 0) := cell_of_row _ _ 0 _ _ _ rR17_.out
  have Rf0_ : (w3).frozen? ⟨W.heap.size + 1, 0, none⟩ = false := frozen_of_row _ _ 0 _ _ rR17_.out
  have sA0_ : (w3.setCell ⟨bb, off2 + k0, none⟩ (.bool true)).cell? ⟨W.heap.size, 0, none⟩ = some (.slice (some ⟨bb, off2, none⟩) 8 c2) := cell_of_row _ _ 0 _ _ _ (set_far (p := ⟨bb, off2 + k0, none⟩) (v := .bool true) rA16_.out (by dsimp only; omega))
  have sR0_ : (w3.setCell ⟨bb, off2 + k0, none⟩ (.bool true)).cell? ⟨W.heap.size + 1, 0, none⟩ = some (.slice none 0 0) := cell_of_row _ _ 0 _ _ _ (set_far (p := ⟨bb, off2 + k0, none⟩) (v := .bool true) rR17_.out (by dsimp only; omega))
  have sf_ : (w3.setCell ⟨bb, off2 + k0, none⟩ (.bool true)).frozen? ⟨W.heap.size + 1, 0, none⟩ = false := frozen_of_row _ _ 0 _ _ (set_far (p := ⟨bb, off2 + k0, none⟩) (v := .bool true) rR17_.out (by dsimp only; omega))
  have z0 : ((w3.setCell ⟨bb, off2 + k0, none⟩ (.bool true)).setCell ⟨W.heap.size + 1, 0, none⟩ (.slice (some ⟨bb, off2, none⟩) 8 c2)).cell? ⟨W.heap.size + 1, 0, none⟩ = some (.slice (some ⟨bb, off2, none⟩) 8 c2) := cell_of_row _ _ 0 _ _ _ (heap_setCell_same _ _ 0 _ _ _ (set_far (p := ⟨bb, off2 + k0, none⟩) (v := .bool true) rR17_.out (by dsimp only; omega)))
  go_wp2
  refine bodyPost_ret (v := .tuple #[.agg #[.slice (some ⟨bb, off2, none⟩) 8 c2], .int .i64 (k0 : Int)]) (by simp [results, go_sem, z0]) rfl ⟨_, rfl, ?_, ?_⟩
  · exact OwU.one (OwL.wide (OwL.keep (S5.out.1) (chg_one _ _ _ _) (.inr (by omega))) (by omega) (by simp; omega))
  · exact gby_setnew (gby_chg G19_.out S5.out.2 (by omega)) _ (by dsimp only; omega) _

set_option maxRecDepth 8000 in
set_option maxHeartbeats 2000000 in
theorem implFree_len (W : World) (v0 : Value) (xs : List Bool) (H : RdL shB W v0 xs) (hl : szL shB xs ≤ 1048576) (i : Int) (hne : xs.length ≠ 8) : Calls Try.prog 41 #[vTags v0, .int .i64 i] W (ResIFreeTag xs false W) := by
  obtain ⟨a, n, cap, rfl⟩ := RdL.form H
  have hn : n = xs.length := (rdP_cells plainB H).1
  obtain ⟨_, _, hv_, _, h1⟩ := rdB_in H
  injection hv_ with e1 e2 e3
  subst e1 e3
  clear e2
  have HA := Lib.hid h1
  have HX := Lib.hid H
  have HN := Lib.hid hn
  clear H h1
  unfold vTags
  have h8 : ((n : Int) == 8) = false := beq_eq_false_iff_ne.2 (by omega)
  clear hn
  go_enter Try.func41, Try.ntmps41
  have rA1_ := Lib.hid (show (((W.alloc (.cells #[.slice a n cap] 57)).alloc (.cells #[.slice none 0 0] 57))).heap[W.heap.size]? = some (.cells #[.slice a n cap] 57 (0, 0)) from by rw [heap_alloc_old _ _ (by simp only [World.size_alloc]; omega)]; exact heap_alloc_new _ _)
  have rR2_ := Lib.hid (show (((W.alloc (.cells #[.slice a n cap] 57)).alloc (.cells #[.slice none 0 0] 57))).heap[W.heap.size + 1]? = some (.cells #[.slice none 0 0] 57 (0, 0)) from by exact heap_pair _ _ _)
  have G3_ := Lib.hid (show (W).grownBy (((W.alloc (.cells #[.slice a n cap] 57)).alloc (.cells #[.slice none 0 0] 57))) none from (gby_alloc (gby_alloc (gby_refl _ _) _) _))
  have A_0_ : (((W.alloc (.cells #[.slice a n cap] 57)).alloc (.cells #[.slice none 0 0] 57))).cell? ⟨W.heap.size, 0, none⟩ = some (.slice a n cap) := cell_of_row _ _ 0 _ _ _ rA1_.out
  have R_0_ : (((W.alloc (.cells #[.slice a n cap] 57)).alloc (.cells #[.slice none 0 0] 57))).cell? ⟨W.heap.size + 1, 0, none⟩ = some (.slice none 0 0) := cell_of_row _ _ 0 _ _ _ rR2_.out
  go_wp2_with fail
  go_at_call 69
  refine (copiedTags_d _ _ xs (HX.out.grow G3_.out) hl).mono ?_
  rintro e w1 ⟨d, rfl, o, g⟩
  have sz_ := g.size
  try simp only [World.size_alloc] at sz_ o
  clear A_0_ R_0_
  have rA4_ := Lib.hid (show (w1).heap[W.heap.size]? = some (.cells #[.slice a n cap] 57 (0, 0)) from row_held g rA1_.out)
  clear rA1_
  have rR5_ := Lib.hid (show (w1).heap[W.heap.size + 1]? = some (.cells #[.slice none 0 0] 57 (0, 0)) from row_held g rR2_.out)
  clear rR2_
  have G6_ := Lib.hid (show (W).grownBy (w1) none from gby_trans G3_.out g)
  clear g
  have sz1 := sz_
  clear sz_
  obtain ⟨p, n2, c2, hv2⟩ := RdL.form (OwU.rd o)
  subst hv2
  have hn2 : n2 = xs.length := (rdP_cells plainB (OwU.rd o)).1
  have hn3 : n = n2 := by have := HN.out; omega
  subst hn3
  clear hn2
  unfold vTags
  have oC7_ := Lib.hid (show OwU (w1) (W.heap.size + 1 + 1) (w1.heap.size) [] [own shB (.slice p n c2) xs] from o)
  clear o
  have A_0_ : (w1).cell? ⟨W.heap.size, 0, none⟩ = some (.slice a n cap) := cell_of_row _ _ 0 _ _ _ rA4_.out
  have Af0_ : (w1).frozen? ⟨W.heap.size, 0, none⟩ = false := frozen_of_row _ _ 0 _ _ rA4_.out
  have R_0_ : (w1).cell? ⟨W.heap.size + 1, 0, none⟩ = some (.slice none 0 0) := cell_of_row _ _ 0 _ _ _ rR5_.out
  go_wp2_with fail
  go_at_call 70
  clear A_0_ Af0_ R_0_
  have rR8_ := Lib.hid (show ((w1.setCell ⟨W.heap.size, 0, none⟩ (.slice p n c2))).heap[W.heap.size + 1]? = some (.cells #[.slice none 0 0] 57 (0, 0)) from (set_far rR5_.out (by dsimp only; omega)))
  clear rR5_
  have rA9_ := Lib.hid (show ((w1.setCell ⟨W.heap.size, 0, none⟩ (.slice p n c2))).heap[W.heap.size]? = some (.cells #[.slice p n c2] 57 (0, 0)) from (heap_setCell_same _ _ 0 _ _ _ rA4_.out))
  clear rA4_
  have oC10_ := Lib.hid (show OwU ((w1.setCell ⟨W.heap.size, 0, none⟩ (.slice p n c2))) (W.heap.size + 1 + 1) (w1.heap.size) [] [own shB (.slice p n c2) xs] from (OwU.keep (chg_one _ _ _ _) (by omega) oC7_.out))
  clear oC7_
  have G11_ := Lib.hid (show (W).grownBy ((w1.setCell ⟨W.heap.size, 0, none⟩ (.slice p n c2))) none from (gby_setnew G6_.out _ (by dsimp only; omega) _))
  have A_0_ : ((w1.setCell ⟨W.heap.size, 0, none⟩ (.slice p n c2))).cell? ⟨W.heap.size, 0, none⟩ = some (.slice p n c2) := cell_of_row _ _ 0 _ _ _ rA9_.out
  have R_0_ : ((w1.setCell ⟨W.heap.size, 0, none⟩ (.slice p n c2))).cell? ⟨W.heap.size + 1, 0, none⟩ = some (.slice none 0 0) := cell_of_row _ _ 0 _ _ _ rR8_.out
  refine (implTagsOk _ p n c2 false (by first | rfl | exact h8)).mono ?_
  rintro e w2 ⟨rfl, g⟩
  have sz2 := g.size
  try simp only [World.size_setCell] at sz2
  clear A_0_ R_0_
  have rA12_ := Lib.hid (show (w2).heap[W.heap.size]? = some (.cells #[.slice p n c2] 57 (0, 0)) from row_held g rA9_.out)
  clear rA9_
  have rR13_ := Lib.hid (show (w2).heap[W.heap.size + 1]? = some (.cells #[.slice none 0 0] 57 (0, 0)) from row_held g rR8_.out)
  clear rR8_
  have oC14_ := Lib.hid (show OwU (w2) (W.heap.size + 1 + 1) (w1.heap.size) [] [own shB (.slice p n c2) xs] from OwU.grow oC10_.out g)
  clear oC10_
  have G15_ := Lib.hid (show (W).grownBy (w2) none from gby_trans G11_.out g)
  clear g
  have A_0_ : (w2).cell? ⟨W.heap.size, 0, none⟩ = some (.slice p n c2) := cell_of_row _ _ 0 _ _ _ rA12_.out
  have R_0_ : (w2).cell? ⟨W.heap.size + 1, 0, none⟩ = some (.slice none 0 0) := cell_of_row _ _ 0 _ _ _ rR13_.out
  clear A_0_ R_0_
  have A_0_ : (w2).cell? ⟨W.heap.size, 0, none⟩ = some (.slice p n c2) := cell_of_row _ _ 0 _ _ _ rA12_.out
  have R_0_ : (w2).cell? ⟨W.heap.size + 1, 0, none⟩ = some (.slice none 0 0) := cell_of_row _ _ 0 _ _ _ rR13_.out
  have Rf0_ : (w2).frozen? ⟨W.heap.size + 1, 0, none⟩ = false := frozen_of_row _ _ 0 _ _ rR13_.out
  have z0 : (w2.setCell ⟨W.heap.size + 1, 0, none⟩ (.slice p n c2)).cell? ⟨W.heap.size + 1, 0, none⟩ = some (.slice p n c2) := cell_of_row _ _ 0 _ _ _ (heap_setCell_same _ _ 0 _ _ _ rR13_.out)
  go_wp2
  refine bodyPost_ret (v := .tuple #[.agg #[.slice p n c2], .bool false]) (by simp [results, go_sem, z0]) rfl ⟨_, rfl, ?_, ?_⟩
  · exact OwU.one (OwL.wide (OwL.keep (owU_out oC14_.out) (chg_one _ _ _ _) (.inr (by omega))) (by omega) (by simp; omega))
  · exact gby_setnew G15_.out _ (by dsimp only; omega) _

set_option maxRecDepth 8000 in
set_option maxHeartbeats 2000000 in
theorem implFree_out (W : World) (v0 : Value) (xs : List Bool) (H : RdL shB W v0 xs) (hl : szL shB xs ≤ 1048576) (i : Int) (h8' : xs.length = 8) (hi : i < 0 ∨ 7 < i) : Calls Try.prog 41 #[vTags v0, .int .i64 i] W (ResIFreeTag xs false W) := by
  obtain ⟨a, n, cap, rfl⟩ := RdL.form H
  have hn : n = xs.length := (rdP_cells plainB H).1
  obtain ⟨_, _, hv_, _, h1⟩ := rdB_in H
  injection hv_ with e1 e2 e3
  subst e1 e3
  clear e2
  have HA := Lib.hid h1
  have HX := Lib.hid H
  have HN := Lib.hid hn
  clear H h1
  unfold vTags
  obtain rfl : n = 8 := by omega
  clear hn h8'
  go_enter Try.func41, Try.ntmps41
  have rA1_ := Lib.hid (show (((W.alloc (.cells #[.slice a 8 cap] 57)).alloc (.cells #[.slice none 0 0] 57))).heap[W.heap.size]? = some (.cells #[.slice a 8 cap] 57 (0, 0)) from by rw [heap_alloc_old _ _ (by simp only [World.size_alloc]; omega)]; exact heap_alloc_new _ _)
  have rR2_ := Lib.hid (show (((W.alloc (.cells #[.slice a 8 cap] 57)).alloc (.cells #[.slice none 0 0] 57))).heap[W.heap.size + 1]? = some (.cells #[.slice none 0 0] 57 (0, 0)) from by exact heap_pair _ _ _)
  have G3_ := Lib.hid (show (W).grownBy (((W.alloc (.cells #[.slice a 8 cap] 57)).alloc (.cells #[.slice none 0 0] 57))) none from (gby_alloc (gby_alloc (gby_refl _ _) _) _))
  have A_0_ : (((W.alloc (.cells #[.slice a 8 cap] 57)).alloc (.cells #[.slice none 0 0] 57))).cell? ⟨W.heap.size, 0, none⟩ = some (.slice a 8 cap) := cell_of_row _ _ 0 _ _ _ rA1_.out
  have R_0_ : (((W.alloc (.cells #[.slice a 8 cap] 57)).alloc (.cells #[.slice none 0 0] 57))).cell? ⟨W.heap.size + 1, 0, none⟩ = some (.slice none 0 0) := cell_of_row _ _ 0 _ _ _ rR2_.out
  go_wp2_with fail
  go_at_call 69
  refine (copiedTags_d _ _ xs (HX.out.grow G3_.out) hl).mono ?_
  rintro e w1 ⟨d, rfl, o, g⟩
  have sz_ := g.size
  try simp only [World.size_alloc] at sz_ o
  clear A_0_ R_0_
  have rA4_ := Lib.hid (show (w1).heap[W.heap.size]? = some (.cells #[.slice a 8 cap] 57 (0, 0)) from row_held g rA1_.out)
  clear rA1_
  have rR5_ := Lib.hid (show (w1).heap[W.heap.size + 1]? = some (.cells #[.slice none 0 0] 57 (0, 0)) from row_held g rR2_.out)
  clear rR2_
  have G6_ := Lib.hid (show (W).grownBy (w1) none from gby_trans G3_.out g)
  clear g
  have sz1 := sz_
  clear sz_
  obtain ⟨p, n2, c2, hv2⟩ := RdL.form (OwU.rd o)
  subst hv2
  have hn2 : n2 = xs.length := (rdP_cells plainB (OwU.rd o)).1
  have hn3 : n2 = 8 := by have := HN.out; omega
  subst hn3
  clear hn2
  unfold vTags
  have oC7_ := Lib.hid (show OwU (w1) (W.heap.size + 1 + 1) (w1.heap.size) [] [own shB (.slice p 8 c2) xs] from o)
  clear o
  have A_0_ : (w1).cell? ⟨W.heap.size, 0, none⟩ = some (.slice a 8 cap) := cell_of_row _ _ 0 _ _ _ rA4_.out
  have Af0_ : (w1).frozen? ⟨W.heap.size, 0, none⟩ = false := frozen_of_row _ _ 0 _ _ rA4_.out
  have R_0_ : (w1).cell? ⟨W.heap.size + 1, 0, none⟩ = some (.slice none 0 0) := cell_of_row _ _ 0 _ _ _ rR5_.out
  go_wp2_with fail
  go_at_call 70
  clear A_0_ Af0_ R_0_
  have rR8_ := Lib.hid (show ((w1.setCell ⟨W.heap.size, 0, none⟩ (.slice p 8 c2))).heap[W.heap.size + 1]? = some (.cells #[.slice none 0 0] 57 (0, 0)) from (set_far rR5_.out (by dsimp only; omega)))
  clear rR5_
  have rA9_ := Lib.hid (show ((w1.setCell ⟨W.heap.size, 0, none⟩ (.slice p 8 c2))).heap[W.heap.size]? = some (.cells #[.slice p 8 c2] 57 (0, 0)) from (heap_setCell_same _ _ 0 _ _ _ rA4_.out))
  clear rA4_
  have oC10_ := Lib.hid (show OwU ((w1.setCell ⟨W.heap.size, 0, none⟩ (.slice p 8 c2))) (W.heap.size + 1 + 1) (w1.heap.size) [] [own shB (.slice p 8 c2) xs] from (OwU.keep (chg_one _ _ _ _) (by omega) oC7_.out))
  clear oC7_
  have G11_ := Lib.hid (show (W).grownBy ((w1.setCell ⟨W.heap.size, 0, none⟩ (.slice p 8 c2))) none from (gby_setnew G6_.out _ (by dsimp only; omega) _))
  have A_0_ : ((w1.setCell ⟨W.heap.size, 0, none⟩ (.slice p 8 c2))).cell? ⟨W.heap.size, 0, none⟩ = some (.slice p 8 c2) := cell_of_row _ _ 0 _ _ _ rA9_.out
  have R_0_ : ((w1.setCell ⟨W.heap.size, 0, none⟩ (.slice p 8 c2))).cell? ⟨W.heap.size + 1, 0, none⟩ = some (.slice none 0 0) := cell_of_row _ _ 0 _ _ _ rR8_.out
  refine (implTagsOk _ p 8 c2 true (by first | rfl | exact h8)).mono ?_
  rintro e w2 ⟨rfl, g⟩
  have sz2 := g.size
  try simp only [World.size_setCell] at sz2
  clear A_0_ R_0_
  have rA12_ := Lib.hid (show (w2).heap[W.heap.size]? = some (.cells #[.slice p 8 c2] 57 (0, 0)) from row_held g rA9_.out)
  clear rA9_
  have rR13_ := Lib.hid (show (w2).heap[W.heap.size + 1]? = some (.cells #[.slice none 0 0] 57 (0, 0)) from row_held g rR8_.out)
  clear rR8_
  have oC14_ := Lib.hid (show OwU (w2) (W.heap.size + 1 + 1) (w1.heap.size) [] [own shB (.slice p 8 c2) xs] from OwU.grow oC10_.out g)
  clear oC10_
  have G15_ := Lib.hid (show (W).grownBy (w2) none from gby_trans G11_.out g)
  clear g
  have A_0_ : (w2).cell? ⟨W.heap.size, 0, none⟩ = some (.slice p 8 c2) := cell_of_row _ _ 0 _ _ _ rA12_.out
  have R_0_ : (w2).cell? ⟨W.heap.size + 1, 0, none⟩ = some (.slice none 0 0) := cell_of_row _ _ 0 _ _ _ rR13_.out
  go_wp2_with fail
  go_at_call 72
  refine (isTag_no _ _ (by omega)).mono ?_
  rintro e w3 ⟨rfl, rfl⟩
  clear A_0_ R_0_
  have A_0_ : (w2).cell? ⟨W.heap.size, 0, none⟩ = some (.slice p 8 c2) := cell_of_row _ _ 0 _ _ _ rA12_.out
  have R_0_ : (w2).cell? ⟨W.heap.size + 1, 0, none⟩ = some (.slice none 0 0) := cell_of_row _ _ 0 _ _ _ rR13_.out
  have Rf0_ : (w2).frozen? ⟨W.heap.size + 1, 0, none⟩ = false := frozen_of_row _ _ 0 _ _ rR13_.out
  have z0 : (w2.setCell ⟨W.heap.size + 1, 0, none⟩ (.slice p 8 c2)).cell? ⟨W.heap.size + 1, 0, none⟩ = some (.slice p 8 c2) := cell_of_row _ _ 0 _ _ _ (heap_setCell_same _ _ 0 _ _ _ rR13_.out)
  go_wp2
  refine bodyPost_ret (v := .tuple #[.agg #[.slice p 8 c2], .bool false]) (by simp [results, go_sem, z0]) rfl ⟨_, rfl, ?_, ?_⟩
  · exact OwU.one (OwL.wide (OwL.keep (owU_out oC14_.out) (chg_one _ _ _ _) (.inr (by omega))) (by omega) (by simp; omega))
  · exact gby_setnew G15_.out _ (by dsimp only; omega) _

set_option maxRecDepth 8000 in
set_option maxHeartbeats 2000000 in
theorem implFree_in (W : World) (v0 : Value) (xs : List Bool) (H : RdL shB W v0 xs) (hl : szL shB xs ≤ 1048576) (i : Int) (k : Nat) (hik : i = (k : Int)) (h8' : xs.length = 8) (hi : k < 8) : Calls Try.prog 41 #[vTags v0, .int .i64 i] W (ResIFreeTag (xs.set k false) (xs.getD k false) W) := by
  obtain ⟨a, n, cap, rfl⟩ := RdL.form H
  have hn : n = xs.length := (rdP_cells plainB H).1
  obtain ⟨_, _, hv_, _, h1⟩ := rdB_in H
  injection hv_ with e1 e2 e3
  subst e1 e3
  clear e2
  have HA := Lib.hid h1
  have HX := Lib.hid H
  have HN := Lib.hid hn
  clear H h1
  unfold vTags
  obtain rfl : n = 8 := by omega
  subst hik
  obtain ⟨was, hwas⟩ : ∃ b, b = xs.getD k false := ⟨_, rfl⟩
  rw [← hwas]
  have HW := Lib.hid hwas
  clear hn h8' hwas
  go_enter Try.func41, Try.ntmps41
  have rA1_ := Lib.hid (show (((W.alloc (.cells #[.slice a 8 cap] 57)).alloc (.cells #[.slice none 0 0] 57))).heap[W.heap.size]? = some (.cells #[.slice a 8 cap] 57 (0, 0)) from by rw [heap_alloc_old _ _ (by simp only [World.size_alloc]; omega)]; exact heap_alloc_new _ _)
  have rR2_ := Lib.hid (show (((W.alloc (.cells #[.slice a 8 cap] 57)).alloc (.cells #[.slice none 0 0] 57))).heap[W.heap.size + 1]? = some (.cells #[.slice none 0 0] 57 (0, 0)) from by exact heap_pair _ _ _)
  have G3_ := Lib.hid (show (W).grownBy (((W.alloc (.cells #[.slice a 8 cap] 57)).alloc (.cells #[.slice none 0 0] 57))) none from (gby_alloc (gby_alloc (gby_refl _ _) _) _))
  have A_0_ : (((W.alloc (.cells #[.slice a 8 cap] 57)).alloc (.cells #[.slice none 0 0] 57))).cell? ⟨W.heap.size, 0, none⟩ = some (.slice a 8 cap) := cell_of_row _ _ 0 _ _ _ rA1_.out
  have R_0_ : (((W.alloc (.cells #[.slice a 8 cap] 57)).alloc (.cells #[.slice none 0 0] 57))).cell? ⟨W.heap.size + 1, 0, none⟩ = some (.slice none 0 0) := cell_of_row _ _ 0 _ _ _ rR2_.out
  go_wp2_with fail
  go_at_call 69
  refine (copiedTags_d _ _ xs (HX.out.grow G3_.out) hl).mono ?_
  rintro e w1 ⟨d, rfl, o, g⟩
  have sz_ := g.size
  try simp only [World.size_alloc] at sz_ o
  clear A_0_ R_0_
  have rA4_ := Lib.hid (show (w1).heap[W.heap.size]? = some (.cells #[.slice a 8 cap] 57 (0, 0)) from row_held g rA1_.out)
  clear rA1_
  have rR5_ := Lib.hid (show (w1).heap[W.heap.size + 1]? = some (.cells #[.slice none 0 0] 57 (0, 0)) from row_held g rR2_.out)
  clear rR2_
  have G6_ := Lib.hid (show (W).grownBy (w1) none from gby_trans G3_.out g)
  clear g
  have sz1 := sz_
  clear sz_
  obtain ⟨p, n2, c2, hv2⟩ := RdL.form (OwU.rd o)
  subst hv2
  have hn2 : n2 = xs.length := (rdP_cells plainB (OwU.rd o)).1
  have hn3 : n2 = 8 := by have := HN.out; omega
  subst hn3
  clear hn2
  unfold vTags
  have oC7_ := Lib.hid (show OwU (w1) (W.heap.size + 1 + 1) (w1.heap.size) [] [own shB (.slice p 8 c2) xs] from o)
  clear o
  have A_0_ : (w1).cell? ⟨W.heap.size, 0, none⟩ = some (.slice a 8 cap) := cell_of_row _ _ 0 _ _ _ rA4_.out
  have Af0_ : (w1).frozen? ⟨W.heap.size, 0, none⟩ = false := frozen_of_row _ _ 0 _ _ rA4_.out
  have R_0_ : (w1).cell? ⟨W.heap.size + 1, 0, none⟩ = some (.slice none 0 0) := cell_of_row _ _ 0 _ _ _ rR5_.out
  go_wp2_with fail
  go_at_call 70
  clear A_0_ Af0_ R_0_
  have rR8_ := Lib.hid (show ((w1.setCell ⟨W.heap.size, 0, none⟩ (.slice p 8 c2))).heap[W.heap.size + 1]? = some (.cells #[.slice none 0 0] 57 (0, 0)) from (set_far rR5_.out (by dsimp only; omega)))
  clear rR5_
  have rA9_ := Lib.hid (show ((w1.setCell ⟨W.heap.size, 0, none⟩ (.slice p 8 c2))).heap[W.heap.size]? = some (.cells #[.slice p 8 c2] 57 (0, 0)) from (heap_setCell_same _ _ 0 _ _ _ rA4_.out))
  clear rA4_
  have oC10_ := Lib.hid (show OwU ((w1.setCell ⟨W.heap.size, 0, none⟩ (.slice p 8 c2))) (W.heap.size + 1 + 1) (w1.heap.size) [] [own shB (.slice p 8 c2) xs] from (OwU.keep (chg_one _ _ _ _) (by omega) oC7_.out))
  clear oC7_
  have G11_ := Lib.hid (show (W).grownBy ((w1.setCell ⟨W.heap.size, 0, none⟩ (.slice p 8 c2))) none from (gby_setnew G6_.out _ (by dsimp only; omega) _))
  have A_0_ : ((w1.setCell ⟨W.heap.size, 0, none⟩ (.slice p 8 c2))).cell? ⟨W.heap.size, 0, none⟩ = some (.slice p 8 c2) := cell_of_row _ _ 0 _ _ _ rA9_.out
  have R_0_ : ((w1.setCell ⟨W.heap.size, 0, none⟩ (.slice p 8 c2))).cell? ⟨W.heap.size + 1, 0, none⟩ = some (.slice none 0 0) := cell_of_row _ _ 0 _ _ _ rR8_.out
  refine (implTagsOk _ p 8 c2 true (by first | rfl | exact h8)).mono ?_
  rintro e w2 ⟨rfl, g⟩
  have sz2 := g.size
  try simp only [World.size_setCell] at sz2
  clear A_0_ R_0_
  have rA12_ := Lib.hid (show (w2).heap[W.heap.size]? = some (.cells #[.slice p 8 c2] 57 (0, 0)) from row_held g rA9_.out)
  clear rA9_
  have rR13_ := Lib.hid (show (w2).heap[W.heap.size + 1]? = some (.cells #[.slice none 0 0] 57 (0, 0)) from row_held g rR8_.out)
  clear rR8_
  have oC14_ := Lib.hid (show OwU (w2) (W.heap.size + 1 + 1) (w1.heap.size) [] [own shB (.slice p 8 c2) xs] from OwU.grow oC10_.out g)
  clear oC10_
  have G15_ := Lib.hid (show (W).grownBy (w2) none from gby_trans G11_.out g)
  clear g
  have A_0_ : (w2).cell? ⟨W.heap.size, 0, none⟩ = some (.slice p 8 c2) := cell_of_row _ _ 0 _ _ _ rA12_.out
  have R_0_ : (w2).cell? ⟨W.heap.size + 1, 0, none⟩ = some (.slice none 0 0) := cell_of_row _ _ 0 _ _ _ rR13_.out
  go_wp2_with fail
  go_at_call 72
  refine (isTag_yes _ _ (by omega) (by omega)).mono ?_
  rintro e w3 ⟨rfl, rfl⟩
  go_wp2_with fail
  go_at_call 73
  refine (free_any _ (W.heap.size + 1 + 1) (w1.heap.size) _ xs (owU_out oC14_.out) (by omega) k (by have := HN.out; omega) (by have := HN.out; omega)).mono ?_
  rintro e w4 ⟨he, o, c⟩
  rw [← HW.out] at he
  subst he
  have sz4 := c.size
  clear A_0_ R_0_
  have rA16_ := Lib.hid (show (w4).heap[W.heap.size]? = some (.cells #[.slice p 8 c2] 57 (0, 0)) from Chg.keep c rA12_.out (by omega))
  clear rA12_
  have rR17_ := Lib.hid (show (w4).heap[W.heap.size + 1]? = some (.cells #[.slice none 0 0] 57 (0, 0)) from Chg.keep c rR13_.out (by omega))
  clear rR13_
  have G18_ := Lib.hid (show (W).grownBy (w4) none from gby_chg G15_.out c (by omega))
  have oC19_ := Lib.hid (show OwU (w4) (W.heap.size + 1 + 1) (w1.heap.size) [] [own shB (.slice p 8 c2) (xs.set k false)] from OwU.one o)
  clear o c
  have A_0_ : (w4).cell? ⟨W.heap.size, 0, none⟩ = some (.slice p 8 c2) := cell_of_row _ _ 0 _ _ _ rA16_.out
  have R_0_ : (w4).cell? ⟨W.heap.size + 1, 0, none⟩ = some (.slice none 0 0) := cell_of_row _ _ 0 _ _ _ rR17_.out
  clear A_0_ R_0_
  have A_0_ : (w4).cell? ⟨W.heap.size, 0, none⟩ = some (.slice p 8 c2) := cell_of_row _ _ 0 _ _ _ rA16_.out
  have R_0_ : (w4).cell? ⟨W.heap.size + 1, 0, none⟩ = some (.slice none 0 0) := cell_of_row _ _ 0 _ _ _ rR17_.out
  have Rf0_ : (w4).frozen? ⟨W.heap.size + 1, 0, none⟩ = false := frozen_of_row _ _ 0 _ _ rR17_.out
  have z0 : (w4.setCell ⟨W.heap.size + 1, 0, none⟩ (.slice p 8 c2)).cell? ⟨W.heap.size + 1, 0, none⟩ = some (.slice p 8 c2) := cell_of_row _ _ 0 _ _ _ (heap_setCell_same _ _ 0 _ _ _ rR17_.out)
  go_wp2
  refine bodyPost_ret (v := .tuple #[.agg #[.slice p 8 c2], .bool was]) (by simp [results, go_sem, z0]) rfl ⟨_, rfl, ?_, ?_⟩
  · exact OwU.one (OwL.wide (OwL.keep (owU_out oC19_.out) (chg_one _ _ _ _) (.inr (by omega))) (by omega) (by simp; omega))
  · exact gby_setnew G18_.out _ (by dsimp only; omega) _

theorem set_same (xs : List Bool) (k : Nat) (hk : k < xs.length) (h : xs.getD k false = false) : xs.set k false = xs := by
  apply List.ext_getElem
  · simp
  · intro j h1 h2
    rw [List.getElem_set]
    split
    · next e => subst e; rw [List.getD_eq_getElem?_getD, List.getElem?_eq_getElem hk] at h; exact h.symm
    · rfl

end Go.Proofs.Ytgagbhkidponnaa
