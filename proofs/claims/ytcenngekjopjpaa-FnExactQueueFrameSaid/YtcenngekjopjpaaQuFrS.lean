/-
  QueueFrame, the model.
-/
import Derived.Test.YtcenngekjopjpaaSndCpR
import Derived.Test.YtcenngekjopjpaaRQueueFrame
import Derived.Test.YtcenngekjopjpaaStepApp
import Derived.Deep.RegionLaw
namespace Go.Proofs.Ytcenngekjopjpaa
open Go Go.RowKit
set_option linter.unusedVariables false

theorem row_drewU {w : World} {b : Nat} {o : Obj} (h : w.heap[b]? = some o) : w.drew.heap[b]? = some o := h

set_option maxRecDepth 8000 in
set_option maxHeartbeats 4000000 in
theorem specQu_bad (W : World) (m r : Int) (v : Value) (xs : List DFrame) (H : RdL shFrame W v xs) (hl : szL shFrame xs ≤ 1048576) (u : Value) (ys : List Int) (Hu : RdL shI W u ys) (hly : szL shI ys ≤ 1048576) (hv : ¬ SndP m r xs) : Calls Try.prog 24 #[.agg #[.int .i64 m, v, .int .i64 r], u] W (ResIQueueFrame m xs r false W) := by
  have HV := Lib.hid hv
  clear hv
  have HYL := Lib.hid hly
  obtain ⟨pu, nu, cu, rfl⟩ := RdL.form Hu
  have HY := Lib.hid Hu
  clear hly Hu
  have HX := Lib.hid H
  have HL := Lib.hid hl
  obtain ⟨a0, n0, cap0, rfl⟩ := RdL.form H
  have hn0 : n0 = xs.length := by obtain ⟨_, _, e, _⟩ := H; injection e
  have HE := Lib.hid hn0
  have hlx : n0 ≤ 1048576 := by have := szL_len shFrame xs; omega
  clear H hl hn0
  go_enter Try.func24, Try.ntmps24
  have rA1_ := Lib.hid (show (((W.alloc (.cells #[.int .i64 m, .slice a0 n0 cap0, .int .i64 r] 29)).alloc (.cells #[.int .i64 0, .slice none 0 0, .int .i64 0] 29))).heap[W.heap.size]? = some (.cells #[.int .i64 m, .slice a0 n0 cap0, .int .i64 r] 29 (0, 0)) from by rw [heap_alloc_old _ _ (by simp only [World.size_alloc]; omega)]; exact heap_alloc_new _ _)
  have rR2_ := Lib.hid (show (((W.alloc (.cells #[.int .i64 m, .slice a0 n0 cap0, .int .i64 r] 29)).alloc (.cells #[.int .i64 0, .slice none 0 0, .int .i64 0] 29))).heap[W.heap.size + 1]? = some (.cells #[.int .i64 0, .slice none 0 0, .int .i64 0] 29 (0, 0)) from by exact heap_pair _ _ _)
  have G3_ := Lib.hid (show (W).grownBy (((W.alloc (.cells #[.int .i64 m, .slice a0 n0 cap0, .int .i64 r] 29)).alloc (.cells #[.int .i64 0, .slice none 0 0, .int .i64 0] 29))) none from (gby_alloc (gby_alloc (gby_refl _ _) _) _))
  have A_0_ : (((W.alloc (.cells #[.int .i64 m, .slice a0 n0 cap0, .int .i64 r] 29)).alloc (.cells #[.int .i64 0, .slice none 0 0, .int .i64 0] 29))).cell? ⟨W.heap.size, 0, none⟩ = some (.int .i64 m) := cell_of_row _ _ 0 _ _ _ rA1_.out
  have A_1_ : (((W.alloc (.cells #[.int .i64 m, .slice a0 n0 cap0, .int .i64 r] 29)).alloc (.cells #[.int .i64 0, .slice none 0 0, .int .i64 0] 29))).cell? ⟨W.heap.size, 1, none⟩ = some (.slice a0 n0 cap0) := cell_of_row _ _ 1 _ _ _ rA1_.out
  have A_2_ : (((W.alloc (.cells #[.int .i64 m, .slice a0 n0 cap0, .int .i64 r] 29)).alloc (.cells #[.int .i64 0, .slice none 0 0, .int .i64 0] 29))).cell? ⟨W.heap.size, 2, none⟩ = some (.int .i64 r) := cell_of_row _ _ 2 _ _ _ rA1_.out
  have R_0_ : (((W.alloc (.cells #[.int .i64 m, .slice a0 n0 cap0, .int .i64 r] 29)).alloc (.cells #[.int .i64 0, .slice none 0 0, .int .i64 0] 29))).cell? ⟨W.heap.size + 1, 0, none⟩ = some (.int .i64 0) := cell_of_row _ _ 0 _ _ _ rR2_.out
  have R_1_ : (((W.alloc (.cells #[.int .i64 m, .slice a0 n0 cap0, .int .i64 r] 29)).alloc (.cells #[.int .i64 0, .slice none 0 0, .int .i64 0] 29))).cell? ⟨W.heap.size + 1, 1, none⟩ = some (.slice none 0 0) := cell_of_row _ _ 1 _ _ _ rR2_.out
  have R_2_ : (((W.alloc (.cells #[.int .i64 m, .slice a0 n0 cap0, .int .i64 r] 29)).alloc (.cells #[.int .i64 0, .slice none 0 0, .int .i64 0] 29))).cell? ⟨W.heap.size + 1, 2, none⟩ = some (.int .i64 0) := cell_of_row _ _ 2 _ _ _ rR2_.out
  go_wp2_with fail
  go_at_call 40
  refine (l08Copy_d _ m r _ xs (HX.out.grow G3_.out) HL.out).mono ?_
  rintro e w1 ⟨d_, rfl, o, g⟩
  have szw1 := g.size
  try simp only [World.size_alloc] at szw1 o
  try unfold vSender
  clear A_0_ A_1_ A_2_ R_0_ R_1_ R_2_
  have rA4_ := Lib.hid (show (w1).heap[W.heap.size]? = some (.cells #[.int .i64 m, .slice a0 n0 cap0, .int .i64 r] 29 (0, 0)) from row_held g rA1_.out)
  clear rA1_
  have rR5_ := Lib.hid (show (w1).heap[W.heap.size + 1]? = some (.cells #[.int .i64 0, .slice none 0 0, .int .i64 0] 29 (0, 0)) from row_held g rR2_.out)
  clear rR2_
  have G6_ := Lib.hid (show (W).grownBy (w1) none from gby_trans G3_.out g)
  obtain ⟨pd, nd, cd, hv_⟩ := RdL.form (OwU.rd o)
  subst hv_
  clear g
  have oC7_ := Lib.hid (show OwU (w1) (W.heap.size + 1 + 1) (w1.heap.size) [] [own shFrame (.slice pd nd cd) xs] from o)
  clear o
  have al_ : (w1).grownBy ((w1).alloc (.cells #[.int .i64 m, .slice pd nd cd, .int .i64 r] 29)) none := gby_alloc (gby_refl _ _) _
  have rA8_ := Lib.hid (show ((w1.alloc (.cells #[.int .i64 m, .slice pd nd cd, .int .i64 r] 29))).heap[W.heap.size]? = some (.cells #[.int .i64 m, .slice a0 n0 cap0, .int .i64 r] 29 (0, 0)) from row_held al_ rA4_.out)
  clear rA4_
  have rR9_ := Lib.hid (show ((w1.alloc (.cells #[.int .i64 m, .slice pd nd cd, .int .i64 r] 29))).heap[W.heap.size + 1]? = some (.cells #[.int .i64 0, .slice none 0 0, .int .i64 0] 29 (0, 0)) from row_held al_ rR5_.out)
  clear rR5_
  have oC10_ := Lib.hid (show OwU ((w1.alloc (.cells #[.int .i64 m, .slice pd nd cd, .int .i64 r] 29))) (W.heap.size + 1 + 1) (w1.heap.size) [] [own shFrame (.slice pd nd cd) xs] from OwU.grow oC7_.out al_)
  clear oC7_
  have G11_ := Lib.hid (show (W).grownBy ((w1.alloc (.cells #[.int .i64 m, .slice pd nd cd, .int .i64 r] 29))) none from gby_trans G6_.out al_)
  have rB12_ := Lib.hid (show ((w1.alloc (.cells #[.int .i64 m, .slice pd nd cd, .int .i64 r] 29))).heap[w1.heap.size]? = some (.cells #[.int .i64 m, .slice pd nd cd, .int .i64 r] 29 (0, 0)) from by first | exact heap_alloc_new _ _ | exact heap_pair _ _ _ | exact heap_trip _ _ _ _)
  clear al_
  have A_0_ : ((w1.alloc (.cells #[.int .i64 m, .slice pd nd cd, .int .i64 r] 29))).cell? ⟨W.heap.size, 0, none⟩ = some (.int .i64 m) := cell_of_row _ _ 0 _ _ _ rA8_.out
  have A_1_ : ((w1.alloc (.cells #[.int .i64 m, .slice pd nd cd, .int .i64 r] 29))).cell? ⟨W.heap.size, 1, none⟩ = some (.slice a0 n0 cap0) := cell_of_row _ _ 1 _ _ _ rA8_.out
  have A_2_ : ((w1.alloc (.cells #[.int .i64 m, .slice pd nd cd, .int .i64 r] 29))).cell? ⟨W.heap.size, 2, none⟩ = some (.int .i64 r) := cell_of_row _ _ 2 _ _ _ rA8_.out
  have R_0_ : ((w1.alloc (.cells #[.int .i64 m, .slice pd nd cd, .int .i64 r] 29))).cell? ⟨W.heap.size + 1, 0, none⟩ = some (.int .i64 0) := cell_of_row _ _ 0 _ _ _ rR9_.out
  have R_1_ : ((w1.alloc (.cells #[.int .i64 m, .slice pd nd cd, .int .i64 r] 29))).cell? ⟨W.heap.size + 1, 1, none⟩ = some (.slice none 0 0) := cell_of_row _ _ 1 _ _ _ rR9_.out
  have R_2_ : ((w1.alloc (.cells #[.int .i64 m, .slice pd nd cd, .int .i64 r] 29))).cell? ⟨W.heap.size + 1, 2, none⟩ = some (.int .i64 0) := cell_of_row _ _ 2 _ _ _ rR9_.out
  have B_0_ : ((w1.alloc (.cells #[.int .i64 m, .slice pd nd cd, .int .i64 r] 29))).cell? ⟨w1.heap.size, 0, none⟩ = some (.int .i64 m) := cell_of_row _ _ 0 _ _ _ rB12_.out
  have B_1_ : ((w1.alloc (.cells #[.int .i64 m, .slice pd nd cd, .int .i64 r] 29))).cell? ⟨w1.heap.size, 1, none⟩ = some (.slice pd nd cd) := cell_of_row _ _ 1 _ _ _ rB12_.out
  have B_2_ : ((w1.alloc (.cells #[.int .i64 m, .slice pd nd cd, .int .i64 r] 29))).cell? ⟨w1.heap.size, 2, none⟩ = some (.int .i64 r) := cell_of_row _ _ 2 _ _ _ rB12_.out
  clear A_0_ A_1_ A_2_ R_0_ R_1_ R_2_ B_0_ B_1_ B_2_
  have A_0_ : ((w1.alloc (.cells #[.int .i64 m, .slice pd nd cd, .int .i64 r] 29))).cell? ⟨W.heap.size, 0, none⟩ = some (.int .i64 m) := cell_of_row _ _ 0 _ _ _ rA8_.out
  have A_1_ : ((w1.alloc (.cells #[.int .i64 m, .slice pd nd cd, .int .i64 r] 29))).cell? ⟨W.heap.size, 1, none⟩ = some (.slice a0 n0 cap0) := cell_of_row _ _ 1 _ _ _ rA8_.out
  have A_2_ : ((w1.alloc (.cells #[.int .i64 m, .slice pd nd cd, .int .i64 r] 29))).cell? ⟨W.heap.size, 2, none⟩ = some (.int .i64 r) := cell_of_row _ _ 2 _ _ _ rA8_.out
  go_wp2_with fail
  go_at_call 9
  refine ((specSnd _ m r _ xs (HX.out.grow G11_.out) HL.out).mono (bpost_no HV.out)).mono ?_
  rintro e w2 ⟨rfl, g⟩
  have szw2 := g.size
  try simp only [World.size_alloc] at szw2
  try simp only [World.size_setCell] at szw2
  clear A_0_ A_1_ A_2_
  have rA13_ := Lib.hid (show (w2).heap[W.heap.size]? = some (.cells #[.int .i64 m, .slice a0 n0 cap0, .int .i64 r] 29 (0, 0)) from row_held g rA8_.out)
  clear rA8_
  have rR14_ := Lib.hid (show (w2).heap[W.heap.size + 1]? = some (.cells #[.int .i64 0, .slice none 0 0, .int .i64 0] 29 (0, 0)) from row_held g rR9_.out)
  clear rR9_
  have rB15_ := Lib.hid (show (w2).heap[w1.heap.size]? = some (.cells #[.int .i64 m, .slice pd nd cd, .int .i64 r] 29 (0, 0)) from row_held g rB12_.out)
  clear rB12_
  have oC16_ := Lib.hid (show OwU (w2) (W.heap.size + 1 + 1) (w1.heap.size) [] [own shFrame (.slice pd nd cd) xs] from OwU.grow oC10_.out g)
  clear oC10_
  have G17_ := Lib.hid (show (W).grownBy (w2) none from gby_trans G11_.out g)
  clear g
  have A_0_ : (w2).cell? ⟨W.heap.size, 0, none⟩ = some (.int .i64 m) := cell_of_row _ _ 0 _ _ _ rA13_.out
  have A_1_ : (w2).cell? ⟨W.heap.size, 1, none⟩ = some (.slice a0 n0 cap0) := cell_of_row _ _ 1 _ _ _ rA13_.out
  have A_2_ : (w2).cell? ⟨W.heap.size, 2, none⟩ = some (.int .i64 r) := cell_of_row _ _ 2 _ _ _ rA13_.out
  have R_0_ : (w2).cell? ⟨W.heap.size + 1, 0, none⟩ = some (.int .i64 0) := cell_of_row _ _ 0 _ _ _ rR14_.out
  have R_1_ : (w2).cell? ⟨W.heap.size + 1, 1, none⟩ = some (.slice none 0 0) := cell_of_row _ _ 1 _ _ _ rR14_.out
  have R_2_ : (w2).cell? ⟨W.heap.size + 1, 2, none⟩ = some (.int .i64 0) := cell_of_row _ _ 2 _ _ _ rR14_.out
  have B_0_ : (w2).cell? ⟨w1.heap.size, 0, none⟩ = some (.int .i64 m) := cell_of_row _ _ 0 _ _ _ rB15_.out
  have B_1_ : (w2).cell? ⟨w1.heap.size, 1, none⟩ = some (.slice pd nd cd) := cell_of_row _ _ 1 _ _ _ rB15_.out
  have B_2_ : (w2).cell? ⟨w1.heap.size, 2, none⟩ = some (.int .i64 r) := cell_of_row _ _ 2 _ _ _ rB15_.out
  clear A_0_ A_1_ A_2_ R_0_ R_1_ R_2_ B_0_ B_1_ B_2_
  have A_0_ : (w2).cell? ⟨W.heap.size, 0, none⟩ = some (.int .i64 m) := cell_of_row _ _ 0 _ _ _ rA13_.out
  have A_1_ : (w2).cell? ⟨W.heap.size, 1, none⟩ = some (.slice a0 n0 cap0) := cell_of_row _ _ 1 _ _ _ rA13_.out
  have A_2_ : (w2).cell? ⟨W.heap.size, 2, none⟩ = some (.int .i64 r) := cell_of_row _ _ 2 _ _ _ rA13_.out
  have R_0_ : (w2).cell? ⟨W.heap.size + 1, 0, none⟩ = some (.int .i64 0) := cell_of_row _ _ 0 _ _ _ rR14_.out
  have R_1_ : (w2).cell? ⟨W.heap.size + 1, 1, none⟩ = some (.slice none 0 0) := cell_of_row _ _ 1 _ _ _ rR14_.out
  have R_2_ : (w2).cell? ⟨W.heap.size + 1, 2, none⟩ = some (.int .i64 0) := cell_of_row _ _ 2 _ _ _ rR14_.out
  have Rf0_ : (w2).frozen? ⟨W.heap.size + 1, 0, none⟩ = false := frozen_of_row _ _ 0 _ _ rR14_.out
  have Rf1_ : (w2).frozen? ⟨W.heap.size + 1, 1, none⟩ = false := frozen_of_row _ _ 1 _ _ rR14_.out
  have Rf2_ : (w2).frozen? ⟨W.heap.size + 1, 2, none⟩ = false := frozen_of_row _ _ 2 _ _ rR14_.out
  have B_0_ : (w2).cell? ⟨w1.heap.size, 0, none⟩ = some (.int .i64 m) := cell_of_row _ _ 0 _ _ _ rB15_.out
  have B_1_ : (w2).cell? ⟨w1.heap.size, 1, none⟩ = some (.slice pd nd cd) := cell_of_row _ _ 1 _ _ _ rB15_.out
  have B_2_ : (w2).cell? ⟨w1.heap.size, 2, none⟩ = some (.int .i64 r) := cell_of_row _ _ 2 _ _ _ rB15_.out
  have hlo_ : W.heap.size ≤ W.heap.size + 1 + 1 := by omega
  go_wp2
  refine bodyPost_ret (v := .tuple #[.agg #[.int .i64 m, .slice pd nd cd, .int .i64 r], .bool false]) (by simp [results, go_sem, R_0_, R_1_, R_2_]) rfl ⟨_, rfl, ?_, ?_⟩
  · exact OwU.wide (lo := W.heap.size + 1 + 1) (hi := w1.heap.size) hlo_ (by simp only [World.size_setCell]; omega) (OwU.keep (chg_one _ (W.heap.size + 1) 2 (.int .i64 r)) (by omega) (OwU.keep (chg_one _ (W.heap.size + 1) 1 (.slice pd nd cd)) (by omega) (OwU.keep (chg_one _ (W.heap.size + 1) 0 (.int .i64 m)) (by omega) oC16_.out)))
  · exact (gby_setnew (gby_setnew (gby_setnew G17_.out _ (by dsimp only; omega) _) _ (by dsimp only; omega) _) _ (by dsimp only; omega) _)

set_option maxRecDepth 8000 in
set_option maxHeartbeats 4000000 in
theorem specQu_nob (W : World) (m r : Int) (v : Value) (xs : List DFrame) (H : RdL shFrame W v xs) (hl : szL shFrame xs ≤ 1048576) (u : Value) (ys : List Int) (Hu : RdL shI W u ys) (hly : szL shI ys ≤ 1048576) (hv : SndP m r xs) (hb : ¬ AreB ys) : Calls Try.prog 24 #[.agg #[.int .i64 m, v, .int .i64 r], u] W (ResIQueueFrame m xs r false W) := by
  have HV := Lib.hid hv
  clear hv
  have HBY := Lib.hid (show false = decide (AreB ys) from (decide_eq_false hb).symm)
  clear hb
  have HYL := Lib.hid hly
  obtain ⟨pu, nu, cu, rfl⟩ := RdL.form Hu
  have HY := Lib.hid Hu
  clear hly Hu
  have HX := Lib.hid H
  have HL := Lib.hid hl
  obtain ⟨a0, n0, cap0, rfl⟩ := RdL.form H
  have hn0 : n0 = xs.length := by obtain ⟨_, _, e, _⟩ := H; injection e
  have HE := Lib.hid hn0
  have hlx : n0 ≤ 1048576 := by have := szL_len shFrame xs; omega
  clear H hl hn0
  go_enter Try.func24, Try.ntmps24
  have rA1_ := Lib.hid (show (((W.alloc (.cells #[.int .i64 m, .slice a0 n0 cap0, .int .i64 r] 29)).alloc (.cells #[.int .i64 0, .slice none 0 0, .int .i64 0] 29))).heap[W.heap.size]? = some (.cells #[.int .i64 m, .slice a0 n0 cap0, .int .i64 r] 29 (0, 0)) from by rw [heap_alloc_old _ _ (by simp only [World.size_alloc]; omega)]; exact heap_alloc_new _ _)
  have rR2_ := Lib.hid (show (((W.alloc (.cells #[.int .i64 m, .slice a0 n0 cap0, .int .i64 r] 29)).alloc (.cells #[.int .i64 0, .slice none 0 0, .int .i64 0] 29))).heap[W.heap.size + 1]? = some (.cells #[.int .i64 0, .slice none 0 0, .int .i64 0] 29 (0, 0)) from by exact heap_pair _ _ _)
  have G3_ := Lib.hid (show (W).grownBy (((W.alloc (.cells #[.int .i64 m, .slice a0 n0 cap0, .int .i64 r] 29)).alloc (.cells #[.int .i64 0, .slice none 0 0, .int .i64 0] 29))) none from (gby_alloc (gby_alloc (gby_refl _ _) _) _))
  have A_0_ : (((W.alloc (.cells #[.int .i64 m, .slice a0 n0 cap0, .int .i64 r] 29)).alloc (.cells #[.int .i64 0, .slice none 0 0, .int .i64 0] 29))).cell? ⟨W.heap.size, 0, none⟩ = some (.int .i64 m) := cell_of_row _ _ 0 _ _ _ rA1_.out
  have A_1_ : (((W.alloc (.cells #[.int .i64 m, .slice a0 n0 cap0, .int .i64 r] 29)).alloc (.cells #[.int .i64 0, .slice none 0 0, .int .i64 0] 29))).cell? ⟨W.heap.size, 1, none⟩ = some (.slice a0 n0 cap0) := cell_of_row _ _ 1 _ _ _ rA1_.out
  have A_2_ : (((W.alloc (.cells #[.int .i64 m, .slice a0 n0 cap0, .int .i64 r] 29)).alloc (.cells #[.int .i64 0, .slice none 0 0, .int .i64 0] 29))).cell? ⟨W.heap.size, 2, none⟩ = some (.int .i64 r) := cell_of_row _ _ 2 _ _ _ rA1_.out
  have R_0_ : (((W.alloc (.cells #[.int .i64 m, .slice a0 n0 cap0, .int .i64 r] 29)).alloc (.cells #[.int .i64 0, .slice none 0 0, .int .i64 0] 29))).cell? ⟨W.heap.size + 1, 0, none⟩ = some (.int .i64 0) := cell_of_row _ _ 0 _ _ _ rR2_.out
  have R_1_ : (((W.alloc (.cells #[.int .i64 m, .slice a0 n0 cap0, .int .i64 r] 29)).alloc (.cells #[.int .i64 0, .slice none 0 0, .int .i64 0] 29))).cell? ⟨W.heap.size + 1, 1, none⟩ = some (.slice none 0 0) := cell_of_row _ _ 1 _ _ _ rR2_.out
  have R_2_ : (((W.alloc (.cells #[.int .i64 m, .slice a0 n0 cap0, .int .i64 r] 29)).alloc (.cells #[.int .i64 0, .slice none 0 0, .int .i64 0] 29))).cell? ⟨W.heap.size + 1, 2, none⟩ = some (.int .i64 0) := cell_of_row _ _ 2 _ _ _ rR2_.out
  go_wp2_with fail
  go_at_call 40
  refine (l08Copy_d _ m r _ xs (HX.out.grow G3_.out) HL.out).mono ?_
  rintro e w1 ⟨d_, rfl, o, g⟩
  have szw1 := g.size
  try simp only [World.size_alloc] at szw1 o
  try unfold vSender
  clear A_0_ A_1_ A_2_ R_0_ R_1_ R_2_
  have rA4_ := Lib.hid (show (w1).heap[W.heap.size]? = some (.cells #[.int .i64 m, .slice a0 n0 cap0, .int .i64 r] 29 (0, 0)) from row_held g rA1_.out)
  clear rA1_
  have rR5_ := Lib.hid (show (w1).heap[W.heap.size + 1]? = some (.cells #[.int .i64 0, .slice none 0 0, .int .i64 0] 29 (0, 0)) from row_held g rR2_.out)
  clear rR2_
  have G6_ := Lib.hid (show (W).grownBy (w1) none from gby_trans G3_.out g)
  obtain ⟨pd, nd, cd, hv_⟩ := RdL.form (OwU.rd o)
  subst hv_
  clear g
  have oC7_ := Lib.hid (show OwU (w1) (W.heap.size + 1 + 1) (w1.heap.size) [] [own shFrame (.slice pd nd cd) xs] from o)
  clear o
  have al_ : (w1).grownBy ((w1).alloc (.cells #[.int .i64 m, .slice pd nd cd, .int .i64 r] 29)) none := gby_alloc (gby_refl _ _) _
  have rA8_ := Lib.hid (show ((w1.alloc (.cells #[.int .i64 m, .slice pd nd cd, .int .i64 r] 29))).heap[W.heap.size]? = some (.cells #[.int .i64 m, .slice a0 n0 cap0, .int .i64 r] 29 (0, 0)) from row_held al_ rA4_.out)
  clear rA4_
  have rR9_ := Lib.hid (show ((w1.alloc (.cells #[.int .i64 m, .slice pd nd cd, .int .i64 r] 29))).heap[W.heap.size + 1]? = some (.cells #[.int .i64 0, .slice none 0 0, .int .i64 0] 29 (0, 0)) from row_held al_ rR5_.out)
  clear rR5_
  have oC10_ := Lib.hid (show OwU ((w1.alloc (.cells #[.int .i64 m, .slice pd nd cd, .int .i64 r] 29))) (W.heap.size + 1 + 1) (w1.heap.size) [] [own shFrame (.slice pd nd cd) xs] from OwU.grow oC7_.out al_)
  clear oC7_
  have G11_ := Lib.hid (show (W).grownBy ((w1.alloc (.cells #[.int .i64 m, .slice pd nd cd, .int .i64 r] 29))) none from gby_trans G6_.out al_)
  have rB12_ := Lib.hid (show ((w1.alloc (.cells #[.int .i64 m, .slice pd nd cd, .int .i64 r] 29))).heap[w1.heap.size]? = some (.cells #[.int .i64 m, .slice pd nd cd, .int .i64 r] 29 (0, 0)) from by first | exact heap_alloc_new _ _ | exact heap_pair _ _ _ | exact heap_trip _ _ _ _)
  clear al_
  have A_0_ : ((w1.alloc (.cells #[.int .i64 m, .slice pd nd cd, .int .i64 r] 29))).cell? ⟨W.heap.size, 0, none⟩ = some (.int .i64 m) := cell_of_row _ _ 0 _ _ _ rA8_.out
  have A_1_ : ((w1.alloc (.cells #[.int .i64 m, .slice pd nd cd, .int .i64 r] 29))).cell? ⟨W.heap.size, 1, none⟩ = some (.slice a0 n0 cap0) := cell_of_row _ _ 1 _ _ _ rA8_.out
  have A_2_ : ((w1.alloc (.cells #[.int .i64 m, .slice pd nd cd, .int .i64 r] 29))).cell? ⟨W.heap.size, 2, none⟩ = some (.int .i64 r) := cell_of_row _ _ 2 _ _ _ rA8_.out
  have R_0_ : ((w1.alloc (.cells #[.int .i64 m, .slice pd nd cd, .int .i64 r] 29))).cell? ⟨W.heap.size + 1, 0, none⟩ = some (.int .i64 0) := cell_of_row _ _ 0 _ _ _ rR9_.out
  have R_1_ : ((w1.alloc (.cells #[.int .i64 m, .slice pd nd cd, .int .i64 r] 29))).cell? ⟨W.heap.size + 1, 1, none⟩ = some (.slice none 0 0) := cell_of_row _ _ 1 _ _ _ rR9_.out
  have R_2_ : ((w1.alloc (.cells #[.int .i64 m, .slice pd nd cd, .int .i64 r] 29))).cell? ⟨W.heap.size + 1, 2, none⟩ = some (.int .i64 0) := cell_of_row _ _ 2 _ _ _ rR9_.out
  have B_0_ : ((w1.alloc (.cells #[.int .i64 m, .slice pd nd cd, .int .i64 r] 29))).cell? ⟨w1.heap.size, 0, none⟩ = some (.int .i64 m) := cell_of_row _ _ 0 _ _ _ rB12_.out
  have B_1_ : ((w1.alloc (.cells #[.int .i64 m, .slice pd nd cd, .int .i64 r] 29))).cell? ⟨w1.heap.size, 1, none⟩ = some (.slice pd nd cd) := cell_of_row _ _ 1 _ _ _ rB12_.out
  have B_2_ : ((w1.alloc (.cells #[.int .i64 m, .slice pd nd cd, .int .i64 r] 29))).cell? ⟨w1.heap.size, 2, none⟩ = some (.int .i64 r) := cell_of_row _ _ 2 _ _ _ rB12_.out
  clear A_0_ A_1_ A_2_ R_0_ R_1_ R_2_ B_0_ B_1_ B_2_
  have A_0_ : ((w1.alloc (.cells #[.int .i64 m, .slice pd nd cd, .int .i64 r] 29))).cell? ⟨W.heap.size, 0, none⟩ = some (.int .i64 m) := cell_of_row _ _ 0 _ _ _ rA8_.out
  have A_1_ : ((w1.alloc (.cells #[.int .i64 m, .slice pd nd cd, .int .i64 r] 29))).cell? ⟨W.heap.size, 1, none⟩ = some (.slice a0 n0 cap0) := cell_of_row _ _ 1 _ _ _ rA8_.out
  have A_2_ : ((w1.alloc (.cells #[.int .i64 m, .slice pd nd cd, .int .i64 r] 29))).cell? ⟨W.heap.size, 2, none⟩ = some (.int .i64 r) := cell_of_row _ _ 2 _ _ _ rA8_.out
  go_wp2_with fail
  go_at_call 9
  refine ((specSnd _ m r _ xs (HX.out.grow G11_.out) HL.out).mono (bpost_yes HV.out)).mono ?_
  rintro e w2 ⟨rfl, g⟩
  have szw2 := g.size
  try simp only [World.size_alloc] at szw2
  try simp only [World.size_setCell] at szw2
  clear A_0_ A_1_ A_2_
  have rA13_ := Lib.hid (show (w2).heap[W.heap.size]? = some (.cells #[.int .i64 m, .slice a0 n0 cap0, .int .i64 r] 29 (0, 0)) from row_held g rA8_.out)
  clear rA8_
  have rR14_ := Lib.hid (show (w2).heap[W.heap.size + 1]? = some (.cells #[.int .i64 0, .slice none 0 0, .int .i64 0] 29 (0, 0)) from row_held g rR9_.out)
  clear rR9_
  have rB15_ := Lib.hid (show (w2).heap[w1.heap.size]? = some (.cells #[.int .i64 m, .slice pd nd cd, .int .i64 r] 29 (0, 0)) from row_held g rB12_.out)
  clear rB12_
  have oC16_ := Lib.hid (show OwU (w2) (W.heap.size + 1 + 1) (w1.heap.size) [] [own shFrame (.slice pd nd cd) xs] from OwU.grow oC10_.out g)
  clear oC10_
  have G17_ := Lib.hid (show (W).grownBy (w2) none from gby_trans G11_.out g)
  clear g
  have A_0_ : (w2).cell? ⟨W.heap.size, 0, none⟩ = some (.int .i64 m) := cell_of_row _ _ 0 _ _ _ rA13_.out
  have A_1_ : (w2).cell? ⟨W.heap.size, 1, none⟩ = some (.slice a0 n0 cap0) := cell_of_row _ _ 1 _ _ _ rA13_.out
  have A_2_ : (w2).cell? ⟨W.heap.size, 2, none⟩ = some (.int .i64 r) := cell_of_row _ _ 2 _ _ _ rA13_.out
  have R_0_ : (w2).cell? ⟨W.heap.size + 1, 0, none⟩ = some (.int .i64 0) := cell_of_row _ _ 0 _ _ _ rR14_.out
  have R_1_ : (w2).cell? ⟨W.heap.size + 1, 1, none⟩ = some (.slice none 0 0) := cell_of_row _ _ 1 _ _ _ rR14_.out
  have R_2_ : (w2).cell? ⟨W.heap.size + 1, 2, none⟩ = some (.int .i64 0) := cell_of_row _ _ 2 _ _ _ rR14_.out
  have B_0_ : (w2).cell? ⟨w1.heap.size, 0, none⟩ = some (.int .i64 m) := cell_of_row _ _ 0 _ _ _ rB15_.out
  have B_1_ : (w2).cell? ⟨w1.heap.size, 1, none⟩ = some (.slice pd nd cd) := cell_of_row _ _ 1 _ _ _ rB15_.out
  have B_2_ : (w2).cell? ⟨w1.heap.size, 2, none⟩ = some (.int .i64 r) := cell_of_row _ _ 2 _ _ _ rB15_.out
  go_wp2_with fail
  go_at_call 33
  refine (specByD _ _ ys (HY.out.grow G17_.out) HYL.out false HBY.out).mono ?_
  rintro e w3 ⟨rfl, g⟩
  have szw3 := g.size
  try simp only [World.size_alloc] at szw3
  try simp only [World.size_setCell] at szw3
  clear A_0_ A_1_ A_2_ R_0_ R_1_ R_2_ B_0_ B_1_ B_2_
  have rA18_ := Lib.hid (show (w3).heap[W.heap.size]? = some (.cells #[.int .i64 m, .slice a0 n0 cap0, .int .i64 r] 29 (0, 0)) from row_held g rA13_.out)
  clear rA13_
  have rR19_ := Lib.hid (show (w3).heap[W.heap.size + 1]? = some (.cells #[.int .i64 0, .slice none 0 0, .int .i64 0] 29 (0, 0)) from row_held g rR14_.out)
  clear rR14_
  have rB20_ := Lib.hid (show (w3).heap[w1.heap.size]? = some (.cells #[.int .i64 m, .slice pd nd cd, .int .i64 r] 29 (0, 0)) from row_held g rB15_.out)
  clear rB15_
  have oC21_ := Lib.hid (show OwU (w3) (W.heap.size + 1 + 1) (w1.heap.size) [] [own shFrame (.slice pd nd cd) xs] from OwU.grow oC16_.out g)
  clear oC16_
  have G22_ := Lib.hid (show (W).grownBy (w3) none from gby_trans G17_.out g)
  clear g
  have A_0_ : (w3).cell? ⟨W.heap.size, 0, none⟩ = some (.int .i64 m) := cell_of_row _ _ 0 _ _ _ rA18_.out
  have A_1_ : (w3).cell? ⟨W.heap.size, 1, none⟩ = some (.slice a0 n0 cap0) := cell_of_row _ _ 1 _ _ _ rA18_.out
  have A_2_ : (w3).cell? ⟨W.heap.size, 2, none⟩ = some (.int .i64 r) := cell_of_row _ _ 2 _ _ _ rA18_.out
  have R_0_ : (w3).cell? ⟨W.heap.size + 1, 0, none⟩ = some (.int .i64 0) := cell_of_row _ _ 0 _ _ _ rR19_.out
  have R_1_ : (w3).cell? ⟨W.heap.size + 1, 1, none⟩ = some (.slice none 0 0) := cell_of_row _ _ 1 _ _ _ rR19_.out
  have R_2_ : (w3).cell? ⟨W.heap.size + 1, 2, none⟩ = some (.int .i64 0) := cell_of_row _ _ 2 _ _ _ rR19_.out
  have B_0_ : (w3).cell? ⟨w1.heap.size, 0, none⟩ = some (.int .i64 m) := cell_of_row _ _ 0 _ _ _ rB20_.out
  have B_1_ : (w3).cell? ⟨w1.heap.size, 1, none⟩ = some (.slice pd nd cd) := cell_of_row _ _ 1 _ _ _ rB20_.out
  have B_2_ : (w3).cell? ⟨w1.heap.size, 2, none⟩ = some (.int .i64 r) := cell_of_row _ _ 2 _ _ _ rB20_.out
  clear A_0_ A_1_ A_2_ R_0_ R_1_ R_2_ B_0_ B_1_ B_2_
  have A_0_ : (w3).cell? ⟨W.heap.size, 0, none⟩ = some (.int .i64 m) := cell_of_row _ _ 0 _ _ _ rA18_.out
  have A_1_ : (w3).cell? ⟨W.heap.size, 1, none⟩ = some (.slice a0 n0 cap0) := cell_of_row _ _ 1 _ _ _ rA18_.out
  have A_2_ : (w3).cell? ⟨W.heap.size, 2, none⟩ = some (.int .i64 r) := cell_of_row _ _ 2 _ _ _ rA18_.out
  have R_0_ : (w3).cell? ⟨W.heap.size + 1, 0, none⟩ = some (.int .i64 0) := cell_of_row _ _ 0 _ _ _ rR19_.out
  have R_1_ : (w3).cell? ⟨W.heap.size + 1, 1, none⟩ = some (.slice none 0 0) := cell_of_row _ _ 1 _ _ _ rR19_.out
  have R_2_ : (w3).cell? ⟨W.heap.size + 1, 2, none⟩ = some (.int .i64 0) := cell_of_row _ _ 2 _ _ _ rR19_.out
  have Rf0_ : (w3).frozen? ⟨W.heap.size + 1, 0, none⟩ = false := frozen_of_row _ _ 0 _ _ rR19_.out
  have Rf1_ : (w3).frozen? ⟨W.heap.size + 1, 1, none⟩ = false := frozen_of_row _ _ 1 _ _ rR19_.out
  have Rf2_ : (w3).frozen? ⟨W.heap.size + 1, 2, none⟩ = false := frozen_of_row _ _ 2 _ _ rR19_.out
  have B_0_ : (w3).cell? ⟨w1.heap.size, 0, none⟩ = some (.int .i64 m) := cell_of_row _ _ 0 _ _ _ rB20_.out
  have B_1_ : (w3).cell? ⟨w1.heap.size, 1, none⟩ = some (.slice pd nd cd) := cell_of_row _ _ 1 _ _ _ rB20_.out
  have B_2_ : (w3).cell? ⟨w1.heap.size, 2, none⟩ = some (.int .i64 r) := cell_of_row _ _ 2 _ _ _ rB20_.out
  have hlo_ : W.heap.size ≤ W.heap.size + 1 + 1 := by omega
  go_wp2
  refine bodyPost_ret (v := .tuple #[.agg #[.int .i64 m, .slice pd nd cd, .int .i64 r], .bool false]) (by simp [results, go_sem, R_0_, R_1_, R_2_]) rfl ⟨_, rfl, ?_, ?_⟩
  · exact OwU.wide (lo := W.heap.size + 1 + 1) (hi := w1.heap.size) hlo_ (by simp only [World.size_setCell]; omega) (OwU.keep (chg_one _ (W.heap.size + 1) 2 (.int .i64 r)) (by omega) (OwU.keep (chg_one _ (W.heap.size + 1) 1 (.slice pd nd cd)) (by omega) (OwU.keep (chg_one _ (W.heap.size + 1) 0 (.int .i64 m)) (by omega) oC21_.out)))
  · exact (gby_setnew (gby_setnew (gby_setnew G22_.out _ (by dsimp only; omega) _) _ (by dsimp only; omega) _) _ (by dsimp only; omega) _)

set_option maxRecDepth 8000 in
set_option maxHeartbeats 4000000 in
theorem specQu_full (W : World) (m r : Int) (v : Value) (xs : List DFrame) (H : RdL shFrame W v xs) (hl : szL shFrame xs ≤ 1048576) (u : Value) (ys : List Int) (Hu : RdL shI W u ys) (hly : szL shI ys ≤ 1048576) (hv : SndP m r xs) (hb : AreB ys) (h7 : xs.length = 7) : Calls Try.prog 24 #[.agg #[.int .i64 m, v, .int .i64 r], u] W (ResIQueueFrame m xs r false W) := by
  have HV := Lib.hid hv
  clear hv
  have HBY := Lib.hid (show true = decide (AreB ys) from (decide_eq_true hb).symm)
  clear hb
  have HF7 := Lib.hid h7
  clear h7
  have HYL := Lib.hid hly
  obtain ⟨pu, nu, cu, rfl⟩ := RdL.form Hu
  have HY := Lib.hid Hu
  clear hly Hu
  have HX := Lib.hid H
  have HL := Lib.hid hl
  obtain ⟨a0, n0, cap0, rfl⟩ := RdL.form H
  have hn0 : n0 = xs.length := by obtain ⟨_, _, e, _⟩ := H; injection e
  have HE := Lib.hid hn0
  have hlx : n0 ≤ 1048576 := by have := szL_len shFrame xs; omega
  clear H hl hn0
  go_enter Try.func24, Try.ntmps24
  have rA1_ := Lib.hid (show (((W.alloc (.cells #[.int .i64 m, .slice a0 n0 cap0, .int .i64 r] 29)).alloc (.cells #[.int .i64 0, .slice none 0 0, .int .i64 0] 29))).heap[W.heap.size]? = some (.cells #[.int .i64 m, .slice a0 n0 cap0, .int .i64 r] 29 (0, 0)) from by rw [heap_alloc_old _ _ (by simp only [World.size_alloc]; omega)]; exact heap_alloc_new _ _)
  have rR2_ := Lib.hid (show (((W.alloc (.cells #[.int .i64 m, .slice a0 n0 cap0, .int .i64 r] 29)).alloc (.cells #[.int .i64 0, .slice none 0 0, .int .i64 0] 29))).heap[W.heap.size + 1]? = some (.cells #[.int .i64 0, .slice none 0 0, .int .i64 0] 29 (0, 0)) from by exact heap_pair _ _ _)
  have G3_ := Lib.hid (show (W).grownBy (((W.alloc (.cells #[.int .i64 m, .slice a0 n0 cap0, .int .i64 r] 29)).alloc (.cells #[.int .i64 0, .slice none 0 0, .int .i64 0] 29))) none from (gby_alloc (gby_alloc (gby_refl _ _) _) _))
  have A_0_ : (((W.alloc (.cells #[.int .i64 m, .slice a0 n0 cap0, .int .i64 r] 29)).alloc (.cells #[.int .i64 0, .slice none 0 0, .int .i64 0] 29))).cell? ⟨W.heap.size, 0, none⟩ = some (.int .i64 m) := cell_of_row _ _ 0 _ _ _ rA1_.out
  have A_1_ : (((W.alloc (.cells #[.int .i64 m, .slice a0 n0 cap0, .int .i64 r] 29)).alloc (.cells #[.int .i64 0, .slice none 0 0, .int .i64 0] 29))).cell? ⟨W.heap.size, 1, none⟩ = some (.slice a0 n0 cap0) := cell_of_row _ _ 1 _ _ _ rA1_.out
  have A_2_ : (((W.alloc (.cells #[.int .i64 m, .slice a0 n0 cap0, .int .i64 r] 29)).alloc (.cells #[.int .i64 0, .slice none 0 0, .int .i64 0] 29))).cell? ⟨W.heap.size, 2, none⟩ = some (.int .i64 r) := cell_of_row _ _ 2 _ _ _ rA1_.out
  have R_0_ : (((W.alloc (.cells #[.int .i64 m, .slice a0 n0 cap0, .int .i64 r] 29)).alloc (.cells #[.int .i64 0, .slice none 0 0, .int .i64 0] 29))).cell? ⟨W.heap.size + 1, 0, none⟩ = some (.int .i64 0) := cell_of_row _ _ 0 _ _ _ rR2_.out
  have R_1_ : (((W.alloc (.cells #[.int .i64 m, .slice a0 n0 cap0, .int .i64 r] 29)).alloc (.cells #[.int .i64 0, .slice none 0 0, .int .i64 0] 29))).cell? ⟨W.heap.size + 1, 1, none⟩ = some (.slice none 0 0) := cell_of_row _ _ 1 _ _ _ rR2_.out
  have R_2_ : (((W.alloc (.cells #[.int .i64 m, .slice a0 n0 cap0, .int .i64 r] 29)).alloc (.cells #[.int .i64 0, .slice none 0 0, .int .i64 0] 29))).cell? ⟨W.heap.size + 1, 2, none⟩ = some (.int .i64 0) := cell_of_row _ _ 2 _ _ _ rR2_.out
  go_wp2_with fail
  go_at_call 40
  refine (l08Copy_d _ m r _ xs (HX.out.grow G3_.out) HL.out).mono ?_
  rintro e w1 ⟨d_, rfl, o, g⟩
  have szw1 := g.size
  try simp only [World.size_alloc] at szw1 o
  try unfold vSender
  clear A_0_ A_1_ A_2_ R_0_ R_1_ R_2_
  have rA4_ := Lib.hid (show (w1).heap[W.heap.size]? = some (.cells #[.int .i64 m, .slice a0 n0 cap0, .int .i64 r] 29 (0, 0)) from row_held g rA1_.out)
  clear rA1_
  have rR5_ := Lib.hid (show (w1).heap[W.heap.size + 1]? = some (.cells #[.int .i64 0, .slice none 0 0, .int .i64 0] 29 (0, 0)) from row_held g rR2_.out)
  clear rR2_
  have G6_ := Lib.hid (show (W).grownBy (w1) none from gby_trans G3_.out g)
  obtain ⟨pd, nd, cd, hv_⟩ := RdL.form (OwU.rd o)
  subst hv_
  clear g
  have oC7_ := Lib.hid (show OwU (w1) (W.heap.size + 1 + 1) (w1.heap.size) [] [own shFrame (.slice pd nd cd) xs] from o)
  clear o
  have al_ : (w1).grownBy ((w1).alloc (.cells #[.int .i64 m, .slice pd nd cd, .int .i64 r] 29)) none := gby_alloc (gby_refl _ _) _
  have rA8_ := Lib.hid (show ((w1.alloc (.cells #[.int .i64 m, .slice pd nd cd, .int .i64 r] 29))).heap[W.heap.size]? = some (.cells #[.int .i64 m, .slice a0 n0 cap0, .int .i64 r] 29 (0, 0)) from row_held al_ rA4_.out)
  clear rA4_
  have rR9_ := Lib.hid (show ((w1.alloc (.cells #[.int .i64 m, .slice pd nd cd, .int .i64 r] 29))).heap[W.heap.size + 1]? = some (.cells #[.int .i64 0, .slice none 0 0, .int .i64 0] 29 (0, 0)) from row_held al_ rR5_.out)
  clear rR5_
  have oC10_ := Lib.hid (show OwU ((w1.alloc (.cells #[.int .i64 m, .slice pd nd cd, .int .i64 r] 29))) (W.heap.size + 1 + 1) (w1.heap.size) [] [own shFrame (.slice pd nd cd) xs] from OwU.grow oC7_.out al_)
  clear oC7_
  have G11_ := Lib.hid (show (W).grownBy ((w1.alloc (.cells #[.int .i64 m, .slice pd nd cd, .int .i64 r] 29))) none from gby_trans G6_.out al_)
  have rB12_ := Lib.hid (show ((w1.alloc (.cells #[.int .i64 m, .slice pd nd cd, .int .i64 r] 29))).heap[w1.heap.size]? = some (.cells #[.int .i64 m, .slice pd nd cd, .int .i64 r] 29 (0, 0)) from by first | exact heap_alloc_new _ _ | exact heap_pair _ _ _ | exact heap_trip _ _ _ _)
  clear al_
  have A_0_ : ((w1.alloc (.cells #[.int .i64 m, .slice pd nd cd, .int .i64 r] 29))).cell? ⟨W.heap.size, 0, none⟩ = some (.int .i64 m) := cell_of_row _ _ 0 _ _ _ rA8_.out
  have A_1_ : ((w1.alloc (.cells #[.int .i64 m, .slice pd nd cd, .int .i64 r] 29))).cell? ⟨W.heap.size, 1, none⟩ = some (.slice a0 n0 cap0) := cell_of_row _ _ 1 _ _ _ rA8_.out
  have A_2_ : ((w1.alloc (.cells #[.int .i64 m, .slice pd nd cd, .int .i64 r] 29))).cell? ⟨W.heap.size, 2, none⟩ = some (.int .i64 r) := cell_of_row _ _ 2 _ _ _ rA8_.out
  have R_0_ : ((w1.alloc (.cells #[.int .i64 m, .slice pd nd cd, .int .i64 r] 29))).cell? ⟨W.heap.size + 1, 0, none⟩ = some (.int .i64 0) := cell_of_row _ _ 0 _ _ _ rR9_.out
  have R_1_ : ((w1.alloc (.cells #[.int .i64 m, .slice pd nd cd, .int .i64 r] 29))).cell? ⟨W.heap.size + 1, 1, none⟩ = some (.slice none 0 0) := cell_of_row _ _ 1 _ _ _ rR9_.out
  have R_2_ : ((w1.alloc (.cells #[.int .i64 m, .slice pd nd cd, .int .i64 r] 29))).cell? ⟨W.heap.size + 1, 2, none⟩ = some (.int .i64 0) := cell_of_row _ _ 2 _ _ _ rR9_.out
  have B_0_ : ((w1.alloc (.cells #[.int .i64 m, .slice pd nd cd, .int .i64 r] 29))).cell? ⟨w1.heap.size, 0, none⟩ = some (.int .i64 m) := cell_of_row _ _ 0 _ _ _ rB12_.out
  have B_1_ : ((w1.alloc (.cells #[.int .i64 m, .slice pd nd cd, .int .i64 r] 29))).cell? ⟨w1.heap.size, 1, none⟩ = some (.slice pd nd cd) := cell_of_row _ _ 1 _ _ _ rB12_.out
  have B_2_ : ((w1.alloc (.cells #[.int .i64 m, .slice pd nd cd, .int .i64 r] 29))).cell? ⟨w1.heap.size, 2, none⟩ = some (.int .i64 r) := cell_of_row _ _ 2 _ _ _ rB12_.out
  clear A_0_ A_1_ A_2_ R_0_ R_1_ R_2_ B_0_ B_1_ B_2_
  have A_0_ : ((w1.alloc (.cells #[.int .i64 m, .slice pd nd cd, .int .i64 r] 29))).cell? ⟨W.heap.size, 0, none⟩ = some (.int .i64 m) := cell_of_row _ _ 0 _ _ _ rA8_.out
  have A_1_ : ((w1.alloc (.cells #[.int .i64 m, .slice pd nd cd, .int .i64 r] 29))).cell? ⟨W.heap.size, 1, none⟩ = some (.slice a0 n0 cap0) := cell_of_row _ _ 1 _ _ _ rA8_.out
  have A_2_ : ((w1.alloc (.cells #[.int .i64 m, .slice pd nd cd, .int .i64 r] 29))).cell? ⟨W.heap.size, 2, none⟩ = some (.int .i64 r) := cell_of_row _ _ 2 _ _ _ rA8_.out
  go_wp2_with fail
  go_at_call 9
  refine ((specSnd _ m r _ xs (HX.out.grow G11_.out) HL.out).mono (bpost_yes HV.out)).mono ?_
  rintro e w2 ⟨rfl, g⟩
  have szw2 := g.size
  try simp only [World.size_alloc] at szw2
  try simp only [World.size_setCell] at szw2
  clear A_0_ A_1_ A_2_
  have rA13_ := Lib.hid (show (w2).heap[W.heap.size]? = some (.cells #[.int .i64 m, .slice a0 n0 cap0, .int .i64 r] 29 (0, 0)) from row_held g rA8_.out)
  clear rA8_
  have rR14_ := Lib.hid (show (w2).heap[W.heap.size + 1]? = some (.cells #[.int .i64 0, .slice none 0 0, .int .i64 0] 29 (0, 0)) from row_held g rR9_.out)
  clear rR9_
  have rB15_ := Lib.hid (show (w2).heap[w1.heap.size]? = some (.cells #[.int .i64 m, .slice pd nd cd, .int .i64 r] 29 (0, 0)) from row_held g rB12_.out)
  clear rB12_
  have oC16_ := Lib.hid (show OwU (w2) (W.heap.size + 1 + 1) (w1.heap.size) [] [own shFrame (.slice pd nd cd) xs] from OwU.grow oC10_.out g)
  clear oC10_
  have G17_ := Lib.hid (show (W).grownBy (w2) none from gby_trans G11_.out g)
  clear g
  have A_0_ : (w2).cell? ⟨W.heap.size, 0, none⟩ = some (.int .i64 m) := cell_of_row _ _ 0 _ _ _ rA13_.out
  have A_1_ : (w2).cell? ⟨W.heap.size, 1, none⟩ = some (.slice a0 n0 cap0) := cell_of_row _ _ 1 _ _ _ rA13_.out
  have A_2_ : (w2).cell? ⟨W.heap.size, 2, none⟩ = some (.int .i64 r) := cell_of_row _ _ 2 _ _ _ rA13_.out
  have R_0_ : (w2).cell? ⟨W.heap.size + 1, 0, none⟩ = some (.int .i64 0) := cell_of_row _ _ 0 _ _ _ rR14_.out
  have R_1_ : (w2).cell? ⟨W.heap.size + 1, 1, none⟩ = some (.slice none 0 0) := cell_of_row _ _ 1 _ _ _ rR14_.out
  have R_2_ : (w2).cell? ⟨W.heap.size + 1, 2, none⟩ = some (.int .i64 0) := cell_of_row _ _ 2 _ _ _ rR14_.out
  have B_0_ : (w2).cell? ⟨w1.heap.size, 0, none⟩ = some (.int .i64 m) := cell_of_row _ _ 0 _ _ _ rB15_.out
  have B_1_ : (w2).cell? ⟨w1.heap.size, 1, none⟩ = some (.slice pd nd cd) := cell_of_row _ _ 1 _ _ _ rB15_.out
  have B_2_ : (w2).cell? ⟨w1.heap.size, 2, none⟩ = some (.int .i64 r) := cell_of_row _ _ 2 _ _ _ rB15_.out
  go_wp2_with fail
  go_at_call 33
  refine (specByD _ _ ys (HY.out.grow G17_.out) HYL.out true HBY.out).mono ?_
  rintro e w3 ⟨rfl, g⟩
  have szw3 := g.size
  try simp only [World.size_alloc] at szw3
  try simp only [World.size_setCell] at szw3
  clear A_0_ A_1_ A_2_ R_0_ R_1_ R_2_ B_0_ B_1_ B_2_
  have rA18_ := Lib.hid (show (w3).heap[W.heap.size]? = some (.cells #[.int .i64 m, .slice a0 n0 cap0, .int .i64 r] 29 (0, 0)) from row_held g rA13_.out)
  clear rA13_
  have rR19_ := Lib.hid (show (w3).heap[W.heap.size + 1]? = some (.cells #[.int .i64 0, .slice none 0 0, .int .i64 0] 29 (0, 0)) from row_held g rR14_.out)
  clear rR14_
  have rB20_ := Lib.hid (show (w3).heap[w1.heap.size]? = some (.cells #[.int .i64 m, .slice pd nd cd, .int .i64 r] 29 (0, 0)) from row_held g rB15_.out)
  clear rB15_
  have oC21_ := Lib.hid (show OwU (w3) (W.heap.size + 1 + 1) (w1.heap.size) [] [own shFrame (.slice pd nd cd) xs] from OwU.grow oC16_.out g)
  clear oC16_
  have G22_ := Lib.hid (show (W).grownBy (w3) none from gby_trans G17_.out g)
  clear g
  have A_0_ : (w3).cell? ⟨W.heap.size, 0, none⟩ = some (.int .i64 m) := cell_of_row _ _ 0 _ _ _ rA18_.out
  have A_1_ : (w3).cell? ⟨W.heap.size, 1, none⟩ = some (.slice a0 n0 cap0) := cell_of_row _ _ 1 _ _ _ rA18_.out
  have A_2_ : (w3).cell? ⟨W.heap.size, 2, none⟩ = some (.int .i64 r) := cell_of_row _ _ 2 _ _ _ rA18_.out
  have R_0_ : (w3).cell? ⟨W.heap.size + 1, 0, none⟩ = some (.int .i64 0) := cell_of_row _ _ 0 _ _ _ rR19_.out
  have R_1_ : (w3).cell? ⟨W.heap.size + 1, 1, none⟩ = some (.slice none 0 0) := cell_of_row _ _ 1 _ _ _ rR19_.out
  have R_2_ : (w3).cell? ⟨W.heap.size + 1, 2, none⟩ = some (.int .i64 0) := cell_of_row _ _ 2 _ _ _ rR19_.out
  have B_0_ : (w3).cell? ⟨w1.heap.size, 0, none⟩ = some (.int .i64 m) := cell_of_row _ _ 0 _ _ _ rB20_.out
  have B_1_ : (w3).cell? ⟨w1.heap.size, 1, none⟩ = some (.slice pd nd cd) := cell_of_row _ _ 1 _ _ _ rB20_.out
  have B_2_ : (w3).cell? ⟨w1.heap.size, 2, none⟩ = some (.int .i64 r) := cell_of_row _ _ 2 _ _ _ rB20_.out
  have h7_ : ((n0 : Int) == 7) = true := by have := HF7.out; have := HE.out; simp; omega
  clear A_0_ A_1_ A_2_ R_0_ R_1_ R_2_ B_0_ B_1_ B_2_
  have A_0_ : (w3).cell? ⟨W.heap.size, 0, none⟩ = some (.int .i64 m) := cell_of_row _ _ 0 _ _ _ rA18_.out
  have A_1_ : (w3).cell? ⟨W.heap.size, 1, none⟩ = some (.slice a0 n0 cap0) := cell_of_row _ _ 1 _ _ _ rA18_.out
  have A_2_ : (w3).cell? ⟨W.heap.size, 2, none⟩ = some (.int .i64 r) := cell_of_row _ _ 2 _ _ _ rA18_.out
  have R_0_ : (w3).cell? ⟨W.heap.size + 1, 0, none⟩ = some (.int .i64 0) := cell_of_row _ _ 0 _ _ _ rR19_.out
  have R_1_ : (w3).cell? ⟨W.heap.size + 1, 1, none⟩ = some (.slice none 0 0) := cell_of_row _ _ 1 _ _ _ rR19_.out
  have R_2_ : (w3).cell? ⟨W.heap.size + 1, 2, none⟩ = some (.int .i64 0) := cell_of_row _ _ 2 _ _ _ rR19_.out
  have Rf0_ : (w3).frozen? ⟨W.heap.size + 1, 0, none⟩ = false := frozen_of_row _ _ 0 _ _ rR19_.out
  have Rf1_ : (w3).frozen? ⟨W.heap.size + 1, 1, none⟩ = false := frozen_of_row _ _ 1 _ _ rR19_.out
  have Rf2_ : (w3).frozen? ⟨W.heap.size + 1, 2, none⟩ = false := frozen_of_row _ _ 2 _ _ rR19_.out
  have B_0_ : (w3).cell? ⟨w1.heap.size, 0, none⟩ = some (.int .i64 m) := cell_of_row _ _ 0 _ _ _ rB20_.out
  have B_1_ : (w3).cell? ⟨w1.heap.size, 1, none⟩ = some (.slice pd nd cd) := cell_of_row _ _ 1 _ _ _ rB20_.out
  have B_2_ : (w3).cell? ⟨w1.heap.size, 2, none⟩ = some (.int .i64 r) := cell_of_row _ _ 2 _ _ _ rB20_.out
  have hlo_ : W.heap.size ≤ W.heap.size + 1 + 1 := by omega
  go_wp2
  refine bodyPost_ret (v := .tuple #[.agg #[.int .i64 m, .slice pd nd cd, .int .i64 r], .bool false]) (by simp [results, go_sem, R_0_, R_1_, R_2_]) rfl ⟨_, rfl, ?_, ?_⟩
  · exact OwU.wide (lo := W.heap.size + 1 + 1) (hi := w1.heap.size) hlo_ (by simp only [World.size_setCell]; omega) (OwU.keep (chg_one _ (W.heap.size + 1) 2 (.int .i64 r)) (by omega) (OwU.keep (chg_one _ (W.heap.size + 1) 1 (.slice pd nd cd)) (by omega) (OwU.keep (chg_one _ (W.heap.size + 1) 0 (.int .i64 m)) (by omega) oC21_.out)))
  · exact (gby_setnew (gby_setnew (gby_setnew G22_.out _ (by dsimp only; omega) _) _ (by dsimp only; omega) _) _ (by dsimp only; omega) _)

set_option maxRecDepth 8000 in
set_option maxHeartbeats 4000000 in
theorem specQu_yes (W : World) (m r : Int) (v : Value) (xs : List DFrame) (H : RdL shFrame W v xs) (hl : szL shFrame xs ≤ 1048576) (u : Value) (ys : List Int) (Hu : RdL shI W u ys) (hly : szL shI ys ≤ 1048576) (hv : SndP m r xs) (hb : AreB ys) (h7 : xs.length < 7) : Calls Try.prog 24 #[.agg #[.int .i64 m, v, .int .i64 r], u] W (ResIQueueFrame (nextQ m) (xs ++ [⟨m, ys⟩]) r true W) := by
  have HV := Lib.hid hv
  clear hv
  have HBY := Lib.hid (show true = decide (AreB ys) from (decide_eq_true hb).symm)
  clear hb
  have HF7 := Lib.hid h7
  clear h7
  have HYL := Lib.hid hly
  obtain ⟨pu, nu, cu, rfl⟩ := RdL.form Hu
  have HY := Lib.hid Hu
  clear hly Hu
  have HX := Lib.hid H
  have HL := Lib.hid hl
  obtain ⟨a0, n0, cap0, rfl⟩ := RdL.form H
  have hn0 : n0 = xs.length := by obtain ⟨_, _, e, _⟩ := H; injection e
  have HE := Lib.hid hn0
  have hlx : n0 ≤ 1048576 := by have := szL_len shFrame xs; omega
  clear H hl hn0
  go_enter Try.func24, Try.ntmps24
  have rA1_ := Lib.hid (show (((W.alloc (.cells #[.int .i64 m, .slice a0 n0 cap0, .int .i64 r] 29)).alloc (.cells #[.int .i64 0, .slice none 0 0, .int .i64 0] 29))).heap[W.heap.size]? = some (.cells #[.int .i64 m, .slice a0 n0 cap0, .int .i64 r] 29 (0, 0)) from by rw [heap_alloc_old _ _ (by simp only [World.size_alloc]; omega)]; exact heap_alloc_new _ _)
  have rR2_ := Lib.hid (show (((W.alloc (.cells #[.int .i64 m, .slice a0 n0 cap0, .int .i64 r] 29)).alloc (.cells #[.int .i64 0, .slice none 0 0, .int .i64 0] 29))).heap[W.heap.size + 1]? = some (.cells #[.int .i64 0, .slice none 0 0, .int .i64 0] 29 (0, 0)) from by exact heap_pair _ _ _)
  have G3_ := Lib.hid (show (W).grownBy (((W.alloc (.cells #[.int .i64 m, .slice a0 n0 cap0, .int .i64 r] 29)).alloc (.cells #[.int .i64 0, .slice none 0 0, .int .i64 0] 29))) none from (gby_alloc (gby_alloc (gby_refl _ _) _) _))
  have A_0_ : (((W.alloc (.cells #[.int .i64 m, .slice a0 n0 cap0, .int .i64 r] 29)).alloc (.cells #[.int .i64 0, .slice none 0 0, .int .i64 0] 29))).cell? ⟨W.heap.size, 0, none⟩ = some (.int .i64 m) := cell_of_row _ _ 0 _ _ _ rA1_.out
  have A_1_ : (((W.alloc (.cells #[.int .i64 m, .slice a0 n0 cap0, .int .i64 r] 29)).alloc (.cells #[.int .i64 0, .slice none 0 0, .int .i64 0] 29))).cell? ⟨W.heap.size, 1, none⟩ = some (.slice a0 n0 cap0) := cell_of_row _ _ 1 _ _ _ rA1_.out
  have A_2_ : (((W.alloc (.cells #[.int .i64 m, .slice a0 n0 cap0, .int .i64 r] 29)).alloc (.cells #[.int .i64 0, .slice none 0 0, .int .i64 0] 29))).cell? ⟨W.heap.size, 2, none⟩ = some (.int .i64 r) := cell_of_row _ _ 2 _ _ _ rA1_.out
  have R_0_ : (((W.alloc (.cells #[.int .i64 m, .slice a0 n0 cap0, .int .i64 r] 29)).alloc (.cells #[.int .i64 0, .slice none 0 0, .int .i64 0] 29))).cell? ⟨W.heap.size + 1, 0, none⟩ = some (.int .i64 0) := cell_of_row _ _ 0 _ _ _ rR2_.out
  have R_1_ : (((W.alloc (.cells #[.int .i64 m, .slice a0 n0 cap0, .int .i64 r] 29)).alloc (.cells #[.int .i64 0, .slice none 0 0, .int .i64 0] 29))).cell? ⟨W.heap.size + 1, 1, none⟩ = some (.slice none 0 0) := cell_of_row _ _ 1 _ _ _ rR2_.out
  have R_2_ : (((W.alloc (.cells #[.int .i64 m, .slice a0 n0 cap0, .int .i64 r] 29)).alloc (.cells #[.int .i64 0, .slice none 0 0, .int .i64 0] 29))).cell? ⟨W.heap.size + 1, 2, none⟩ = some (.int .i64 0) := cell_of_row _ _ 2 _ _ _ rR2_.out
  go_wp2_with fail
  go_at_call 40
  refine (l08Copy_r _ m r _ xs (HX.out.grow G3_.out) HL.out).mono ?_
  rintro e w1 ⟨d_, rfl, o, g⟩
  have szw1 := g.size
  try simp only [World.size_alloc] at szw1 o
  try unfold vSender
  clear A_0_ A_1_ A_2_ R_0_ R_1_ R_2_
  have rA4_ := Lib.hid (show (w1).heap[W.heap.size]? = some (.cells #[.int .i64 m, .slice a0 n0 cap0, .int .i64 r] 29 (0, 0)) from row_held g rA1_.out)
  clear rA1_
  have rR5_ := Lib.hid (show (w1).heap[W.heap.size + 1]? = some (.cells #[.int .i64 0, .slice none 0 0, .int .i64 0] 29 (0, 0)) from row_held g rR2_.out)
  clear rR2_
  have G6_ := Lib.hid (show (W).grownBy (w1) none from gby_trans G3_.out g)
  obtain ⟨pd, cd, hv_⟩ := OwR.form o
  rw [← HE.out] at hv_
  subst hv_
  have HOR := Lib.hid (OwR.low o (show W.heap.size + 1 + 1 ≤ _ by omega))
  clear g o
  have HTT7_ := Lib.hid (gby_refl (w1) none)
  have MG8_ := Lib.hid (show (W).grownBy (w1) none from G6_.out)
  have MR9_ := Lib.hid rA4_.out
  have MR10_ := Lib.hid rR5_.out
  obtain ⟨cs, P, Q, hr0_, hel0_⟩ := HOR.out
  have HQB := Lib.hid (show ∀ k, k < xs.length → Q k ≤ w1.heap.size from fun k hk => (hel0_.1 k hk).2.1)
  have HVB := Lib.hid (show ∀ g, (Value.slice pd n0 cd).ownBlock = some g → g < w1.heap.size from own_blockS hr0_)
  rw [← HE.out] at hr0_
  have HR0 := Lib.hid hr0_
  have HEL0 := Lib.hid hel0_
  clear hr0_ hel0_ HOR
  have al_ : (w1).grownBy ((w1).alloc (.cells #[.int .i64 m, .slice pd n0 cd, .int .i64 r] 29)) none := gby_alloc (gby_refl _ _) _
  have rA11_ := Lib.hid (show ((w1.alloc (.cells #[.int .i64 m, .slice pd n0 cd, .int .i64 r] 29))).heap[W.heap.size]? = some (.cells #[.int .i64 m, .slice a0 n0 cap0, .int .i64 r] 29 (0, 0)) from row_held al_ rA4_.out)
  clear rA4_
  have rR12_ := Lib.hid (show ((w1.alloc (.cells #[.int .i64 m, .slice pd n0 cd, .int .i64 r] 29))).heap[W.heap.size + 1]? = some (.cells #[.int .i64 0, .slice none 0 0, .int .i64 0] 29 (0, 0)) from row_held al_ rR5_.out)
  clear rR5_
  have G13_ := Lib.hid (show (W).grownBy ((w1.alloc (.cells #[.int .i64 m, .slice pd n0 cd, .int .i64 r] 29))) none from gby_trans G6_.out al_)
  have HTT14_ := Lib.hid (show (w1).grownBy ((w1.alloc (.cells #[.int .i64 m, .slice pd n0 cd, .int .i64 r] 29))) none from gby_trans HTT7_.out al_)
  clear HTT7_
  have rB15_ := Lib.hid (show ((w1.alloc (.cells #[.int .i64 m, .slice pd n0 cd, .int .i64 r] 29))).heap[w1.heap.size]? = some (.cells #[.int .i64 m, .slice pd n0 cd, .int .i64 r] 29 (0, 0)) from by first | exact heap_alloc_new _ _ | exact heap_pair _ _ _ | exact heap_trip _ _ _ _)
  clear al_
  have A_0_ : ((w1.alloc (.cells #[.int .i64 m, .slice pd n0 cd, .int .i64 r] 29))).cell? ⟨W.heap.size, 0, none⟩ = some (.int .i64 m) := cell_of_row _ _ 0 _ _ _ rA11_.out
  have A_1_ : ((w1.alloc (.cells #[.int .i64 m, .slice pd n0 cd, .int .i64 r] 29))).cell? ⟨W.heap.size, 1, none⟩ = some (.slice a0 n0 cap0) := cell_of_row _ _ 1 _ _ _ rA11_.out
  have A_2_ : ((w1.alloc (.cells #[.int .i64 m, .slice pd n0 cd, .int .i64 r] 29))).cell? ⟨W.heap.size, 2, none⟩ = some (.int .i64 r) := cell_of_row _ _ 2 _ _ _ rA11_.out
  have R_0_ : ((w1.alloc (.cells #[.int .i64 m, .slice pd n0 cd, .int .i64 r] 29))).cell? ⟨W.heap.size + 1, 0, none⟩ = some (.int .i64 0) := cell_of_row _ _ 0 _ _ _ rR12_.out
  have R_1_ : ((w1.alloc (.cells #[.int .i64 m, .slice pd n0 cd, .int .i64 r] 29))).cell? ⟨W.heap.size + 1, 1, none⟩ = some (.slice none 0 0) := cell_of_row _ _ 1 _ _ _ rR12_.out
  have R_2_ : ((w1.alloc (.cells #[.int .i64 m, .slice pd n0 cd, .int .i64 r] 29))).cell? ⟨W.heap.size + 1, 2, none⟩ = some (.int .i64 0) := cell_of_row _ _ 2 _ _ _ rR12_.out
  have B_0_ : ((w1.alloc (.cells #[.int .i64 m, .slice pd n0 cd, .int .i64 r] 29))).cell? ⟨w1.heap.size, 0, none⟩ = some (.int .i64 m) := cell_of_row _ _ 0 _ _ _ rB15_.out
  have B_1_ : ((w1.alloc (.cells #[.int .i64 m, .slice pd n0 cd, .int .i64 r] 29))).cell? ⟨w1.heap.size, 1, none⟩ = some (.slice pd n0 cd) := cell_of_row _ _ 1 _ _ _ rB15_.out
  have B_2_ : ((w1.alloc (.cells #[.int .i64 m, .slice pd n0 cd, .int .i64 r] 29))).cell? ⟨w1.heap.size, 2, none⟩ = some (.int .i64 r) := cell_of_row _ _ 2 _ _ _ rB15_.out
  clear A_0_ A_1_ A_2_ R_0_ R_1_ R_2_ B_0_ B_1_ B_2_
  have A_0_ : ((w1.alloc (.cells #[.int .i64 m, .slice pd n0 cd, .int .i64 r] 29))).cell? ⟨W.heap.size, 0, none⟩ = some (.int .i64 m) := cell_of_row _ _ 0 _ _ _ rA11_.out
  have A_1_ : ((w1.alloc (.cells #[.int .i64 m, .slice pd n0 cd, .int .i64 r] 29))).cell? ⟨W.heap.size, 1, none⟩ = some (.slice a0 n0 cap0) := cell_of_row _ _ 1 _ _ _ rA11_.out
  have A_2_ : ((w1.alloc (.cells #[.int .i64 m, .slice pd n0 cd, .int .i64 r] 29))).cell? ⟨W.heap.size, 2, none⟩ = some (.int .i64 r) := cell_of_row _ _ 2 _ _ _ rA11_.out
  go_wp2_with fail
  go_at_call 9
  refine ((specSnd _ m r _ xs (HX.out.grow G13_.out) HL.out).mono (bpost_yes HV.out)).mono ?_
  rintro e w2 ⟨rfl, g⟩
  have szw2 := g.size
  try simp only [World.size_alloc] at szw2
  try simp only [World.size_setCell] at szw2
  clear A_0_ A_1_ A_2_
  have rA16_ := Lib.hid (show (w2).heap[W.heap.size]? = some (.cells #[.int .i64 m, .slice a0 n0 cap0, .int .i64 r] 29 (0, 0)) from row_held g rA11_.out)
  clear rA11_
  have rR17_ := Lib.hid (show (w2).heap[W.heap.size + 1]? = some (.cells #[.int .i64 0, .slice none 0 0, .int .i64 0] 29 (0, 0)) from row_held g rR12_.out)
  clear rR12_
  have rB18_ := Lib.hid (show (w2).heap[w1.heap.size]? = some (.cells #[.int .i64 m, .slice pd n0 cd, .int .i64 r] 29 (0, 0)) from row_held g rB15_.out)
  clear rB15_
  have G19_ := Lib.hid (show (W).grownBy (w2) none from gby_trans G13_.out g)
  have HTT20_ := Lib.hid (show (w1).grownBy (w2) none from gby_trans HTT14_.out g)
  clear HTT14_
  clear g
  have A_0_ : (w2).cell? ⟨W.heap.size, 0, none⟩ = some (.int .i64 m) := cell_of_row _ _ 0 _ _ _ rA16_.out
  have A_1_ : (w2).cell? ⟨W.heap.size, 1, none⟩ = some (.slice a0 n0 cap0) := cell_of_row _ _ 1 _ _ _ rA16_.out
  have A_2_ : (w2).cell? ⟨W.heap.size, 2, none⟩ = some (.int .i64 r) := cell_of_row _ _ 2 _ _ _ rA16_.out
  have R_0_ : (w2).cell? ⟨W.heap.size + 1, 0, none⟩ = some (.int .i64 0) := cell_of_row _ _ 0 _ _ _ rR17_.out
  have R_1_ : (w2).cell? ⟨W.heap.size + 1, 1, none⟩ = some (.slice none 0 0) := cell_of_row _ _ 1 _ _ _ rR17_.out
  have R_2_ : (w2).cell? ⟨W.heap.size + 1, 2, none⟩ = some (.int .i64 0) := cell_of_row _ _ 2 _ _ _ rR17_.out
  have B_0_ : (w2).cell? ⟨w1.heap.size, 0, none⟩ = some (.int .i64 m) := cell_of_row _ _ 0 _ _ _ rB18_.out
  have B_1_ : (w2).cell? ⟨w1.heap.size, 1, none⟩ = some (.slice pd n0 cd) := cell_of_row _ _ 1 _ _ _ rB18_.out
  have B_2_ : (w2).cell? ⟨w1.heap.size, 2, none⟩ = some (.int .i64 r) := cell_of_row _ _ 2 _ _ _ rB18_.out
  go_wp2_with fail
  go_at_call 33
  refine (specByD _ _ ys (HY.out.grow G19_.out) HYL.out true HBY.out).mono ?_
  rintro e w3 ⟨rfl, g⟩
  have szw3 := g.size
  try simp only [World.size_alloc] at szw3
  try simp only [World.size_setCell] at szw3
  clear A_0_ A_1_ A_2_ R_0_ R_1_ R_2_ B_0_ B_1_ B_2_
  have rA21_ := Lib.hid (show (w3).heap[W.heap.size]? = some (.cells #[.int .i64 m, .slice a0 n0 cap0, .int .i64 r] 29 (0, 0)) from row_held g rA16_.out)
  clear rA16_
  have rR22_ := Lib.hid (show (w3).heap[W.heap.size + 1]? = some (.cells #[.int .i64 0, .slice none 0 0, .int .i64 0] 29 (0, 0)) from row_held g rR17_.out)
  clear rR17_
  have rB23_ := Lib.hid (show (w3).heap[w1.heap.size]? = some (.cells #[.int .i64 m, .slice pd n0 cd, .int .i64 r] 29 (0, 0)) from row_held g rB18_.out)
  clear rB18_
  have G24_ := Lib.hid (show (W).grownBy (w3) none from gby_trans G19_.out g)
  have HTT25_ := Lib.hid (show (w1).grownBy (w3) none from gby_trans HTT20_.out g)
  clear HTT20_
  clear g
  have A_0_ : (w3).cell? ⟨W.heap.size, 0, none⟩ = some (.int .i64 m) := cell_of_row _ _ 0 _ _ _ rA21_.out
  have A_1_ : (w3).cell? ⟨W.heap.size, 1, none⟩ = some (.slice a0 n0 cap0) := cell_of_row _ _ 1 _ _ _ rA21_.out
  have A_2_ : (w3).cell? ⟨W.heap.size, 2, none⟩ = some (.int .i64 r) := cell_of_row _ _ 2 _ _ _ rA21_.out
  have R_0_ : (w3).cell? ⟨W.heap.size + 1, 0, none⟩ = some (.int .i64 0) := cell_of_row _ _ 0 _ _ _ rR22_.out
  have R_1_ : (w3).cell? ⟨W.heap.size + 1, 1, none⟩ = some (.slice none 0 0) := cell_of_row _ _ 1 _ _ _ rR22_.out
  have R_2_ : (w3).cell? ⟨W.heap.size + 1, 2, none⟩ = some (.int .i64 0) := cell_of_row _ _ 2 _ _ _ rR22_.out
  have B_0_ : (w3).cell? ⟨w1.heap.size, 0, none⟩ = some (.int .i64 m) := cell_of_row _ _ 0 _ _ _ rB23_.out
  have B_1_ : (w3).cell? ⟨w1.heap.size, 1, none⟩ = some (.slice pd n0 cd) := cell_of_row _ _ 1 _ _ _ rB23_.out
  have B_2_ : (w3).cell? ⟨w1.heap.size, 2, none⟩ = some (.int .i64 r) := cell_of_row _ _ 2 _ _ _ rB23_.out
  have h7_ : ((n0 : Int) == 7) = false := by have := HF7.out; have := HE.out; simp; omega
  clear A_0_ A_1_ A_2_ R_0_ R_1_ R_2_ B_0_ B_1_ B_2_
  have A_0_ : (w3).cell? ⟨W.heap.size, 0, none⟩ = some (.int .i64 m) := cell_of_row _ _ 0 _ _ _ rA21_.out
  have A_1_ : (w3).cell? ⟨W.heap.size, 1, none⟩ = some (.slice a0 n0 cap0) := cell_of_row _ _ 1 _ _ _ rA21_.out
  have A_2_ : (w3).cell? ⟨W.heap.size, 2, none⟩ = some (.int .i64 r) := cell_of_row _ _ 2 _ _ _ rA21_.out
  have R_0_ : (w3).cell? ⟨W.heap.size + 1, 0, none⟩ = some (.int .i64 0) := cell_of_row _ _ 0 _ _ _ rR22_.out
  have R_1_ : (w3).cell? ⟨W.heap.size + 1, 1, none⟩ = some (.slice none 0 0) := cell_of_row _ _ 1 _ _ _ rR22_.out
  have R_2_ : (w3).cell? ⟨W.heap.size + 1, 2, none⟩ = some (.int .i64 0) := cell_of_row _ _ 2 _ _ _ rR22_.out
  have Rf0_ : (w3).frozen? ⟨W.heap.size + 1, 0, none⟩ = false := frozen_of_row _ _ 0 _ _ rR22_.out
  have Rf1_ : (w3).frozen? ⟨W.heap.size + 1, 1, none⟩ = false := frozen_of_row _ _ 1 _ _ rR22_.out
  have Rf2_ : (w3).frozen? ⟨W.heap.size + 1, 2, none⟩ = false := frozen_of_row _ _ 2 _ _ rR22_.out
  have B_0_ : (w3).cell? ⟨w1.heap.size, 0, none⟩ = some (.int .i64 m) := cell_of_row _ _ 0 _ _ _ rB23_.out
  have B_1_ : (w3).cell? ⟨w1.heap.size, 1, none⟩ = some (.slice pd n0 cd) := cell_of_row _ _ 1 _ _ _ rB23_.out
  have B_2_ : (w3).cell? ⟨w1.heap.size, 2, none⟩ = some (.int .i64 r) := cell_of_row _ _ 2 _ _ _ rB23_.out
  have Bf0_ : (w3).frozen? ⟨w1.heap.size, 0, none⟩ = false := frozen_of_row _ _ 0 _ _ rB23_.out
  have Bf1_ : (w3).frozen? ⟨w1.heap.size, 1, none⟩ = false := frozen_of_row _ _ 1 _ _ rB23_.out
  have Bf2_ : (w3).frozen? ⟨w1.heap.size, 2, none⟩ = false := frozen_of_row _ _ 2 _ _ rB23_.out
  have HR1 := Lib.hid (HR0.out.grown HTT25_.out)
  have HEL := Lib.hid (HEL0.out.kept HTT25_.out (fun i hi => by cases hi))
  have hbl_ : w1.heap.size < w3.heap.size := lt_of_block rB23_.out
  have hal_ : W.heap.size < w3.heap.size := lt_of_block rA21_.out
  clear HR0 HEL0
  obtain ⟨i1_, hi1_, hz0_, hz1_, hz2_⟩ := info_parts infoFrameS
  have HYI := Lib.hid (rdI_in (HY.out.grow G24_.out))
  have hly_ : ys.length ≤ 1048576 := by have := HYL.out; rw [szL_I] at this; exact this
  have hnu_ : nu = ys.length := by obtain ⟨_, _, e, _⟩ := HY.out; injection e
  have HISL := Lib.hid (show ISl w3 pu nu ys from by
    obtain ⟨a, c, e, h1, h2⟩ := HYI.out
    injection e with e1 e2 e3
    subst e1
    rw [hnu_]; exact h1)
  have HCN := Lib.hid (show pu = none → cu = 0 from by
    obtain ⟨a, c, e, h1, h2⟩ := HYI.out
    injection e with e1 e2 e3
    subst e1 e3
    exact h2.1)
  have HNU := Lib.hid hnu_
  have hnub_ : nu ≤ 1048576 := by omega
  have hnl_ : n0 ≤ 7 := by have := HF7.out; have := HE.out; omega
  clear hnu_ HYI
  have eb0_ : ((w3.drew.alloc (.cells #[] 3))).cell? ⟨w1.heap.size, 1, none⟩ = some (.slice pd n0 cd) := cell_of_row _ _ 1 _ _ _ (row_held (gby_alloc (gby_drew (gby_refl _ none)) _) rB23_.out)
  have ea0_ : ((w3.drew.alloc (.cells #[] 3))).cell? ⟨W.heap.size, 0, none⟩ = some (.int .i64 m) := cell_of_row _ _ 0 _ _ _ (row_held (gby_alloc (gby_drew (gby_refl _ none)) _) rA21_.out)
  have eb1_ : ((w3.alloc (.cells #[] 3)).drew).cell? ⟨w1.heap.size, 1, none⟩ = some (.slice pd n0 cd) := cell_of_row _ _ 1 _ _ _ (row_held (gby_drew (gby_alloc (gby_refl _ none) _)) rB23_.out)
  have ea1_ : ((w3.alloc (.cells #[] 3)).drew).cell? ⟨W.heap.size, 0, none⟩ = some (.int .i64 m) := cell_of_row _ _ 0 _ _ _ (row_held (gby_drew (gby_alloc (gby_refl _ none) _)) rA21_.out)
  go_wp2_with fail
  go_region_law (first
    | (refine step_clone_isl _ (by rfl) _ _ (by rfl) _ (by rfl) (by first | exact heap_alloc_new _ _ | exact row_drewU (heap_alloc_new _ _)) pu nu cu ys (by rfl) (HISL.out.kept (by repeat (first | exact gby_refl _ none | (with_reducible refine gby_alloc ?_ _) | (with_reducible refine gby_drew ?_)))) HCN.out (by omega) ?_; intro gA cA wA oA hgA hA sA; have GAx : w3.grownBy wA none := gby_new (by repeat (first | exact gby_refl _ none | (with_reducible refine gby_alloc ?_ _) | (with_reducible refine gby_drew ?_))) hgA (fun i hi => by have h2 := Option.some.inj hi; omega); have zA := GAx.size; have zA2 := hgA.size; (try simp only [World.size_drew, World.size_alloc] at hA zA2); have ZB0 := row_held GAx rB23_.out; have ZA0 := row_held GAx rA21_.out; have b1A := cell_of_row wA _ 1 _ _ _ ZB0; have a0A := cell_of_row wA _ 0 _ _ _ ZA0; have ZC := row_held (gby_alloc (gby_refl wA none) (.cells #[.int .i64 m, .slice (some ⟨gA, 0, none⟩) nu cA] 37)) ZB0; have b1c := cell_of_row _ _ 1 _ _ _ ZC; have OA1 := HR1.out.grown GAx)
    | (refine step_append_lies _ (by rfl) _ _ _ (by rfl) (W.heap.size + 1 + 1) 37 i1_ _ 2 32 Try.underlying27 hi1_ hz0_ hz1_ hz2_ rfl (by omega) _ n0 (flatN cs n0) (by rfl) (OA1.alloc _) ⟨wA.heap.size, 0, none⟩ 1 1 _ (by rfl) (by rfl) (World.news_of_block (t := 37) (fr := (0, 0)) (heap_alloc_new wA _)) (by simp [Value.oneCell']) (by omega) (by unfold maxLen; omega) (by omega) (by simp; omega) _ (by rfl) ?_; intro g3 cap3 wB hownB hgB hatB hltB; have ZB : wB.heap[w1.heap.size]? = some (.cells #[.int .i64 m, .slice pd n0 cd, .int .i64 r] 29 (0, 0)) := (hgB.block (w1.heap.size) (by (try simp only [World.size_alloc]); omega) (fun e => by have := HVB.out _ e.symm; omega)).trans ZC; have b1 := cell_of_row wB _ 1 _ _ _ ZB; have f1 := frozen_of_row wB _ 1 _ _ ZB)
    | fail)
  all_goals
    have HGB := Lib.hid (show w3.grownBy wB none ∨ True from .inr trivial)
    have GW5 := Lib.hid (show W.grownBy wB none from gby_new (gby_alloc (gby_trans G24_.out GAx) _) hgB (fun i hi => by have := own_from OA1 i hi; omega))
    have HZB := Lib.hid ZB
    have HOB := Lib.hid (show OwRx shFrame 37 wB (W.heap.size + 1 + 1) (.slice (some ⟨g3, 0, none⟩) (n0 + 1) cap3) (xs ++ [⟨m, ys⟩]) (w1.heap.size) from by
      refine owRx_app (x9 := w1.heap.size) (fun k hk => .inr (HQB.out k hk)) (.inl (show w1.heap.size < w3.heap.size from hbl_)) (fun i hi => ?_) (own_blockS HR1.out) HEL.out (gby_alloc GAx _) (a := w3.heap.size) (b := wA.heap.size) ⟨_, rfl, OwU.grow (OwU.wide (lo := gA) (hi := gA + 1) (by omega) (by omega) (OwU.one oA)) (gby_alloc (gby_refl wA none) _)⟩ (Nat.le_refl _) (by omega) (by simp only [World.size_alloc]; omega) (by rw [← HE.out]; exact hownB) hgB (fun i hi => ?_)
      · have hi2 : g3 = i := Option.some.inj hi
        rcases hatB with q | q
        · have := HVB.out _ q; omega
        · simp only [World.size_alloc] at q; omega
      · have hi2 : g3 = i := Option.some.inj hi
        rcases hatB with q | q
        · exact .inl (by rw [← hi2]; exact q)
        · exact .inr (by rw [← hi2, q]; exact Nat.le_refl _))
    have HKA := Lib.hid (show wB.heap[W.heap.size]? = some (.cells #[.int .i64 m, .slice a0 n0 cap0, .int .i64 r] 29 (0, 0)) from (hgB.block (W.heap.size) (by (try simp only [World.size_alloc]); omega) (fun e => by have := own_from OA1 _ e.symm; omega)).trans ((heap_alloc_old _ _ (by omega)).trans ZA0))
    have HKR := Lib.hid (show wB.heap[W.heap.size + 1]? = some (.cells #[.int .i64 0, .slice none 0 0, .int .i64 0] 29 (0, 0)) from (hgB.block (W.heap.size + 1) (by (try simp only [World.size_alloc]); omega) (fun e => by have := own_from OA1 _ e.symm; omega)).trans ((heap_alloc_old _ _ (by omega)).trans (row_held GAx rR22_.out)))
    have hsB_ : wA.heap.size ≤ wB.heap.size := by have := hgB.size; simp only [World.size_alloc] at this; omega
    clear hownB hgB hatB hltB ZB OA1 oA hgA ZA0 ZB0 ZC GAx HGB
    try clear b1A
    try clear a0A
    try clear b1c
    have HB5 := Lib.hid (show (wB.setCell ⟨w1.heap.size, 1, none⟩ (.slice (some ⟨g3, 0, none⟩) (n0 + 1) cap3)).heap[w1.heap.size]? = some (.cells #[.int .i64 m, .slice (some ⟨g3, 0, none⟩) (n0 + 1) cap3, .int .i64 r] 29 (0, 0)) from heap_setCell_same _ _ 1 _ _ _ HZB.out)
    have HO5 := Lib.hid (HOB.out.set 1 (.slice (some ⟨g3, 0, none⟩) (n0 + 1) cap3))
    have HA5 := Lib.hid (set_far (p := ⟨w1.heap.size, 1, none⟩) (v := .slice (some ⟨g3, 0, none⟩) (n0 + 1) cap3) HKA.out (by dsimp only; omega))
    have HR5 := Lib.hid (set_far (p := ⟨w1.heap.size, 1, none⟩) (v := .slice (some ⟨g3, 0, none⟩) (n0 + 1) cap3) HKR.out (by dsimp only; omega))
    have HG5 := Lib.hid (gby_setnew GW5.out ⟨w1.heap.size, 1, none⟩ (by dsimp only; omega) (.slice (some ⟨g3, 0, none⟩) (n0 + 1) cap3))
    have hs5 : w1.heap.size < (wB.setCell ⟨w1.heap.size, 1, none⟩ (.slice (some ⟨g3, 0, none⟩) (n0 + 1) cap3)).heap.size := by simp only [World.size_setCell]; omega
    clear HOB HZB HKA HKR GW5
    try clear b1
    try clear f1
    generalize (wB.setCell ⟨w1.heap.size, 1, none⟩ (.slice (some ⟨g3, 0, none⟩) (n0 + 1) cap3)) = w5 at HB5 HO5 HA5 HR5 HG5 hs5 ⊢
    have k0_ := cell_of_row w5 _ 0 _ _ _ HA5.out
    have k2_ := frozen_of_row w5 _ 0 _ _ HB5.out
    go_wp2_with fail
    go_at_call 49
    refine (specNext_any m _).mono ?_
    rintro e w6 ⟨rfl, hd⟩
    have g6 := Lib.hid (show w5.grownBy w6 none from by first | exact hd | exact hd.gby none)
    have s6 := g6.out.size
    have HB6 := Lib.hid (row_held g6.out HB5.out)
    have HR6 := Lib.hid (row_held g6.out HR5.out)
    have HO6 := Lib.hid ((HO5.out.grow g6.out).set 0 (.int .i64 (nextQ m)))
    have HG6 := Lib.hid (gby_setnew (gby_trans HG5.out g6.out) ⟨w1.heap.size, 0, none⟩ (by dsimp only; omega) (.int .i64 (nextQ m)))
    clear hd k0_ k2_
    have k0_ := cell_of_row w6 _ 0 _ _ _ HB6.out
    have k2_ := frozen_of_row w6 _ 0 _ _ HB6.out
    have HB7 := Lib.hid (show (w6.setCell ⟨w1.heap.size, 0, none⟩ (.int .i64 (nextQ m))).heap[w1.heap.size]? = some (.cells #[.int .i64 (nextQ m), .slice (some ⟨g3, 0, none⟩) (n0 + 1) cap3, .int .i64 r] 29 (0, 0)) from heap_setCell_same _ _ 0 _ _ _ HB6.out)
    have HR7 := Lib.hid (show (w6.setCell ⟨w1.heap.size, 0, none⟩ (.int .i64 (nextQ m))).heap[W.heap.size + 1]? = some (.cells #[.int .i64 0, .slice none 0 0, .int .i64 0] 29 (0, 0)) from set_far HR6.out (by dsimp only; omega))
    have sa0_ := cell_of_row _ _ 0 _ _ _ HB7.out
    have sa1_ := cell_of_row _ _ 1 _ _ _ HB7.out
    have sa2_ := cell_of_row _ _ 2 _ _ _ HB7.out
    have sr0_ := cell_of_row _ _ 0 _ _ _ HR7.out
    have sf0_ := frozen_of_row _ _ 0 _ _ HR7.out
    have sr1_ := cell_of_row _ _ 1 _ _ _ HR7.out
    have sf1_ := frozen_of_row _ _ 1 _ _ HR7.out
    have sr2_ := cell_of_row _ _ 2 _ _ _ HR7.out
    have sf2_ := frozen_of_row _ _ 2 _ _ HR7.out
    have el_ : (xs ++ [(⟨m, ys⟩ : DFrame)]).length = n0 + 1 := by rw [List.length_append, List.length_singleton, ← HE.out]
    go_wp2
    refine bodyPost_ret (v := .tuple #[.agg #[.int .i64 (nextQ m), .slice (some ⟨g3, 0, none⟩) (n0 + 1) cap3, .int .i64 r], .bool true]) (by simp [results, go_sem, sr0_, sr1_, sr2_]; done) rfl ⟨_, rfl, ?_, ?_⟩
    · exact OwU.one (OwL.wide (OwR.own (OwR.kept (OwR.kept (OwR.kept HO6.out.fst (gby_set (gby_refl _ _) _ _) (fun i hi => by have h2 := Option.some.inj hi; omega)) (gby_set (gby_refl _ _) _ _) (fun i hi => by have h2 := Option.some.inj hi; omega)) (gby_set (gby_refl _ _) _ _) (fun i hi => by have h2 := Option.some.inj hi; omega)) (by rw [el_]; omega)) (by omega) (Nat.le_refl _))
    · iterate 3 (with_reducible refine gby_setnew ?_ _ (by dsimp only; omega) _)
      exact HG6.out

end Go.Proofs.Ytcenngekjopjpaa
