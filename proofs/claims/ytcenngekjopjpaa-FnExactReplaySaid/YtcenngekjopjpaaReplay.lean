/-
  Replay, on both sides.
-/
import Derived.Test.YtcenngekjopjpaaSndCpS
import Derived.Test.YtcenngekjopjpaaSndCpI
import Derived.Test.YtcenngekjopjpaaRReplay
namespace Go.Proofs.Ytcenngekjopjpaa
open Go Go.RowKit
set_option linter.unusedVariables false

set_option maxHeartbeats 1000000 in
theorem replay_m (w : World) (b : Nat) (x : Value) (hc : w.cell? ⟨b, 2, none⟩ = some x) (hf : w.frozen? ⟨b, 2, none⟩ = false) : Calls Try.prog 42 #[.pointer (some ⟨b, 0, none⟩)] w (fun e w' => e = .returned (.tuple #[]) ∧ w' = w.setCell ⟨b, 2, none⟩ (.int .i64 0)) := by
  go_enter Try.func42, Try.ntmps42
  go_wp2
  exact bodyPost_end (results_none rfl _ _ _) rfl ⟨rfl, rfl⟩

set_option maxRecDepth 8000 in
set_option maxHeartbeats 2000000 in
theorem specRep_no (W : World) (m r : Int) (v : Value) (xs : List DFrame) (H : RdL shFrame W v xs) (hl : szL shFrame xs ≤ 1048576) (hv : ¬ SndP m r xs) : Calls Try.prog 13 #[.agg #[.int .i64 m, v, .int .i64 r]] W (ResIReplay m xs r W) := by
  have HV := Lib.hid hv
  clear hv
  have HX := Lib.hid H
  have HL := Lib.hid hl
  obtain ⟨a0, n0, cap0, rfl⟩ := RdL.form H
  have hn0 : n0 = xs.length := by obtain ⟨_, _, e, _⟩ := H; injection e
  have HE := Lib.hid hn0
  have hlx : n0 ≤ 1048576 := by have := szL_len shFrame xs; omega
  clear H hl hn0
  go_enter Try.func13, Try.ntmps13
  have rA1_ := Lib.hid (show (((W.alloc (.cells #[.int .i64 m, .slice a0 n0 cap0, .int .i64 r] 29)).alloc (.cells #[.int .i64 0, .slice none 0 0, .int .i64 0] 29))).heap[W.heap.size]? = some (.cells #[.int .i64 m, .slice a0 n0 cap0, .int .i64 r] 29 (0, 0)) from by rw [heap_alloc_old _ _ (by simp only [World.size_alloc]; omega)]; exact heap_alloc_new _ _)
  have rR2_ := Lib.hid (show (((W.alloc (.cells #[.int .i64 m, .slice a0 n0 cap0, .int .i64 r] 29)).alloc (.cells #[.int .i64 0, .slice none 0 0, .int .i64 0] 29))).heap[W.heap.size + 1]? = some (.cells #[.int .i64 0, .slice none 0 0, .int .i64 0] 29 (0, 0)) from by exact heap_pair _ _ _)
  have G3_ := Lib.hid (show (W).grownBy (((W.alloc (.cells #[.int .i64 m, .slice a0 n0 cap0, .int .i64 r] 29)).alloc (.cells #[.int .i64 0, .slice none 0 0, .int .i64 0] 29))) none from (gby_alloc (gby_alloc (gby_refl _ _) _) _))
  have A_0_ : (((W.alloc (.cells #[.int .i64 m, .slice a0 n0 cap0, .int .i64 r] 29)).alloc (.cells #[.int .i64 0, .slice none 0 0, .int .i64 0] 29))).cell? ⟨W.heap.size, 0, none⟩ = some (.int .i64 m) := cell_of_row _ _ 0 _ _ _ rA1_.out
  have A_1_ : (((W.alloc (.cells #[.int .i64 m, .slice a0 n0 cap0, .int .i64 r] 29)).alloc (.cells #[.int .i64 0, .slice none 0 0, .int .i64 0] 29))).cell? ⟨W.heap.size, 1, none⟩ = some (.slice a0 n0 cap0) := cell_of_row _ _ 1 _ _ _ rA1_.out
  have A_2_ : (((W.alloc (.cells #[.int .i64 m, .slice a0 n0 cap0, .int .i64 r] 29)).alloc (.cells #[.int .i64 0, .slice none 0 0, .int .i64 0] 29))).cell? ⟨W.heap.size, 2, none⟩ = some (.int .i64 r) := cell_of_row _ _ 2 _ _ _ rA1_.out
  have R_0_ : (((W.alloc (.cells #[.int .i64 m, .slice a0 n0 cap0, .int .i64 r] 29)).alloc (.cells #[.int .i64 0, .slice none 0 0, .int .i64 0] 29))).cell? ⟨W.heap.size + 1, 0, none⟩ = some (.int .i64 0) := cell_of_row _ _ 0 _ _ _ rR2_.out
  have R_1_ : (((W.alloc (.cells #[.int .i64 m, .slice a0 n0 cap0, .int .i64 r] 29)).alloc (.cells #[.int .i64 0, .slice none 0 0, .int .i64 0] 29))).cell? ⟨W.heap.size + 1, 1, none⟩ = some (.slice none 0 0) := cell_of_row _ _ 1 _ _ _ rR2_.out
  have R_2_ : (((W.alloc (.cells #[.int .i64 m, .slice a0 n0 cap0, .int .i64 r] 29)).alloc (.cells #[.int .i64 0, .slice none 0 0, .int .i64 0] 29))).cell? ⟨W.heap.size + 1, 2, none⟩ = some (.int .i64 0) := cell_of_row _ _ 2 _ _ _ rR2_.out
  go_wp2_with fail
  go_at_call 40
  refine (l08Copy_d _ m r _ xs (HX.out.grow G3_.out) HL.out).mono ?_
  rintro e w1 ⟨d_, rfl, o, g⟩
  have szw1 := g.size
  try simp only [World.size_alloc] at szw1 o
  try unfold vSender
  clear A_0_ A_1_ A_2_ R_0_ R_1_ R_2_
  have rA4_ := Lib.hid (show (w1).heap[W.heap.size]? = some (.cells #[.int .i64 m, .slice a0 n0 cap0, .int .i64 r] 29 (0, 0)) from row_held g rA1_.out)
  clear rA1_
  have rR5_ := Lib.hid (show (w1).heap[W.heap.size + 1]? = some (.cells #[.int .i64 0, .slice none 0 0, .int .i64 0] 29 (0, 0)) from row_held g rR2_.out)
  clear rR2_
  have G6_ := Lib.hid (show (W).grownBy (w1) none from gby_trans G3_.out g)
  obtain ⟨pd, nd, cd, hv_⟩ := RdL.form (OwU.rd o)
  subst hv_
  clear g
  have oC7_ := Lib.hid (show OwU (w1) (W.heap.size + 1 + 1) (w1.heap.size) [] [own shFrame (.slice pd nd cd) xs] from o)
  clear o
  have al_ : (w1).grownBy ((w1).alloc (.cells #[.int .i64 m, .slice pd nd cd, .int .i64 r] 29)) none := gby_alloc (gby_refl _ _) _
  have rA8_ := Lib.hid (show ((w1.alloc (.cells #[.int .i64 m, .slice pd nd cd, .int .i64 r] 29))).heap[W.heap.size]? = some (.cells #[.int .i64 m, .slice a0 n0 cap0, .int .i64 r] 29 (0, 0)) from row_held al_ rA4_.out)
  clear rA4_
  have rR9_ := Lib.hid (show ((w1.alloc (.cells #[.int .i64 m, .slice pd nd cd, .int .i64 r] 29))).heap[W.heap.size + 1]? = some (.cells #[.int .i64 0, .slice none 0 0, .int .i64 0] 29 (0, 0)) from row_held al_ rR5_.out)
  clear rR5_
  have oC10_ := Lib.hid (show OwU ((w1.alloc (.cells #[.int .i64 m, .slice pd nd cd, .int .i64 r] 29))) (W.heap.size + 1 + 1) (w1.heap.size) [] [own shFrame (.slice pd nd cd) xs] from OwU.grow oC7_.out al_)
  clear oC7_
  have G11_ := Lib.hid (show (W).grownBy ((w1.alloc (.cells #[.int .i64 m, .slice pd nd cd, .int .i64 r] 29))) none from gby_trans G6_.out al_)
  have rB12_ := Lib.hid (show ((w1.alloc (.cells #[.int .i64 m, .slice pd nd cd, .int .i64 r] 29))).heap[w1.heap.size]? = some (.cells #[.int .i64 m, .slice pd nd cd, .int .i64 r] 29 (0, 0)) from by first | exact heap_alloc_new _ _ | exact heap_pair _ _ _ | exact heap_trip _ _ _ _)
  clear al_
  have A_0_ : ((w1.alloc (.cells #[.int .i64 m, .slice pd nd cd, .int .i64 r] 29))).cell? ⟨W.heap.size, 0, none⟩ = some (.int .i64 m) := cell_of_row _ _ 0 _ _ _ rA8_.out
  have A_1_ : ((w1.alloc (.cells #[.int .i64 m, .slice pd nd cd, .int .i64 r] 29))).cell? ⟨W.heap.size, 1, none⟩ = some (.slice a0 n0 cap0) := cell_of_row _ _ 1 _ _ _ rA8_.out
  have A_2_ : ((w1.alloc (.cells #[.int .i64 m, .slice pd nd cd, .int .i64 r] 29))).cell? ⟨W.heap.size, 2, none⟩ = some (.int .i64 r) := cell_of_row _ _ 2 _ _ _ rA8_.out
  have R_0_ : ((w1.alloc (.cells #[.int .i64 m, .slice pd nd cd, .int .i64 r] 29))).cell? ⟨W.heap.size + 1, 0, none⟩ = some (.int .i64 0) := cell_of_row _ _ 0 _ _ _ rR9_.out
  have R_1_ : ((w1.alloc (.cells #[.int .i64 m, .slice pd nd cd, .int .i64 r] 29))).cell? ⟨W.heap.size + 1, 1, none⟩ = some (.slice none 0 0) := cell_of_row _ _ 1 _ _ _ rR9_.out
  have R_2_ : ((w1.alloc (.cells #[.int .i64 m, .slice pd nd cd, .int .i64 r] 29))).cell? ⟨W.heap.size + 1, 2, none⟩ = some (.int .i64 0) := cell_of_row _ _ 2 _ _ _ rR9_.out
  have B_0_ : ((w1.alloc (.cells #[.int .i64 m, .slice pd nd cd, .int .i64 r] 29))).cell? ⟨w1.heap.size, 0, none⟩ = some (.int .i64 m) := cell_of_row _ _ 0 _ _ _ rB12_.out
  have B_1_ : ((w1.alloc (.cells #[.int .i64 m, .slice pd nd cd, .int .i64 r] 29))).cell? ⟨w1.heap.size, 1, none⟩ = some (.slice pd nd cd) := cell_of_row _ _ 1 _ _ _ rB12_.out
  have B_2_ : ((w1.alloc (.cells #[.int .i64 m, .slice pd nd cd, .int .i64 r] 29))).cell? ⟨w1.heap.size, 2, none⟩ = some (.int .i64 r) := cell_of_row _ _ 2 _ _ _ rB12_.out
  clear A_0_ A_1_ A_2_ R_0_ R_1_ R_2_ B_0_ B_1_ B_2_
  have A_0_ : ((w1.alloc (.cells #[.int .i64 m, .slice pd nd cd, .int .i64 r] 29))).cell? ⟨W.heap.size, 0, none⟩ = some (.int .i64 m) := cell_of_row _ _ 0 _ _ _ rA8_.out
  have A_1_ : ((w1.alloc (.cells #[.int .i64 m, .slice pd nd cd, .int .i64 r] 29))).cell? ⟨W.heap.size, 1, none⟩ = some (.slice a0 n0 cap0) := cell_of_row _ _ 1 _ _ _ rA8_.out
  have A_2_ : ((w1.alloc (.cells #[.int .i64 m, .slice pd nd cd, .int .i64 r] 29))).cell? ⟨W.heap.size, 2, none⟩ = some (.int .i64 r) := cell_of_row _ _ 2 _ _ _ rA8_.out
  go_wp2_with fail
  go_at_call 9
  refine ((specSnd _ m r _ xs (HX.out.grow G11_.out) HL.out).mono (bpost_no HV.out)).mono ?_
  rintro e w2 ⟨rfl, g⟩
  have szw2 := g.size
  try simp only [World.size_alloc] at szw2
  try simp only [World.size_setCell] at szw2
  clear A_0_ A_1_ A_2_
  have rA13_ := Lib.hid (show (w2).heap[W.heap.size]? = some (.cells #[.int .i64 m, .slice a0 n0 cap0, .int .i64 r] 29 (0, 0)) from row_held g rA8_.out)
  clear rA8_
  have rR14_ := Lib.hid (show (w2).heap[W.heap.size + 1]? = some (.cells #[.int .i64 0, .slice none 0 0, .int .i64 0] 29 (0, 0)) from row_held g rR9_.out)
  clear rR9_
  have rB15_ := Lib.hid (show (w2).heap[w1.heap.size]? = some (.cells #[.int .i64 m, .slice pd nd cd, .int .i64 r] 29 (0, 0)) from row_held g rB12_.out)
  clear rB12_
  have oC16_ := Lib.hid (show OwU (w2) (W.heap.size + 1 + 1) (w1.heap.size) [] [own shFrame (.slice pd nd cd) xs] from OwU.grow oC10_.out g)
  clear oC10_
  have G17_ := Lib.hid (show (W).grownBy (w2) none from gby_trans G11_.out g)
  clear g
  have A_0_ : (w2).cell? ⟨W.heap.size, 0, none⟩ = some (.int .i64 m) := cell_of_row _ _ 0 _ _ _ rA13_.out
  have A_1_ : (w2).cell? ⟨W.heap.size, 1, none⟩ = some (.slice a0 n0 cap0) := cell_of_row _ _ 1 _ _ _ rA13_.out
  have A_2_ : (w2).cell? ⟨W.heap.size, 2, none⟩ = some (.int .i64 r) := cell_of_row _ _ 2 _ _ _ rA13_.out
  have R_0_ : (w2).cell? ⟨W.heap.size + 1, 0, none⟩ = some (.int .i64 0) := cell_of_row _ _ 0 _ _ _ rR14_.out
  have R_1_ : (w2).cell? ⟨W.heap.size + 1, 1, none⟩ = some (.slice none 0 0) := cell_of_row _ _ 1 _ _ _ rR14_.out
  have R_2_ : (w2).cell? ⟨W.heap.size + 1, 2, none⟩ = some (.int .i64 0) := cell_of_row _ _ 2 _ _ _ rR14_.out
  have B_0_ : (w2).cell? ⟨w1.heap.size, 0, none⟩ = some (.int .i64 m) := cell_of_row _ _ 0 _ _ _ rB15_.out
  have B_1_ : (w2).cell? ⟨w1.heap.size, 1, none⟩ = some (.slice pd nd cd) := cell_of_row _ _ 1 _ _ _ rB15_.out
  have B_2_ : (w2).cell? ⟨w1.heap.size, 2, none⟩ = some (.int .i64 r) := cell_of_row _ _ 2 _ _ _ rB15_.out
  clear A_0_ A_1_ A_2_ R_0_ R_1_ R_2_ B_0_ B_1_ B_2_
  have A_0_ : (w2).cell? ⟨W.heap.size, 0, none⟩ = some (.int .i64 m) := cell_of_row _ _ 0 _ _ _ rA13_.out
  have A_1_ : (w2).cell? ⟨W.heap.size, 1, none⟩ = some (.slice a0 n0 cap0) := cell_of_row _ _ 1 _ _ _ rA13_.out
  have A_2_ : (w2).cell? ⟨W.heap.size, 2, none⟩ = some (.int .i64 r) := cell_of_row _ _ 2 _ _ _ rA13_.out
  have R_0_ : (w2).cell? ⟨W.heap.size + 1, 0, none⟩ = some (.int .i64 0) := cell_of_row _ _ 0 _ _ _ rR14_.out
  have R_1_ : (w2).cell? ⟨W.heap.size + 1, 1, none⟩ = some (.slice none 0 0) := cell_of_row _ _ 1 _ _ _ rR14_.out
  have R_2_ : (w2).cell? ⟨W.heap.size + 1, 2, none⟩ = some (.int .i64 0) := cell_of_row _ _ 2 _ _ _ rR14_.out
  have Rf0_ : (w2).frozen? ⟨W.heap.size + 1, 0, none⟩ = false := frozen_of_row _ _ 0 _ _ rR14_.out
  have Rf1_ : (w2).frozen? ⟨W.heap.size + 1, 1, none⟩ = false := frozen_of_row _ _ 1 _ _ rR14_.out
  have Rf2_ : (w2).frozen? ⟨W.heap.size + 1, 2, none⟩ = false := frozen_of_row _ _ 2 _ _ rR14_.out
  have B_0_ : (w2).cell? ⟨w1.heap.size, 0, none⟩ = some (.int .i64 m) := cell_of_row _ _ 0 _ _ _ rB15_.out
  have B_1_ : (w2).cell? ⟨w1.heap.size, 1, none⟩ = some (.slice pd nd cd) := cell_of_row _ _ 1 _ _ _ rB15_.out
  have B_2_ : (w2).cell? ⟨w1.heap.size, 2, none⟩ = some (.int .i64 r) := cell_of_row _ _ 2 _ _ _ rB15_.out
  have hlo_ : W.heap.size ≤ W.heap.size + 1 + 1 := by omega
  go_wp2
  refine bodyPost_ret (v := .agg #[.int .i64 m, .slice pd nd cd, .int .i64 r]) (by simp [results, go_sem, R_0_, R_1_, R_2_]) rfl ⟨_, rfl, ?_, ?_⟩
  · exact OwU.wide (lo := W.heap.size + 1 + 1) (hi := w1.heap.size) hlo_ (by simp only [World.size_setCell]; omega) (OwU.keep (chg_one _ (W.heap.size + 1) 2 (.int .i64 r)) (by omega) (OwU.keep (chg_one _ (W.heap.size + 1) 1 (.slice pd nd cd)) (by omega) (OwU.keep (chg_one _ (W.heap.size + 1) 0 (.int .i64 m)) (by omega) oC16_.out)))
  · exact (gby_setnew (gby_setnew (gby_setnew G17_.out _ (by dsimp only; omega) _) _ (by dsimp only; omega) _) _ (by dsimp only; omega) _)

set_option maxRecDepth 8000 in
set_option maxHeartbeats 2000000 in
theorem specRep_yes (W : World) (m r : Int) (v : Value) (xs : List DFrame) (H : RdL shFrame W v xs) (hl : szL shFrame xs ≤ 1048576) (hv : SndP m r xs) : Calls Try.prog 13 #[.agg #[.int .i64 m, v, .int .i64 r]] W (ResIReplay m xs 0 W) := by
  have HV := Lib.hid hv
  clear hv
  have HX := Lib.hid H
  have HL := Lib.hid hl
  obtain ⟨a0, n0, cap0, rfl⟩ := RdL.form H
  have hn0 : n0 = xs.length := by obtain ⟨_, _, e, _⟩ := H; injection e
  have HE := Lib.hid hn0
  have hlx : n0 ≤ 1048576 := by have := szL_len shFrame xs; omega
  clear H hl hn0
  go_enter Try.func13, Try.ntmps13
  have rA1_ := Lib.hid (show (((W.alloc (.cells #[.int .i64 m, .slice a0 n0 cap0, .int .i64 r] 29)).alloc (.cells #[.int .i64 0, .slice none 0 0, .int .i64 0] 29))).heap[W.heap.size]? = some (.cells #[.int .i64 m, .slice a0 n0 cap0, .int .i64 r] 29 (0, 0)) from by rw [heap_alloc_old _ _ (by simp only [World.size_alloc]; omega)]; exact heap_alloc_new _ _)
  have rR2_ := Lib.hid (show (((W.alloc (.cells #[.int .i64 m, .slice a0 n0 cap0, .int .i64 r] 29)).alloc (.cells #[.int .i64 0, .slice none 0 0, .int .i64 0] 29))).heap[W.heap.size + 1]? = some (.cells #[.int .i64 0, .slice none 0 0, .int .i64 0] 29 (0, 0)) from by exact heap_pair _ _ _)
  have G3_ := Lib.hid (show (W).grownBy (((W.alloc (.cells #[.int .i64 m, .slice a0 n0 cap0, .int .i64 r] 29)).alloc (.cells #[.int .i64 0, .slice none 0 0, .int .i64 0] 29))) none from (gby_alloc (gby_alloc (gby_refl _ _) _) _))
  have A_0_ : (((W.alloc (.cells #[.int .i64 m, .slice a0 n0 cap0, .int .i64 r] 29)).alloc (.cells #[.int .i64 0, .slice none 0 0, .int .i64 0] 29))).cell? ⟨W.heap.size, 0, none⟩ = some (.int .i64 m) := cell_of_row _ _ 0 _ _ _ rA1_.out
  have A_1_ : (((W.alloc (.cells #[.int .i64 m, .slice a0 n0 cap0, .int .i64 r] 29)).alloc (.cells #[.int .i64 0, .slice none 0 0, .int .i64 0] 29))).cell? ⟨W.heap.size, 1, none⟩ = some (.slice a0 n0 cap0) := cell_of_row _ _ 1 _ _ _ rA1_.out
  have A_2_ : (((W.alloc (.cells #[.int .i64 m, .slice a0 n0 cap0, .int .i64 r] 29)).alloc (.cells #[.int .i64 0, .slice none 0 0, .int .i64 0] 29))).cell? ⟨W.heap.size, 2, none⟩ = some (.int .i64 r) := cell_of_row _ _ 2 _ _ _ rA1_.out
  have R_0_ : (((W.alloc (.cells #[.int .i64 m, .slice a0 n0 cap0, .int .i64 r] 29)).alloc (.cells #[.int .i64 0, .slice none 0 0, .int .i64 0] 29))).cell? ⟨W.heap.size + 1, 0, none⟩ = some (.int .i64 0) := cell_of_row _ _ 0 _ _ _ rR2_.out
  have R_1_ : (((W.alloc (.cells #[.int .i64 m, .slice a0 n0 cap0, .int .i64 r] 29)).alloc (.cells #[.int .i64 0, .slice none 0 0, .int .i64 0] 29))).cell? ⟨W.heap.size + 1, 1, none⟩ = some (.slice none 0 0) := cell_of_row _ _ 1 _ _ _ rR2_.out
  have R_2_ : (((W.alloc (.cells #[.int .i64 m, .slice a0 n0 cap0, .int .i64 r] 29)).alloc (.cells #[.int .i64 0, .slice none 0 0, .int .i64 0] 29))).cell? ⟨W.heap.size + 1, 2, none⟩ = some (.int .i64 0) := cell_of_row _ _ 2 _ _ _ rR2_.out
  go_wp2_with fail
  go_at_call 40
  refine (l08Copy_d _ m r _ xs (HX.out.grow G3_.out) HL.out).mono ?_
  rintro e w1 ⟨d_, rfl, o, g⟩
  have szw1 := g.size
  try simp only [World.size_alloc] at szw1 o
  try unfold vSender
  clear A_0_ A_1_ A_2_ R_0_ R_1_ R_2_
  have rA4_ := Lib.hid (show (w1).heap[W.heap.size]? = some (.cells #[.int .i64 m, .slice a0 n0 cap0, .int .i64 r] 29 (0, 0)) from row_held g rA1_.out)
  clear rA1_
  have rR5_ := Lib.hid (show (w1).heap[W.heap.size + 1]? = some (.cells #[.int .i64 0, .slice none 0 0, .int .i64 0] 29 (0, 0)) from row_held g rR2_.out)
  clear rR2_
  have G6_ := Lib.hid (show (W).grownBy (w1) none from gby_trans G3_.out g)
  obtain ⟨pd, nd, cd, hv_⟩ := RdL.form (OwU.rd o)
  subst hv_
  clear g
  have oC7_ := Lib.hid (show OwU (w1) (W.heap.size + 1 + 1) (w1.heap.size) [] [own shFrame (.slice pd nd cd) xs] from o)
  clear o
  have al_ : (w1).grownBy ((w1).alloc (.cells #[.int .i64 m, .slice pd nd cd, .int .i64 r] 29)) none := gby_alloc (gby_refl _ _) _
  have rA8_ := Lib.hid (show ((w1.alloc (.cells #[.int .i64 m, .slice pd nd cd, .int .i64 r] 29))).heap[W.heap.size]? = some (.cells #[.int .i64 m, .slice a0 n0 cap0, .int .i64 r] 29 (0, 0)) from row_held al_ rA4_.out)
  clear rA4_
  have rR9_ := Lib.hid (show ((w1.alloc (.cells #[.int .i64 m, .slice pd nd cd, .int .i64 r] 29))).heap[W.heap.size + 1]? = some (.cells #[.int .i64 0, .slice none 0 0, .int .i64 0] 29 (0, 0)) from row_held al_ rR5_.out)
  clear rR5_
  have oC10_ := Lib.hid (show OwU ((w1.alloc (.cells #[.int .i64 m, .slice pd nd cd, .int .i64 r] 29))) (W.heap.size + 1 + 1) (w1.heap.size) [] [own shFrame (.slice pd nd cd) xs] from OwU.grow oC7_.out al_)
  clear oC7_
  have G11_ := Lib.hid (show (W).grownBy ((w1.alloc (.cells #[.int .i64 m, .slice pd nd cd, .int .i64 r] 29))) none from gby_trans G6_.out al_)
  have rB12_ := Lib.hid (show ((w1.alloc (.cells #[.int .i64 m, .slice pd nd cd, .int .i64 r] 29))).heap[w1.heap.size]? = some (.cells #[.int .i64 m, .slice pd nd cd, .int .i64 r] 29 (0, 0)) from by first | exact heap_alloc_new _ _ | exact heap_pair _ _ _ | exact heap_trip _ _ _ _)
  clear al_
  have A_0_ : ((w1.alloc (.cells #[.int .i64 m, .slice pd nd cd, .int .i64 r] 29))).cell? ⟨W.heap.size, 0, none⟩ = some (.int .i64 m) := cell_of_row _ _ 0 _ _ _ rA8_.out
  have A_1_ : ((w1.alloc (.cells #[.int .i64 m, .slice pd nd cd, .int .i64 r] 29))).cell? ⟨W.heap.size, 1, none⟩ = some (.slice a0 n0 cap0) := cell_of_row _ _ 1 _ _ _ rA8_.out
  have A_2_ : ((w1.alloc (.cells #[.int .i64 m, .slice pd nd cd, .int .i64 r] 29))).cell? ⟨W.heap.size, 2, none⟩ = some (.int .i64 r) := cell_of_row _ _ 2 _ _ _ rA8_.out
  have R_0_ : ((w1.alloc (.cells #[.int .i64 m, .slice pd nd cd, .int .i64 r] 29))).cell? ⟨W.heap.size + 1, 0, none⟩ = some (.int .i64 0) := cell_of_row _ _ 0 _ _ _ rR9_.out
  have R_1_ : ((w1.alloc (.cells #[.int .i64 m, .slice pd nd cd, .int .i64 r] 29))).cell? ⟨W.heap.size + 1, 1, none⟩ = some (.slice none 0 0) := cell_of_row _ _ 1 _ _ _ rR9_.out
  have R_2_ : ((w1.alloc (.cells #[.int .i64 m, .slice pd nd cd, .int .i64 r] 29))).cell? ⟨W.heap.size + 1, 2, none⟩ = some (.int .i64 0) := cell_of_row _ _ 2 _ _ _ rR9_.out
  have B_0_ : ((w1.alloc (.cells #[.int .i64 m, .slice pd nd cd, .int .i64 r] 29))).cell? ⟨w1.heap.size, 0, none⟩ = some (.int .i64 m) := cell_of_row _ _ 0 _ _ _ rB12_.out
  have B_1_ : ((w1.alloc (.cells #[.int .i64 m, .slice pd nd cd, .int .i64 r] 29))).cell? ⟨w1.heap.size, 1, none⟩ = some (.slice pd nd cd) := cell_of_row _ _ 1 _ _ _ rB12_.out
  have B_2_ : ((w1.alloc (.cells #[.int .i64 m, .slice pd nd cd, .int .i64 r] 29))).cell? ⟨w1.heap.size, 2, none⟩ = some (.int .i64 r) := cell_of_row _ _ 2 _ _ _ rB12_.out
  clear A_0_ A_1_ A_2_ R_0_ R_1_ R_2_ B_0_ B_1_ B_2_
  have A_0_ : ((w1.alloc (.cells #[.int .i64 m, .slice pd nd cd, .int .i64 r] 29))).cell? ⟨W.heap.size, 0, none⟩ = some (.int .i64 m) := cell_of_row _ _ 0 _ _ _ rA8_.out
  have A_1_ : ((w1.alloc (.cells #[.int .i64 m, .slice pd nd cd, .int .i64 r] 29))).cell? ⟨W.heap.size, 1, none⟩ = some (.slice a0 n0 cap0) := cell_of_row _ _ 1 _ _ _ rA8_.out
  have A_2_ : ((w1.alloc (.cells #[.int .i64 m, .slice pd nd cd, .int .i64 r] 29))).cell? ⟨W.heap.size, 2, none⟩ = some (.int .i64 r) := cell_of_row _ _ 2 _ _ _ rA8_.out
  go_wp2_with fail
  go_at_call 9
  refine ((specSnd _ m r _ xs (HX.out.grow G11_.out) HL.out).mono (bpost_yes HV.out)).mono ?_
  rintro e w2 ⟨rfl, g⟩
  have szw2 := g.size
  try simp only [World.size_alloc] at szw2
  try simp only [World.size_setCell] at szw2
  clear A_0_ A_1_ A_2_
  have rA13_ := Lib.hid (show (w2).heap[W.heap.size]? = some (.cells #[.int .i64 m, .slice a0 n0 cap0, .int .i64 r] 29 (0, 0)) from row_held g rA8_.out)
  clear rA8_
  have rR14_ := Lib.hid (show (w2).heap[W.heap.size + 1]? = some (.cells #[.int .i64 0, .slice none 0 0, .int .i64 0] 29 (0, 0)) from row_held g rR9_.out)
  clear rR9_
  have rB15_ := Lib.hid (show (w2).heap[w1.heap.size]? = some (.cells #[.int .i64 m, .slice pd nd cd, .int .i64 r] 29 (0, 0)) from row_held g rB12_.out)
  clear rB12_
  have oC16_ := Lib.hid (show OwU (w2) (W.heap.size + 1 + 1) (w1.heap.size) [] [own shFrame (.slice pd nd cd) xs] from OwU.grow oC10_.out g)
  clear oC10_
  have G17_ := Lib.hid (show (W).grownBy (w2) none from gby_trans G11_.out g)
  clear g
  have A_0_ : (w2).cell? ⟨W.heap.size, 0, none⟩ = some (.int .i64 m) := cell_of_row _ _ 0 _ _ _ rA13_.out
  have A_1_ : (w2).cell? ⟨W.heap.size, 1, none⟩ = some (.slice a0 n0 cap0) := cell_of_row _ _ 1 _ _ _ rA13_.out
  have A_2_ : (w2).cell? ⟨W.heap.size, 2, none⟩ = some (.int .i64 r) := cell_of_row _ _ 2 _ _ _ rA13_.out
  have R_0_ : (w2).cell? ⟨W.heap.size + 1, 0, none⟩ = some (.int .i64 0) := cell_of_row _ _ 0 _ _ _ rR14_.out
  have R_1_ : (w2).cell? ⟨W.heap.size + 1, 1, none⟩ = some (.slice none 0 0) := cell_of_row _ _ 1 _ _ _ rR14_.out
  have R_2_ : (w2).cell? ⟨W.heap.size + 1, 2, none⟩ = some (.int .i64 0) := cell_of_row _ _ 2 _ _ _ rR14_.out
  have B_0_ : (w2).cell? ⟨w1.heap.size, 0, none⟩ = some (.int .i64 m) := cell_of_row _ _ 0 _ _ _ rB15_.out
  have B_1_ : (w2).cell? ⟨w1.heap.size, 1, none⟩ = some (.slice pd nd cd) := cell_of_row _ _ 1 _ _ _ rB15_.out
  have B_2_ : (w2).cell? ⟨w1.heap.size, 2, none⟩ = some (.int .i64 r) := cell_of_row _ _ 2 _ _ _ rB15_.out
  clear A_0_ A_1_ A_2_ R_0_ R_1_ R_2_ B_0_ B_1_ B_2_
  have A_0_ : (w2).cell? ⟨W.heap.size, 0, none⟩ = some (.int .i64 m) := cell_of_row _ _ 0 _ _ _ rA13_.out
  have A_1_ : (w2).cell? ⟨W.heap.size, 1, none⟩ = some (.slice a0 n0 cap0) := cell_of_row _ _ 1 _ _ _ rA13_.out
  have A_2_ : (w2).cell? ⟨W.heap.size, 2, none⟩ = some (.int .i64 r) := cell_of_row _ _ 2 _ _ _ rA13_.out
  have R_0_ : (w2).cell? ⟨W.heap.size + 1, 0, none⟩ = some (.int .i64 0) := cell_of_row _ _ 0 _ _ _ rR14_.out
  have R_1_ : (w2).cell? ⟨W.heap.size + 1, 1, none⟩ = some (.slice none 0 0) := cell_of_row _ _ 1 _ _ _ rR14_.out
  have R_2_ : (w2).cell? ⟨W.heap.size + 1, 2, none⟩ = some (.int .i64 0) := cell_of_row _ _ 2 _ _ _ rR14_.out
  have Rf0_ : (w2).frozen? ⟨W.heap.size + 1, 0, none⟩ = false := frozen_of_row _ _ 0 _ _ rR14_.out
  have Rf1_ : (w2).frozen? ⟨W.heap.size + 1, 1, none⟩ = false := frozen_of_row _ _ 1 _ _ rR14_.out
  have Rf2_ : (w2).frozen? ⟨W.heap.size + 1, 2, none⟩ = false := frozen_of_row _ _ 2 _ _ rR14_.out
  have B_0_ : (w2).cell? ⟨w1.heap.size, 0, none⟩ = some (.int .i64 m) := cell_of_row _ _ 0 _ _ _ rB15_.out
  have B_1_ : (w2).cell? ⟨w1.heap.size, 1, none⟩ = some (.slice pd nd cd) := cell_of_row _ _ 1 _ _ _ rB15_.out
  have B_2_ : (w2).cell? ⟨w1.heap.size, 2, none⟩ = some (.int .i64 r) := cell_of_row _ _ 2 _ _ _ rB15_.out
  have Bf0_ : (w2).frozen? ⟨w1.heap.size, 0, none⟩ = false := frozen_of_row _ _ 0 _ _ rB15_.out
  have Bf1_ : (w2).frozen? ⟨w1.heap.size, 1, none⟩ = false := frozen_of_row _ _ 1 _ _ rB15_.out
  have Bf2_ : (w2).frozen? ⟨w1.heap.size, 2, none⟩ = false := frozen_of_row _ _ 2 _ _ rB15_.out
  have sa0_ : (w2.setCell ⟨w1.heap.size, 2, none⟩ (.int .i64 0)).cell? ⟨w1.heap.size, 0, none⟩ = some (.int .i64 m) := cell_of_row _ _ 0 _ _ _ (heap_setCell_same _ _ 2 _ _ (.int .i64 0) rB15_.out)
  have sa1_ : (w2.setCell ⟨w1.heap.size, 2, none⟩ (.int .i64 0)).cell? ⟨w1.heap.size, 1, none⟩ = some (.slice pd nd cd) := cell_of_row _ _ 1 _ _ _ (heap_setCell_same _ _ 2 _ _ (.int .i64 0) rB15_.out)
  have sa2_ : (w2.setCell ⟨w1.heap.size, 2, none⟩ (.int .i64 0)).cell? ⟨w1.heap.size, 2, none⟩ = some (.int .i64 0) := cell_of_row _ _ 2 _ _ _ (heap_setCell_same _ _ 2 _ _ (.int .i64 0) rB15_.out)
  have sr0_ : (w2.setCell ⟨w1.heap.size, 2, none⟩ (.int .i64 0)).cell? ⟨W.heap.size + 1, 0, none⟩ = some (.int .i64 0) := cell_of_row _ _ 0 _ _ _ (set_far rR14_.out (by dsimp only; omega))
  have sf0_ : (w2.setCell ⟨w1.heap.size, 2, none⟩ (.int .i64 0)).frozen? ⟨W.heap.size + 1, 0, none⟩ = false := frozen_of_row _ _ 0 _ _ (set_far rR14_.out (by dsimp only; omega))
  have sr1_ : (w2.setCell ⟨w1.heap.size, 2, none⟩ (.int .i64 0)).cell? ⟨W.heap.size + 1, 1, none⟩ = some (.slice none 0 0) := cell_of_row _ _ 1 _ _ _ (set_far rR14_.out (by dsimp only; omega))
  have sf1_ : (w2.setCell ⟨w1.heap.size, 2, none⟩ (.int .i64 0)).frozen? ⟨W.heap.size + 1, 1, none⟩ = false := frozen_of_row _ _ 1 _ _ (set_far rR14_.out (by dsimp only; omega))
  have sr2_ : (w2.setCell ⟨w1.heap.size, 2, none⟩ (.int .i64 0)).cell? ⟨W.heap.size + 1, 2, none⟩ = some (.int .i64 0) := cell_of_row _ _ 2 _ _ _ (set_far rR14_.out (by dsimp only; omega))
  have sf2_ : (w2.setCell ⟨w1.heap.size, 2, none⟩ (.int .i64 0)).frozen? ⟨W.heap.size + 1, 2, none⟩ = false := frozen_of_row _ _ 2 _ _ (set_far rR14_.out (by dsimp only; omega))
  have hlo_ : W.heap.size ≤ W.heap.size + 1 + 1 := by omega
  go_wp2
  refine bodyPost_ret (v := .agg #[.int .i64 m, .slice pd nd cd, .int .i64 0]) (by simp [results, go_sem, sr0_, sr1_, sr2_]) rfl ⟨_, rfl, ?_, ?_⟩
  · exact OwU.wide (lo := W.heap.size + 1 + 1) (hi := w1.heap.size) hlo_ (by simp only [World.size_setCell]; omega) (OwU.keep (chg_one _ (W.heap.size + 1) 2 (.int .i64 0)) (by omega) (OwU.keep (chg_one _ (W.heap.size + 1) 1 (.slice pd nd cd)) (by omega) (OwU.keep (chg_one _ (W.heap.size + 1) 0 (.int .i64 m)) (by omega) (OwU.keep (chg_one _ (w1.heap.size) 2 (.int .i64 0)) (by omega) oC16_.out))))
  · exact (gby_setnew (gby_setnew (gby_setnew (gby_setnew G17_.out _ (by dsimp only; omega) _) _ (by dsimp only; omega) _) _ (by dsimp only; omega) _) _ (by dsimp only; omega) _)

set_option maxRecDepth 8000 in
set_option maxHeartbeats 2000000 in
theorem implRep_no (W : World) (m r : Int) (v : Value) (xs : List DFrame) (H : RdL shFrame W v xs) (hl : szL shFrame xs ≤ 1048576) (hv : ¬ SndP m r xs) : Calls Try.prog 14 #[.agg #[.int .i64 m, v, .int .i64 r]] W (ResIReplay m xs r W) := by
  have HV := Lib.hid hv
  clear hv
  have HX := Lib.hid H
  have HL := Lib.hid hl
  obtain ⟨a0, n0, cap0, rfl⟩ := RdL.form H
  have hn0 : n0 = xs.length := by obtain ⟨_, _, e, _⟩ := H; injection e
  have HE := Lib.hid hn0
  have hlx : n0 ≤ 1048576 := by have := szL_len shFrame xs; omega
  clear H hl hn0
  go_enter Try.func14, Try.ntmps14
  have rA1_ := Lib.hid (show (((W.alloc (.cells #[.int .i64 m, .slice a0 n0 cap0, .int .i64 r] 29)).alloc (.cells #[.int .i64 0, .slice none 0 0, .int .i64 0] 29))).heap[W.heap.size]? = some (.cells #[.int .i64 m, .slice a0 n0 cap0, .int .i64 r] 29 (0, 0)) from by rw [heap_alloc_old _ _ (by simp only [World.size_alloc]; omega)]; exact heap_alloc_new _ _)
  have rR2_ := Lib.hid (show (((W.alloc (.cells #[.int .i64 m, .slice a0 n0 cap0, .int .i64 r] 29)).alloc (.cells #[.int .i64 0, .slice none 0 0, .int .i64 0] 29))).heap[W.heap.size + 1]? = some (.cells #[.int .i64 0, .slice none 0 0, .int .i64 0] 29 (0, 0)) from by exact heap_pair _ _ _)
  have G3_ := Lib.hid (show (W).grownBy (((W.alloc (.cells #[.int .i64 m, .slice a0 n0 cap0, .int .i64 r] 29)).alloc (.cells #[.int .i64 0, .slice none 0 0, .int .i64 0] 29))) none from (gby_alloc (gby_alloc (gby_refl _ _) _) _))
  have A_0_ : (((W.alloc (.cells #[.int .i64 m, .slice a0 n0 cap0, .int .i64 r] 29)).alloc (.cells #[.int .i64 0, .slice none 0 0, .int .i64 0] 29))).cell? ⟨W.heap.size, 0, none⟩ = some (.int .i64 m) := cell_of_row _ _ 0 _ _ _ rA1_.out
  have A_1_ : (((W.alloc (.cells #[.int .i64 m, .slice a0 n0 cap0, .int .i64 r] 29)).alloc (.cells #[.int .i64 0, .slice none 0 0, .int .i64 0] 29))).cell? ⟨W.heap.size, 1, none⟩ = some (.slice a0 n0 cap0) := cell_of_row _ _ 1 _ _ _ rA1_.out
  have A_2_ : (((W.alloc (.cells #[.int .i64 m, .slice a0 n0 cap0, .int .i64 r] 29)).alloc (.cells #[.int .i64 0, .slice none 0 0, .int .i64 0] 29))).cell? ⟨W.heap.size, 2, none⟩ = some (.int .i64 r) := cell_of_row _ _ 2 _ _ _ rA1_.out
  have R_0_ : (((W.alloc (.cells #[.int .i64 m, .slice a0 n0 cap0, .int .i64 r] 29)).alloc (.cells #[.int .i64 0, .slice none 0 0, .int .i64 0] 29))).cell? ⟨W.heap.size + 1, 0, none⟩ = some (.int .i64 0) := cell_of_row _ _ 0 _ _ _ rR2_.out
  have R_1_ : (((W.alloc (.cells #[.int .i64 m, .slice a0 n0 cap0, .int .i64 r] 29)).alloc (.cells #[.int .i64 0, .slice none 0 0, .int .i64 0] 29))).cell? ⟨W.heap.size + 1, 1, none⟩ = some (.slice none 0 0) := cell_of_row _ _ 1 _ _ _ rR2_.out
  have R_2_ : (((W.alloc (.cells #[.int .i64 m, .slice a0 n0 cap0, .int .i64 r] 29)).alloc (.cells #[.int .i64 0, .slice none 0 0, .int .i64 0] 29))).cell? ⟨W.heap.size + 1, 2, none⟩ = some (.int .i64 0) := cell_of_row _ _ 2 _ _ _ rR2_.out
  go_wp2_with fail
  go_at_call 41
  refine (copiedSnd_d _ m r _ xs (HX.out.grow G3_.out) HL.out).mono ?_
  rintro e w1 ⟨d_, rfl, o, g⟩
  have szw1 := g.size
  try simp only [World.size_alloc] at szw1 o
  try unfold vSender
  clear A_0_ A_1_ A_2_ R_0_ R_1_ R_2_
  have rA4_ := Lib.hid (show (w1).heap[W.heap.size]? = some (.cells #[.int .i64 m, .slice a0 n0 cap0, .int .i64 r] 29 (0, 0)) from row_held g rA1_.out)
  clear rA1_
  have rR5_ := Lib.hid (show (w1).heap[W.heap.size + 1]? = some (.cells #[.int .i64 0, .slice none 0 0, .int .i64 0] 29 (0, 0)) from row_held g rR2_.out)
  clear rR2_
  have G6_ := Lib.hid (show (W).grownBy (w1) none from gby_trans G3_.out g)
  obtain ⟨pd, nd, cd, hv_⟩ := RdL.form (OwU.rd o)
  subst hv_
  clear g
  have oC7_ := Lib.hid (show OwU (w1) (W.heap.size + 1 + 1) (w1.heap.size) [] [own shFrame (.slice pd nd cd) xs] from o)
  clear o
  have A_0_ : (w1).cell? ⟨W.heap.size, 0, none⟩ = some (.int .i64 m) := cell_of_row _ _ 0 _ _ _ rA4_.out
  have A_1_ : (w1).cell? ⟨W.heap.size, 1, none⟩ = some (.slice a0 n0 cap0) := cell_of_row _ _ 1 _ _ _ rA4_.out
  have A_2_ : (w1).cell? ⟨W.heap.size, 2, none⟩ = some (.int .i64 r) := cell_of_row _ _ 2 _ _ _ rA4_.out
  have Af0_ : (w1).frozen? ⟨W.heap.size, 0, none⟩ = false := frozen_of_row _ _ 0 _ _ rA4_.out
  have Af1_ : (w1).frozen? ⟨W.heap.size, 1, none⟩ = false := frozen_of_row _ _ 1 _ _ rA4_.out
  have Af2_ : (w1).frozen? ⟨W.heap.size, 2, none⟩ = false := frozen_of_row _ _ 2 _ _ rA4_.out
  have R_0_ : (w1).cell? ⟨W.heap.size + 1, 0, none⟩ = some (.int .i64 0) := cell_of_row _ _ 0 _ _ _ rR5_.out
  have R_1_ : (w1).cell? ⟨W.heap.size + 1, 1, none⟩ = some (.slice none 0 0) := cell_of_row _ _ 1 _ _ _ rR5_.out
  have R_2_ : (w1).cell? ⟨W.heap.size + 1, 2, none⟩ = some (.int .i64 0) := cell_of_row _ _ 2 _ _ _ rR5_.out
  have zA_ := Lib.hid (show ((((w1.setCell ⟨W.heap.size, 0, none⟩ (.int .i64 m)).setCell ⟨W.heap.size, 1, none⟩ (.slice pd nd cd)).setCell ⟨W.heap.size, 2, none⟩ (.int .i64 r))).heap[W.heap.size]? = some (.cells #[.int .i64 m, .slice pd nd cd, .int .i64 r] 29 (0, 0)) from (heap_setCell_same _ _ 2 _ _ _ (heap_setCell_same _ _ 1 _ _ _ (heap_setCell_same _ _ 0 _ _ _ rA4_.out))))
  have z0_ : ((((w1.setCell ⟨W.heap.size, 0, none⟩ (.int .i64 m)).setCell ⟨W.heap.size, 1, none⟩ (.slice pd nd cd)).setCell ⟨W.heap.size, 2, none⟩ (.int .i64 r))).cell? ⟨W.heap.size, 0, none⟩ = some (.int .i64 m) := cell_of_row _ _ 0 _ _ _ zA_.out
  have z1_ : ((((w1.setCell ⟨W.heap.size, 0, none⟩ (.int .i64 m)).setCell ⟨W.heap.size, 1, none⟩ (.slice pd nd cd)).setCell ⟨W.heap.size, 2, none⟩ (.int .i64 r))).cell? ⟨W.heap.size, 1, none⟩ = some (.slice pd nd cd) := cell_of_row _ _ 1 _ _ _ zA_.out
  have z2_ : ((((w1.setCell ⟨W.heap.size, 0, none⟩ (.int .i64 m)).setCell ⟨W.heap.size, 1, none⟩ (.slice pd nd cd)).setCell ⟨W.heap.size, 2, none⟩ (.int .i64 r))).cell? ⟨W.heap.size, 2, none⟩ = some (.int .i64 r) := cell_of_row _ _ 2 _ _ _ zA_.out
  go_wp2_with fail
  go_at_call 11
  clear zA_ z0_ z1_ z2_
  clear A_0_ A_1_ A_2_ Af0_ Af1_ Af2_ R_0_ R_1_ R_2_
  have rA8_ := Lib.hid (show ((((w1.setCell ⟨W.heap.size, 0, none⟩ (.int .i64 m)).setCell ⟨W.heap.size, 1, none⟩ (.slice pd nd cd)).setCell ⟨W.heap.size, 2, none⟩ (.int .i64 r))).heap[W.heap.size]? = some (.cells #[.int .i64 m, .slice pd nd cd, .int .i64 r] 29 (0, 0)) from (heap_setCell_same _ _ 2 _ _ _ (heap_setCell_same _ _ 1 _ _ _ (heap_setCell_same _ _ 0 _ _ _ rA4_.out))))
  have rR9_ := Lib.hid (show ((((w1.setCell ⟨W.heap.size, 0, none⟩ (.int .i64 m)).setCell ⟨W.heap.size, 1, none⟩ (.slice pd nd cd)).setCell ⟨W.heap.size, 2, none⟩ (.int .i64 r))).heap[W.heap.size + 1]? = some (.cells #[.int .i64 0, .slice none 0 0, .int .i64 0] 29 (0, 0)) from (set_far (set_far (set_far rR5_.out (by dsimp only; omega)) (by dsimp only; omega)) (by dsimp only; omega)))
  have oC10_ := Lib.hid (show OwU ((((w1.setCell ⟨W.heap.size, 0, none⟩ (.int .i64 m)).setCell ⟨W.heap.size, 1, none⟩ (.slice pd nd cd)).setCell ⟨W.heap.size, 2, none⟩ (.int .i64 r))) (W.heap.size + 1 + 1) (w1.heap.size) [] [own shFrame (.slice pd nd cd) xs] from (OwU.keep (chg_one _ (W.heap.size) 2 (.int .i64 r)) (by omega) (OwU.keep (chg_one _ (W.heap.size) 1 (.slice pd nd cd)) (by omega) (OwU.keep (chg_one _ (W.heap.size) 0 (.int .i64 m)) (by omega) oC7_.out))))
  have G11_ := Lib.hid (show (W).grownBy ((((w1.setCell ⟨W.heap.size, 0, none⟩ (.int .i64 m)).setCell ⟨W.heap.size, 1, none⟩ (.slice pd nd cd)).setCell ⟨W.heap.size, 2, none⟩ (.int .i64 r))) none from (gby_setnew (gby_setnew (gby_setnew G6_.out _ (by dsimp only; omega) _) _ (by dsimp only; omega) _) _ (by dsimp only; omega) _))
  have hszwc_ : ((((w1.setCell ⟨W.heap.size, 0, none⟩ (.int .i64 m)).setCell ⟨W.heap.size, 1, none⟩ (.slice pd nd cd)).setCell ⟨W.heap.size, 2, none⟩ (.int .i64 r))).heap.size = (w1).heap.size := by simp only [World.size_setCell]
  generalize (((w1.setCell ⟨W.heap.size, 0, none⟩ (.int .i64 m)).setCell ⟨W.heap.size, 1, none⟩ (.slice pd nd cd)).setCell ⟨W.heap.size, 2, none⟩ (.int .i64 r)) = wc at rA8_ rR9_ oC10_ G11_ hszwc_ ⊢
  try simp only [World.size_alloc] at hszwc_
  clear rA4_
  clear rR5_
  clear oC7_
  refine ((implSnd _ m r _ xs (OwU.rd oC10_.out) HL.out).mono (bpost_no HV.out)).mono ?_
  rintro e w2 ⟨rfl, g⟩
  have szw2 := g.size
  have rA12_ := Lib.hid (show (w2).heap[W.heap.size]? = some (.cells #[.int .i64 m, .slice pd nd cd, .int .i64 r] 29 (0, 0)) from row_held g rA8_.out)
  clear rA8_
  have rR13_ := Lib.hid (show (w2).heap[W.heap.size + 1]? = some (.cells #[.int .i64 0, .slice none 0 0, .int .i64 0] 29 (0, 0)) from row_held g rR9_.out)
  clear rR9_
  have oC14_ := Lib.hid (show OwU (w2) (W.heap.size + 1 + 1) (w1.heap.size) [] [own shFrame (.slice pd nd cd) xs] from OwU.grow oC10_.out g)
  clear oC10_
  have G15_ := Lib.hid (show (W).grownBy (w2) none from gby_trans G11_.out g)
  clear g
  have A_0_ : (w2).cell? ⟨W.heap.size, 0, none⟩ = some (.int .i64 m) := cell_of_row _ _ 0 _ _ _ rA12_.out
  have A_1_ : (w2).cell? ⟨W.heap.size, 1, none⟩ = some (.slice pd nd cd) := cell_of_row _ _ 1 _ _ _ rA12_.out
  have A_2_ : (w2).cell? ⟨W.heap.size, 2, none⟩ = some (.int .i64 r) := cell_of_row _ _ 2 _ _ _ rA12_.out
  have R_0_ : (w2).cell? ⟨W.heap.size + 1, 0, none⟩ = some (.int .i64 0) := cell_of_row _ _ 0 _ _ _ rR13_.out
  have R_1_ : (w2).cell? ⟨W.heap.size + 1, 1, none⟩ = some (.slice none 0 0) := cell_of_row _ _ 1 _ _ _ rR13_.out
  have R_2_ : (w2).cell? ⟨W.heap.size + 1, 2, none⟩ = some (.int .i64 0) := cell_of_row _ _ 2 _ _ _ rR13_.out
  clear A_0_ A_1_ A_2_ R_0_ R_1_ R_2_
  have A_0_ : (w2).cell? ⟨W.heap.size, 0, none⟩ = some (.int .i64 m) := cell_of_row _ _ 0 _ _ _ rA12_.out
  have A_1_ : (w2).cell? ⟨W.heap.size, 1, none⟩ = some (.slice pd nd cd) := cell_of_row _ _ 1 _ _ _ rA12_.out
  have A_2_ : (w2).cell? ⟨W.heap.size, 2, none⟩ = some (.int .i64 r) := cell_of_row _ _ 2 _ _ _ rA12_.out
  have R_0_ : (w2).cell? ⟨W.heap.size + 1, 0, none⟩ = some (.int .i64 0) := cell_of_row _ _ 0 _ _ _ rR13_.out
  have R_1_ : (w2).cell? ⟨W.heap.size + 1, 1, none⟩ = some (.slice none 0 0) := cell_of_row _ _ 1 _ _ _ rR13_.out
  have R_2_ : (w2).cell? ⟨W.heap.size + 1, 2, none⟩ = some (.int .i64 0) := cell_of_row _ _ 2 _ _ _ rR13_.out
  have Rf0_ : (w2).frozen? ⟨W.heap.size + 1, 0, none⟩ = false := frozen_of_row _ _ 0 _ _ rR13_.out
  have Rf1_ : (w2).frozen? ⟨W.heap.size + 1, 1, none⟩ = false := frozen_of_row _ _ 1 _ _ rR13_.out
  have Rf2_ : (w2).frozen? ⟨W.heap.size + 1, 2, none⟩ = false := frozen_of_row _ _ 2 _ _ rR13_.out
  have hlo_ : W.heap.size ≤ W.heap.size + 1 + 1 := by omega
  go_wp2
  refine bodyPost_ret (v := .agg #[.int .i64 m, .slice pd nd cd, .int .i64 r]) (by simp [results, go_sem, R_0_, R_1_, R_2_]) rfl ⟨_, rfl, ?_, ?_⟩
  · exact OwU.wide (lo := W.heap.size + 1 + 1) (hi := w1.heap.size) hlo_ (by simp only [World.size_setCell]; omega) (OwU.keep (chg_one _ (W.heap.size + 1) 2 (.int .i64 r)) (by omega) (OwU.keep (chg_one _ (W.heap.size + 1) 1 (.slice pd nd cd)) (by omega) (OwU.keep (chg_one _ (W.heap.size + 1) 0 (.int .i64 m)) (by omega) oC14_.out)))
  · exact (gby_setnew (gby_setnew (gby_setnew G15_.out _ (by dsimp only; omega) _) _ (by dsimp only; omega) _) _ (by dsimp only; omega) _)

set_option maxRecDepth 8000 in
set_option maxHeartbeats 2000000 in
theorem implRep_yes (W : World) (m r : Int) (v : Value) (xs : List DFrame) (H : RdL shFrame W v xs) (hl : szL shFrame xs ≤ 1048576) (hv : SndP m r xs) : Calls Try.prog 14 #[.agg #[.int .i64 m, v, .int .i64 r]] W (ResIReplay m xs 0 W) := by
  have HV := Lib.hid hv
  clear hv
  have HX := Lib.hid H
  have HL := Lib.hid hl
  obtain ⟨a0, n0, cap0, rfl⟩ := RdL.form H
  have hn0 : n0 = xs.length := by obtain ⟨_, _, e, _⟩ := H; injection e
  have HE := Lib.hid hn0
  have hlx : n0 ≤ 1048576 := by have := szL_len shFrame xs; omega
  clear H hl hn0
  go_enter Try.func14, Try.ntmps14
  have rA1_ := Lib.hid (show (((W.alloc (.cells #[.int .i64 m, .slice a0 n0 cap0, .int .i64 r] 29)).alloc (.cells #[.int .i64 0, .slice none 0 0, .int .i64 0] 29))).heap[W.heap.size]? = some (.cells #[.int .i64 m, .slice a0 n0 cap0, .int .i64 r] 29 (0, 0)) from by rw [heap_alloc_old _ _ (by simp only [World.size_alloc]; omega)]; exact heap_alloc_new _ _)
  have rR2_ := Lib.hid (show (((W.alloc (.cells #[.int .i64 m, .slice a0 n0 cap0, .int .i64 r] 29)).alloc (.cells #[.int .i64 0, .slice none 0 0, .int .i64 0] 29))).heap[W.heap.size + 1]? = some (.cells #[.int .i64 0, .slice none 0 0, .int .i64 0] 29 (0, 0)) from by exact heap_pair _ _ _)
  have G3_ := Lib.hid (show (W).grownBy (((W.alloc (.cells #[.int .i64 m, .slice a0 n0 cap0, .int .i64 r] 29)).alloc (.cells #[.int .i64 0, .slice none 0 0, .int .i64 0] 29))) none from (gby_alloc (gby_alloc (gby_refl _ _) _) _))
  have A_0_ : (((W.alloc (.cells #[.int .i64 m, .slice a0 n0 cap0, .int .i64 r] 29)).alloc (.cells #[.int .i64 0, .slice none 0 0, .int .i64 0] 29))).cell? ⟨W.heap.size, 0, none⟩ = some (.int .i64 m) := cell_of_row _ _ 0 _ _ _ rA1_.out
  have A_1_ : (((W.alloc (.cells #[.int .i64 m, .slice a0 n0 cap0, .int .i64 r] 29)).alloc (.cells #[.int .i64 0, .slice none 0 0, .int .i64 0] 29))).cell? ⟨W.heap.size, 1, none⟩ = some (.slice a0 n0 cap0) := cell_of_row _ _ 1 _ _ _ rA1_.out
  have A_2_ : (((W.alloc (.cells #[.int .i64 m, .slice a0 n0 cap0, .int .i64 r] 29)).alloc (.cells #[.int .i64 0, .slice none 0 0, .int .i64 0] 29))).cell? ⟨W.heap.size, 2, none⟩ = some (.int .i64 r) := cell_of_row _ _ 2 _ _ _ rA1_.out
  have R_0_ : (((W.alloc (.cells #[.int .i64 m, .slice a0 n0 cap0, .int .i64 r] 29)).alloc (.cells #[.int .i64 0, .slice none 0 0, .int .i64 0] 29))).cell? ⟨W.heap.size + 1, 0, none⟩ = some (.int .i64 0) := cell_of_row _ _ 0 _ _ _ rR2_.out
  have R_1_ : (((W.alloc (.cells #[.int .i64 m, .slice a0 n0 cap0, .int .i64 r] 29)).alloc (.cells #[.int .i64 0, .slice none 0 0, .int .i64 0] 29))).cell? ⟨W.heap.size + 1, 1, none⟩ = some (.slice none 0 0) := cell_of_row _ _ 1 _ _ _ rR2_.out
  have R_2_ : (((W.alloc (.cells #[.int .i64 m, .slice a0 n0 cap0, .int .i64 r] 29)).alloc (.cells #[.int .i64 0, .slice none 0 0, .int .i64 0] 29))).cell? ⟨W.heap.size + 1, 2, none⟩ = some (.int .i64 0) := cell_of_row _ _ 2 _ _ _ rR2_.out
  go_wp2_with fail
  go_at_call 41
  refine (copiedSnd_d _ m r _ xs (HX.out.grow G3_.out) HL.out).mono ?_
  rintro e w1 ⟨d_, rfl, o, g⟩
  have szw1 := g.size
  try simp only [World.size_alloc] at szw1 o
  try unfold vSender
  clear A_0_ A_1_ A_2_ R_0_ R_1_ R_2_
  have rA4_ := Lib.hid (show (w1).heap[W.heap.size]? = some (.cells #[.int .i64 m, .slice a0 n0 cap0, .int .i64 r] 29 (0, 0)) from row_held g rA1_.out)
  clear rA1_
  have rR5_ := Lib.hid (show (w1).heap[W.heap.size + 1]? = some (.cells #[.int .i64 0, .slice none 0 0, .int .i64 0] 29 (0, 0)) from row_held g rR2_.out)
  clear rR2_
  have G6_ := Lib.hid (show (W).grownBy (w1) none from gby_trans G3_.out g)
  obtain ⟨pd, nd, cd, hv_⟩ := RdL.form (OwU.rd o)
  subst hv_
  clear g
  have oC7_ := Lib.hid (show OwU (w1) (W.heap.size + 1 + 1) (w1.heap.size) [] [own shFrame (.slice pd nd cd) xs] from o)
  clear o
  have A_0_ : (w1).cell? ⟨W.heap.size, 0, none⟩ = some (.int .i64 m) := cell_of_row _ _ 0 _ _ _ rA4_.out
  have A_1_ : (w1).cell? ⟨W.heap.size, 1, none⟩ = some (.slice a0 n0 cap0) := cell_of_row _ _ 1 _ _ _ rA4_.out
  have A_2_ : (w1).cell? ⟨W.heap.size, 2, none⟩ = some (.int .i64 r) := cell_of_row _ _ 2 _ _ _ rA4_.out
  have Af0_ : (w1).frozen? ⟨W.heap.size, 0, none⟩ = false := frozen_of_row _ _ 0 _ _ rA4_.out
  have Af1_ : (w1).frozen? ⟨W.heap.size, 1, none⟩ = false := frozen_of_row _ _ 1 _ _ rA4_.out
  have Af2_ : (w1).frozen? ⟨W.heap.size, 2, none⟩ = false := frozen_of_row _ _ 2 _ _ rA4_.out
  have R_0_ : (w1).cell? ⟨W.heap.size + 1, 0, none⟩ = some (.int .i64 0) := cell_of_row _ _ 0 _ _ _ rR5_.out
  have R_1_ : (w1).cell? ⟨W.heap.size + 1, 1, none⟩ = some (.slice none 0 0) := cell_of_row _ _ 1 _ _ _ rR5_.out
  have R_2_ : (w1).cell? ⟨W.heap.size + 1, 2, none⟩ = some (.int .i64 0) := cell_of_row _ _ 2 _ _ _ rR5_.out
  have zA_ := Lib.hid (show ((((w1.setCell ⟨W.heap.size, 0, none⟩ (.int .i64 m)).setCell ⟨W.heap.size, 1, none⟩ (.slice pd nd cd)).setCell ⟨W.heap.size, 2, none⟩ (.int .i64 r))).heap[W.heap.size]? = some (.cells #[.int .i64 m, .slice pd nd cd, .int .i64 r] 29 (0, 0)) from (heap_setCell_same _ _ 2 _ _ _ (heap_setCell_same _ _ 1 _ _ _ (heap_setCell_same _ _ 0 _ _ _ rA4_.out))))
  have z0_ : ((((w1.setCell ⟨W.heap.size, 0, none⟩ (.int .i64 m)).setCell ⟨W.heap.size, 1, none⟩ (.slice pd nd cd)).setCell ⟨W.heap.size, 2, none⟩ (.int .i64 r))).cell? ⟨W.heap.size, 0, none⟩ = some (.int .i64 m) := cell_of_row _ _ 0 _ _ _ zA_.out
  have z1_ : ((((w1.setCell ⟨W.heap.size, 0, none⟩ (.int .i64 m)).setCell ⟨W.heap.size, 1, none⟩ (.slice pd nd cd)).setCell ⟨W.heap.size, 2, none⟩ (.int .i64 r))).cell? ⟨W.heap.size, 1, none⟩ = some (.slice pd nd cd) := cell_of_row _ _ 1 _ _ _ zA_.out
  have z2_ : ((((w1.setCell ⟨W.heap.size, 0, none⟩ (.int .i64 m)).setCell ⟨W.heap.size, 1, none⟩ (.slice pd nd cd)).setCell ⟨W.heap.size, 2, none⟩ (.int .i64 r))).cell? ⟨W.heap.size, 2, none⟩ = some (.int .i64 r) := cell_of_row _ _ 2 _ _ _ zA_.out
  go_wp2_with fail
  go_at_call 11
  clear zA_ z0_ z1_ z2_
  clear A_0_ A_1_ A_2_ Af0_ Af1_ Af2_ R_0_ R_1_ R_2_
  have rA8_ := Lib.hid (show ((((w1.setCell ⟨W.heap.size, 0, none⟩ (.int .i64 m)).setCell ⟨W.heap.size, 1, none⟩ (.slice pd nd cd)).setCell ⟨W.heap.size, 2, none⟩ (.int .i64 r))).heap[W.heap.size]? = some (.cells #[.int .i64 m, .slice pd nd cd, .int .i64 r] 29 (0, 0)) from (heap_setCell_same _ _ 2 _ _ _ (heap_setCell_same _ _ 1 _ _ _ (heap_setCell_same _ _ 0 _ _ _ rA4_.out))))
  have rR9_ := Lib.hid (show ((((w1.setCell ⟨W.heap.size, 0, none⟩ (.int .i64 m)).setCell ⟨W.heap.size, 1, none⟩ (.slice pd nd cd)).setCell ⟨W.heap.size, 2, none⟩ (.int .i64 r))).heap[W.heap.size + 1]? = some (.cells #[.int .i64 0, .slice none 0 0, .int .i64 0] 29 (0, 0)) from (set_far (set_far (set_far rR5_.out (by dsimp only; omega)) (by dsimp only; omega)) (by dsimp only; omega)))
  have oC10_ := Lib.hid (show OwU ((((w1.setCell ⟨W.heap.size, 0, none⟩ (.int .i64 m)).setCell ⟨W.heap.size, 1, none⟩ (.slice pd nd cd)).setCell ⟨W.heap.size, 2, none⟩ (.int .i64 r))) (W.heap.size + 1 + 1) (w1.heap.size) [] [own shFrame (.slice pd nd cd) xs] from (OwU.keep (chg_one _ (W.heap.size) 2 (.int .i64 r)) (by omega) (OwU.keep (chg_one _ (W.heap.size) 1 (.slice pd nd cd)) (by omega) (OwU.keep (chg_one _ (W.heap.size) 0 (.int .i64 m)) (by omega) oC7_.out))))
  have G11_ := Lib.hid (show (W).grownBy ((((w1.setCell ⟨W.heap.size, 0, none⟩ (.int .i64 m)).setCell ⟨W.heap.size, 1, none⟩ (.slice pd nd cd)).setCell ⟨W.heap.size, 2, none⟩ (.int .i64 r))) none from (gby_setnew (gby_setnew (gby_setnew G6_.out _ (by dsimp only; omega) _) _ (by dsimp only; omega) _) _ (by dsimp only; omega) _))
  have hszwc_ : ((((w1.setCell ⟨W.heap.size, 0, none⟩ (.int .i64 m)).setCell ⟨W.heap.size, 1, none⟩ (.slice pd nd cd)).setCell ⟨W.heap.size, 2, none⟩ (.int .i64 r))).heap.size = (w1).heap.size := by simp only [World.size_setCell]
  generalize (((w1.setCell ⟨W.heap.size, 0, none⟩ (.int .i64 m)).setCell ⟨W.heap.size, 1, none⟩ (.slice pd nd cd)).setCell ⟨W.heap.size, 2, none⟩ (.int .i64 r)) = wc at rA8_ rR9_ oC10_ G11_ hszwc_ ⊢
  try simp only [World.size_alloc] at hszwc_
  clear rA4_
  clear rR5_
  clear oC7_
  refine ((implSnd _ m r _ xs (OwU.rd oC10_.out) HL.out).mono (bpost_yes HV.out)).mono ?_
  rintro e w2 ⟨rfl, g⟩
  have szw2 := g.size
  have rA12_ := Lib.hid (show (w2).heap[W.heap.size]? = some (.cells #[.int .i64 m, .slice pd nd cd, .int .i64 r] 29 (0, 0)) from row_held g rA8_.out)
  clear rA8_
  have rR13_ := Lib.hid (show (w2).heap[W.heap.size + 1]? = some (.cells #[.int .i64 0, .slice none 0 0, .int .i64 0] 29 (0, 0)) from row_held g rR9_.out)
  clear rR9_
  have oC14_ := Lib.hid (show OwU (w2) (W.heap.size + 1 + 1) (w1.heap.size) [] [own shFrame (.slice pd nd cd) xs] from OwU.grow oC10_.out g)
  clear oC10_
  have G15_ := Lib.hid (show (W).grownBy (w2) none from gby_trans G11_.out g)
  clear g
  have A_0_ : (w2).cell? ⟨W.heap.size, 0, none⟩ = some (.int .i64 m) := cell_of_row _ _ 0 _ _ _ rA12_.out
  have A_1_ : (w2).cell? ⟨W.heap.size, 1, none⟩ = some (.slice pd nd cd) := cell_of_row _ _ 1 _ _ _ rA12_.out
  have A_2_ : (w2).cell? ⟨W.heap.size, 2, none⟩ = some (.int .i64 r) := cell_of_row _ _ 2 _ _ _ rA12_.out
  have R_0_ : (w2).cell? ⟨W.heap.size + 1, 0, none⟩ = some (.int .i64 0) := cell_of_row _ _ 0 _ _ _ rR13_.out
  have R_1_ : (w2).cell? ⟨W.heap.size + 1, 1, none⟩ = some (.slice none 0 0) := cell_of_row _ _ 1 _ _ _ rR13_.out
  have R_2_ : (w2).cell? ⟨W.heap.size + 1, 2, none⟩ = some (.int .i64 0) := cell_of_row _ _ 2 _ _ _ rR13_.out
  clear A_0_ A_1_ A_2_ R_0_ R_1_ R_2_
  have A_0_ : (w2).cell? ⟨W.heap.size, 0, none⟩ = some (.int .i64 m) := cell_of_row _ _ 0 _ _ _ rA12_.out
  have A_1_ : (w2).cell? ⟨W.heap.size, 1, none⟩ = some (.slice pd nd cd) := cell_of_row _ _ 1 _ _ _ rA12_.out
  have A_2_ : (w2).cell? ⟨W.heap.size, 2, none⟩ = some (.int .i64 r) := cell_of_row _ _ 2 _ _ _ rA12_.out
  have Af0_ : (w2).frozen? ⟨W.heap.size, 0, none⟩ = false := frozen_of_row _ _ 0 _ _ rA12_.out
  have Af1_ : (w2).frozen? ⟨W.heap.size, 1, none⟩ = false := frozen_of_row _ _ 1 _ _ rA12_.out
  have Af2_ : (w2).frozen? ⟨W.heap.size, 2, none⟩ = false := frozen_of_row _ _ 2 _ _ rA12_.out
  go_wp2_with fail
  go_at_call 42
  refine (replay_m _ _ _ A_2_ Af2_).mono ?_
  rintro e wy ⟨rfl, hwy_⟩
  subst hwy_
  clear A_0_ A_1_ A_2_ Af0_ Af1_ Af2_
  have rA16_ := Lib.hid (show ((w2.setCell ⟨W.heap.size, 2, none⟩ (.int .i64 0))).heap[W.heap.size]? = some (.cells #[.int .i64 m, .slice pd nd cd, .int .i64 0] 29 (0, 0)) from (heap_setCell_same _ _ 2 _ _ _ rA12_.out))
  have rR17_ := Lib.hid (show ((w2.setCell ⟨W.heap.size, 2, none⟩ (.int .i64 0))).heap[W.heap.size + 1]? = some (.cells #[.int .i64 0, .slice none 0 0, .int .i64 0] 29 (0, 0)) from (set_far rR13_.out (by dsimp only; omega)))
  have oC18_ := Lib.hid (show OwU ((w2.setCell ⟨W.heap.size, 2, none⟩ (.int .i64 0))) (W.heap.size + 1 + 1) (w1.heap.size) [] [own shFrame (.slice pd nd cd) xs] from (OwU.keep (chg_one _ (W.heap.size) 2 (.int .i64 0)) (by omega) oC14_.out))
  have G19_ := Lib.hid (show (W).grownBy ((w2.setCell ⟨W.heap.size, 2, none⟩ (.int .i64 0))) none from (gby_setnew G15_.out _ (by dsimp only; omega) _))
  have hszwz_ : ((w2.setCell ⟨W.heap.size, 2, none⟩ (.int .i64 0))).heap.size = (w2).heap.size := by simp only [World.size_setCell]
  generalize (w2.setCell ⟨W.heap.size, 2, none⟩ (.int .i64 0)) = wz at rA16_ rR17_ oC18_ G19_ hszwz_ ⊢
  try simp only [World.size_alloc] at hszwz_
  clear rA12_
  clear rR13_
  clear oC14_
  have A_0_ : (wz).cell? ⟨W.heap.size, 0, none⟩ = some (.int .i64 m) := cell_of_row _ _ 0 _ _ _ rA16_.out
  have A_1_ : (wz).cell? ⟨W.heap.size, 1, none⟩ = some (.slice pd nd cd) := cell_of_row _ _ 1 _ _ _ rA16_.out
  have A_2_ : (wz).cell? ⟨W.heap.size, 2, none⟩ = some (.int .i64 0) := cell_of_row _ _ 2 _ _ _ rA16_.out
  have R_0_ : (wz).cell? ⟨W.heap.size + 1, 0, none⟩ = some (.int .i64 0) := cell_of_row _ _ 0 _ _ _ rR17_.out
  have R_1_ : (wz).cell? ⟨W.heap.size + 1, 1, none⟩ = some (.slice none 0 0) := cell_of_row _ _ 1 _ _ _ rR17_.out
  have R_2_ : (wz).cell? ⟨W.heap.size + 1, 2, none⟩ = some (.int .i64 0) := cell_of_row _ _ 2 _ _ _ rR17_.out
  have Rf0_ : (wz).frozen? ⟨W.heap.size + 1, 0, none⟩ = false := frozen_of_row _ _ 0 _ _ rR17_.out
  have Rf1_ : (wz).frozen? ⟨W.heap.size + 1, 1, none⟩ = false := frozen_of_row _ _ 1 _ _ rR17_.out
  have Rf2_ : (wz).frozen? ⟨W.heap.size + 1, 2, none⟩ = false := frozen_of_row _ _ 2 _ _ rR17_.out
  have hlo_ : W.heap.size ≤ W.heap.size + 1 + 1 := by omega
  go_wp2
  refine bodyPost_ret (v := .agg #[.int .i64 m, .slice pd nd cd, .int .i64 0]) (by simp [results, go_sem, R_0_, R_1_, R_2_]) rfl ⟨_, rfl, ?_, ?_⟩
  · exact OwU.wide (lo := W.heap.size + 1 + 1) (hi := w1.heap.size) hlo_ (by simp only [World.size_setCell]; omega) (OwU.keep (chg_one _ (W.heap.size + 1) 2 (.int .i64 0)) (by omega) (OwU.keep (chg_one _ (W.heap.size + 1) 1 (.slice pd nd cd)) (by omega) (OwU.keep (chg_one _ (W.heap.size + 1) 0 (.int .i64 m)) (by omega) oC18_.out)))
  · exact (gby_setnew (gby_setnew (gby_setnew G19_.out _ (by dsimp only; omega) _) _ (by dsimp only; omega) _) _ (by dsimp only; omega) _)

theorem replay_both (i0_0 : Int) (xs0_1 : List DFrame) (i0_2 : Int) (h1 : szL shFrame xs0_1 ≤ 1048576) : ∃ (ir0_0 : Int) (xsr0_1 : List DFrame) (ir0_2 : Int), szL shFrame xsr0_1 ≤ 1048576 ∧ (∀ (W : World), ∀ u0_1, RdL shFrame W u0_1 xs0_1 → Calls Try.prog 13 #[.agg #[.int .i64 i0_0, u0_1, .int .i64 i0_2]] W (ResSReplay ir0_0 xsr0_1 ir0_2 W)) ∧ ∀ (W : World), ∀ u0_1, RdL shFrame W u0_1 xs0_1 → Calls Try.prog 14 #[.agg #[.int .i64 i0_0, u0_1, .int .i64 i0_2]] W (ResIReplay ir0_0 xsr0_1 ir0_2 W) := by
  by_cases h : SndP i0_0 i0_2 xs0_1
  · exact ⟨_, _, _, h1, fun W u H => (specRep_yes W _ _ u _ H h1 h).mono (fun e w q => resS_ofReplay e w q), fun W u H => implRep_yes W _ _ u _ H h1 h⟩
  · exact ⟨_, _, _, h1, fun W u H => (specRep_no W _ _ u _ H h1 h).mono (fun e w q => resS_ofReplay e w q), fun W u H => implRep_no W _ _ u _ H h1 h⟩

end Go.Proofs.Ytcenngekjopjpaa
