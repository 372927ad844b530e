/-
  SpendCredits and ReturnCredits of the program.
-/
import Derived.Test.YtgagbhkidponnacCrGive
import Derived.Test.YtgagbhkidponnacRSpendCredits
import Derived.Test.YtgagbhkidponnacRReturnCredits
namespace Go.Proofs.Ytgagbhkidponnac
open Go Go.RowKit
set_option linter.unusedVariables false

set_option maxRecDepth 8000 in
set_option maxHeartbeats 2000000 in
theorem implSpendCredits_bad (W : World) (u0 u1 vp : Value) (xs ys : List Int) (p : DPacket) (H0 : RdL shI W u0 xs) (H1 : RdL shI W u1 ys) (Hp : RdL shI W vp p.f7) (h0 : szL shI xs ≤ 1048576) (h1 : szL shI ys ≤ 1048576) (hl : szL shI p.f7 ≤ 1048576) (hb : ¬ CrdOk xs ys) : Calls Try.prog 37 #[.agg #[u0, u1], (vPacket p.f0 p.f1 p.f2 p.f3 p.f4 p.f5 p.f6 vp)] W (ResISpendCredits xs ys false W) := by
  have HSX := Lib.hid H0
  have HSY := Lib.hid H1
  have HP := Lib.hid Hp
  have HXL := Lib.hid h0
  have HYL := Lib.hid h1
  have HL := Lib.hid hl
  obtain ⟨a0, n0, c0, rfl⟩ := RdL.form H0
  obtain ⟨a1, n1, c1, rfl⟩ := RdL.form H1
  clear H0 H1 Hp h0 h1 hl
  unfold vPacket
  have HCO := Lib.hid hb
  clear hb
  go_enter Try.func37, Try.ntmps37
  have rA1_ := Lib.hid (show ((((W.alloc (.cells #[.slice a0 n0 c0, .slice a1 n1 c1] 54)).alloc (.cells #[.int .i64 p.f0, .int .i64 p.f1, .int .i64 p.f2, .int .i64 p.f3, .int .i64 p.f4, .int .i64 p.f5, .int .i64 p.f6, vp] 29)).alloc (.cells #[.slice none 0 0, .slice none 0 0] 54))).heap[W.heap.size]? = some (.cells #[.slice a0 n0 c0, .slice a1 n1 c1] 54 (0, 0)) from by rw [heap_alloc_old _ _ (by simp only [World.size_alloc]; omega)]; rw [heap_alloc_old _ _ (by simp only [World.size_alloc]; omega)]; exact heap_alloc_new _ _)
  have rK2_ := Lib.hid (show ((((W.alloc (.cells #[.slice a0 n0 c0, .slice a1 n1 c1] 54)).alloc (.cells #[.int .i64 p.f0, .int .i64 p.f1, .int .i64 p.f2, .int .i64 p.f3, .int .i64 p.f4, .int .i64 p.f5, .int .i64 p.f6, vp] 29)).alloc (.cells #[.slice none 0 0, .slice none 0 0] 54))).heap[W.heap.size + 1]? = some (.cells #[.int .i64 p.f0, .int .i64 p.f1, .int .i64 p.f2, .int .i64 p.f3, .int .i64 p.f4, .int .i64 p.f5, .int .i64 p.f6, vp] 29 (0, 0)) from by rw [heap_alloc_old _ _ (by simp only [World.size_alloc]; omega)]; exact heap_pair _ _ _)
  have rR3_ := Lib.hid (show ((((W.alloc (.cells #[.slice a0 n0 c0, .slice a1 n1 c1] 54)).alloc (.cells #[.int .i64 p.f0, .int .i64 p.f1, .int .i64 p.f2, .int .i64 p.f3, .int .i64 p.f4, .int .i64 p.f5, .int .i64 p.f6, vp] 29)).alloc (.cells #[.slice none 0 0, .slice none 0 0] 54))).heap[W.heap.size + 1 + 1]? = some (.cells #[.slice none 0 0, .slice none 0 0] 54 (0, 0)) from by exact heap_trip _ _ _ _)
  have G4_ := Lib.hid (show (W).grownBy ((((W.alloc (.cells #[.slice a0 n0 c0, .slice a1 n1 c1] 54)).alloc (.cells #[.int .i64 p.f0, .int .i64 p.f1, .int .i64 p.f2, .int .i64 p.f3, .int .i64 p.f4, .int .i64 p.f5, .int .i64 p.f6, vp] 29)).alloc (.cells #[.slice none 0 0, .slice none 0 0] 54))) none from (gby_alloc (gby_alloc (gby_alloc (gby_refl _ _) _) _) _))
  have A_0_ : ((((W.alloc (.cells #[.slice a0 n0 c0, .slice a1 n1 c1] 54)).alloc (.cells #[.int .i64 p.f0, .int .i64 p.f1, .int .i64 p.f2, .int .i64 p.f3, .int .i64 p.f4, .int .i64 p.f5, .int .i64 p.f6, vp] 29)).alloc (.cells #[.slice none 0 0, .slice none 0 0] 54))).cell? ⟨W.heap.size, 0, none⟩ = some (.slice a0 n0 c0) := cell_of_row _ _ 0 _ _ _ rA1_.out
  have A_1_ : ((((W.alloc (.cells #[.slice a0 n0 c0, .slice a1 n1 c1] 54)).alloc (.cells #[.int .i64 p.f0, .int .i64 p.f1, .int .i64 p.f2, .int .i64 p.f3, .int .i64 p.f4, .int .i64 p.f5, .int .i64 p.f6, vp] 29)).alloc (.cells #[.slice none 0 0, .slice none 0 0] 54))).cell? ⟨W.heap.size, 1, none⟩ = some (.slice a1 n1 c1) := cell_of_row _ _ 1 _ _ _ rA1_.out
  have K_0_ : ((((W.alloc (.cells #[.slice a0 n0 c0, .slice a1 n1 c1] 54)).alloc (.cells #[.int .i64 p.f0, .int .i64 p.f1, .int .i64 p.f2, .int .i64 p.f3, .int .i64 p.f4, .int .i64 p.f5, .int .i64 p.f6, vp] 29)).alloc (.cells #[.slice none 0 0, .slice none 0 0] 54))).cell? ⟨W.heap.size + 1, 0, none⟩ = some (.int .i64 p.f0) := cell_of_row _ _ 0 _ _ _ rK2_.out
  have K_1_ : ((((W.alloc (.cells #[.slice a0 n0 c0, .slice a1 n1 c1] 54)).alloc (.cells #[.int .i64 p.f0, .int .i64 p.f1, .int .i64 p.f2, .int .i64 p.f3, .int .i64 p.f4, .int .i64 p.f5, .int .i64 p.f6, vp] 29)).alloc (.cells #[.slice none 0 0, .slice none 0 0] 54))).cell? ⟨W.heap.size + 1, 1, none⟩ = some (.int .i64 p.f1) := cell_of_row _ _ 1 _ _ _ rK2_.out
  have K_2_ : ((((W.alloc (.cells #[.slice a0 n0 c0, .slice a1 n1 c1] 54)).alloc (.cells #[.int .i64 p.f0, .int .i64 p.f1, .int .i64 p.f2, .int .i64 p.f3, .int .i64 p.f4, .int .i64 p.f5, .int .i64 p.f6, vp] 29)).alloc (.cells #[.slice none 0 0, .slice none 0 0] 54))).cell? ⟨W.heap.size + 1, 2, none⟩ = some (.int .i64 p.f2) := cell_of_row _ _ 2 _ _ _ rK2_.out
  have K_3_ : ((((W.alloc (.cells #[.slice a0 n0 c0, .slice a1 n1 c1] 54)).alloc (.cells #[.int .i64 p.f0, .int .i64 p.f1, .int .i64 p.f2, .int .i64 p.f3, .int .i64 p.f4, .int .i64 p.f5, .int .i64 p.f6, vp] 29)).alloc (.cells #[.slice none 0 0, .slice none 0 0] 54))).cell? ⟨W.heap.size + 1, 3, none⟩ = some (.int .i64 p.f3) := cell_of_row _ _ 3 _ _ _ rK2_.out
  have K_4_ : ((((W.alloc (.cells #[.slice a0 n0 c0, .slice a1 n1 c1] 54)).alloc (.cells #[.int .i64 p.f0, .int .i64 p.f1, .int .i64 p.f2, .int .i64 p.f3, .int .i64 p.f4, .int .i64 p.f5, .int .i64 p.f6, vp] 29)).alloc (.cells #[.slice none 0 0, .slice none 0 0] 54))).cell? ⟨W.heap.size + 1, 4, none⟩ = some (.int .i64 p.f4) := cell_of_row _ _ 4 _ _ _ rK2_.out
  have K_5_ : ((((W.alloc (.cells #[.slice a0 n0 c0, .slice a1 n1 c1] 54)).alloc (.cells #[.int .i64 p.f0, .int .i64 p.f1, .int .i64 p.f2, .int .i64 p.f3, .int .i64 p.f4, .int .i64 p.f5, .int .i64 p.f6, vp] 29)).alloc (.cells #[.slice none 0 0, .slice none 0 0] 54))).cell? ⟨W.heap.size + 1, 5, none⟩ = some (.int .i64 p.f5) := cell_of_row _ _ 5 _ _ _ rK2_.out
  have K_6_ : ((((W.alloc (.cells #[.slice a0 n0 c0, .slice a1 n1 c1] 54)).alloc (.cells #[.int .i64 p.f0, .int .i64 p.f1, .int .i64 p.f2, .int .i64 p.f3, .int .i64 p.f4, .int .i64 p.f5, .int .i64 p.f6, vp] 29)).alloc (.cells #[.slice none 0 0, .slice none 0 0] 54))).cell? ⟨W.heap.size + 1, 6, none⟩ = some (.int .i64 p.f6) := cell_of_row _ _ 6 _ _ _ rK2_.out
  have K_7_ : ((((W.alloc (.cells #[.slice a0 n0 c0, .slice a1 n1 c1] 54)).alloc (.cells #[.int .i64 p.f0, .int .i64 p.f1, .int .i64 p.f2, .int .i64 p.f3, .int .i64 p.f4, .int .i64 p.f5, .int .i64 p.f6, vp] 29)).alloc (.cells #[.slice none 0 0, .slice none 0 0] 54))).cell? ⟨W.heap.size + 1, 7, none⟩ = some (vp) := cell_of_row _ _ 7 _ _ _ rK2_.out
  have R_0_ : ((((W.alloc (.cells #[.slice a0 n0 c0, .slice a1 n1 c1] 54)).alloc (.cells #[.int .i64 p.f0, .int .i64 p.f1, .int .i64 p.f2, .int .i64 p.f3, .int .i64 p.f4, .int .i64 p.f5, .int .i64 p.f6, vp] 29)).alloc (.cells #[.slice none 0 0, .slice none 0 0] 54))).cell? ⟨W.heap.size + 1 + 1, 0, none⟩ = some (.slice none 0 0) := cell_of_row _ _ 0 _ _ _ rR3_.out
  have R_1_ : ((((W.alloc (.cells #[.slice a0 n0 c0, .slice a1 n1 c1] 54)).alloc (.cells #[.int .i64 p.f0, .int .i64 p.f1, .int .i64 p.f2, .int .i64 p.f3, .int .i64 p.f4, .int .i64 p.f5, .int .i64 p.f6, vp] 29)).alloc (.cells #[.slice none 0 0, .slice none 0 0] 54))).cell? ⟨W.heap.size + 1 + 1, 1, none⟩ = some (.slice none 0 0) := cell_of_row _ _ 1 _ _ _ rR3_.out
  go_wp2_with fail
  go_at_call 87
  refine (copiedCr_d _ _ _ xs ys (HSX.out.grow G4_.out) (HSY.out.grow G4_.out) HXL.out HYL.out).mono ?_
  rintro e w1 ⟨z0, z1, rfl, o, g⟩
  have sz_ := g.size
  try simp only [World.size_alloc] at sz_ o
  clear A_0_ A_1_ K_0_ K_1_ K_2_ K_3_ K_4_ K_5_ K_6_ K_7_ R_0_ R_1_
  have rA5_ := Lib.hid (show (w1).heap[W.heap.size]? = some (.cells #[.slice a0 n0 c0, .slice a1 n1 c1] 54 (0, 0)) from row_held g rA1_.out)
  clear rA1_
  have rK6_ := Lib.hid (show (w1).heap[W.heap.size + 1]? = some (.cells #[.int .i64 p.f0, .int .i64 p.f1, .int .i64 p.f2, .int .i64 p.f3, .int .i64 p.f4, .int .i64 p.f5, .int .i64 p.f6, vp] 29 (0, 0)) from row_held g rK2_.out)
  clear rK2_
  have rR7_ := Lib.hid (show (w1).heap[W.heap.size + 1 + 1]? = some (.cells #[.slice none 0 0, .slice none 0 0] 54 (0, 0)) from row_held g rR3_.out)
  clear rR3_
  have G8_ := Lib.hid (show (W).grownBy (w1) none from gby_trans G4_.out g)
  clear g
  obtain ⟨q0, m0, d0, hv_⟩ := RdL.form (OwU.rd o)
  subst hv_
  obtain ⟨q1, m1, d1, hv_⟩ := RdL.form (OwU.rd (OwU.tail o))
  subst hv_
  unfold vCredits
  have oC9_ := Lib.hid (show OwU (w1) ((W.heap.size + 1 + 1 + 1)) (w1.heap.size) [] [own shI (.slice q0 m0 d0) xs, own shI (.slice q1 m1 d1) ys] from o)
  clear o
  have A_0_ : (w1).cell? ⟨W.heap.size, 0, none⟩ = some (.slice a0 n0 c0) := cell_of_row _ _ 0 _ _ _ rA5_.out
  have A_1_ : (w1).cell? ⟨W.heap.size, 1, none⟩ = some (.slice a1 n1 c1) := cell_of_row _ _ 1 _ _ _ rA5_.out
  have Af0_ : (w1).frozen? ⟨W.heap.size, 0, none⟩ = false := frozen_of_row _ _ 0 _ _ rA5_.out
  have Af1_ : (w1).frozen? ⟨W.heap.size, 1, none⟩ = false := frozen_of_row _ _ 1 _ _ rA5_.out
  have K_0_ : (w1).cell? ⟨W.heap.size + 1, 0, none⟩ = some (.int .i64 p.f0) := cell_of_row _ _ 0 _ _ _ rK6_.out
  have K_1_ : (w1).cell? ⟨W.heap.size + 1, 1, none⟩ = some (.int .i64 p.f1) := cell_of_row _ _ 1 _ _ _ rK6_.out
  have K_2_ : (w1).cell? ⟨W.heap.size + 1, 2, none⟩ = some (.int .i64 p.f2) := cell_of_row _ _ 2 _ _ _ rK6_.out
  have K_3_ : (w1).cell? ⟨W.heap.size + 1, 3, none⟩ = some (.int .i64 p.f3) := cell_of_row _ _ 3 _ _ _ rK6_.out
  have K_4_ : (w1).cell? ⟨W.heap.size + 1, 4, none⟩ = some (.int .i64 p.f4) := cell_of_row _ _ 4 _ _ _ rK6_.out
  have K_5_ : (w1).cell? ⟨W.heap.size + 1, 5, none⟩ = some (.int .i64 p.f5) := cell_of_row _ _ 5 _ _ _ rK6_.out
  have K_6_ : (w1).cell? ⟨W.heap.size + 1, 6, none⟩ = some (.int .i64 p.f6) := cell_of_row _ _ 6 _ _ _ rK6_.out
  have K_7_ : (w1).cell? ⟨W.heap.size + 1, 7, none⟩ = some (vp) := cell_of_row _ _ 7 _ _ _ rK6_.out
  have R_0_ : (w1).cell? ⟨W.heap.size + 1 + 1, 0, none⟩ = some (.slice none 0 0) := cell_of_row _ _ 0 _ _ _ rR7_.out
  have R_1_ : (w1).cell? ⟨W.heap.size + 1 + 1, 1, none⟩ = some (.slice none 0 0) := cell_of_row _ _ 1 _ _ _ rR7_.out
  go_wp2_with fail
  go_at_call 47
  clear A_0_ A_1_ Af0_ Af1_ K_0_ K_1_ K_2_ K_3_ K_4_ K_5_ K_6_ K_7_ R_0_ R_1_
  have rK10_ := Lib.hid (show (((w1.setCell ⟨W.heap.size, 0, none⟩ (.slice q0 m0 d0)).setCell ⟨W.heap.size, 1, none⟩ (.slice q1 m1 d1))).heap[W.heap.size + 1]? = some (.cells #[.int .i64 p.f0, .int .i64 p.f1, .int .i64 p.f2, .int .i64 p.f3, .int .i64 p.f4, .int .i64 p.f5, .int .i64 p.f6, vp] 29 (0, 0)) from (set_far (set_far rK6_.out (by dsimp only; omega)) (by dsimp only; omega)))
  clear rK6_
  have rR11_ := Lib.hid (show (((w1.setCell ⟨W.heap.size, 0, none⟩ (.slice q0 m0 d0)).setCell ⟨W.heap.size, 1, none⟩ (.slice q1 m1 d1))).heap[W.heap.size + 1 + 1]? = some (.cells #[.slice none 0 0, .slice none 0 0] 54 (0, 0)) from (set_far (set_far rR7_.out (by dsimp only; omega)) (by dsimp only; omega)))
  clear rR7_
  have rA12_ := Lib.hid (show (((w1.setCell ⟨W.heap.size, 0, none⟩ (.slice q0 m0 d0)).setCell ⟨W.heap.size, 1, none⟩ (.slice q1 m1 d1))).heap[W.heap.size]? = some (.cells #[.slice q0 m0 d0, .slice q1 m1 d1] 54 (0, 0)) from (heap_setCell_same _ _ 1 _ _ _ (heap_setCell_same _ _ 0 _ _ _ rA5_.out)))
  clear rA5_
  have oC13_ := Lib.hid (show OwU (((w1.setCell ⟨W.heap.size, 0, none⟩ (.slice q0 m0 d0)).setCell ⟨W.heap.size, 1, none⟩ (.slice q1 m1 d1))) ((W.heap.size + 1 + 1 + 1)) (w1.heap.size) [] [own shI (.slice q0 m0 d0) xs, own shI (.slice q1 m1 d1) ys] from (OwU.keep (chg_one _ _ _ _) (by omega) (OwU.keep (chg_one _ _ _ _) (by omega) oC9_.out)))
  clear oC9_
  have G14_ := Lib.hid (show (W).grownBy (((w1.setCell ⟨W.heap.size, 0, none⟩ (.slice q0 m0 d0)).setCell ⟨W.heap.size, 1, none⟩ (.slice q1 m1 d1))) none from (gby_setnew (gby_setnew G8_.out _ (by dsimp only; omega) _) _ (by dsimp only; omega) _))
  have A_0_ : (((w1.setCell ⟨W.heap.size, 0, none⟩ (.slice q0 m0 d0)).setCell ⟨W.heap.size, 1, none⟩ (.slice q1 m1 d1))).cell? ⟨W.heap.size, 0, none⟩ = some (.slice q0 m0 d0) := cell_of_row _ _ 0 _ _ _ rA12_.out
  have A_1_ : (((w1.setCell ⟨W.heap.size, 0, none⟩ (.slice q0 m0 d0)).setCell ⟨W.heap.size, 1, none⟩ (.slice q1 m1 d1))).cell? ⟨W.heap.size, 1, none⟩ = some (.slice q1 m1 d1) := cell_of_row _ _ 1 _ _ _ rA12_.out
  have K_0_ : (((w1.setCell ⟨W.heap.size, 0, none⟩ (.slice q0 m0 d0)).setCell ⟨W.heap.size, 1, none⟩ (.slice q1 m1 d1))).cell? ⟨W.heap.size + 1, 0, none⟩ = some (.int .i64 p.f0) := cell_of_row _ _ 0 _ _ _ rK10_.out
  have K_1_ : (((w1.setCell ⟨W.heap.size, 0, none⟩ (.slice q0 m0 d0)).setCell ⟨W.heap.size, 1, none⟩ (.slice q1 m1 d1))).cell? ⟨W.heap.size + 1, 1, none⟩ = some (.int .i64 p.f1) := cell_of_row _ _ 1 _ _ _ rK10_.out
  have K_2_ : (((w1.setCell ⟨W.heap.size, 0, none⟩ (.slice q0 m0 d0)).setCell ⟨W.heap.size, 1, none⟩ (.slice q1 m1 d1))).cell? ⟨W.heap.size + 1, 2, none⟩ = some (.int .i64 p.f2) := cell_of_row _ _ 2 _ _ _ rK10_.out
  have K_3_ : (((w1.setCell ⟨W.heap.size, 0, none⟩ (.slice q0 m0 d0)).setCell ⟨W.heap.size, 1, none⟩ (.slice q1 m1 d1))).cell? ⟨W.heap.size + 1, 3, none⟩ = some (.int .i64 p.f3) := cell_of_row _ _ 3 _ _ _ rK10_.out
  have K_4_ : (((w1.setCell ⟨W.heap.size, 0, none⟩ (.slice q0 m0 d0)).setCell ⟨W.heap.size, 1, none⟩ (.slice q1 m1 d1))).cell? ⟨W.heap.size + 1, 4, none⟩ = some (.int .i64 p.f4) := cell_of_row _ _ 4 _ _ _ rK10_.out
  have K_5_ : (((w1.setCell ⟨W.heap.size, 0, none⟩ (.slice q0 m0 d0)).setCell ⟨W.heap.size, 1, none⟩ (.slice q1 m1 d1))).cell? ⟨W.heap.size + 1, 5, none⟩ = some (.int .i64 p.f5) := cell_of_row _ _ 5 _ _ _ rK10_.out
  have K_6_ : (((w1.setCell ⟨W.heap.size, 0, none⟩ (.slice q0 m0 d0)).setCell ⟨W.heap.size, 1, none⟩ (.slice q1 m1 d1))).cell? ⟨W.heap.size + 1, 6, none⟩ = some (.int .i64 p.f6) := cell_of_row _ _ 6 _ _ _ rK10_.out
  have K_7_ : (((w1.setCell ⟨W.heap.size, 0, none⟩ (.slice q0 m0 d0)).setCell ⟨W.heap.size, 1, none⟩ (.slice q1 m1 d1))).cell? ⟨W.heap.size + 1, 7, none⟩ = some (vp) := cell_of_row _ _ 7 _ _ _ rK10_.out
  have R_0_ : (((w1.setCell ⟨W.heap.size, 0, none⟩ (.slice q0 m0 d0)).setCell ⟨W.heap.size, 1, none⟩ (.slice q1 m1 d1))).cell? ⟨W.heap.size + 1 + 1, 0, none⟩ = some (.slice none 0 0) := cell_of_row _ _ 0 _ _ _ rR11_.out
  have R_1_ : (((w1.setCell ⟨W.heap.size, 0, none⟩ (.slice q0 m0 d0)).setCell ⟨W.heap.size, 1, none⟩ (.slice q1 m1 d1))).cell? ⟨W.heap.size + 1 + 1, 1, none⟩ = some (.slice none 0 0) := cell_of_row _ _ 1 _ _ _ rR11_.out
  refine (implCrD _ _ _ xs ys (OwU.rd oC13_.out) (OwU.rd (OwU.tail oC13_.out)) HXL.out HYL.out false (by rw [decide_eq_false HCO.out])).mono ?_
  rintro e w2 ⟨rfl, g⟩
  have szw2 := g.size
  try simp only [World.size_setCell] at szw2
  try simp only [World.size_alloc] at szw2
  clear A_0_ A_1_ K_0_ K_1_ K_2_ K_3_ K_4_ K_5_ K_6_ K_7_ R_0_ R_1_
  have rA15_ := Lib.hid (show (w2).heap[W.heap.size]? = some (.cells #[.slice q0 m0 d0, .slice q1 m1 d1] 54 (0, 0)) from row_held g rA12_.out)
  clear rA12_
  have rK16_ := Lib.hid (show (w2).heap[W.heap.size + 1]? = some (.cells #[.int .i64 p.f0, .int .i64 p.f1, .int .i64 p.f2, .int .i64 p.f3, .int .i64 p.f4, .int .i64 p.f5, .int .i64 p.f6, vp] 29 (0, 0)) from row_held g rK10_.out)
  clear rK10_
  have rR17_ := Lib.hid (show (w2).heap[W.heap.size + 1 + 1]? = some (.cells #[.slice none 0 0, .slice none 0 0] 54 (0, 0)) from row_held g rR11_.out)
  clear rR11_
  have oC18_ := Lib.hid (show OwU (w2) ((W.heap.size + 1 + 1 + 1)) (w1.heap.size) [] [own shI (.slice q0 m0 d0) xs, own shI (.slice q1 m1 d1) ys] from OwU.grow oC13_.out g)
  clear oC13_
  have G19_ := Lib.hid (show (W).grownBy (w2) none from gby_trans G14_.out g)
  clear g
  have A_0_ : (w2).cell? ⟨W.heap.size, 0, none⟩ = some (.slice q0 m0 d0) := cell_of_row _ _ 0 _ _ _ rA15_.out
  have A_1_ : (w2).cell? ⟨W.heap.size, 1, none⟩ = some (.slice q1 m1 d1) := cell_of_row _ _ 1 _ _ _ rA15_.out
  have K_0_ : (w2).cell? ⟨W.heap.size + 1, 0, none⟩ = some (.int .i64 p.f0) := cell_of_row _ _ 0 _ _ _ rK16_.out
  have K_1_ : (w2).cell? ⟨W.heap.size + 1, 1, none⟩ = some (.int .i64 p.f1) := cell_of_row _ _ 1 _ _ _ rK16_.out
  have K_2_ : (w2).cell? ⟨W.heap.size + 1, 2, none⟩ = some (.int .i64 p.f2) := cell_of_row _ _ 2 _ _ _ rK16_.out
  have K_3_ : (w2).cell? ⟨W.heap.size + 1, 3, none⟩ = some (.int .i64 p.f3) := cell_of_row _ _ 3 _ _ _ rK16_.out
  have K_4_ : (w2).cell? ⟨W.heap.size + 1, 4, none⟩ = some (.int .i64 p.f4) := cell_of_row _ _ 4 _ _ _ rK16_.out
  have K_5_ : (w2).cell? ⟨W.heap.size + 1, 5, none⟩ = some (.int .i64 p.f5) := cell_of_row _ _ 5 _ _ _ rK16_.out
  have K_6_ : (w2).cell? ⟨W.heap.size + 1, 6, none⟩ = some (.int .i64 p.f6) := cell_of_row _ _ 6 _ _ _ rK16_.out
  have K_7_ : (w2).cell? ⟨W.heap.size + 1, 7, none⟩ = some (vp) := cell_of_row _ _ 7 _ _ _ rK16_.out
  have R_0_ : (w2).cell? ⟨W.heap.size + 1 + 1, 0, none⟩ = some (.slice none 0 0) := cell_of_row _ _ 0 _ _ _ rR17_.out
  have R_1_ : (w2).cell? ⟨W.heap.size + 1 + 1, 1, none⟩ = some (.slice none 0 0) := cell_of_row _ _ 1 _ _ _ rR17_.out
  clear A_0_ A_1_ K_0_ K_1_ K_2_ K_3_ K_4_ K_5_ K_6_ K_7_ R_0_ R_1_
  have A_0_ : (w2).cell? ⟨W.heap.size, 0, none⟩ = some (.slice q0 m0 d0) := cell_of_row _ _ 0 _ _ _ rA15_.out
  have A_1_ : (w2).cell? ⟨W.heap.size, 1, none⟩ = some (.slice q1 m1 d1) := cell_of_row _ _ 1 _ _ _ rA15_.out
  have K_0_ : (w2).cell? ⟨W.heap.size + 1, 0, none⟩ = some (.int .i64 p.f0) := cell_of_row _ _ 0 _ _ _ rK16_.out
  have K_1_ : (w2).cell? ⟨W.heap.size + 1, 1, none⟩ = some (.int .i64 p.f1) := cell_of_row _ _ 1 _ _ _ rK16_.out
  have K_2_ : (w2).cell? ⟨W.heap.size + 1, 2, none⟩ = some (.int .i64 p.f2) := cell_of_row _ _ 2 _ _ _ rK16_.out
  have K_3_ : (w2).cell? ⟨W.heap.size + 1, 3, none⟩ = some (.int .i64 p.f3) := cell_of_row _ _ 3 _ _ _ rK16_.out
  have K_4_ : (w2).cell? ⟨W.heap.size + 1, 4, none⟩ = some (.int .i64 p.f4) := cell_of_row _ _ 4 _ _ _ rK16_.out
  have K_5_ : (w2).cell? ⟨W.heap.size + 1, 5, none⟩ = some (.int .i64 p.f5) := cell_of_row _ _ 5 _ _ _ rK16_.out
  have K_6_ : (w2).cell? ⟨W.heap.size + 1, 6, none⟩ = some (.int .i64 p.f6) := cell_of_row _ _ 6 _ _ _ rK16_.out
  have K_7_ : (w2).cell? ⟨W.heap.size + 1, 7, none⟩ = some (vp) := cell_of_row _ _ 7 _ _ _ rK16_.out
  have R_0_ : (w2).cell? ⟨W.heap.size + 1 + 1, 0, none⟩ = some (.slice none 0 0) := cell_of_row _ _ 0 _ _ _ rR17_.out
  have R_1_ : (w2).cell? ⟨W.heap.size + 1 + 1, 1, none⟩ = some (.slice none 0 0) := cell_of_row _ _ 1 _ _ _ rR17_.out
  clear A_0_ A_1_ K_0_ K_1_ K_2_ K_3_ K_4_ K_5_ K_6_ K_7_ R_0_ R_1_
  have A_0_ : (w2).cell? ⟨W.heap.size, 0, none⟩ = some (.slice q0 m0 d0) := cell_of_row _ _ 0 _ _ _ rA15_.out
  have A_1_ : (w2).cell? ⟨W.heap.size, 1, none⟩ = some (.slice q1 m1 d1) := cell_of_row _ _ 1 _ _ _ rA15_.out
  have K_0_ : (w2).cell? ⟨W.heap.size + 1, 0, none⟩ = some (.int .i64 p.f0) := cell_of_row _ _ 0 _ _ _ rK16_.out
  have K_1_ : (w2).cell? ⟨W.heap.size + 1, 1, none⟩ = some (.int .i64 p.f1) := cell_of_row _ _ 1 _ _ _ rK16_.out
  have K_2_ : (w2).cell? ⟨W.heap.size + 1, 2, none⟩ = some (.int .i64 p.f2) := cell_of_row _ _ 2 _ _ _ rK16_.out
  have K_3_ : (w2).cell? ⟨W.heap.size + 1, 3, none⟩ = some (.int .i64 p.f3) := cell_of_row _ _ 3 _ _ _ rK16_.out
  have K_4_ : (w2).cell? ⟨W.heap.size + 1, 4, none⟩ = some (.int .i64 p.f4) := cell_of_row _ _ 4 _ _ _ rK16_.out
  have K_5_ : (w2).cell? ⟨W.heap.size + 1, 5, none⟩ = some (.int .i64 p.f5) := cell_of_row _ _ 5 _ _ _ rK16_.out
  have K_6_ : (w2).cell? ⟨W.heap.size + 1, 6, none⟩ = some (.int .i64 p.f6) := cell_of_row _ _ 6 _ _ _ rK16_.out
  have K_7_ : (w2).cell? ⟨W.heap.size + 1, 7, none⟩ = some (vp) := cell_of_row _ _ 7 _ _ _ rK16_.out
  have R_0_ : (w2).cell? ⟨W.heap.size + 1 + 1, 0, none⟩ = some (.slice none 0 0) := cell_of_row _ _ 0 _ _ _ rR17_.out
  have R_1_ : (w2).cell? ⟨W.heap.size + 1 + 1, 1, none⟩ = some (.slice none 0 0) := cell_of_row _ _ 1 _ _ _ rR17_.out
  have Rf0_ : (w2).frozen? ⟨W.heap.size + 1 + 1, 0, none⟩ = false := frozen_of_row _ _ 0 _ _ rR17_.out
  have Rf1_ : (w2).frozen? ⟨W.heap.size + 1 + 1, 1, none⟩ = false := frozen_of_row _ _ 1 _ _ rR17_.out
  have zr_ := Lib.hid (show (((w2.setCell ⟨W.heap.size + 1 + 1, 0, none⟩ (.slice q0 m0 d0)).setCell ⟨W.heap.size + 1 + 1, 1, none⟩ (.slice q1 m1 d1))).heap[W.heap.size + 1 + 1]? = some (.cells #[.slice q0 m0 d0, .slice q1 m1 d1] 54 (0, 0)) from (heap_setCell_same _ _ 1 _ _ _ (heap_setCell_same _ _ 0 _ _ _ rR17_.out)))
  have z0_ : (((w2.setCell ⟨W.heap.size + 1 + 1, 0, none⟩ (.slice q0 m0 d0)).setCell ⟨W.heap.size + 1 + 1, 1, none⟩ (.slice q1 m1 d1))).cell? ⟨W.heap.size + 1 + 1, 0, none⟩ = some (.slice q0 m0 d0) := cell_of_row _ _ 0 _ _ _ zr_.out
  have z1_ : (((w2.setCell ⟨W.heap.size + 1 + 1, 0, none⟩ (.slice q0 m0 d0)).setCell ⟨W.heap.size + 1 + 1, 1, none⟩ (.slice q1 m1 d1))).cell? ⟨W.heap.size + 1 + 1, 1, none⟩ = some (.slice q1 m1 d1) := cell_of_row _ _ 1 _ _ _ zr_.out
  go_wp2
  refine bodyPost_ret (v := .tuple #[.agg #[.slice q0 m0 d0, .slice q1 m1 d1], .bool false]) (by simp [results, go_sem, z0_, z1_]) rfl ⟨_, _, rfl, ?_, ?_⟩
  · exact OwU.wide (lo := W.heap.size + 1 + 1 + 1) (by omega) (by simp only [World.size_setCell]; omega) (OwU.keep (chg_one _ _ _ _) (.inr (by omega)) (OwU.keep (chg_one _ _ _ _) (.inr (by omega)) oC18_.out))
  · exact (gby_setnew (gby_setnew G19_.out _ (by dsimp only; omega) _) _ (by dsimp only; omega) _)

set_option maxRecDepth 8000 in
set_option maxHeartbeats 2000000 in
theorem implSpendCredits_pk (W : World) (u0 u1 vp : Value) (xs ys : List Int) (p : DPacket) (H0 : RdL shI W u0 xs) (H1 : RdL shI W u1 ys) (Hp : RdL shI W vp p.f7) (h0 : szL shI xs ≤ 1048576) (h1 : szL shI ys ≤ 1048576) (hl : szL shI p.f7 ≤ 1048576) (hb : CrdOk xs ys) (hn : ¬ 0 ≤ clsD p) : Calls Try.prog 37 #[.agg #[u0, u1], (vPacket p.f0 p.f1 p.f2 p.f3 p.f4 p.f5 p.f6 vp)] W (ResISpendCredits xs ys false W) := by
  have HSX := Lib.hid H0
  have HSY := Lib.hid H1
  have HP := Lib.hid Hp
  have HXL := Lib.hid h0
  have HYL := Lib.hid h1
  have HL := Lib.hid hl
  obtain ⟨a0, n0, c0, rfl⟩ := RdL.form H0
  obtain ⟨a1, n1, c1, rfl⟩ := RdL.form H1
  clear H0 H1 Hp h0 h1 hl
  unfold vPacket
  have HCO := Lib.hid hb
  have HN := Lib.hid hn
  clear hb hn
  go_enter Try.func37, Try.ntmps37
  have rA1_ := Lib.hid (show ((((W.alloc (.cells #[.slice a0 n0 c0, .slice a1 n1 c1] 54)).alloc (.cells #[.int .i64 p.f0, .int .i64 p.f1, .int .i64 p.f2, .int .i64 p.f3, .int .i64 p.f4, .int .i64 p.f5, .int .i64 p.f6, vp] 29)).alloc (.cells #[.slice none 0 0, .slice none 0 0] 54))).heap[W.heap.size]? = some (.cells #[.slice a0 n0 c0, .slice a1 n1 c1] 54 (0, 0)) from by rw [heap_alloc_old _ _ (by simp only [World.size_alloc]; omega)]; rw [heap_alloc_old _ _ (by simp only [World.size_alloc]; omega)]; exact heap_alloc_new _ _)
  have rK2_ := Lib.hid (show ((((W.alloc (.cells #[.slice a0 n0 c0, .slice a1 n1 c1] 54)).alloc (.cells #[.int .i64 p.f0, .int .i64 p.f1, .int .i64 p.f2, .int .i64 p.f3, .int .i64 p.f4, .int .i64 p.f5, .int .i64 p.f6, vp] 29)).alloc (.cells #[.slice none 0 0, .slice none 0 0] 54))).heap[W.heap.size + 1]? = some (.cells #[.int .i64 p.f0, .int .i64 p.f1, .int .i64 p.f2, .int .i64 p.f3, .int .i64 p.f4, .int .i64 p.f5, .int .i64 p.f6, vp] 29 (0, 0)) from by rw [heap_alloc_old _ _ (by simp only [World.size_alloc]; omega)]; exact heap_pair _ _ _)
  have rR3_ := Lib.hid (show ((((W.alloc (.cells #[.slice a0 n0 c0, .slice a1 n1 c1] 54)).alloc (.cells #[.int .i64 p.f0, .int .i64 p.f1, .int .i64 p.f2, .int .i64 p.f3, .int .i64 p.f4, .int .i64 p.f5, .int .i64 p.f6, vp] 29)).alloc (.cells #[.slice none 0 0, .slice none 0 0] 54))).heap[W.heap.size + 1 + 1]? = some (.cells #[.slice none 0 0, .slice none 0 0] 54 (0, 0)) from by exact heap_trip _ _ _ _)
  have G4_ := Lib.hid (show (W).grownBy ((((W.alloc (.cells #[.slice a0 n0 c0, .slice a1 n1 c1] 54)).alloc (.cells #[.int .i64 p.f0, .int .i64 p.f1, .int .i64 p.f2, .int .i64 p.f3, .int .i64 p.f4, .int .i64 p.f5, .int .i64 p.f6, vp] 29)).alloc (.cells #[.slice none 0 0, .slice none 0 0] 54))) none from (gby_alloc (gby_alloc (gby_alloc (gby_refl _ _) _) _) _))
  have A_0_ : ((((W.alloc (.cells #[.slice a0 n0 c0, .slice a1 n1 c1] 54)).alloc (.cells #[.int .i64 p.f0, .int .i64 p.f1, .int .i64 p.f2, .int .i64 p.f3, .int .i64 p.f4, .int .i64 p.f5, .int .i64 p.f6, vp] 29)).alloc (.cells #[.slice none 0 0, .slice none 0 0] 54))).cell? ⟨W.heap.size, 0, none⟩ = some (.slice a0 n0 c0) := cell_of_row _ _ 0 _ _ _ rA1_.out
  have A_1_ : ((((W.alloc (.cells #[.slice a0 n0 c0, .slice a1 n1 c1] 54)).alloc (.cells #[.int .i64 p.f0, .int .i64 p.f1, .int .i64 p.f2, .int .i64 p.f3, .int .i64 p.f4, .int .i64 p.f5, .int .i64 p.f6, vp] 29)).alloc (.cells #[.slice none 0 0, .slice none 0 0] 54))).cell? ⟨W.heap.size, 1, none⟩ = some (.slice a1 n1 c1) := cell_of_row _ _ 1 _ _ _ rA1_.out
  have K_0_ : ((((W.alloc (.cells #[.slice a0 n0 c0, .slice a1 n1 c1] 54)).alloc (.cells #[.int .i64 p.f0, .int .i64 p.f1, .int .i64 p.f2, .int .i64 p.f3, .int .i64 p.f4, .int .i64 p.f5, .int .i64 p.f6, vp] 29)).alloc (.cells #[.slice none 0 0, .slice none 0 0] 54))).cell? ⟨W.heap.size + 1, 0, none⟩ = some (.int .i64 p.f0) := cell_of_row _ _ 0 _ _ _ rK2_.out
  have K_1_ : ((((W.alloc (.cells #[.slice a0 n0 c0, .slice a1 n1 c1] 54)).alloc (.cells #[.int .i64 p.f0, .int .i64 p.f1, .int .i64 p.f2, .int .i64 p.f3, .int .i64 p.f4, .int .i64 p.f5, .int .i64 p.f6, vp] 29)).alloc (.cells #[.slice none 0 0, .slice none 0 0] 54))).cell? ⟨W.heap.size + 1, 1, none⟩ = some (.int .i64 p.f1) := cell_of_row _ _ 1 _ _ _ rK2_.out
  have K_2_ : ((((W.alloc (.cells #[.slice a0 n0 c0, .slice a1 n1 c1] 54)).alloc (.cells #[.int .i64 p.f0, .int .i64 p.f1, .int .i64 p.f2, .int .i64 p.f3, .int .i64 p.f4, .int .i64 p.f5, .int .i64 p.f6, vp] 29)).alloc (.cells #[.slice none 0 0, .slice none 0 0] 54))).cell? ⟨W.heap.size + 1, 2, none⟩ = some (.int .i64 p.f2) := cell_of_row _ _ 2 _ _ _ rK2_.out
  have K_3_ : ((((W.alloc (.cells #[.slice a0 n0 c0, .slice a1 n1 c1] 54)).alloc (.cells #[.int .i64 p.f0, .int .i64 p.f1, .int .i64 p.f2, .int .i64 p.f3, .int .i64 p.f4, .int .i64 p.f5, .int .i64 p.f6, vp] 29)).alloc (.cells #[.slice none 0 0, .slice none 0 0] 54))).cell? ⟨W.heap.size + 1, 3, none⟩ = some (.int .i64 p.f3) := cell_of_row _ _ 3 _ _ _ rK2_.out
  have K_4_ : ((((W.alloc (.cells #[.slice a0 n0 c0, .slice a1 n1 c1] 54)).alloc (.cells #[.int .i64 p.f0, .int .i64 p.f1, .int .i64 p.f2, .int .i64 p.f3, .int .i64 p.f4, .int .i64 p.f5, .int .i64 p.f6, vp] 29)).alloc (.cells #[.slice none 0 0, .slice none 0 0] 54))).cell? ⟨W.heap.size + 1, 4, none⟩ = some (.int .i64 p.f4) := cell_of_row _ _ 4 _ _ _ rK2_.out
  have K_5_ : ((((W.alloc (.cells #[.slice a0 n0 c0, .slice a1 n1 c1] 54)).alloc (.cells #[.int .i64 p.f0, .int .i64 p.f1, .int .i64 p.f2, .int .i64 p.f3, .int .i64 p.f4, .int .i64 p.f5, .int .i64 p.f6, vp] 29)).alloc (.cells #[.slice none 0 0, .slice none 0 0] 54))).cell? ⟨W.heap.size + 1, 5, none⟩ = some (.int .i64 p.f5) := cell_of_row _ _ 5 _ _ _ rK2_.out
  have K_6_ : ((((W.alloc (.cells #[.slice a0 n0 c0, .slice a1 n1 c1] 54)).alloc (.cells #[.int .i64 p.f0, .int .i64 p.f1, .int .i64 p.f2, .int .i64 p.f3, .int .i64 p.f4, .int .i64 p.f5, .int .i64 p.f6, vp] 29)).alloc (.cells #[.slice none 0 0, .slice none 0 0] 54))).cell? ⟨W.heap.size + 1, 6, none⟩ = some (.int .i64 p.f6) := cell_of_row _ _ 6 _ _ _ rK2_.out
  have K_7_ : ((((W.alloc (.cells #[.slice a0 n0 c0, .slice a1 n1 c1] 54)).alloc (.cells #[.int .i64 p.f0, .int .i64 p.f1, .int .i64 p.f2, .int .i64 p.f3, .int .i64 p.f4, .int .i64 p.f5, .int .i64 p.f6, vp] 29)).alloc (.cells #[.slice none 0 0, .slice none 0 0] 54))).cell? ⟨W.heap.size + 1, 7, none⟩ = some (vp) := cell_of_row _ _ 7 _ _ _ rK2_.out
  have R_0_ : ((((W.alloc (.cells #[.slice a0 n0 c0, .slice a1 n1 c1] 54)).alloc (.cells #[.int .i64 p.f0, .int .i64 p.f1, .int .i64 p.f2, .int .i64 p.f3, .int .i64 p.f4, .int .i64 p.f5, .int .i64 p.f6, vp] 29)).alloc (.cells #[.slice none 0 0, .slice none 0 0] 54))).cell? ⟨W.heap.size + 1 + 1, 0, none⟩ = some (.slice none 0 0) := cell_of_row _ _ 0 _ _ _ rR3_.out
  have R_1_ : ((((W.alloc (.cells #[.slice a0 n0 c0, .slice a1 n1 c1] 54)).alloc (.cells #[.int .i64 p.f0, .int .i64 p.f1, .int .i64 p.f2, .int .i64 p.f3, .int .i64 p.f4, .int .i64 p.f5, .int .i64 p.f6, vp] 29)).alloc (.cells #[.slice none 0 0, .slice none 0 0] 54))).cell? ⟨W.heap.size + 1 + 1, 1, none⟩ = some (.slice none 0 0) := cell_of_row _ _ 1 _ _ _ rR3_.out
  go_wp2_with fail
  go_at_call 87
  refine (copiedCr_d _ _ _ xs ys (HSX.out.grow G4_.out) (HSY.out.grow G4_.out) HXL.out HYL.out).mono ?_
  rintro e w1 ⟨z0, z1, rfl, o, g⟩
  have sz_ := g.size
  try simp only [World.size_alloc] at sz_ o
  clear A_0_ A_1_ K_0_ K_1_ K_2_ K_3_ K_4_ K_5_ K_6_ K_7_ R_0_ R_1_
  have rA5_ := Lib.hid (show (w1).heap[W.heap.size]? = some (.cells #[.slice a0 n0 c0, .slice a1 n1 c1] 54 (0, 0)) from row_held g rA1_.out)
  clear rA1_
  have rK6_ := Lib.hid (show (w1).heap[W.heap.size + 1]? = some (.cells #[.int .i64 p.f0, .int .i64 p.f1, .int .i64 p.f2, .int .i64 p.f3, .int .i64 p.f4, .int .i64 p.f5, .int .i64 p.f6, vp] 29 (0, 0)) from row_held g rK2_.out)
  clear rK2_
  have rR7_ := Lib.hid (show (w1).heap[W.heap.size + 1 + 1]? = some (.cells #[.slice none 0 0, .slice none 0 0] 54 (0, 0)) from row_held g rR3_.out)
  clear rR3_
  have G8_ := Lib.hid (show (W).grownBy (w1) none from gby_trans G4_.out g)
  clear g
  obtain ⟨q0, m0, d0, hv_⟩ := RdL.form (OwU.rd o)
  subst hv_
  obtain ⟨q1, m1, d1, hv_⟩ := RdL.form (OwU.rd (OwU.tail o))
  subst hv_
  unfold vCredits
  have oC9_ := Lib.hid (show OwU (w1) ((W.heap.size + 1 + 1 + 1)) (w1.heap.size) [] [own shI (.slice q0 m0 d0) xs, own shI (.slice q1 m1 d1) ys] from o)
  clear o
  have A_0_ : (w1).cell? ⟨W.heap.size, 0, none⟩ = some (.slice a0 n0 c0) := cell_of_row _ _ 0 _ _ _ rA5_.out
  have A_1_ : (w1).cell? ⟨W.heap.size, 1, none⟩ = some (.slice a1 n1 c1) := cell_of_row _ _ 1 _ _ _ rA5_.out
  have Af0_ : (w1).frozen? ⟨W.heap.size, 0, none⟩ = false := frozen_of_row _ _ 0 _ _ rA5_.out
  have Af1_ : (w1).frozen? ⟨W.heap.size, 1, none⟩ = false := frozen_of_row _ _ 1 _ _ rA5_.out
  have K_0_ : (w1).cell? ⟨W.heap.size + 1, 0, none⟩ = some (.int .i64 p.f0) := cell_of_row _ _ 0 _ _ _ rK6_.out
  have K_1_ : (w1).cell? ⟨W.heap.size + 1, 1, none⟩ = some (.int .i64 p.f1) := cell_of_row _ _ 1 _ _ _ rK6_.out
  have K_2_ : (w1).cell? ⟨W.heap.size + 1, 2, none⟩ = some (.int .i64 p.f2) := cell_of_row _ _ 2 _ _ _ rK6_.out
  have K_3_ : (w1).cell? ⟨W.heap.size + 1, 3, none⟩ = some (.int .i64 p.f3) := cell_of_row _ _ 3 _ _ _ rK6_.out
  have K_4_ : (w1).cell? ⟨W.heap.size + 1, 4, none⟩ = some (.int .i64 p.f4) := cell_of_row _ _ 4 _ _ _ rK6_.out
  have K_5_ : (w1).cell? ⟨W.heap.size + 1, 5, none⟩ = some (.int .i64 p.f5) := cell_of_row _ _ 5 _ _ _ rK6_.out
  have K_6_ : (w1).cell? ⟨W.heap.size + 1, 6, none⟩ = some (.int .i64 p.f6) := cell_of_row _ _ 6 _ _ _ rK6_.out
  have K_7_ : (w1).cell? ⟨W.heap.size + 1, 7, none⟩ = some (vp) := cell_of_row _ _ 7 _ _ _ rK6_.out
  have R_0_ : (w1).cell? ⟨W.heap.size + 1 + 1, 0, none⟩ = some (.slice none 0 0) := cell_of_row _ _ 0 _ _ _ rR7_.out
  have R_1_ : (w1).cell? ⟨W.heap.size + 1 + 1, 1, none⟩ = some (.slice none 0 0) := cell_of_row _ _ 1 _ _ _ rR7_.out
  go_wp2_with fail
  go_at_call 47
  clear A_0_ A_1_ Af0_ Af1_ K_0_ K_1_ K_2_ K_3_ K_4_ K_5_ K_6_ K_7_ R_0_ R_1_
  have rK10_ := Lib.hid (show (((w1.setCell ⟨W.heap.size, 0, none⟩ (.slice q0 m0 d0)).setCell ⟨W.heap.size, 1, none⟩ (.slice q1 m1 d1))).heap[W.heap.size + 1]? = some (.cells #[.int .i64 p.f0, .int .i64 p.f1, .int .i64 p.f2, .int .i64 p.f3, .int .i64 p.f4, .int .i64 p.f5, .int .i64 p.f6, vp] 29 (0, 0)) from (set_far (set_far rK6_.out (by dsimp only; omega)) (by dsimp only; omega)))
  clear rK6_
  have rR11_ := Lib.hid (show (((w1.setCell ⟨W.heap.size, 0, none⟩ (.slice q0 m0 d0)).setCell ⟨W.heap.size, 1, none⟩ (.slice q1 m1 d1))).heap[W.heap.size + 1 + 1]? = some (.cells #[.slice none 0 0, .slice none 0 0] 54 (0, 0)) from (set_far (set_far rR7_.out (by dsimp only; omega)) (by dsimp only; omega)))
  clear rR7_
  have rA12_ := Lib.hid (show (((w1.setCell ⟨W.heap.size, 0, none⟩ (.slice q0 m0 d0)).setCell ⟨W.heap.size, 1, none⟩ (.slice q1 m1 d1))).heap[W.heap.size]? = some (.cells #[.slice q0 m0 d0, .slice q1 m1 d1] 54 (0, 0)) from (heap_setCell_same _ _ 1 _ _ _ (heap_setCell_same _ _ 0 _ _ _ rA5_.out)))
  clear rA5_
  have oC13_ := Lib.hid (show OwU (((w1.setCell ⟨W.heap.size, 0, none⟩ (.slice q0 m0 d0)).setCell ⟨W.heap.size, 1, none⟩ (.slice q1 m1 d1))) ((W.heap.size + 1 + 1 + 1)) (w1.heap.size) [] [own shI (.slice q0 m0 d0) xs, own shI (.slice q1 m1 d1) ys] from (OwU.keep (chg_one _ _ _ _) (by omega) (OwU.keep (chg_one _ _ _ _) (by omega) oC9_.out)))
  clear oC9_
  have G14_ := Lib.hid (show (W).grownBy (((w1.setCell ⟨W.heap.size, 0, none⟩ (.slice q0 m0 d0)).setCell ⟨W.heap.size, 1, none⟩ (.slice q1 m1 d1))) none from (gby_setnew (gby_setnew G8_.out _ (by dsimp only; omega) _) _ (by dsimp only; omega) _))
  have A_0_ : (((w1.setCell ⟨W.heap.size, 0, none⟩ (.slice q0 m0 d0)).setCell ⟨W.heap.size, 1, none⟩ (.slice q1 m1 d1))).cell? ⟨W.heap.size, 0, none⟩ = some (.slice q0 m0 d0) := cell_of_row _ _ 0 _ _ _ rA12_.out
  have A_1_ : (((w1.setCell ⟨W.heap.size, 0, none⟩ (.slice q0 m0 d0)).setCell ⟨W.heap.size, 1, none⟩ (.slice q1 m1 d1))).cell? ⟨W.heap.size, 1, none⟩ = some (.slice q1 m1 d1) := cell_of_row _ _ 1 _ _ _ rA12_.out
  have K_0_ : (((w1.setCell ⟨W.heap.size, 0, none⟩ (.slice q0 m0 d0)).setCell ⟨W.heap.size, 1, none⟩ (.slice q1 m1 d1))).cell? ⟨W.heap.size + 1, 0, none⟩ = some (.int .i64 p.f0) := cell_of_row _ _ 0 _ _ _ rK10_.out
  have K_1_ : (((w1.setCell ⟨W.heap.size, 0, none⟩ (.slice q0 m0 d0)).setCell ⟨W.heap.size, 1, none⟩ (.slice q1 m1 d1))).cell? ⟨W.heap.size + 1, 1, none⟩ = some (.int .i64 p.f1) := cell_of_row _ _ 1 _ _ _ rK10_.out
  have K_2_ : (((w1.setCell ⟨W.heap.size, 0, none⟩ (.slice q0 m0 d0)).setCell ⟨W.heap.size, 1, none⟩ (.slice q1 m1 d1))).cell? ⟨W.heap.size + 1, 2, none⟩ = some (.int .i64 p.f2) := cell_of_row _ _ 2 _ _ _ rK10_.out
  have K_3_ : (((w1.setCell ⟨W.heap.size, 0, none⟩ (.slice q0 m0 d0)).setCell ⟨W.heap.size, 1, none⟩ (.slice q1 m1 d1))).cell? ⟨W.heap.size + 1, 3, none⟩ = some (.int .i64 p.f3) := cell_of_row _ _ 3 _ _ _ rK10_.out
  have K_4_ : (((w1.setCell ⟨W.heap.size, 0, none⟩ (.slice q0 m0 d0)).setCell ⟨W.heap.size, 1, none⟩ (.slice q1 m1 d1))).cell? ⟨W.heap.size + 1, 4, none⟩ = some (.int .i64 p.f4) := cell_of_row _ _ 4 _ _ _ rK10_.out
  have K_5_ : (((w1.setCell ⟨W.heap.size, 0, none⟩ (.slice q0 m0 d0)).setCell ⟨W.heap.size, 1, none⟩ (.slice q1 m1 d1))).cell? ⟨W.heap.size + 1, 5, none⟩ = some (.int .i64 p.f5) := cell_of_row _ _ 5 _ _ _ rK10_.out
  have K_6_ : (((w1.setCell ⟨W.heap.size, 0, none⟩ (.slice q0 m0 d0)).setCell ⟨W.heap.size, 1, none⟩ (.slice q1 m1 d1))).cell? ⟨W.heap.size + 1, 6, none⟩ = some (.int .i64 p.f6) := cell_of_row _ _ 6 _ _ _ rK10_.out
  have K_7_ : (((w1.setCell ⟨W.heap.size, 0, none⟩ (.slice q0 m0 d0)).setCell ⟨W.heap.size, 1, none⟩ (.slice q1 m1 d1))).cell? ⟨W.heap.size + 1, 7, none⟩ = some (vp) := cell_of_row _ _ 7 _ _ _ rK10_.out
  have R_0_ : (((w1.setCell ⟨W.heap.size, 0, none⟩ (.slice q0 m0 d0)).setCell ⟨W.heap.size, 1, none⟩ (.slice q1 m1 d1))).cell? ⟨W.heap.size + 1 + 1, 0, none⟩ = some (.slice none 0 0) := cell_of_row _ _ 0 _ _ _ rR11_.out
  have R_1_ : (((w1.setCell ⟨W.heap.size, 0, none⟩ (.slice q0 m0 d0)).setCell ⟨W.heap.size, 1, none⟩ (.slice q1 m1 d1))).cell? ⟨W.heap.size + 1 + 1, 1, none⟩ = some (.slice none 0 0) := cell_of_row _ _ 1 _ _ _ rR11_.out
  refine (implCrD _ _ _ xs ys (OwU.rd oC13_.out) (OwU.rd (OwU.tail oC13_.out)) HXL.out HYL.out true (by rw [decide_eq_true HCO.out])).mono ?_
  rintro e w2 ⟨rfl, g⟩
  have szw2 := g.size
  try simp only [World.size_setCell] at szw2
  try simp only [World.size_alloc] at szw2
  clear A_0_ A_1_ K_0_ K_1_ K_2_ K_3_ K_4_ K_5_ K_6_ K_7_ R_0_ R_1_
  have rA15_ := Lib.hid (show (w2).heap[W.heap.size]? = some (.cells #[.slice q0 m0 d0, .slice q1 m1 d1] 54 (0, 0)) from row_held g rA12_.out)
  clear rA12_
  have rK16_ := Lib.hid (show (w2).heap[W.heap.size + 1]? = some (.cells #[.int .i64 p.f0, .int .i64 p.f1, .int .i64 p.f2, .int .i64 p.f3, .int .i64 p.f4, .int .i64 p.f5, .int .i64 p.f6, vp] 29 (0, 0)) from row_held g rK10_.out)
  clear rK10_
  have rR17_ := Lib.hid (show (w2).heap[W.heap.size + 1 + 1]? = some (.cells #[.slice none 0 0, .slice none 0 0] 54 (0, 0)) from row_held g rR11_.out)
  clear rR11_
  have oC18_ := Lib.hid (show OwU (w2) ((W.heap.size + 1 + 1 + 1)) (w1.heap.size) [] [own shI (.slice q0 m0 d0) xs, own shI (.slice q1 m1 d1) ys] from OwU.grow oC13_.out g)
  clear oC13_
  have G19_ := Lib.hid (show (W).grownBy (w2) none from gby_trans G14_.out g)
  clear g
  have A_0_ : (w2).cell? ⟨W.heap.size, 0, none⟩ = some (.slice q0 m0 d0) := cell_of_row _ _ 0 _ _ _ rA15_.out
  have A_1_ : (w2).cell? ⟨W.heap.size, 1, none⟩ = some (.slice q1 m1 d1) := cell_of_row _ _ 1 _ _ _ rA15_.out
  have K_0_ : (w2).cell? ⟨W.heap.size + 1, 0, none⟩ = some (.int .i64 p.f0) := cell_of_row _ _ 0 _ _ _ rK16_.out
  have K_1_ : (w2).cell? ⟨W.heap.size + 1, 1, none⟩ = some (.int .i64 p.f1) := cell_of_row _ _ 1 _ _ _ rK16_.out
  have K_2_ : (w2).cell? ⟨W.heap.size + 1, 2, none⟩ = some (.int .i64 p.f2) := cell_of_row _ _ 2 _ _ _ rK16_.out
  have K_3_ : (w2).cell? ⟨W.heap.size + 1, 3, none⟩ = some (.int .i64 p.f3) := cell_of_row _ _ 3 _ _ _ rK16_.out
  have K_4_ : (w2).cell? ⟨W.heap.size + 1, 4, none⟩ = some (.int .i64 p.f4) := cell_of_row _ _ 4 _ _ _ rK16_.out
  have K_5_ : (w2).cell? ⟨W.heap.size + 1, 5, none⟩ = some (.int .i64 p.f5) := cell_of_row _ _ 5 _ _ _ rK16_.out
  have K_6_ : (w2).cell? ⟨W.heap.size + 1, 6, none⟩ = some (.int .i64 p.f6) := cell_of_row _ _ 6 _ _ _ rK16_.out
  have K_7_ : (w2).cell? ⟨W.heap.size + 1, 7, none⟩ = some (vp) := cell_of_row _ _ 7 _ _ _ rK16_.out
  have R_0_ : (w2).cell? ⟨W.heap.size + 1 + 1, 0, none⟩ = some (.slice none 0 0) := cell_of_row _ _ 0 _ _ _ rR17_.out
  have R_1_ : (w2).cell? ⟨W.heap.size + 1 + 1, 1, none⟩ = some (.slice none 0 0) := cell_of_row _ _ 1 _ _ _ rR17_.out
  go_wp2_with fail
  go_at_call 30
  refine (implPkD _ p _ (HP.out.grow G19_.out) HL.out false (by have := HN.out; rw [decide_eq_false (by omega)])).mono ?_
  rintro e w3 ⟨rfl, g⟩
  have szw3 := g.size
  try simp only [World.size_alloc] at szw3
  try simp only [World.size_setCell] at szw3
  clear A_0_ A_1_ K_0_ K_1_ K_2_ K_3_ K_4_ K_5_ K_6_ K_7_ R_0_ R_1_
  have rA20_ := Lib.hid (show (w3).heap[W.heap.size]? = some (.cells #[.slice q0 m0 d0, .slice q1 m1 d1] 54 (0, 0)) from row_held g rA15_.out)
  clear rA15_
  have rK21_ := Lib.hid (show (w3).heap[W.heap.size + 1]? = some (.cells #[.int .i64 p.f0, .int .i64 p.f1, .int .i64 p.f2, .int .i64 p.f3, .int .i64 p.f4, .int .i64 p.f5, .int .i64 p.f6, vp] 29 (0, 0)) from row_held g rK16_.out)
  clear rK16_
  have rR22_ := Lib.hid (show (w3).heap[W.heap.size + 1 + 1]? = some (.cells #[.slice none 0 0, .slice none 0 0] 54 (0, 0)) from row_held g rR17_.out)
  clear rR17_
  have oC23_ := Lib.hid (show OwU (w3) ((W.heap.size + 1 + 1 + 1)) (w1.heap.size) [] [own shI (.slice q0 m0 d0) xs, own shI (.slice q1 m1 d1) ys] from OwU.grow oC18_.out g)
  clear oC18_
  have G24_ := Lib.hid (show (W).grownBy (w3) none from gby_trans G19_.out g)
  clear g
  have A_0_ : (w3).cell? ⟨W.heap.size, 0, none⟩ = some (.slice q0 m0 d0) := cell_of_row _ _ 0 _ _ _ rA20_.out
  have A_1_ : (w3).cell? ⟨W.heap.size, 1, none⟩ = some (.slice q1 m1 d1) := cell_of_row _ _ 1 _ _ _ rA20_.out
  have K_0_ : (w3).cell? ⟨W.heap.size + 1, 0, none⟩ = some (.int .i64 p.f0) := cell_of_row _ _ 0 _ _ _ rK21_.out
  have K_1_ : (w3).cell? ⟨W.heap.size + 1, 1, none⟩ = some (.int .i64 p.f1) := cell_of_row _ _ 1 _ _ _ rK21_.out
  have K_2_ : (w3).cell? ⟨W.heap.size + 1, 2, none⟩ = some (.int .i64 p.f2) := cell_of_row _ _ 2 _ _ _ rK21_.out
  have K_3_ : (w3).cell? ⟨W.heap.size + 1, 3, none⟩ = some (.int .i64 p.f3) := cell_of_row _ _ 3 _ _ _ rK21_.out
  have K_4_ : (w3).cell? ⟨W.heap.size + 1, 4, none⟩ = some (.int .i64 p.f4) := cell_of_row _ _ 4 _ _ _ rK21_.out
  have K_5_ : (w3).cell? ⟨W.heap.size + 1, 5, none⟩ = some (.int .i64 p.f5) := cell_of_row _ _ 5 _ _ _ rK21_.out
  have K_6_ : (w3).cell? ⟨W.heap.size + 1, 6, none⟩ = some (.int .i64 p.f6) := cell_of_row _ _ 6 _ _ _ rK21_.out
  have K_7_ : (w3).cell? ⟨W.heap.size + 1, 7, none⟩ = some (vp) := cell_of_row _ _ 7 _ _ _ rK21_.out
  have R_0_ : (w3).cell? ⟨W.heap.size + 1 + 1, 0, none⟩ = some (.slice none 0 0) := cell_of_row _ _ 0 _ _ _ rR22_.out
  have R_1_ : (w3).cell? ⟨W.heap.size + 1 + 1, 1, none⟩ = some (.slice none 0 0) := cell_of_row _ _ 1 _ _ _ rR22_.out
  clear A_0_ A_1_ K_0_ K_1_ K_2_ K_3_ K_4_ K_5_ K_6_ K_7_ R_0_ R_1_
  have A_0_ : (w3).cell? ⟨W.heap.size, 0, none⟩ = some (.slice q0 m0 d0) := cell_of_row _ _ 0 _ _ _ rA20_.out
  have A_1_ : (w3).cell? ⟨W.heap.size, 1, none⟩ = some (.slice q1 m1 d1) := cell_of_row _ _ 1 _ _ _ rA20_.out
  have K_0_ : (w3).cell? ⟨W.heap.size + 1, 0, none⟩ = some (.int .i64 p.f0) := cell_of_row _ _ 0 _ _ _ rK21_.out
  have K_1_ : (w3).cell? ⟨W.heap.size + 1, 1, none⟩ = some (.int .i64 p.f1) := cell_of_row _ _ 1 _ _ _ rK21_.out
  have K_2_ : (w3).cell? ⟨W.heap.size + 1, 2, none⟩ = some (.int .i64 p.f2) := cell_of_row _ _ 2 _ _ _ rK21_.out
  have K_3_ : (w3).cell? ⟨W.heap.size + 1, 3, none⟩ = some (.int .i64 p.f3) := cell_of_row _ _ 3 _ _ _ rK21_.out
  have K_4_ : (w3).cell? ⟨W.heap.size + 1, 4, none⟩ = some (.int .i64 p.f4) := cell_of_row _ _ 4 _ _ _ rK21_.out
  have K_5_ : (w3).cell? ⟨W.heap.size + 1, 5, none⟩ = some (.int .i64 p.f5) := cell_of_row _ _ 5 _ _ _ rK21_.out
  have K_6_ : (w3).cell? ⟨W.heap.size + 1, 6, none⟩ = some (.int .i64 p.f6) := cell_of_row _ _ 6 _ _ _ rK21_.out
  have K_7_ : (w3).cell? ⟨W.heap.size + 1, 7, none⟩ = some (vp) := cell_of_row _ _ 7 _ _ _ rK21_.out
  have R_0_ : (w3).cell? ⟨W.heap.size + 1 + 1, 0, none⟩ = some (.slice none 0 0) := cell_of_row _ _ 0 _ _ _ rR22_.out
  have R_1_ : (w3).cell? ⟨W.heap.size + 1 + 1, 1, none⟩ = some (.slice none 0 0) := cell_of_row _ _ 1 _ _ _ rR22_.out
  clear A_0_ A_1_ K_0_ K_1_ K_2_ K_3_ K_4_ K_5_ K_6_ K_7_ R_0_ R_1_
  have A_0_ : (w3).cell? ⟨W.heap.size, 0, none⟩ = some (.slice q0 m0 d0) := cell_of_row _ _ 0 _ _ _ rA20_.out
  have A_1_ : (w3).cell? ⟨W.heap.size, 1, none⟩ = some (.slice q1 m1 d1) := cell_of_row _ _ 1 _ _ _ rA20_.out
  have K_0_ : (w3).cell? ⟨W.heap.size + 1, 0, none⟩ = some (.int .i64 p.f0) := cell_of_row _ _ 0 _ _ _ rK21_.out
  have K_1_ : (w3).cell? ⟨W.heap.size + 1, 1, none⟩ = some (.int .i64 p.f1) := cell_of_row _ _ 1 _ _ _ rK21_.out
  have K_2_ : (w3).cell? ⟨W.heap.size + 1, 2, none⟩ = some (.int .i64 p.f2) := cell_of_row _ _ 2 _ _ _ rK21_.out
  have K_3_ : (w3).cell? ⟨W.heap.size + 1, 3, none⟩ = some (.int .i64 p.f3) := cell_of_row _ _ 3 _ _ _ rK21_.out
  have K_4_ : (w3).cell? ⟨W.heap.size + 1, 4, none⟩ = some (.int .i64 p.f4) := cell_of_row _ _ 4 _ _ _ rK21_.out
  have K_5_ : (w3).cell? ⟨W.heap.size + 1, 5, none⟩ = some (.int .i64 p.f5) := cell_of_row _ _ 5 _ _ _ rK21_.out
  have K_6_ : (w3).cell? ⟨W.heap.size + 1, 6, none⟩ = some (.int .i64 p.f6) := cell_of_row _ _ 6 _ _ _ rK21_.out
  have K_7_ : (w3).cell? ⟨W.heap.size + 1, 7, none⟩ = some (vp) := cell_of_row _ _ 7 _ _ _ rK21_.out
  have R_0_ : (w3).cell? ⟨W.heap.size + 1 + 1, 0, none⟩ = some (.slice none 0 0) := cell_of_row _ _ 0 _ _ _ rR22_.out
  have R_1_ : (w3).cell? ⟨W.heap.size + 1 + 1, 1, none⟩ = some (.slice none 0 0) := cell_of_row _ _ 1 _ _ _ rR22_.out
  have Rf0_ : (w3).frozen? ⟨W.heap.size + 1 + 1, 0, none⟩ = false := frozen_of_row _ _ 0 _ _ rR22_.out
  have Rf1_ : (w3).frozen? ⟨W.heap.size + 1 + 1, 1, none⟩ = false := frozen_of_row _ _ 1 _ _ rR22_.out
  have zr_ := Lib.hid (show (((w3.setCell ⟨W.heap.size + 1 + 1, 0, none⟩ (.slice q0 m0 d0)).setCell ⟨W.heap.size + 1 + 1, 1, none⟩ (.slice q1 m1 d1))).heap[W.heap.size + 1 + 1]? = some (.cells #[.slice q0 m0 d0, .slice q1 m1 d1] 54 (0, 0)) from (heap_setCell_same _ _ 1 _ _ _ (heap_setCell_same _ _ 0 _ _ _ rR22_.out)))
  have z0_ : (((w3.setCell ⟨W.heap.size + 1 + 1, 0, none⟩ (.slice q0 m0 d0)).setCell ⟨W.heap.size + 1 + 1, 1, none⟩ (.slice q1 m1 d1))).cell? ⟨W.heap.size + 1 + 1, 0, none⟩ = some (.slice q0 m0 d0) := cell_of_row _ _ 0 _ _ _ zr_.out
  have z1_ : (((w3.setCell ⟨W.heap.size + 1 + 1, 0, none⟩ (.slice q0 m0 d0)).setCell ⟨W.heap.size + 1 + 1, 1, none⟩ (.slice q1 m1 d1))).cell? ⟨W.heap.size + 1 + 1, 1, none⟩ = some (.slice q1 m1 d1) := cell_of_row _ _ 1 _ _ _ zr_.out
  go_wp2
  refine bodyPost_ret (v := .tuple #[.agg #[.slice q0 m0 d0, .slice q1 m1 d1], .bool false]) (by simp [results, go_sem, z0_, z1_]) rfl ⟨_, _, rfl, ?_, ?_⟩
  · exact OwU.wide (lo := W.heap.size + 1 + 1 + 1) (by omega) (by simp only [World.size_setCell]; omega) (OwU.keep (chg_one _ _ _ _) (.inr (by omega)) (OwU.keep (chg_one _ _ _ _) (.inr (by omega)) oC23_.out))
  · exact (gby_setnew (gby_setnew G24_.out _ (by dsimp only; omega) _) _ (by dsimp only; omega) _)

set_option maxRecDepth 8000 in
set_option maxHeartbeats 4000000 in
theorem implSpendCredits_no (W : World) (u0 u1 vp : Value) (xs ys : List Int) (p : DPacket) (H0 : RdL shI W u0 xs) (H1 : RdL shI W u1 ys) (Hp : RdL shI W vp p.f7) (h0 : szL shI xs ≤ 1048576) (h1 : szL shI ys ≤ 1048576) (hl : szL shI p.f7 ≤ 1048576) (k : Nat) (u : Int) (hc : clsD p = (k : Int)) (hk3 : k < 3) (hcr : CrdOk xs ys) (hu : untD p = u) (hu0 : 0 ≤ u) (hu9 : u ≤ 1000000) (hw : ¬ CanP xs ys (k : Int) u) : Calls Try.prog 37 #[.agg #[u0, u1], (vPacket p.f0 p.f1 p.f2 p.f3 p.f4 p.f5 p.f6 vp)] W (ResISpendCredits xs ys false W) := by
  have HSX := Lib.hid H0
  have HSY := Lib.hid H1
  have HP := Lib.hid Hp
  have HXL := Lib.hid h0
  have HYL := Lib.hid h1
  have HL := Lib.hid hl
  obtain ⟨a0, n0, c0, rfl⟩ := RdL.form H0
  obtain ⟨a1, n1, c1, rfl⟩ := RdL.form H1
  clear H0 H1 Hp h0 h1 hl
  unfold vPacket
  have HCO := Lib.hid hcr
  have HC := Lib.hid hc
  have HU := Lib.hid hu
  have HCR := Lib.hid hcr
  have hx1 := crd_at hcr hk3
  obtain ⟨x, hx⟩ : ∃ x, x = xs.getD k 0 := ⟨_, rfl⟩
  obtain ⟨y, hy⟩ : ∃ y, y = ys.getD k 0 := ⟨_, rfl⟩
  rw [← hx, ← hy] at hx1
  obtain ⟨hxl, hyl, hx0, hx30, hy0, hy30⟩ := hx1
  have HX := Lib.hid hx
  have HY := Lib.hid hy
  have HW := Lib.hid hw
  clear hw
  clear hc hu hcr hx hy
  go_enter Try.func37, Try.ntmps37
  have rA1_ := Lib.hid (show ((((W.alloc (.cells #[.slice a0 n0 c0, .slice a1 n1 c1] 54)).alloc (.cells #[.int .i64 p.f0, .int .i64 p.f1, .int .i64 p.f2, .int .i64 p.f3, .int .i64 p.f4, .int .i64 p.f5, .int .i64 p.f6, vp] 29)).alloc (.cells #[.slice none 0 0, .slice none 0 0] 54))).heap[W.heap.size]? = some (.cells #[.slice a0 n0 c0, .slice a1 n1 c1] 54 (0, 0)) from by rw [heap_alloc_old _ _ (by simp only [World.size_alloc]; omega)]; rw [heap_alloc_old _ _ (by simp only [World.size_alloc]; omega)]; exact heap_alloc_new _ _)
  have rK2_ := Lib.hid (show ((((W.alloc (.cells #[.slice a0 n0 c0, .slice a1 n1 c1] 54)).alloc (.cells #[.int .i64 p.f0, .int .i64 p.f1, .int .i64 p.f2, .int .i64 p.f3, .int .i64 p.f4, .int .i64 p.f5, .int .i64 p.f6, vp] 29)).alloc (.cells #[.slice none 0 0, .slice none 0 0] 54))).heap[W.heap.size + 1]? = some (.cells #[.int .i64 p.f0, .int .i64 p.f1, .int .i64 p.f2, .int .i64 p.f3, .int .i64 p.f4, .int .i64 p.f5, .int .i64 p.f6, vp] 29 (0, 0)) from by rw [heap_alloc_old _ _ (by simp only [World.size_alloc]; omega)]; exact heap_pair _ _ _)
  have rR3_ := Lib.hid (show ((((W.alloc (.cells #[.slice a0 n0 c0, .slice a1 n1 c1] 54)).alloc (.cells #[.int .i64 p.f0, .int .i64 p.f1, .int .i64 p.f2, .int .i64 p.f3, .int .i64 p.f4, .int .i64 p.f5, .int .i64 p.f6, vp] 29)).alloc (.cells #[.slice none 0 0, .slice none 0 0] 54))).heap[W.heap.size + 1 + 1]? = some (.cells #[.slice none 0 0, .slice none 0 0] 54 (0, 0)) from by exact heap_trip _ _ _ _)
  have G4_ := Lib.hid (show (W).grownBy ((((W.alloc (.cells #[.slice a0 n0 c0, .slice a1 n1 c1] 54)).alloc (.cells #[.int .i64 p.f0, .int .i64 p.f1, .int .i64 p.f2, .int .i64 p.f3, .int .i64 p.f4, .int .i64 p.f5, .int .i64 p.f6, vp] 29)).alloc (.cells #[.slice none 0 0, .slice none 0 0] 54))) none from (gby_alloc (gby_alloc (gby_alloc (gby_refl _ _) _) _) _))
  have A_0_ : ((((W.alloc (.cells #[.slice a0 n0 c0, .slice a1 n1 c1] 54)).alloc (.cells #[.int .i64 p.f0, .int .i64 p.f1, .int .i64 p.f2, .int .i64 p.f3, .int .i64 p.f4, .int .i64 p.f5, .int .i64 p.f6, vp] 29)).alloc (.cells #[.slice none 0 0, .slice none 0 0] 54))).cell? ⟨W.heap.size, 0, none⟩ = some (.slice a0 n0 c0) := cell_of_row _ _ 0 _ _ _ rA1_.out
  have A_1_ : ((((W.alloc (.cells #[.slice a0 n0 c0, .slice a1 n1 c1] 54)).alloc (.cells #[.int .i64 p.f0, .int .i64 p.f1, .int .i64 p.f2, .int .i64 p.f3, .int .i64 p.f4, .int .i64 p.f5, .int .i64 p.f6, vp] 29)).alloc (.cells #[.slice none 0 0, .slice none 0 0] 54))).cell? ⟨W.heap.size, 1, none⟩ = some (.slice a1 n1 c1) := cell_of_row _ _ 1 _ _ _ rA1_.out
  have K_0_ : ((((W.alloc (.cells #[.slice a0 n0 c0, .slice a1 n1 c1] 54)).alloc (.cells #[.int .i64 p.f0, .int .i64 p.f1, .int .i64 p.f2, .int .i64 p.f3, .int .i64 p.f4, .int .i64 p.f5, .int .i64 p.f6, vp] 29)).alloc (.cells #[.slice none 0 0, .slice none 0 0] 54))).cell? ⟨W.heap.size + 1, 0, none⟩ = some (.int .i64 p.f0) := cell_of_row _ _ 0 _ _ _ rK2_.out
  have K_1_ : ((((W.alloc (.cells #[.slice a0 n0 c0, .slice a1 n1 c1] 54)).alloc (.cells #[.int .i64 p.f0, .int .i64 p.f1, .int .i64 p.f2, .int .i64 p.f3, .int .i64 p.f4, .int .i64 p.f5, .int .i64 p.f6, vp] 29)).alloc (.cells #[.slice none 0 0, .slice none 0 0] 54))).cell? ⟨W.heap.size + 1, 1, none⟩ = some (.int .i64 p.f1) := cell_of_row _ _ 1 _ _ _ rK2_.out
  have K_2_ : ((((W.alloc (.cells #[.slice a0 n0 c0, .slice a1 n1 c1] 54)).alloc (.cells #[.int .i64 p.f0, .int .i64 p.f1, .int .i64 p.f2, .int .i64 p.f3, .int .i64 p.f4, .int .i64 p.f5, .int .i64 p.f6, vp] 29)).alloc (.cells #[.slice none 0 0, .slice none 0 0] 54))).cell? ⟨W.heap.size + 1, 2, none⟩ = some (.int .i64 p.f2) := cell_of_row _ _ 2 _ _ _ rK2_.out
  have K_3_ : ((((W.alloc (.cells #[.slice a0 n0 c0, .slice a1 n1 c1] 54)).alloc (.cells #[.int .i64 p.f0, .int .i64 p.f1, .int .i64 p.f2, .int .i64 p.f3, .int .i64 p.f4, .int .i64 p.f5, .int .i64 p.f6, vp] 29)).alloc (.cells #[.slice none 0 0, .slice none 0 0] 54))).cell? ⟨W.heap.size + 1, 3, none⟩ = some (.int .i64 p.f3) := cell_of_row _ _ 3 _ _ _ rK2_.out
  have K_4_ : ((((W.alloc (.cells #[.slice a0 n0 c0, .slice a1 n1 c1] 54)).alloc (.cells #[.int .i64 p.f0, .int .i64 p.f1, .int .i64 p.f2, .int .i64 p.f3, .int .i64 p.f4, .int .i64 p.f5, .int .i64 p.f6, vp] 29)).alloc (.cells #[.slice none 0 0, .slice none 0 0] 54))).cell? ⟨W.heap.size + 1, 4, none⟩ = some (.int .i64 p.f4) := cell_of_row _ _ 4 _ _ _ rK2_.out
  have K_5_ : ((((W.alloc (.cells #[.slice a0 n0 c0, .slice a1 n1 c1] 54)).alloc (.cells #[.int .i64 p.f0, .int .i64 p.f1, .int .i64 p.f2, .int .i64 p.f3, .int .i64 p.f4, .int .i64 p.f5, .int .i64 p.f6, vp] 29)).alloc (.cells #[.slice none 0 0, .slice none 0 0] 54))).cell? ⟨W.heap.size + 1, 5, none⟩ = some (.int .i64 p.f5) := cell_of_row _ _ 5 _ _ _ rK2_.out
  have K_6_ : ((((W.alloc (.cells #[.slice a0 n0 c0, .slice a1 n1 c1] 54)).alloc (.cells #[.int .i64 p.f0, .int .i64 p.f1, .int .i64 p.f2, .int .i64 p.f3, .int .i64 p.f4, .int .i64 p.f5, .int .i64 p.f6, vp] 29)).alloc (.cells #[.slice none 0 0, .slice none 0 0] 54))).cell? ⟨W.heap.size + 1, 6, none⟩ = some (.int .i64 p.f6) := cell_of_row _ _ 6 _ _ _ rK2_.out
  have K_7_ : ((((W.alloc (.cells #[.slice a0 n0 c0, .slice a1 n1 c1] 54)).alloc (.cells #[.int .i64 p.f0, .int .i64 p.f1, .int .i64 p.f2, .int .i64 p.f3, .int .i64 p.f4, .int .i64 p.f5, .int .i64 p.f6, vp] 29)).alloc (.cells #[.slice none 0 0, .slice none 0 0] 54))).cell? ⟨W.heap.size + 1, 7, none⟩ = some (vp) := cell_of_row _ _ 7 _ _ _ rK2_.out
  have R_0_ : ((((W.alloc (.cells #[.slice a0 n0 c0, .slice a1 n1 c1] 54)).alloc (.cells #[.int .i64 p.f0, .int .i64 p.f1, .int .i64 p.f2, .int .i64 p.f3, .int .i64 p.f4, .int .i64 p.f5, .int .i64 p.f6, vp] 29)).alloc (.cells #[.slice none 0 0, .slice none 0 0] 54))).cell? ⟨W.heap.size + 1 + 1, 0, none⟩ = some (.slice none 0 0) := cell_of_row _ _ 0 _ _ _ rR3_.out
  have R_1_ : ((((W.alloc (.cells #[.slice a0 n0 c0, .slice a1 n1 c1] 54)).alloc (.cells #[.int .i64 p.f0, .int .i64 p.f1, .int .i64 p.f2, .int .i64 p.f3, .int .i64 p.f4, .int .i64 p.f5, .int .i64 p.f6, vp] 29)).alloc (.cells #[.slice none 0 0, .slice none 0 0] 54))).cell? ⟨W.heap.size + 1 + 1, 1, none⟩ = some (.slice none 0 0) := cell_of_row _ _ 1 _ _ _ rR3_.out
  go_wp2_with fail
  go_at_call 87
  refine (copiedCr_d _ _ _ xs ys (HSX.out.grow G4_.out) (HSY.out.grow G4_.out) HXL.out HYL.out).mono ?_
  rintro e w1 ⟨z0, z1, rfl, o, g⟩
  have sz_ := g.size
  try simp only [World.size_alloc] at sz_ o
  clear A_0_ A_1_ K_0_ K_1_ K_2_ K_3_ K_4_ K_5_ K_6_ K_7_ R_0_ R_1_
  have rA5_ := Lib.hid (show (w1).heap[W.heap.size]? = some (.cells #[.slice a0 n0 c0, .slice a1 n1 c1] 54 (0, 0)) from row_held g rA1_.out)
  clear rA1_
  have rK6_ := Lib.hid (show (w1).heap[W.heap.size + 1]? = some (.cells #[.int .i64 p.f0, .int .i64 p.f1, .int .i64 p.f2, .int .i64 p.f3, .int .i64 p.f4, .int .i64 p.f5, .int .i64 p.f6, vp] 29 (0, 0)) from row_held g rK2_.out)
  clear rK2_
  have rR7_ := Lib.hid (show (w1).heap[W.heap.size + 1 + 1]? = some (.cells #[.slice none 0 0, .slice none 0 0] 54 (0, 0)) from row_held g rR3_.out)
  clear rR3_
  have G8_ := Lib.hid (show (W).grownBy (w1) none from gby_trans G4_.out g)
  clear g
  obtain ⟨q0, m0, d0, hv_⟩ := RdL.form (OwU.rd o)
  subst hv_
  obtain ⟨q1, m1, d1, hv_⟩ := RdL.form (OwU.rd (OwU.tail o))
  subst hv_
  unfold vCredits
  have oC9_ := Lib.hid (show OwU (w1) ((W.heap.size + 1 + 1 + 1)) (w1.heap.size) [] [own shI (.slice q0 m0 d0) xs, own shI (.slice q1 m1 d1) ys] from o)
  clear o
  have A_0_ : (w1).cell? ⟨W.heap.size, 0, none⟩ = some (.slice a0 n0 c0) := cell_of_row _ _ 0 _ _ _ rA5_.out
  have A_1_ : (w1).cell? ⟨W.heap.size, 1, none⟩ = some (.slice a1 n1 c1) := cell_of_row _ _ 1 _ _ _ rA5_.out
  have Af0_ : (w1).frozen? ⟨W.heap.size, 0, none⟩ = false := frozen_of_row _ _ 0 _ _ rA5_.out
  have Af1_ : (w1).frozen? ⟨W.heap.size, 1, none⟩ = false := frozen_of_row _ _ 1 _ _ rA5_.out
  have K_0_ : (w1).cell? ⟨W.heap.size + 1, 0, none⟩ = some (.int .i64 p.f0) := cell_of_row _ _ 0 _ _ _ rK6_.out
  have K_1_ : (w1).cell? ⟨W.heap.size + 1, 1, none⟩ = some (.int .i64 p.f1) := cell_of_row _ _ 1 _ _ _ rK6_.out
  have K_2_ : (w1).cell? ⟨W.heap.size + 1, 2, none⟩ = some (.int .i64 p.f2) := cell_of_row _ _ 2 _ _ _ rK6_.out
  have K_3_ : (w1).cell? ⟨W.heap.size + 1, 3, none⟩ = some (.int .i64 p.f3) := cell_of_row _ _ 3 _ _ _ rK6_.out
  have K_4_ : (w1).cell? ⟨W.heap.size + 1, 4, none⟩ = some (.int .i64 p.f4) := cell_of_row _ _ 4 _ _ _ rK6_.out
  have K_5_ : (w1).cell? ⟨W.heap.size + 1, 5, none⟩ = some (.int .i64 p.f5) := cell_of_row _ _ 5 _ _ _ rK6_.out
  have K_6_ : (w1).cell? ⟨W.heap.size + 1, 6, none⟩ = some (.int .i64 p.f6) := cell_of_row _ _ 6 _ _ _ rK6_.out
  have K_7_ : (w1).cell? ⟨W.heap.size + 1, 7, none⟩ = some (vp) := cell_of_row _ _ 7 _ _ _ rK6_.out
  have R_0_ : (w1).cell? ⟨W.heap.size + 1 + 1, 0, none⟩ = some (.slice none 0 0) := cell_of_row _ _ 0 _ _ _ rR7_.out
  have R_1_ : (w1).cell? ⟨W.heap.size + 1 + 1, 1, none⟩ = some (.slice none 0 0) := cell_of_row _ _ 1 _ _ _ rR7_.out
  go_wp2_with fail
  go_at_call 47
  clear A_0_ A_1_ Af0_ Af1_ K_0_ K_1_ K_2_ K_3_ K_4_ K_5_ K_6_ K_7_ R_0_ R_1_
  have rK10_ := Lib.hid (show (((w1.setCell ⟨W.heap.size, 0, none⟩ (.slice q0 m0 d0)).setCell ⟨W.heap.size, 1, none⟩ (.slice q1 m1 d1))).heap[W.heap.size + 1]? = some (.cells #[.int .i64 p.f0, .int .i64 p.f1, .int .i64 p.f2, .int .i64 p.f3, .int .i64 p.f4, .int .i64 p.f5, .int .i64 p.f6, vp] 29 (0, 0)) from (set_far (set_far rK6_.out (by dsimp only; omega)) (by dsimp only; omega)))
  clear rK6_
  have rR11_ := Lib.hid (show (((w1.setCell ⟨W.heap.size, 0, none⟩ (.slice q0 m0 d0)).setCell ⟨W.heap.size, 1, none⟩ (.slice q1 m1 d1))).heap[W.heap.size + 1 + 1]? = some (.cells #[.slice none 0 0, .slice none 0 0] 54 (0, 0)) from (set_far (set_far rR7_.out (by dsimp only; omega)) (by dsimp only; omega)))
  clear rR7_
  have rA12_ := Lib.hid (show (((w1.setCell ⟨W.heap.size, 0, none⟩ (.slice q0 m0 d0)).setCell ⟨W.heap.size, 1, none⟩ (.slice q1 m1 d1))).heap[W.heap.size]? = some (.cells #[.slice q0 m0 d0, .slice q1 m1 d1] 54 (0, 0)) from (heap_setCell_same _ _ 1 _ _ _ (heap_setCell_same _ _ 0 _ _ _ rA5_.out)))
  clear rA5_
  have oC13_ := Lib.hid (show OwU (((w1.setCell ⟨W.heap.size, 0, none⟩ (.slice q0 m0 d0)).setCell ⟨W.heap.size, 1, none⟩ (.slice q1 m1 d1))) ((W.heap.size + 1 + 1 + 1)) (w1.heap.size) [] [own shI (.slice q0 m0 d0) xs, own shI (.slice q1 m1 d1) ys] from (OwU.keep (chg_one _ _ _ _) (by omega) (OwU.keep (chg_one _ _ _ _) (by omega) oC9_.out)))
  clear oC9_
  have G14_ := Lib.hid (show (W).grownBy (((w1.setCell ⟨W.heap.size, 0, none⟩ (.slice q0 m0 d0)).setCell ⟨W.heap.size, 1, none⟩ (.slice q1 m1 d1))) none from (gby_setnew (gby_setnew G8_.out _ (by dsimp only; omega) _) _ (by dsimp only; omega) _))
  have A_0_ : (((w1.setCell ⟨W.heap.size, 0, none⟩ (.slice q0 m0 d0)).setCell ⟨W.heap.size, 1, none⟩ (.slice q1 m1 d1))).cell? ⟨W.heap.size, 0, none⟩ = some (.slice q0 m0 d0) := cell_of_row _ _ 0 _ _ _ rA12_.out
  have A_1_ : (((w1.setCell ⟨W.heap.size, 0, none⟩ (.slice q0 m0 d0)).setCell ⟨W.heap.size, 1, none⟩ (.slice q1 m1 d1))).cell? ⟨W.heap.size, 1, none⟩ = some (.slice q1 m1 d1) := cell_of_row _ _ 1 _ _ _ rA12_.out
  have K_0_ : (((w1.setCell ⟨W.heap.size, 0, none⟩ (.slice q0 m0 d0)).setCell ⟨W.heap.size, 1, none⟩ (.slice q1 m1 d1))).cell? ⟨W.heap.size + 1, 0, none⟩ = some (.int .i64 p.f0) := cell_of_row _ _ 0 _ _ _ rK10_.out
  have K_1_ : (((w1.setCell ⟨W.heap.size, 0, none⟩ (.slice q0 m0 d0)).setCell ⟨W.heap.size, 1, none⟩ (.slice q1 m1 d1))).cell? ⟨W.heap.size + 1, 1, none⟩ = some (.int .i64 p.f1) := cell_of_row _ _ 1 _ _ _ rK10_.out
  have K_2_ : (((w1.setCell ⟨W.heap.size, 0, none⟩ (.slice q0 m0 d0)).setCell ⟨W.heap.size, 1, none⟩ (.slice q1 m1 d1))).cell? ⟨W.heap.size + 1, 2, none⟩ = some (.int .i64 p.f2) := cell_of_row _ _ 2 _ _ _ rK10_.out
  have K_3_ : (((w1.setCell ⟨W.heap.size, 0, none⟩ (.slice q0 m0 d0)).setCell ⟨W.heap.size, 1, none⟩ (.slice q1 m1 d1))).cell? ⟨W.heap.size + 1, 3, none⟩ = some (.int .i64 p.f3) := cell_of_row _ _ 3 _ _ _ rK10_.out
  have K_4_ : (((w1.setCell ⟨W.heap.size, 0, none⟩ (.slice q0 m0 d0)).setCell ⟨W.heap.size, 1, none⟩ (.slice q1 m1 d1))).cell? ⟨W.heap.size + 1, 4, none⟩ = some (.int .i64 p.f4) := cell_of_row _ _ 4 _ _ _ rK10_.out
  have K_5_ : (((w1.setCell ⟨W.heap.size, 0, none⟩ (.slice q0 m0 d0)).setCell ⟨W.heap.size, 1, none⟩ (.slice q1 m1 d1))).cell? ⟨W.heap.size + 1, 5, none⟩ = some (.int .i64 p.f5) := cell_of_row _ _ 5 _ _ _ rK10_.out
  have K_6_ : (((w1.setCell ⟨W.heap.size, 0, none⟩ (.slice q0 m0 d0)).setCell ⟨W.heap.size, 1, none⟩ (.slice q1 m1 d1))).cell? ⟨W.heap.size + 1, 6, none⟩ = some (.int .i64 p.f6) := cell_of_row _ _ 6 _ _ _ rK10_.out
  have K_7_ : (((w1.setCell ⟨W.heap.size, 0, none⟩ (.slice q0 m0 d0)).setCell ⟨W.heap.size, 1, none⟩ (.slice q1 m1 d1))).cell? ⟨W.heap.size + 1, 7, none⟩ = some (vp) := cell_of_row _ _ 7 _ _ _ rK10_.out
  have R_0_ : (((w1.setCell ⟨W.heap.size, 0, none⟩ (.slice q0 m0 d0)).setCell ⟨W.heap.size, 1, none⟩ (.slice q1 m1 d1))).cell? ⟨W.heap.size + 1 + 1, 0, none⟩ = some (.slice none 0 0) := cell_of_row _ _ 0 _ _ _ rR11_.out
  have R_1_ : (((w1.setCell ⟨W.heap.size, 0, none⟩ (.slice q0 m0 d0)).setCell ⟨W.heap.size, 1, none⟩ (.slice q1 m1 d1))).cell? ⟨W.heap.size + 1 + 1, 1, none⟩ = some (.slice none 0 0) := cell_of_row _ _ 1 _ _ _ rR11_.out
  refine (implCrD _ _ _ xs ys (OwU.rd oC13_.out) (OwU.rd (OwU.tail oC13_.out)) HXL.out HYL.out true (by rw [decide_eq_true HCO.out])).mono ?_
  rintro e w2 ⟨rfl, g⟩
  have szw2 := g.size
  try simp only [World.size_setCell] at szw2
  try simp only [World.size_alloc] at szw2
  clear A_0_ A_1_ K_0_ K_1_ K_2_ K_3_ K_4_ K_5_ K_6_ K_7_ R_0_ R_1_
  have rA15_ := Lib.hid (show (w2).heap[W.heap.size]? = some (.cells #[.slice q0 m0 d0, .slice q1 m1 d1] 54 (0, 0)) from row_held g rA12_.out)
  clear rA12_
  have rK16_ := Lib.hid (show (w2).heap[W.heap.size + 1]? = some (.cells #[.int .i64 p.f0, .int .i64 p.f1, .int .i64 p.f2, .int .i64 p.f3, .int .i64 p.f4, .int .i64 p.f5, .int .i64 p.f6, vp] 29 (0, 0)) from row_held g rK10_.out)
  clear rK10_
  have rR17_ := Lib.hid (show (w2).heap[W.heap.size + 1 + 1]? = some (.cells #[.slice none 0 0, .slice none 0 0] 54 (0, 0)) from row_held g rR11_.out)
  clear rR11_
  have oC18_ := Lib.hid (show OwU (w2) ((W.heap.size + 1 + 1 + 1)) (w1.heap.size) [] [own shI (.slice q0 m0 d0) xs, own shI (.slice q1 m1 d1) ys] from OwU.grow oC13_.out g)
  clear oC13_
  have G19_ := Lib.hid (show (W).grownBy (w2) none from gby_trans G14_.out g)
  clear g
  have A_0_ : (w2).cell? ⟨W.heap.size, 0, none⟩ = some (.slice q0 m0 d0) := cell_of_row _ _ 0 _ _ _ rA15_.out
  have A_1_ : (w2).cell? ⟨W.heap.size, 1, none⟩ = some (.slice q1 m1 d1) := cell_of_row _ _ 1 _ _ _ rA15_.out
  have K_0_ : (w2).cell? ⟨W.heap.size + 1, 0, none⟩ = some (.int .i64 p.f0) := cell_of_row _ _ 0 _ _ _ rK16_.out
  have K_1_ : (w2).cell? ⟨W.heap.size + 1, 1, none⟩ = some (.int .i64 p.f1) := cell_of_row _ _ 1 _ _ _ rK16_.out
  have K_2_ : (w2).cell? ⟨W.heap.size + 1, 2, none⟩ = some (.int .i64 p.f2) := cell_of_row _ _ 2 _ _ _ rK16_.out
  have K_3_ : (w2).cell? ⟨W.heap.size + 1, 3, none⟩ = some (.int .i64 p.f3) := cell_of_row _ _ 3 _ _ _ rK16_.out
  have K_4_ : (w2).cell? ⟨W.heap.size + 1, 4, none⟩ = some (.int .i64 p.f4) := cell_of_row _ _ 4 _ _ _ rK16_.out
  have K_5_ : (w2).cell? ⟨W.heap.size + 1, 5, none⟩ = some (.int .i64 p.f5) := cell_of_row _ _ 5 _ _ _ rK16_.out
  have K_6_ : (w2).cell? ⟨W.heap.size + 1, 6, none⟩ = some (.int .i64 p.f6) := cell_of_row _ _ 6 _ _ _ rK16_.out
  have K_7_ : (w2).cell? ⟨W.heap.size + 1, 7, none⟩ = some (vp) := cell_of_row _ _ 7 _ _ _ rK16_.out
  have R_0_ : (w2).cell? ⟨W.heap.size + 1 + 1, 0, none⟩ = some (.slice none 0 0) := cell_of_row _ _ 0 _ _ _ rR17_.out
  have R_1_ : (w2).cell? ⟨W.heap.size + 1 + 1, 1, none⟩ = some (.slice none 0 0) := cell_of_row _ _ 1 _ _ _ rR17_.out
  go_wp2_with fail
  go_at_call 30
  refine (implPkD _ p _ (HP.out.grow G19_.out) HL.out true (by rw [decide_eq_true (by rw [HC.out]; omega)])).mono ?_
  rintro e w3 ⟨rfl, g⟩
  have szw3 := g.size
  try simp only [World.size_alloc] at szw3
  try simp only [World.size_setCell] at szw3
  clear A_0_ A_1_ K_0_ K_1_ K_2_ K_3_ K_4_ K_5_ K_6_ K_7_ R_0_ R_1_
  have rA20_ := Lib.hid (show (w3).heap[W.heap.size]? = some (.cells #[.slice q0 m0 d0, .slice q1 m1 d1] 54 (0, 0)) from row_held g rA15_.out)
  clear rA15_
  have rK21_ := Lib.hid (show (w3).heap[W.heap.size + 1]? = some (.cells #[.int .i64 p.f0, .int .i64 p.f1, .int .i64 p.f2, .int .i64 p.f3, .int .i64 p.f4, .int .i64 p.f5, .int .i64 p.f6, vp] 29 (0, 0)) from row_held g rK16_.out)
  clear rK16_
  have rR22_ := Lib.hid (show (w3).heap[W.heap.size + 1 + 1]? = some (.cells #[.slice none 0 0, .slice none 0 0] 54 (0, 0)) from row_held g rR17_.out)
  clear rR17_
  have oC23_ := Lib.hid (show OwU (w3) ((W.heap.size + 1 + 1 + 1)) (w1.heap.size) [] [own shI (.slice q0 m0 d0) xs, own shI (.slice q1 m1 d1) ys] from OwU.grow oC18_.out g)
  clear oC18_
  have G24_ := Lib.hid (show (W).grownBy (w3) none from gby_trans G19_.out g)
  clear g
  have A_0_ : (w3).cell? ⟨W.heap.size, 0, none⟩ = some (.slice q0 m0 d0) := cell_of_row _ _ 0 _ _ _ rA20_.out
  have A_1_ : (w3).cell? ⟨W.heap.size, 1, none⟩ = some (.slice q1 m1 d1) := cell_of_row _ _ 1 _ _ _ rA20_.out
  have K_0_ : (w3).cell? ⟨W.heap.size + 1, 0, none⟩ = some (.int .i64 p.f0) := cell_of_row _ _ 0 _ _ _ rK21_.out
  have K_1_ : (w3).cell? ⟨W.heap.size + 1, 1, none⟩ = some (.int .i64 p.f1) := cell_of_row _ _ 1 _ _ _ rK21_.out
  have K_2_ : (w3).cell? ⟨W.heap.size + 1, 2, none⟩ = some (.int .i64 p.f2) := cell_of_row _ _ 2 _ _ _ rK21_.out
  have K_3_ : (w3).cell? ⟨W.heap.size + 1, 3, none⟩ = some (.int .i64 p.f3) := cell_of_row _ _ 3 _ _ _ rK21_.out
  have K_4_ : (w3).cell? ⟨W.heap.size + 1, 4, none⟩ = some (.int .i64 p.f4) := cell_of_row _ _ 4 _ _ _ rK21_.out
  have K_5_ : (w3).cell? ⟨W.heap.size + 1, 5, none⟩ = some (.int .i64 p.f5) := cell_of_row _ _ 5 _ _ _ rK21_.out
  have K_6_ : (w3).cell? ⟨W.heap.size + 1, 6, none⟩ = some (.int .i64 p.f6) := cell_of_row _ _ 6 _ _ _ rK21_.out
  have K_7_ : (w3).cell? ⟨W.heap.size + 1, 7, none⟩ = some (vp) := cell_of_row _ _ 7 _ _ _ rK21_.out
  have R_0_ : (w3).cell? ⟨W.heap.size + 1 + 1, 0, none⟩ = some (.slice none 0 0) := cell_of_row _ _ 0 _ _ _ rR22_.out
  have R_1_ : (w3).cell? ⟨W.heap.size + 1 + 1, 1, none⟩ = some (.slice none 0 0) := cell_of_row _ _ 1 _ _ _ rR22_.out
  have HCON := Lib.hid (show ∀ (w : World), w.heap[W.heap.size]? = some (.cells #[.slice q0 m0 d0, .slice q1 m1 d1] 54 (0, 0)) → OwU w (W.heap.size + 1 + 1 + 1) (w1.heap.size) [] [own shI (.slice q0 m0 d0) xs, own shI (.slice q1 m1 d1) ys] → W.grownBy w none → w1.heap.size ≤ w.heap.size → Calls Try.prog 88 #[.pointer (some ⟨W.heap.size, 0, none⟩), .agg #[.int .i64 p.f0, .int .i64 p.f1, .int .i64 p.f2, .int .i64 p.f3, .int .i64 p.f4, .int .i64 p.f5, .int .i64 p.f6, vp]] w (SpPost false (W.heap.size + 1 + 1 + 1) (w1.heap.size) (.slice q0 m0 d0) (.slice q1 m1 d1) xs ys w) from fun w r1 r2 r3 r4 => by
    have q := spend_no w W.heap.size (W.heap.size + 1 + 1 + 1) (w1.heap.size) k (.slice q0 m0 d0) (.slice q1 m1 d1) vp xs ys p r1 r2 (.inl (by omega)) r4 (HP.out.grow r3) (fun w' gc => HP.out.grow (gby_chg r3 gc (by omega))) HL.out HC.out hk3 HCR.out u HU.out hu0 hu9 HW.out
    skip
    exact q)
  go_wp2_with fail
  go_at_call 88
  refine (HCON.out _ rA20_.out oC23_.out G24_.out (by omega)).mono ?_
  rintro e w4 ⟨rfl, o, gc⟩
  have szv_ := gc.size
  have NR_ := Lib.hid (show w4.heap[W.heap.size + 1 + 1]? = some (.cells #[.slice none 0 0, .slice none 0 0] 54 (0, 0)) from Chg.keep gc rR22_.out (.inl (by omega)))
  have NA_ := Lib.hid (show w4.heap[W.heap.size]? = some (.cells #[.slice q0 m0 d0, .slice q1 m1 d1] 54 (0, 0)) from Chg.keep gc rA20_.out (.inl (by omega)))
  have NO_ := Lib.hid o
  have NG_ := Lib.hid (gby_chg G24_.out gc (by omega))
  clear o gc
  clear A_0_ A_1_ K_0_ K_1_ K_2_ K_3_ K_4_ K_5_ K_6_ K_7_ R_0_ R_1_
  have G25_ := Lib.hid (show (W).grownBy (w4) none from NG_.out)
  have A_0_ : (w4).cell? ⟨W.heap.size, 0, none⟩ = some (.slice q0 m0 d0) := cell_of_row _ _ 0 _ _ _ NA_.out
  have A_1_ : (w4).cell? ⟨W.heap.size, 1, none⟩ = some (.slice q1 m1 d1) := cell_of_row _ _ 1 _ _ _ NA_.out
  have R_0_ : (w4).cell? ⟨W.heap.size + 1 + 1, 0, none⟩ = some (.slice none 0 0) := cell_of_row _ _ 0 _ _ _ NR_.out
  have R_1_ : (w4).cell? ⟨W.heap.size + 1 + 1, 1, none⟩ = some (.slice none 0 0) := cell_of_row _ _ 1 _ _ _ NR_.out
  clear A_0_ A_1_ R_0_ R_1_
  have A_0_ : (w4).cell? ⟨W.heap.size, 0, none⟩ = some (.slice q0 m0 d0) := cell_of_row _ _ 0 _ _ _ NA_.out
  have A_1_ : (w4).cell? ⟨W.heap.size, 1, none⟩ = some (.slice q1 m1 d1) := cell_of_row _ _ 1 _ _ _ NA_.out
  have R_0_ : (w4).cell? ⟨W.heap.size + 1 + 1, 0, none⟩ = some (.slice none 0 0) := cell_of_row _ _ 0 _ _ _ NR_.out
  have R_1_ : (w4).cell? ⟨W.heap.size + 1 + 1, 1, none⟩ = some (.slice none 0 0) := cell_of_row _ _ 1 _ _ _ NR_.out
  have Rf0_ : (w4).frozen? ⟨W.heap.size + 1 + 1, 0, none⟩ = false := frozen_of_row _ _ 0 _ _ NR_.out
  have Rf1_ : (w4).frozen? ⟨W.heap.size + 1 + 1, 1, none⟩ = false := frozen_of_row _ _ 1 _ _ NR_.out
  have zr_ := Lib.hid (show (((w4.setCell ⟨W.heap.size + 1 + 1, 0, none⟩ (.slice q0 m0 d0)).setCell ⟨W.heap.size + 1 + 1, 1, none⟩ (.slice q1 m1 d1))).heap[W.heap.size + 1 + 1]? = some (.cells #[.slice q0 m0 d0, .slice q1 m1 d1] 54 (0, 0)) from (heap_setCell_same _ _ 1 _ _ _ (heap_setCell_same _ _ 0 _ _ _ NR_.out)))
  have z0_ : (((w4.setCell ⟨W.heap.size + 1 + 1, 0, none⟩ (.slice q0 m0 d0)).setCell ⟨W.heap.size + 1 + 1, 1, none⟩ (.slice q1 m1 d1))).cell? ⟨W.heap.size + 1 + 1, 0, none⟩ = some (.slice q0 m0 d0) := cell_of_row _ _ 0 _ _ _ zr_.out
  have z1_ : (((w4.setCell ⟨W.heap.size + 1 + 1, 0, none⟩ (.slice q0 m0 d0)).setCell ⟨W.heap.size + 1 + 1, 1, none⟩ (.slice q1 m1 d1))).cell? ⟨W.heap.size + 1 + 1, 1, none⟩ = some (.slice q1 m1 d1) := cell_of_row _ _ 1 _ _ _ zr_.out
  go_wp2
  refine bodyPost_ret (v := .tuple #[.agg #[.slice q0 m0 d0, .slice q1 m1 d1], .bool false]) (by simp [results, go_sem, z0_, z1_]) rfl ⟨_, _, rfl, ?_, ?_⟩
  · exact OwU.wide (lo := W.heap.size + 1 + 1 + 1) (by omega) (by simp only [World.size_setCell]; omega) (OwU.keep (chg_one _ _ _ _) (.inr (by omega)) (OwU.keep (chg_one _ _ _ _) (.inr (by omega)) NO_.out))
  · exact (gby_setnew (gby_setnew G25_.out _ (by dsimp only; omega) _) _ (by dsimp only; omega) _)

set_option maxRecDepth 8000 in
set_option maxHeartbeats 4000000 in
theorem implSpendCredits_yes (W : World) (u0 u1 vp : Value) (xs ys : List Int) (p : DPacket) (H0 : RdL shI W u0 xs) (H1 : RdL shI W u1 ys) (Hp : RdL shI W vp p.f7) (h0 : szL shI xs ≤ 1048576) (h1 : szL shI ys ≤ 1048576) (hl : szL shI p.f7 ≤ 1048576) (k : Nat) (u : Int) (hc : clsD p = (k : Int)) (hk3 : k < 3) (hcr : CrdOk xs ys) (hu : untD p = u) (hu0 : 0 ≤ u) (hu9 : u ≤ 1000000) (hw : CanP xs ys (k : Int) u) (hux : u ≤ ys.getD k 0) : Calls Try.prog 37 #[.agg #[u0, u1], (vPacket p.f0 p.f1 p.f2 p.f3 p.f4 p.f5 p.f6 vp)] W (ResISpendCredits (xs.set k (xs.getD k 0 - 1)) (ys.set k (ys.getD k 0 - u)) true W) := by
  have HSX := Lib.hid H0
  have HSY := Lib.hid H1
  have HP := Lib.hid Hp
  have HXL := Lib.hid h0
  have HYL := Lib.hid h1
  have HL := Lib.hid hl
  obtain ⟨a0, n0, c0, rfl⟩ := RdL.form H0
  obtain ⟨a1, n1, c1, rfl⟩ := RdL.form H1
  clear H0 H1 Hp h0 h1 hl
  unfold vPacket
  have HCO := Lib.hid hcr
  have HC := Lib.hid hc
  have HU := Lib.hid hu
  have HCR := Lib.hid hcr
  have hx1 := crd_at hcr hk3
  obtain ⟨x, hx⟩ : ∃ x, x = xs.getD k 0 := ⟨_, rfl⟩
  obtain ⟨y, hy⟩ : ∃ y, y = ys.getD k 0 := ⟨_, rfl⟩
  rw [← hx, ← hy] at hx1
  obtain ⟨hxl, hyl, hx0, hx30, hy0, hy30⟩ := hx1
  have HX := Lib.hid hx
  have HY := Lib.hid hy
  have HW := Lib.hid hw
  have HUX := Lib.hid hux
  clear hux
  clear hw
  clear hc hu hcr hx hy
  obtain ⟨rx, hrx⟩ : ∃ r, r = xs.set k (xs.getD k 0 - 1) := ⟨_, rfl⟩
  obtain ⟨ry, hry⟩ : ∃ r, r = ys.set k (ys.getD k 0 - u) := ⟨_, rfl⟩
  have HRX := Lib.hid hrx.symm
  have HRY := Lib.hid hry.symm
  rw [← hrx, ← hry]
  clear hrx hry
  go_enter Try.func37, Try.ntmps37
  have rA1_ := Lib.hid (show ((((W.alloc (.cells #[.slice a0 n0 c0, .slice a1 n1 c1] 54)).alloc (.cells #[.int .i64 p.f0, .int .i64 p.f1, .int .i64 p.f2, .int .i64 p.f3, .int .i64 p.f4, .int .i64 p.f5, .int .i64 p.f6, vp] 29)).alloc (.cells #[.slice none 0 0, .slice none 0 0] 54))).heap[W.heap.size]? = some (.cells #[.slice a0 n0 c0, .slice a1 n1 c1] 54 (0, 0)) from by rw [heap_alloc_old _ _ (by simp only [World.size_alloc]; omega)]; rw [heap_alloc_old _ _ (by simp only [World.size_alloc]; omega)]; exact heap_alloc_new _ _)
  have rK2_ := Lib.hid (show ((((W.alloc (.cells #[.slice a0 n0 c0, .slice a1 n1 c1] 54)).alloc (.cells #[.int .i64 p.f0, .int .i64 p.f1, .int .i64 p.f2, .int .i64 p.f3, .int .i64 p.f4, .int .i64 p.f5, .int .i64 p.f6, vp] 29)).alloc (.cells #[.slice none 0 0, .slice none 0 0] 54))).heap[W.heap.size + 1]? = some (.cells #[.int .i64 p.f0, .int .i64 p.f1, .int .i64 p.f2, .int .i64 p.f3, .int .i64 p.f4, .int .i64 p.f5, .int .i64 p.f6, vp] 29 (0, 0)) from by rw [heap_alloc_old _ _ (by simp only [World.size_alloc]; omega)]; exact heap_pair _ _ _)
  have rR3_ := Lib.hid (show ((((W.alloc (.cells #[.slice a0 n0 c0, .slice a1 n1 c1] 54)).alloc (.cells #[.int .i64 p.f0, .int .i64 p.f1, .int .i64 p.f2, .int .i64 p.f3, .int .i64 p.f4, .int .i64 p.f5, .int .i64 p.f6, vp] 29)).alloc (.cells #[.slice none 0 0, .slice none 0 0] 54))).heap[W.heap.size + 1 + 1]? = some (.cells #[.slice none 0 0, .slice none 0 0] 54 (0, 0)) from by exact heap_trip _ _ _ _)
  have G4_ := Lib.hid (show (W).grownBy ((((W.alloc (.cells #[.slice a0 n0 c0, .slice a1 n1 c1] 54)).alloc (.cells #[.int .i64 p.f0, .int .i64 p.f1, .int .i64 p.f2, .int .i64 p.f3, .int .i64 p.f4, .int .i64 p.f5, .int .i64 p.f6, vp] 29)).alloc (.cells #[.slice none 0 0, .slice none 0 0] 54))) none from (gby_alloc (gby_alloc (gby_alloc (gby_refl _ _) _) _) _))
  have A_0_ : ((((W.alloc (.cells #[.slice a0 n0 c0, .slice a1 n1 c1] 54)).alloc (.cells #[.int .i64 p.f0, .int .i64 p.f1, .int .i64 p.f2, .int .i64 p.f3, .int .i64 p.f4, .int .i64 p.f5, .int .i64 p.f6, vp] 29)).alloc (.cells #[.slice none 0 0, .slice none 0 0] 54))).cell? ⟨W.heap.size, 0, none⟩ = some (.slice a0 n0 c0) := cell_of_row _ _ 0 _ _ _ rA1_.out
  have A_1_ : ((((W.alloc (.cells #[.slice a0 n0 c0, .slice a1 n1 c1] 54)).alloc (.cells #[.int .i64 p.f0, .int .i64 p.f1, .int .i64 p.f2, .int .i64 p.f3, .int .i64 p.f4, .int .i64 p.f5, .int .i64 p.f6, vp] 29)).alloc (.cells #[.slice none 0 0, .slice none 0 0] 54))).cell? ⟨W.heap.size, 1, none⟩ = some (.slice a1 n1 c1) := cell_of_row _ _ 1 _ _ _ rA1_.out
  have K_0_ : ((((W.alloc (.cells #[.slice a0 n0 c0, .slice a1 n1 c1] 54)).alloc (.cells #[.int .i64 p.f0, .int .i64 p.f1, .int .i64 p.f2, .int .i64 p.f3, .int .i64 p.f4, .int .i64 p.f5, .int .i64 p.f6, vp] 29)).alloc (.cells #[.slice none 0 0, .slice none 0 0] 54))).cell? ⟨W.heap.size + 1, 0, none⟩ = some (.int .i64 p.f0) := cell_of_row _ _ 0 _ _ _ rK2_.out
  have K_1_ : ((((W.alloc (.cells #[.slice a0 n0 c0, .slice a1 n1 c1] 54)).alloc (.cells #[.int .i64 p.f0, .int .i64 p.f1, .int .i64 p.f2, .int .i64 p.f3, .int .i64 p.f4, .int .i64 p.f5, .int .i64 p.f6, vp] 29)).alloc (.cells #[.slice none 0 0, .slice none 0 0] 54))).cell? ⟨W.heap.size + 1, 1, none⟩ = some (.int .i64 p.f1) := cell_of_row _ _ 1 _ _ _ rK2_.out
  have K_2_ : ((((W.alloc (.cells #[.slice a0 n0 c0, .slice a1 n1 c1] 54)).alloc (.cells #[.int .i64 p.f0, .int .i64 p.f1, .int .i64 p.f2, .int .i64 p.f3, .int .i64 p.f4, .int .i64 p.f5, .int .i64 p.f6, vp] 29)).alloc (.cells #[.slice none 0 0, .slice none 0 0] 54))).cell? ⟨W.heap.size + 1, 2, none⟩ = some (.int .i64 p.f2) := cell_of_row _ _ 2 _ _ _ rK2_.out
  have K_3_ : ((((W.alloc (.cells #[.slice a0 n0 c0, .slice a1 n1 c1] 54)).alloc (.cells #[.int .i64 p.f0, .int .i64 p.f1, .int .i64 p.f2, .int .i64 p.f3, .int .i64 p.f4, .int .i64 p.f5, .int .i64 p.f6, vp] 29)).alloc (.cells #[.slice none 0 0, .slice none 0 0] 54))).cell? ⟨W.heap.size + 1, 3, none⟩ = some (.int .i64 p.f3) := cell_of_row _ _ 3 _ _ _ rK2_.out
  have K_4_ : ((((W.alloc (.cells #[.slice a0 n0 c0, .slice a1 n1 c1] 54)).alloc (.cells #[.int .i64 p.f0, .int .i64 p.f1, .int .i64 p.f2, .int .i64 p.f3, .int .i64 p.f4, .int .i64 p.f5, .int .i64 p.f6, vp] 29)).alloc (.cells #[.slice none 0 0, .slice none 0 0] 54))).cell? ⟨W.heap.size + 1, 4, none⟩ = some (.int .i64 p.f4) := cell_of_row _ _ 4 _ _ _ rK2_.out
  have K_5_ : ((((W.alloc (.cells #[.slice a0 n0 c0, .slice a1 n1 c1] 54)).alloc (.cells #[.int .i64 p.f0, .int .i64 p.f1, .int .i64 p.f2, .int .i64 p.f3, .int .i64 p.f4, .int .i64 p.f5, .int .i64 p.f6, vp] 29)).alloc (.cells #[.slice none 0 0, .slice none 0 0] 54))).cell? ⟨W.heap.size + 1, 5, none⟩ = some (.int .i64 p.f5) := cell_of_row _ _ 5 _ _ _ rK2_.out
  have K_6_ : ((((W.alloc (.cells #[.slice a0 n0 c0, .slice a1 n1 c1] 54)).alloc (.cells #[.int .i64 p.f0, .int .i64 p.f1, .int .i64 p.f2, .int .i64 p.f3, .int .i64 p.f4, .int .i64 p.f5, .int .i64 p.f6, vp] 29)).alloc (.cells #[.slice none 0 0, .slice none 0 0] 54))).cell? ⟨W.heap.size + 1, 6, none⟩ = some (.int .i64 p.f6) := cell_of_row _ _ 6 _ _ _ rK2_.out
  have K_7_ : ((((W.alloc (.cells #[.slice a0 n0 c0, .slice a1 n1 c1] 54)).alloc (.cells #[.int .i64 p.f0, .int .i64 p.f1, .int .i64 p.f2, .int .i64 p.f3, .int .i64 p.f4, .int .i64 p.f5, .int .i64 p.f6, vp] 29)).alloc (.cells #[.slice none 0 0, .slice none 0 0] 54))).cell? ⟨W.heap.size + 1, 7, none⟩ = some (vp) := cell_of_row _ _ 7 _ _ _ rK2_.out
  have R_0_ : ((((W.alloc (.cells #[.slice a0 n0 c0, .slice a1 n1 c1] 54)).alloc (.cells #[.int .i64 p.f0, .int .i64 p.f1, .int .i64 p.f2, .int .i64 p.f3, .int .i64 p.f4, .int .i64 p.f5, .int .i64 p.f6, vp] 29)).alloc (.cells #[.slice none 0 0, .slice none 0 0] 54))).cell? ⟨W.heap.size + 1 + 1, 0, none⟩ = some (.slice none 0 0) := cell_of_row _ _ 0 _ _ _ rR3_.out
  have R_1_ : ((((W.alloc (.cells #[.slice a0 n0 c0, .slice a1 n1 c1] 54)).alloc (.cells #[.int .i64 p.f0, .int .i64 p.f1, .int .i64 p.f2, .int .i64 p.f3, .int .i64 p.f4, .int .i64 p.f5, .int .i64 p.f6, vp] 29)).alloc (.cells #[.slice none 0 0, .slice none 0 0] 54))).cell? ⟨W.heap.size + 1 + 1, 1, none⟩ = some (.slice none 0 0) := cell_of_row _ _ 1 _ _ _ rR3_.out
  go_wp2_with fail
  go_at_call 87
  refine (copiedCr_d _ _ _ xs ys (HSX.out.grow G4_.out) (HSY.out.grow G4_.out) HXL.out HYL.out).mono ?_
  rintro e w1 ⟨z0, z1, rfl, o, g⟩
  have sz_ := g.size
  try simp only [World.size_alloc] at sz_ o
  clear A_0_ A_1_ K_0_ K_1_ K_2_ K_3_ K_4_ K_5_ K_6_ K_7_ R_0_ R_1_
  have rA5_ := Lib.hid (show (w1).heap[W.heap.size]? = some (.cells #[.slice a0 n0 c0, .slice a1 n1 c1] 54 (0, 0)) from row_held g rA1_.out)
  clear rA1_
  have rK6_ := Lib.hid (show (w1).heap[W.heap.size + 1]? = some (.cells #[.int .i64 p.f0, .int .i64 p.f1, .int .i64 p.f2, .int .i64 p.f3, .int .i64 p.f4, .int .i64 p.f5, .int .i64 p.f6, vp] 29 (0, 0)) from row_held g rK2_.out)
  clear rK2_
  have rR7_ := Lib.hid (show (w1).heap[W.heap.size + 1 + 1]? = some (.cells #[.slice none 0 0, .slice none 0 0] 54 (0, 0)) from row_held g rR3_.out)
  clear rR3_
  have G8_ := Lib.hid (show (W).grownBy (w1) none from gby_trans G4_.out g)
  clear g
  obtain ⟨q0, m0, d0, hv_⟩ := RdL.form (OwU.rd o)
  subst hv_
  obtain ⟨q1, m1, d1, hv_⟩ := RdL.form (OwU.rd (OwU.tail o))
  subst hv_
  unfold vCredits
  have oC9_ := Lib.hid (show OwU (w1) ((W.heap.size + 1 + 1 + 1)) (w1.heap.size) [] [own shI (.slice q0 m0 d0) xs, own shI (.slice q1 m1 d1) ys] from o)
  clear o
  have A_0_ : (w1).cell? ⟨W.heap.size, 0, none⟩ = some (.slice a0 n0 c0) := cell_of_row _ _ 0 _ _ _ rA5_.out
  have A_1_ : (w1).cell? ⟨W.heap.size, 1, none⟩ = some (.slice a1 n1 c1) := cell_of_row _ _ 1 _ _ _ rA5_.out
  have Af0_ : (w1).frozen? ⟨W.heap.size, 0, none⟩ = false := frozen_of_row _ _ 0 _ _ rA5_.out
  have Af1_ : (w1).frozen? ⟨W.heap.size, 1, none⟩ = false := frozen_of_row _ _ 1 _ _ rA5_.out
  have K_0_ : (w1).cell? ⟨W.heap.size + 1, 0, none⟩ = some (.int .i64 p.f0) := cell_of_row _ _ 0 _ _ _ rK6_.out
  have K_1_ : (w1).cell? ⟨W.heap.size + 1, 1, none⟩ = some (.int .i64 p.f1) := cell_of_row _ _ 1 _ _ _ rK6_.out
  have K_2_ : (w1).cell? ⟨W.heap.size + 1, 2, none⟩ = some (.int .i64 p.f2) := cell_of_row _ _ 2 _ _ _ rK6_.out
  have K_3_ : (w1).cell? ⟨W.heap.size + 1, 3, none⟩ = some (.int .i64 p.f3) := cell_of_row _ _ 3 _ _ _ rK6_.out
  have K_4_ : (w1).cell? ⟨W.heap.size + 1, 4, none⟩ = some (.int .i64 p.f4) := cell_of_row _ _ 4 _ _ _ rK6_.out
  have K_5_ : (w1).cell? ⟨W.heap.size + 1, 5, none⟩ = some (.int .i64 p.f5) := cell_of_row _ _ 5 _ _ _ rK6_.out
  have K_6_ : (w1).cell? ⟨W.heap.size + 1, 6, none⟩ = some (.int .i64 p.f6) := cell_of_row _ _ 6 _ _ _ rK6_.out
  have K_7_ : (w1).cell? ⟨W.heap.size + 1, 7, none⟩ = some (vp) := cell_of_row _ _ 7 _ _ _ rK6_.out
  have R_0_ : (w1).cell? ⟨W.heap.size + 1 + 1, 0, none⟩ = some (.slice none 0 0) := cell_of_row _ _ 0 _ _ _ rR7_.out
  have R_1_ : (w1).cell? ⟨W.heap.size + 1 + 1, 1, none⟩ = some (.slice none 0 0) := cell_of_row _ _ 1 _ _ _ rR7_.out
  go_wp2_with fail
  go_at_call 47
  clear A_0_ A_1_ Af0_ Af1_ K_0_ K_1_ K_2_ K_3_ K_4_ K_5_ K_6_ K_7_ R_0_ R_1_
  have rK10_ := Lib.hid (show (((w1.setCell ⟨W.heap.size, 0, none⟩ (.slice q0 m0 d0)).setCell ⟨W.heap.size, 1, none⟩ (.slice q1 m1 d1))).heap[W.heap.size + 1]? = some (.cells #[.int .i64 p.f0, .int .i64 p.f1, .int .i64 p.f2, .int .i64 p.f3, .int .i64 p.f4, .int .i64 p.f5, .int .i64 p.f6, vp] 29 (0, 0)) from (set_far (set_far rK6_.out (by dsimp only; omega)) (by dsimp only; omega)))
  clear rK6_
  have rR11_ := Lib.hid (show (((w1.setCell ⟨W.heap.size, 0, none⟩ (.slice q0 m0 d0)).setCell ⟨W.heap.size, 1, none⟩ (.slice q1 m1 d1))).heap[W.heap.size + 1 + 1]? = some (.cells #[.slice none 0 0, .slice none 0 0] 54 (0, 0)) from (set_far (set_far rR7_.out (by dsimp only; omega)) (by dsimp only; omega)))
  clear rR7_
  have rA12_ := Lib.hid (show (((w1.setCell ⟨W.heap.size, 0, none⟩ (.slice q0 m0 d0)).setCell ⟨W.heap.size, 1, none⟩ (.slice q1 m1 d1))).heap[W.heap.size]? = some (.cells #[.slice q0 m0 d0, .slice q1 m1 d1] 54 (0, 0)) from (heap_setCell_same _ _ 1 _ _ _ (heap_setCell_same _ _ 0 _ _ _ rA5_.out)))
  clear rA5_
  have oC13_ := Lib.hid (show OwU (((w1.setCell ⟨W.heap.size, 0, none⟩ (.slice q0 m0 d0)).setCell ⟨W.heap.size, 1, none⟩ (.slice q1 m1 d1))) ((W.heap.size + 1 + 1 + 1)) (w1.heap.size) [] [own shI (.slice q0 m0 d0) xs, own shI (.slice q1 m1 d1) ys] from (OwU.keep (chg_one _ _ _ _) (by omega) (OwU.keep (chg_one _ _ _ _) (by omega) oC9_.out)))
  clear oC9_
  have G14_ := Lib.hid (show (W).grownBy (((w1.setCell ⟨W.heap.size, 0, none⟩ (.slice q0 m0 d0)).setCell ⟨W.heap.size, 1, none⟩ (.slice q1 m1 d1))) none from (gby_setnew (gby_setnew G8_.out _ (by dsimp only; omega) _) _ (by dsimp only; omega) _))
  have A_0_ : (((w1.setCell ⟨W.heap.size, 0, none⟩ (.slice q0 m0 d0)).setCell ⟨W.heap.size, 1, none⟩ (.slice q1 m1 d1))).cell? ⟨W.heap.size, 0, none⟩ = some (.slice q0 m0 d0) := cell_of_row _ _ 0 _ _ _ rA12_.out
  have A_1_ : (((w1.setCell ⟨W.heap.size, 0, none⟩ (.slice q0 m0 d0)).setCell ⟨W.heap.size, 1, none⟩ (.slice q1 m1 d1))).cell? ⟨W.heap.size, 1, none⟩ = some (.slice q1 m1 d1) := cell_of_row _ _ 1 _ _ _ rA12_.out
  have K_0_ : (((w1.setCell ⟨W.heap.size, 0, none⟩ (.slice q0 m0 d0)).setCell ⟨W.heap.size, 1, none⟩ (.slice q1 m1 d1))).cell? ⟨W.heap.size + 1, 0, none⟩ = some (.int .i64 p.f0) := cell_of_row _ _ 0 _ _ _ rK10_.out
  have K_1_ : (((w1.setCell ⟨W.heap.size, 0, none⟩ (.slice q0 m0 d0)).setCell ⟨W.heap.size, 1, none⟩ (.slice q1 m1 d1))).cell? ⟨W.heap.size + 1, 1, none⟩ = some (.int .i64 p.f1) := cell_of_row _ _ 1 _ _ _ rK10_.out
  have K_2_ : (((w1.setCell ⟨W.heap.size, 0, none⟩ (.slice q0 m0 d0)).setCell ⟨W.heap.size, 1, none⟩ (.slice q1 m1 d1))).cell? ⟨W.heap.size + 1, 2, none⟩ = some (.int .i64 p.f2) := cell_of_row _ _ 2 _ _ _ rK10_.out
  have K_3_ : (((w1.setCell ⟨W.heap.size, 0, none⟩ (.slice q0 m0 d0)).setCell ⟨W.heap.size, 1, none⟩ (.slice q1 m1 d1))).cell? ⟨W.heap.size + 1, 3, none⟩ = some (.int .i64 p.f3) := cell_of_row _ _ 3 _ _ _ rK10_.out
  have K_4_ : (((w1.setCell ⟨W.heap.size, 0, none⟩ (.slice q0 m0 d0)).setCell ⟨W.heap.size, 1, none⟩ (.slice q1 m1 d1))).cell? ⟨W.heap.size + 1, 4, none⟩ = some (.int .i64 p.f4) := cell_of_row _ _ 4 _ _ _ rK10_.out
  have K_5_ : (((w1.setCell ⟨W.heap.size, 0, none⟩ (.slice q0 m0 d0)).setCell ⟨W.heap.size, 1, none⟩ (.slice q1 m1 d1))).cell? ⟨W.heap.size + 1, 5, none⟩ = some (.int .i64 p.f5) := cell_of_row _ _ 5 _ _ _ rK10_.out
  have K_6_ : (((w1.setCell ⟨W.heap.size, 0, none⟩ (.slice q0 m0 d0)).setCell ⟨W.heap.size, 1, none⟩ (.slice q1 m1 d1))).cell? ⟨W.heap.size + 1, 6, none⟩ = some (.int .i64 p.f6) := cell_of_row _ _ 6 _ _ _ rK10_.out
  have K_7_ : (((w1.setCell ⟨W.heap.size, 0, none⟩ (.slice q0 m0 d0)).setCell ⟨W.heap.size, 1, none⟩ (.slice q1 m1 d1))).cell? ⟨W.heap.size + 1, 7, none⟩ = some (vp) := cell_of_row _ _ 7 _ _ _ rK10_.out
  have R_0_ : (((w1.setCell ⟨W.heap.size, 0, none⟩ (.slice q0 m0 d0)).setCell ⟨W.heap.size, 1, none⟩ (.slice q1 m1 d1))).cell? ⟨W.heap.size + 1 + 1, 0, none⟩ = some (.slice none 0 0) := cell_of_row _ _ 0 _ _ _ rR11_.out
  have R_1_ : (((w1.setCell ⟨W.heap.size, 0, none⟩ (.slice q0 m0 d0)).setCell ⟨W.heap.size, 1, none⟩ (.slice q1 m1 d1))).cell? ⟨W.heap.size + 1 + 1, 1, none⟩ = some (.slice none 0 0) := cell_of_row _ _ 1 _ _ _ rR11_.out
  refine (implCrD _ _ _ xs ys (OwU.rd oC13_.out) (OwU.rd (OwU.tail oC13_.out)) HXL.out HYL.out true (by rw [decide_eq_true HCO.out])).mono ?_
  rintro e w2 ⟨rfl, g⟩
  have szw2 := g.size
  try simp only [World.size_setCell] at szw2
  try simp only [World.size_alloc] at szw2
  clear A_0_ A_1_ K_0_ K_1_ K_2_ K_3_ K_4_ K_5_ K_6_ K_7_ R_0_ R_1_
  have rA15_ := Lib.hid (show (w2).heap[W.heap.size]? = some (.cells #[.slice q0 m0 d0, .slice q1 m1 d1] 54 (0, 0)) from row_held g rA12_.out)
  clear rA12_
  have rK16_ := Lib.hid (show (w2).heap[W.heap.size + 1]? = some (.cells #[.int .i64 p.f0, .int .i64 p.f1, .int .i64 p.f2, .int .i64 p.f3, .int .i64 p.f4, .int .i64 p.f5, .int .i64 p.f6, vp] 29 (0, 0)) from row_held g rK10_.out)
  clear rK10_
  have rR17_ := Lib.hid (show (w2).heap[W.heap.size + 1 + 1]? = some (.cells #[.slice none 0 0, .slice none 0 0] 54 (0, 0)) from row_held g rR11_.out)
  clear rR11_
  have oC18_ := Lib.hid (show OwU (w2) ((W.heap.size + 1 + 1 + 1)) (w1.heap.size) [] [own shI (.slice q0 m0 d0) xs, own shI (.slice q1 m1 d1) ys] from OwU.grow oC13_.out g)
  clear oC13_
  have G19_ := Lib.hid (show (W).grownBy (w2) none from gby_trans G14_.out g)
  clear g
  have A_0_ : (w2).cell? ⟨W.heap.size, 0, none⟩ = some (.slice q0 m0 d0) := cell_of_row _ _ 0 _ _ _ rA15_.out
  have A_1_ : (w2).cell? ⟨W.heap.size, 1, none⟩ = some (.slice q1 m1 d1) := cell_of_row _ _ 1 _ _ _ rA15_.out
  have K_0_ : (w2).cell? ⟨W.heap.size + 1, 0, none⟩ = some (.int .i64 p.f0) := cell_of_row _ _ 0 _ _ _ rK16_.out
  have K_1_ : (w2).cell? ⟨W.heap.size + 1, 1, none⟩ = some (.int .i64 p.f1) := cell_of_row _ _ 1 _ _ _ rK16_.out
  have K_2_ : (w2).cell? ⟨W.heap.size + 1, 2, none⟩ = some (.int .i64 p.f2) := cell_of_row _ _ 2 _ _ _ rK16_.out
  have K_3_ : (w2).cell? ⟨W.heap.size + 1, 3, none⟩ = some (.int .i64 p.f3) := cell_of_row _ _ 3 _ _ _ rK16_.out
  have K_4_ : (w2).cell? ⟨W.heap.size + 1, 4, none⟩ = some (.int .i64 p.f4) := cell_of_row _ _ 4 _ _ _ rK16_.out
  have K_5_ : (w2).cell? ⟨W.heap.size + 1, 5, none⟩ = some (.int .i64 p.f5) := cell_of_row _ _ 5 _ _ _ rK16_.out
  have K_6_ : (w2).cell? ⟨W.heap.size + 1, 6, none⟩ = some (.int .i64 p.f6) := cell_of_row _ _ 6 _ _ _ rK16_.out
  have K_7_ : (w2).cell? ⟨W.heap.size + 1, 7, none⟩ = some (vp) := cell_of_row _ _ 7 _ _ _ rK16_.out
  have R_0_ : (w2).cell? ⟨W.heap.size + 1 + 1, 0, none⟩ = some (.slice none 0 0) := cell_of_row _ _ 0 _ _ _ rR17_.out
  have R_1_ : (w2).cell? ⟨W.heap.size + 1 + 1, 1, none⟩ = some (.slice none 0 0) := cell_of_row _ _ 1 _ _ _ rR17_.out
  go_wp2_with fail
  go_at_call 30
  refine (implPkD _ p _ (HP.out.grow G19_.out) HL.out true (by rw [decide_eq_true (by rw [HC.out]; omega)])).mono ?_
  rintro e w3 ⟨rfl, g⟩
  have szw3 := g.size
  try simp only [World.size_alloc] at szw3
  try simp only [World.size_setCell] at szw3
  clear A_0_ A_1_ K_0_ K_1_ K_2_ K_3_ K_4_ K_5_ K_6_ K_7_ R_0_ R_1_
  have rA20_ := Lib.hid (show (w3).heap[W.heap.size]? = some (.cells #[.slice q0 m0 d0, .slice q1 m1 d1] 54 (0, 0)) from row_held g rA15_.out)
  clear rA15_
  have rK21_ := Lib.hid (show (w3).heap[W.heap.size + 1]? = some (.cells #[.int .i64 p.f0, .int .i64 p.f1, .int .i64 p.f2, .int .i64 p.f3, .int .i64 p.f4, .int .i64 p.f5, .int .i64 p.f6, vp] 29 (0, 0)) from row_held g rK16_.out)
  clear rK16_
  have rR22_ := Lib.hid (show (w3).heap[W.heap.size + 1 + 1]? = some (.cells #[.slice none 0 0, .slice none 0 0] 54 (0, 0)) from row_held g rR17_.out)
  clear rR17_
  have oC23_ := Lib.hid (show OwU (w3) ((W.heap.size + 1 + 1 + 1)) (w1.heap.size) [] [own shI (.slice q0 m0 d0) xs, own shI (.slice q1 m1 d1) ys] from OwU.grow oC18_.out g)
  clear oC18_
  have G24_ := Lib.hid (show (W).grownBy (w3) none from gby_trans G19_.out g)
  clear g
  have A_0_ : (w3).cell? ⟨W.heap.size, 0, none⟩ = some (.slice q0 m0 d0) := cell_of_row _ _ 0 _ _ _ rA20_.out
  have A_1_ : (w3).cell? ⟨W.heap.size, 1, none⟩ = some (.slice q1 m1 d1) := cell_of_row _ _ 1 _ _ _ rA20_.out
  have K_0_ : (w3).cell? ⟨W.heap.size + 1, 0, none⟩ = some (.int .i64 p.f0) := cell_of_row _ _ 0 _ _ _ rK21_.out
  have K_1_ : (w3).cell? ⟨W.heap.size + 1, 1, none⟩ = some (.int .i64 p.f1) := cell_of_row _ _ 1 _ _ _ rK21_.out
  have K_2_ : (w3).cell? ⟨W.heap.size + 1, 2, none⟩ = some (.int .i64 p.f2) := cell_of_row _ _ 2 _ _ _ rK21_.out
  have K_3_ : (w3).cell? ⟨W.heap.size + 1, 3, none⟩ = some (.int .i64 p.f3) := cell_of_row _ _ 3 _ _ _ rK21_.out
  have K_4_ : (w3).cell? ⟨W.heap.size + 1, 4, none⟩ = some (.int .i64 p.f4) := cell_of_row _ _ 4 _ _ _ rK21_.out
  have K_5_ : (w3).cell? ⟨W.heap.size + 1, 5, none⟩ = some (.int .i64 p.f5) := cell_of_row _ _ 5 _ _ _ rK21_.out
  have K_6_ : (w3).cell? ⟨W.heap.size + 1, 6, none⟩ = some (.int .i64 p.f6) := cell_of_row _ _ 6 _ _ _ rK21_.out
  have K_7_ : (w3).cell? ⟨W.heap.size + 1, 7, none⟩ = some (vp) := cell_of_row _ _ 7 _ _ _ rK21_.out
  have R_0_ : (w3).cell? ⟨W.heap.size + 1 + 1, 0, none⟩ = some (.slice none 0 0) := cell_of_row _ _ 0 _ _ _ rR22_.out
  have R_1_ : (w3).cell? ⟨W.heap.size + 1 + 1, 1, none⟩ = some (.slice none 0 0) := cell_of_row _ _ 1 _ _ _ rR22_.out
  have HCON := Lib.hid (show ∀ (w : World), w.heap[W.heap.size]? = some (.cells #[.slice q0 m0 d0, .slice q1 m1 d1] 54 (0, 0)) → OwU w (W.heap.size + 1 + 1 + 1) (w1.heap.size) [] [own shI (.slice q0 m0 d0) xs, own shI (.slice q1 m1 d1) ys] → W.grownBy w none → w1.heap.size ≤ w.heap.size → Calls Try.prog 88 #[.pointer (some ⟨W.heap.size, 0, none⟩), .agg #[.int .i64 p.f0, .int .i64 p.f1, .int .i64 p.f2, .int .i64 p.f3, .int .i64 p.f4, .int .i64 p.f5, .int .i64 p.f6, vp]] w (SpPost true (W.heap.size + 1 + 1 + 1) (w1.heap.size) (.slice q0 m0 d0) (.slice q1 m1 d1) rx ry w) from fun w r1 r2 r3 r4 => by
    have q := spend_yes w W.heap.size (W.heap.size + 1 + 1 + 1) (w1.heap.size) k (.slice q0 m0 d0) (.slice q1 m1 d1) vp xs ys p r1 r2 (.inl (by omega)) r4 (HP.out.grow r3) (fun w' gc => HP.out.grow (gby_chg r3 gc (by omega))) HL.out HC.out hk3 HCR.out u HU.out hu0 hu9 HW.out HUX.out
    rw [HRX.out, HRY.out] at q
    exact q)
  go_wp2_with fail
  go_at_call 88
  refine (HCON.out _ rA20_.out oC23_.out G24_.out (by omega)).mono ?_
  rintro e w4 ⟨rfl, o, gc⟩
  have szv_ := gc.size
  have NR_ := Lib.hid (show w4.heap[W.heap.size + 1 + 1]? = some (.cells #[.slice none 0 0, .slice none 0 0] 54 (0, 0)) from Chg.keep gc rR22_.out (.inl (by omega)))
  have NA_ := Lib.hid (show w4.heap[W.heap.size]? = some (.cells #[.slice q0 m0 d0, .slice q1 m1 d1] 54 (0, 0)) from Chg.keep gc rA20_.out (.inl (by omega)))
  have NO_ := Lib.hid o
  have NG_ := Lib.hid (gby_chg G24_.out gc (by omega))
  clear o gc
  clear A_0_ A_1_ K_0_ K_1_ K_2_ K_3_ K_4_ K_5_ K_6_ K_7_ R_0_ R_1_
  have G25_ := Lib.hid (show (W).grownBy (w4) none from NG_.out)
  have A_0_ : (w4).cell? ⟨W.heap.size, 0, none⟩ = some (.slice q0 m0 d0) := cell_of_row _ _ 0 _ _ _ NA_.out
  have A_1_ : (w4).cell? ⟨W.heap.size, 1, none⟩ = some (.slice q1 m1 d1) := cell_of_row _ _ 1 _ _ _ NA_.out
  have R_0_ : (w4).cell? ⟨W.heap.size + 1 + 1, 0, none⟩ = some (.slice none 0 0) := cell_of_row _ _ 0 _ _ _ NR_.out
  have R_1_ : (w4).cell? ⟨W.heap.size + 1 + 1, 1, none⟩ = some (.slice none 0 0) := cell_of_row _ _ 1 _ _ _ NR_.out
  clear A_0_ A_1_ R_0_ R_1_
  have A_0_ : (w4).cell? ⟨W.heap.size, 0, none⟩ = some (.slice q0 m0 d0) := cell_of_row _ _ 0 _ _ _ NA_.out
  have A_1_ : (w4).cell? ⟨W.heap.size, 1, none⟩ = some (.slice q1 m1 d1) := cell_of_row _ _ 1 _ _ _ NA_.out
  have R_0_ : (w4).cell? ⟨W.heap.size + 1 + 1, 0, none⟩ = some (.slice none 0 0) := cell_of_row _ _ 0 _ _ _ NR_.out
  have R_1_ : (w4).cell? ⟨W.heap.size + 1 + 1, 1, none⟩ = some (.slice none 0 0) := cell_of_row _ _ 1 _ _ _ NR_.out
  have Rf0_ : (w4).frozen? ⟨W.heap.size + 1 + 1, 0, none⟩ = false := frozen_of_row _ _ 0 _ _ NR_.out
  have Rf1_ : (w4).frozen? ⟨W.heap.size + 1 + 1, 1, none⟩ = false := frozen_of_row _ _ 1 _ _ NR_.out
  have zr_ := Lib.hid (show (((w4.setCell ⟨W.heap.size + 1 + 1, 0, none⟩ (.slice q0 m0 d0)).setCell ⟨W.heap.size + 1 + 1, 1, none⟩ (.slice q1 m1 d1))).heap[W.heap.size + 1 + 1]? = some (.cells #[.slice q0 m0 d0, .slice q1 m1 d1] 54 (0, 0)) from (heap_setCell_same _ _ 1 _ _ _ (heap_setCell_same _ _ 0 _ _ _ NR_.out)))
  have z0_ : (((w4.setCell ⟨W.heap.size + 1 + 1, 0, none⟩ (.slice q0 m0 d0)).setCell ⟨W.heap.size + 1 + 1, 1, none⟩ (.slice q1 m1 d1))).cell? ⟨W.heap.size + 1 + 1, 0, none⟩ = some (.slice q0 m0 d0) := cell_of_row _ _ 0 _ _ _ zr_.out
  have z1_ : (((w4.setCell ⟨W.heap.size + 1 + 1, 0, none⟩ (.slice q0 m0 d0)).setCell ⟨W.heap.size + 1 + 1, 1, none⟩ (.slice q1 m1 d1))).cell? ⟨W.heap.size + 1 + 1, 1, none⟩ = some (.slice q1 m1 d1) := cell_of_row _ _ 1 _ _ _ zr_.out
  go_wp2
  refine bodyPost_ret (v := .tuple #[.agg #[.slice q0 m0 d0, .slice q1 m1 d1], .bool true]) (by simp [results, go_sem, z0_, z1_]) rfl ⟨_, _, rfl, ?_, ?_⟩
  · exact OwU.wide (lo := W.heap.size + 1 + 1 + 1) (by omega) (by simp only [World.size_setCell]; omega) (OwU.keep (chg_one _ _ _ _) (.inr (by omega)) (OwU.keep (chg_one _ _ _ _) (.inr (by omega)) NO_.out))
  · exact (gby_setnew (gby_setnew G25_.out _ (by dsimp only; omega) _) _ (by dsimp only; omega) _)

set_option maxRecDepth 8000 in
set_option maxHeartbeats 2000000 in
theorem implReturnCredits_bad (W : World) (u0 u1 vp : Value) (xs ys : List Int) (p : DPacket) (H0 : RdL shI W u0 xs) (H1 : RdL shI W u1 ys) (Hp : RdL shI W vp p.f7) (h0 : szL shI xs ≤ 1048576) (h1 : szL shI ys ≤ 1048576) (hl : szL shI p.f7 ≤ 1048576) (hb : ¬ CrdOk xs ys) : Calls Try.prog 42 #[.agg #[u0, u1], (vPacket p.f0 p.f1 p.f2 p.f3 p.f4 p.f5 p.f6 vp)] W (ResIReturnCredits xs ys false W) := by
  have HSX := Lib.hid H0
  have HSY := Lib.hid H1
  have HP := Lib.hid Hp
  have HXL := Lib.hid h0
  have HYL := Lib.hid h1
  have HL := Lib.hid hl
  obtain ⟨a0, n0, c0, rfl⟩ := RdL.form H0
  obtain ⟨a1, n1, c1, rfl⟩ := RdL.form H1
  clear H0 H1 Hp h0 h1 hl
  unfold vPacket
  have HCO := Lib.hid hb
  clear hb
  go_enter Try.func42, Try.ntmps42
  have rA1_ := Lib.hid (show ((((W.alloc (.cells #[.slice a0 n0 c0, .slice a1 n1 c1] 54)).alloc (.cells #[.int .i64 p.f0, .int .i64 p.f1, .int .i64 p.f2, .int .i64 p.f3, .int .i64 p.f4, .int .i64 p.f5, .int .i64 p.f6, vp] 29)).alloc (.cells #[.slice none 0 0, .slice none 0 0] 54))).heap[W.heap.size]? = some (.cells #[.slice a0 n0 c0, .slice a1 n1 c1] 54 (0, 0)) from by rw [heap_alloc_old _ _ (by simp only [World.size_alloc]; omega)]; rw [heap_alloc_old _ _ (by simp only [World.size_alloc]; omega)]; exact heap_alloc_new _ _)
  have rK2_ := Lib.hid (show ((((W.alloc (.cells #[.slice a0 n0 c0, .slice a1 n1 c1] 54)).alloc (.cells #[.int .i64 p.f0, .int .i64 p.f1, .int .i64 p.f2, .int .i64 p.f3, .int .i64 p.f4, .int .i64 p.f5, .int .i64 p.f6, vp] 29)).alloc (.cells #[.slice none 0 0, .slice none 0 0] 54))).heap[W.heap.size + 1]? = some (.cells #[.int .i64 p.f0, .int .i64 p.f1, .int .i64 p.f2, .int .i64 p.f3, .int .i64 p.f4, .int .i64 p.f5, .int .i64 p.f6, vp] 29 (0, 0)) from by rw [heap_alloc_old _ _ (by simp only [World.size_alloc]; omega)]; exact heap_pair _ _ _)
  have rR3_ := Lib.hid (show ((((W.alloc (.cells #[.slice a0 n0 c0, .slice a1 n1 c1] 54)).alloc (.cells #[.int .i64 p.f0, .int .i64 p.f1, .int .i64 p.f2, .int .i64 p.f3, .int .i64 p.f4, .int .i64 p.f5, .int .i64 p.f6, vp] 29)).alloc (.cells #[.slice none 0 0, .slice none 0 0] 54))).heap[W.heap.size + 1 + 1]? = some (.cells #[.slice none 0 0, .slice none 0 0] 54 (0, 0)) from by exact heap_trip _ _ _ _)
  have G4_ := Lib.hid (show (W).grownBy ((((W.alloc (.cells #[.slice a0 n0 c0, .slice a1 n1 c1] 54)).alloc (.cells #[.int .i64 p.f0, .int .i64 p.f1, .int .i64 p.f2, .int .i64 p.f3, .int .i64 p.f4, .int .i64 p.f5, .int .i64 p.f6, vp] 29)).alloc (.cells #[.slice none 0 0, .slice none 0 0] 54))) none from (gby_alloc (gby_alloc (gby_alloc (gby_refl _ _) _) _) _))
  have A_0_ : ((((W.alloc (.cells #[.slice a0 n0 c0, .slice a1 n1 c1] 54)).alloc (.cells #[.int .i64 p.f0, .int .i64 p.f1, .int .i64 p.f2, .int .i64 p.f3, .int .i64 p.f4, .int .i64 p.f5, .int .i64 p.f6, vp] 29)).alloc (.cells #[.slice none 0 0, .slice none 0 0] 54))).cell? ⟨W.heap.size, 0, none⟩ = some (.slice a0 n0 c0) := cell_of_row _ _ 0 _ _ _ rA1_.out
  have A_1_ : ((((W.alloc (.cells #[.slice a0 n0 c0, .slice a1 n1 c1] 54)).alloc (.cells #[.int .i64 p.f0, .int .i64 p.f1, .int .i64 p.f2, .int .i64 p.f3, .int .i64 p.f4, .int .i64 p.f5, .int .i64 p.f6, vp] 29)).alloc (.cells #[.slice none 0 0, .slice none 0 0] 54))).cell? ⟨W.heap.size, 1, none⟩ = some (.slice a1 n1 c1) := cell_of_row _ _ 1 _ _ _ rA1_.out
  have K_0_ : ((((W.alloc (.cells #[.slice a0 n0 c0, .slice a1 n1 c1] 54)).alloc (.cells #[.int .i64 p.f0, .int .i64 p.f1, .int .i64 p.f2, .int .i64 p.f3, .int .i64 p.f4, .int .i64 p.f5, .int .i64 p.f6, vp] 29)).alloc (.cells #[.slice none 0 0, .slice none 0 0] 54))).cell? ⟨W.heap.size + 1, 0, none⟩ = some (.int .i64 p.f0) := cell_of_row _ _ 0 _ _ _ rK2_.out
  have K_1_ : ((((W.alloc (.cells #[.slice a0 n0 c0, .slice a1 n1 c1] 54)).alloc (.cells #[.int .i64 p.f0, .int .i64 p.f1, .int .i64 p.f2, .int .i64 p.f3, .int .i64 p.f4, .int .i64 p.f5, .int .i64 p.f6, vp] 29)).alloc (.cells #[.slice none 0 0, .slice none 0 0] 54))).cell? ⟨W.heap.size + 1, 1, none⟩ = some (.int .i64 p.f1) := cell_of_row _ _ 1 _ _ _ rK2_.out
  have K_2_ : ((((W.alloc (.cells #[.slice a0 n0 c0, .slice a1 n1 c1] 54)).alloc (.cells #[.int .i64 p.f0, .int .i64 p.f1, .int .i64 p.f2, .int .i64 p.f3, .int .i64 p.f4, .int .i64 p.f5, .int .i64 p.f6, vp] 29)).alloc (.cells #[.slice none 0 0, .slice none 0 0] 54))).cell? ⟨W.heap.size + 1, 2, none⟩ = some (.int .i64 p.f2) := cell_of_row _ _ 2 _ _ _ rK2_.out
  have K_3_ : ((((W.alloc (.cells #[.slice a0 n0 c0, .slice a1 n1 c1] 54)).alloc (.cells #[.int .i64 p.f0, .int .i64 p.f1, .int .i64 p.f2, .int .i64 p.f3, .int .i64 p.f4, .int .i64 p.f5, .int .i64 p.f6, vp] 29)).alloc (.cells #[.slice none 0 0, .slice none 0 0] 54))).cell? ⟨W.heap.size + 1, 3, none⟩ = some (.int .i64 p.f3) := cell_of_row _ _ 3 _ _ _ rK2_.out
  have K_4_ : ((((W.alloc (.cells #[.slice a0 n0 c0, .slice a1 n1 c1] 54)).alloc (.cells #[.int .i64 p.f0, .int .i64 p.f1, .int .i64 p.f2, .int .i64 p.f3, .int .i64 p.f4, .int .i64 p.f5, .int .i64 p.f6, vp] 29)).alloc (.cells #[.slice none 0 0, .slice none 0 0] 54))).cell? ⟨W.heap.size + 1, 4, none⟩ = some (.int .i64 p.f4) := cell_of_row _ _ 4 _ _ _ rK2_.out
  have K_5_ : ((((W.alloc (.cells #[.slice a0 n0 c0, .slice a1 n1 c1] 54)).alloc (.cells #[.int .i64 p.f0, .int .i64 p.f1, .int .i64 p.f2, .int .i64 p.f3, .int .i64 p.f4, .int .i64 p.f5, .int .i64 p.f6, vp] 29)).alloc (.cells #[.slice none 0 0, .slice none 0 0] 54))).cell? ⟨W.heap.size + 1, 5, none⟩ = some (.int .i64 p.f5) := cell_of_row _ _ 5 _ _ _ rK2_.out
  have K_6_ : ((((W.alloc (.cells #[.slice a0 n0 c0, .slice a1 n1 c1] 54)).alloc (.cells #[.int .i64 p.f0, .int .i64 p.f1, .int .i64 p.f2, .int .i64 p.f3, .int .i64 p.f4, .int .i64 p.f5, .int .i64 p.f6, vp] 29)).alloc (.cells #[.slice none 0 0, .slice none 0 0] 54))).cell? ⟨W.heap.size + 1, 6, none⟩ = some (.int .i64 p.f6) := cell_of_row _ _ 6 _ _ _ rK2_.out
  have K_7_ : ((((W.alloc (.cells #[.slice a0 n0 c0, .slice a1 n1 c1] 54)).alloc (.cells #[.int .i64 p.f0, .int .i64 p.f1, .int .i64 p.f2, .int .i64 p.f3, .int .i64 p.f4, .int .i64 p.f5, .int .i64 p.f6, vp] 29)).alloc (.cells #[.slice none 0 0, .slice none 0 0] 54))).cell? ⟨W.heap.size + 1, 7, none⟩ = some (vp) := cell_of_row _ _ 7 _ _ _ rK2_.out
  have R_0_ : ((((W.alloc (.cells #[.slice a0 n0 c0, .slice a1 n1 c1] 54)).alloc (.cells #[.int .i64 p.f0, .int .i64 p.f1, .int .i64 p.f2, .int .i64 p.f3, .int .i64 p.f4, .int .i64 p.f5, .int .i64 p.f6, vp] 29)).alloc (.cells #[.slice none 0 0, .slice none 0 0] 54))).cell? ⟨W.heap.size + 1 + 1, 0, none⟩ = some (.slice none 0 0) := cell_of_row _ _ 0 _ _ _ rR3_.out
  have R_1_ : ((((W.alloc (.cells #[.slice a0 n0 c0, .slice a1 n1 c1] 54)).alloc (.cells #[.int .i64 p.f0, .int .i64 p.f1, .int .i64 p.f2, .int .i64 p.f3, .int .i64 p.f4, .int .i64 p.f5, .int .i64 p.f6, vp] 29)).alloc (.cells #[.slice none 0 0, .slice none 0 0] 54))).cell? ⟨W.heap.size + 1 + 1, 1, none⟩ = some (.slice none 0 0) := cell_of_row _ _ 1 _ _ _ rR3_.out
  go_wp2_with fail
  go_at_call 87
  refine (copiedCr_d _ _ _ xs ys (HSX.out.grow G4_.out) (HSY.out.grow G4_.out) HXL.out HYL.out).mono ?_
  rintro e w1 ⟨z0, z1, rfl, o, g⟩
  have sz_ := g.size
  try simp only [World.size_alloc] at sz_ o
  clear A_0_ A_1_ K_0_ K_1_ K_2_ K_3_ K_4_ K_5_ K_6_ K_7_ R_0_ R_1_
  have rA5_ := Lib.hid (show (w1).heap[W.heap.size]? = some (.cells #[.slice a0 n0 c0, .slice a1 n1 c1] 54 (0, 0)) from row_held g rA1_.out)
  clear rA1_
  have rK6_ := Lib.hid (show (w1).heap[W.heap.size + 1]? = some (.cells #[.int .i64 p.f0, .int .i64 p.f1, .int .i64 p.f2, .int .i64 p.f3, .int .i64 p.f4, .int .i64 p.f5, .int .i64 p.f6, vp] 29 (0, 0)) from row_held g rK2_.out)
  clear rK2_
  have rR7_ := Lib.hid (show (w1).heap[W.heap.size + 1 + 1]? = some (.cells #[.slice none 0 0, .slice none 0 0] 54 (0, 0)) from row_held g rR3_.out)
  clear rR3_
  have G8_ := Lib.hid (show (W).grownBy (w1) none from gby_trans G4_.out g)
  clear g
  obtain ⟨q0, m0, d0, hv_⟩ := RdL.form (OwU.rd o)
  subst hv_
  obtain ⟨q1, m1, d1, hv_⟩ := RdL.form (OwU.rd (OwU.tail o))
  subst hv_
  unfold vCredits
  have oC9_ := Lib.hid (show OwU (w1) ((W.heap.size + 1 + 1 + 1)) (w1.heap.size) [] [own shI (.slice q0 m0 d0) xs, own shI (.slice q1 m1 d1) ys] from o)
  clear o
  have A_0_ : (w1).cell? ⟨W.heap.size, 0, none⟩ = some (.slice a0 n0 c0) := cell_of_row _ _ 0 _ _ _ rA5_.out
  have A_1_ : (w1).cell? ⟨W.heap.size, 1, none⟩ = some (.slice a1 n1 c1) := cell_of_row _ _ 1 _ _ _ rA5_.out
  have Af0_ : (w1).frozen? ⟨W.heap.size, 0, none⟩ = false := frozen_of_row _ _ 0 _ _ rA5_.out
  have Af1_ : (w1).frozen? ⟨W.heap.size, 1, none⟩ = false := frozen_of_row _ _ 1 _ _ rA5_.out
  have K_0_ : (w1).cell? ⟨W.heap.size + 1, 0, none⟩ = some (.int .i64 p.f0) := cell_of_row _ _ 0 _ _ _ rK6_.out
  have K_1_ : (w1).cell? ⟨W.heap.size + 1, 1, none⟩ = some (.int .i64 p.f1) := cell_of_row _ _ 1 _ _ _ rK6_.out
  have K_2_ : (w1).cell? ⟨W.heap.size + 1, 2, none⟩ = some (.int .i64 p.f2) := cell_of_row _ _ 2 _ _ _ rK6_.out
  have K_3_ : (w1).cell? ⟨W.heap.size + 1, 3, none⟩ = some (.int .i64 p.f3) := cell_of_row _ _ 3 _ _ _ rK6_.out
  have K_4_ : (w1).cell? ⟨W.heap.size + 1, 4, none⟩ = some (.int .i64 p.f4) := cell_of_row _ _ 4 _ _ _ rK6_.out
  have K_5_ : (w1).cell? ⟨W.heap.size + 1, 5, none⟩ = some (.int .i64 p.f5) := cell_of_row _ _ 5 _ _ _ rK6_.out
  have K_6_ : (w1).cell? ⟨W.heap.size + 1, 6, none⟩ = some (.int .i64 p.f6) := cell_of_row _ _ 6 _ _ _ rK6_.out
  have K_7_ : (w1).cell? ⟨W.heap.size + 1, 7, none⟩ = some (vp) := cell_of_row _ _ 7 _ _ _ rK6_.out
  have R_0_ : (w1).cell? ⟨W.heap.size + 1 + 1, 0, none⟩ = some (.slice none 0 0) := cell_of_row _ _ 0 _ _ _ rR7_.out
  have R_1_ : (w1).cell? ⟨W.heap.size + 1 + 1, 1, none⟩ = some (.slice none 0 0) := cell_of_row _ _ 1 _ _ _ rR7_.out
  go_wp2_with fail
  go_at_call 47
  clear A_0_ A_1_ Af0_ Af1_ K_0_ K_1_ K_2_ K_3_ K_4_ K_5_ K_6_ K_7_ R_0_ R_1_
  have rK10_ := Lib.hid (show (((w1.setCell ⟨W.heap.size, 0, none⟩ (.slice q0 m0 d0)).setCell ⟨W.heap.size, 1, none⟩ (.slice q1 m1 d1))).heap[W.heap.size + 1]? = some (.cells #[.int .i64 p.f0, .int .i64 p.f1, .int .i64 p.f2, .int .i64 p.f3, .int .i64 p.f4, .int .i64 p.f5, .int .i64 p.f6, vp] 29 (0, 0)) from (set_far (set_far rK6_.out (by dsimp only; omega)) (by dsimp only; omega)))
  clear rK6_
  have rR11_ := Lib.hid (show (((w1.setCell ⟨W.heap.size, 0, none⟩ (.slice q0 m0 d0)).setCell ⟨W.heap.size, 1, none⟩ (.slice q1 m1 d1))).heap[W.heap.size + 1 + 1]? = some (.cells #[.slice none 0 0, .slice none 0 0] 54 (0, 0)) from (set_far (set_far rR7_.out (by dsimp only; omega)) (by dsimp only; omega)))
  clear rR7_
  have rA12_ := Lib.hid (show (((w1.setCell ⟨W.heap.size, 0, none⟩ (.slice q0 m0 d0)).setCell ⟨W.heap.size, 1, none⟩ (.slice q1 m1 d1))).heap[W.heap.size]? = some (.cells #[.slice q0 m0 d0, .slice q1 m1 d1] 54 (0, 0)) from (heap_setCell_same _ _ 1 _ _ _ (heap_setCell_same _ _ 0 _ _ _ rA5_.out)))
  clear rA5_
  have oC13_ := Lib.hid (show OwU (((w1.setCell ⟨W.heap.size, 0, none⟩ (.slice q0 m0 d0)).setCell ⟨W.heap.size, 1, none⟩ (.slice q1 m1 d1))) ((W.heap.size + 1 + 1 + 1)) (w1.heap.size) [] [own shI (.slice q0 m0 d0) xs, own shI (.slice q1 m1 d1) ys] from (OwU.keep (chg_one _ _ _ _) (by omega) (OwU.keep (chg_one _ _ _ _) (by omega) oC9_.out)))
  clear oC9_
  have G14_ := Lib.hid (show (W).grownBy (((w1.setCell ⟨W.heap.size, 0, none⟩ (.slice q0 m0 d0)).setCell ⟨W.heap.size, 1, none⟩ (.slice q1 m1 d1))) none from (gby_setnew (gby_setnew G8_.out _ (by dsimp only; omega) _) _ (by dsimp only; omega) _))
  have A_0_ : (((w1.setCell ⟨W.heap.size, 0, none⟩ (.slice q0 m0 d0)).setCell ⟨W.heap.size, 1, none⟩ (.slice q1 m1 d1))).cell? ⟨W.heap.size, 0, none⟩ = some (.slice q0 m0 d0) := cell_of_row _ _ 0 _ _ _ rA12_.out
  have A_1_ : (((w1.setCell ⟨W.heap.size, 0, none⟩ (.slice q0 m0 d0)).setCell ⟨W.heap.size, 1, none⟩ (.slice q1 m1 d1))).cell? ⟨W.heap.size, 1, none⟩ = some (.slice q1 m1 d1) := cell_of_row _ _ 1 _ _ _ rA12_.out
  have K_0_ : (((w1.setCell ⟨W.heap.size, 0, none⟩ (.slice q0 m0 d0)).setCell ⟨W.heap.size, 1, none⟩ (.slice q1 m1 d1))).cell? ⟨W.heap.size + 1, 0, none⟩ = some (.int .i64 p.f0) := cell_of_row _ _ 0 _ _ _ rK10_.out
  have K_1_ : (((w1.setCell ⟨W.heap.size, 0, none⟩ (.slice q0 m0 d0)).setCell ⟨W.heap.size, 1, none⟩ (.slice q1 m1 d1))).cell? ⟨W.heap.size + 1, 1, none⟩ = some (.int .i64 p.f1) := cell_of_row _ _ 1 _ _ _ rK10_.out
  have K_2_ : (((w1.setCell ⟨W.heap.size, 0, none⟩ (.slice q0 m0 d0)).setCell ⟨W.heap.size, 1, none⟩ (.slice q1 m1 d1))).cell? ⟨W.heap.size + 1, 2, none⟩ = some (.int .i64 p.f2) := cell_of_row _ _ 2 _ _ _ rK10_.out
  have K_3_ : (((w1.setCell ⟨W.heap.size, 0, none⟩ (.slice q0 m0 d0)).setCell ⟨W.heap.size, 1, none⟩ (.slice q1 m1 d1))).cell? ⟨W.heap.size + 1, 3, none⟩ = some (.int .i64 p.f3) := cell_of_row _ _ 3 _ _ _ rK10_.out
  have K_4_ : (((w1.setCell ⟨W.heap.size, 0, none⟩ (.slice q0 m0 d0)).setCell ⟨W.heap.size, 1, none⟩ (.slice q1 m1 d1))).cell? ⟨W.heap.size + 1, 4, none⟩ = some (.int .i64 p.f4) := cell_of_row _ _ 4 _ _ _ rK10_.out
  have K_5_ : (((w1.setCell ⟨W.heap.size, 0, none⟩ (.slice q0 m0 d0)).setCell ⟨W.heap.size, 1, none⟩ (.slice q1 m1 d1))).cell? ⟨W.heap.size + 1, 5, none⟩ = some (.int .i64 p.f5) := cell_of_row _ _ 5 _ _ _ rK10_.out
  have K_6_ : (((w1.setCell ⟨W.heap.size, 0, none⟩ (.slice q0 m0 d0)).setCell ⟨W.heap.size, 1, none⟩ (.slice q1 m1 d1))).cell? ⟨W.heap.size + 1, 6, none⟩ = some (.int .i64 p.f6) := cell_of_row _ _ 6 _ _ _ rK10_.out
  have K_7_ : (((w1.setCell ⟨W.heap.size, 0, none⟩ (.slice q0 m0 d0)).setCell ⟨W.heap.size, 1, none⟩ (.slice q1 m1 d1))).cell? ⟨W.heap.size + 1, 7, none⟩ = some (vp) := cell_of_row _ _ 7 _ _ _ rK10_.out
  have R_0_ : (((w1.setCell ⟨W.heap.size, 0, none⟩ (.slice q0 m0 d0)).setCell ⟨W.heap.size, 1, none⟩ (.slice q1 m1 d1))).cell? ⟨W.heap.size + 1 + 1, 0, none⟩ = some (.slice none 0 0) := cell_of_row _ _ 0 _ _ _ rR11_.out
  have R_1_ : (((w1.setCell ⟨W.heap.size, 0, none⟩ (.slice q0 m0 d0)).setCell ⟨W.heap.size, 1, none⟩ (.slice q1 m1 d1))).cell? ⟨W.heap.size + 1 + 1, 1, none⟩ = some (.slice none 0 0) := cell_of_row _ _ 1 _ _ _ rR11_.out
  refine (implCrD _ _ _ xs ys (OwU.rd oC13_.out) (OwU.rd (OwU.tail oC13_.out)) HXL.out HYL.out false (by rw [decide_eq_false HCO.out])).mono ?_
  rintro e w2 ⟨rfl, g⟩
  have szw2 := g.size
  try simp only [World.size_setCell] at szw2
  try simp only [World.size_alloc] at szw2
  clear A_0_ A_1_ K_0_ K_1_ K_2_ K_3_ K_4_ K_5_ K_6_ K_7_ R_0_ R_1_
  have rA15_ := Lib.hid (show (w2).heap[W.heap.size]? = some (.cells #[.slice q0 m0 d0, .slice q1 m1 d1] 54 (0, 0)) from row_held g rA12_.out)
  clear rA12_
  have rK16_ := Lib.hid (show (w2).heap[W.heap.size + 1]? = some (.cells #[.int .i64 p.f0, .int .i64 p.f1, .int .i64 p.f2, .int .i64 p.f3, .int .i64 p.f4, .int .i64 p.f5, .int .i64 p.f6, vp] 29 (0, 0)) from row_held g rK10_.out)
  clear rK10_
  have rR17_ := Lib.hid (show (w2).heap[W.heap.size + 1 + 1]? = some (.cells #[.slice none 0 0, .slice none 0 0] 54 (0, 0)) from row_held g rR11_.out)
  clear rR11_
  have oC18_ := Lib.hid (show OwU (w2) ((W.heap.size + 1 + 1 + 1)) (w1.heap.size) [] [own shI (.slice q0 m0 d0) xs, own shI (.slice q1 m1 d1) ys] from OwU.grow oC13_.out g)
  clear oC13_
  have G19_ := Lib.hid (show (W).grownBy (w2) none from gby_trans G14_.out g)
  clear g
  have A_0_ : (w2).cell? ⟨W.heap.size, 0, none⟩ = some (.slice q0 m0 d0) := cell_of_row _ _ 0 _ _ _ rA15_.out
  have A_1_ : (w2).cell? ⟨W.heap.size, 1, none⟩ = some (.slice q1 m1 d1) := cell_of_row _ _ 1 _ _ _ rA15_.out
  have K_0_ : (w2).cell? ⟨W.heap.size + 1, 0, none⟩ = some (.int .i64 p.f0) := cell_of_row _ _ 0 _ _ _ rK16_.out
  have K_1_ : (w2).cell? ⟨W.heap.size + 1, 1, none⟩ = some (.int .i64 p.f1) := cell_of_row _ _ 1 _ _ _ rK16_.out
  have K_2_ : (w2).cell? ⟨W.heap.size + 1, 2, none⟩ = some (.int .i64 p.f2) := cell_of_row _ _ 2 _ _ _ rK16_.out
  have K_3_ : (w2).cell? ⟨W.heap.size + 1, 3, none⟩ = some (.int .i64 p.f3) := cell_of_row _ _ 3 _ _ _ rK16_.out
  have K_4_ : (w2).cell? ⟨W.heap.size + 1, 4, none⟩ = some (.int .i64 p.f4) := cell_of_row _ _ 4 _ _ _ rK16_.out
  have K_5_ : (w2).cell? ⟨W.heap.size + 1, 5, none⟩ = some (.int .i64 p.f5) := cell_of_row _ _ 5 _ _ _ rK16_.out
  have K_6_ : (w2).cell? ⟨W.heap.size + 1, 6, none⟩ = some (.int .i64 p.f6) := cell_of_row _ _ 6 _ _ _ rK16_.out
  have K_7_ : (w2).cell? ⟨W.heap.size + 1, 7, none⟩ = some (vp) := cell_of_row _ _ 7 _ _ _ rK16_.out
  have R_0_ : (w2).cell? ⟨W.heap.size + 1 + 1, 0, none⟩ = some (.slice none 0 0) := cell_of_row _ _ 0 _ _ _ rR17_.out
  have R_1_ : (w2).cell? ⟨W.heap.size + 1 + 1, 1, none⟩ = some (.slice none 0 0) := cell_of_row _ _ 1 _ _ _ rR17_.out
  clear A_0_ A_1_ K_0_ K_1_ K_2_ K_3_ K_4_ K_5_ K_6_ K_7_ R_0_ R_1_
  have A_0_ : (w2).cell? ⟨W.heap.size, 0, none⟩ = some (.slice q0 m0 d0) := cell_of_row _ _ 0 _ _ _ rA15_.out
  have A_1_ : (w2).cell? ⟨W.heap.size, 1, none⟩ = some (.slice q1 m1 d1) := cell_of_row _ _ 1 _ _ _ rA15_.out
  have K_0_ : (w2).cell? ⟨W.heap.size + 1, 0, none⟩ = some (.int .i64 p.f0) := cell_of_row _ _ 0 _ _ _ rK16_.out
  have K_1_ : (w2).cell? ⟨W.heap.size + 1, 1, none⟩ = some (.int .i64 p.f1) := cell_of_row _ _ 1 _ _ _ rK16_.out
  have K_2_ : (w2).cell? ⟨W.heap.size + 1, 2, none⟩ = some (.int .i64 p.f2) := cell_of_row _ _ 2 _ _ _ rK16_.out
  have K_3_ : (w2).cell? ⟨W.heap.size + 1, 3, none⟩ = some (.int .i64 p.f3) := cell_of_row _ _ 3 _ _ _ rK16_.out
  have K_4_ : (w2).cell? ⟨W.heap.size + 1, 4, none⟩ = some (.int .i64 p.f4) := cell_of_row _ _ 4 _ _ _ rK16_.out
  have K_5_ : (w2).cell? ⟨W.heap.size + 1, 5, none⟩ = some (.int .i64 p.f5) := cell_of_row _ _ 5 _ _ _ rK16_.out
  have K_6_ : (w2).cell? ⟨W.heap.size + 1, 6, none⟩ = some (.int .i64 p.f6) := cell_of_row _ _ 6 _ _ _ rK16_.out
  have K_7_ : (w2).cell? ⟨W.heap.size + 1, 7, none⟩ = some (vp) := cell_of_row _ _ 7 _ _ _ rK16_.out
  have R_0_ : (w2).cell? ⟨W.heap.size + 1 + 1, 0, none⟩ = some (.slice none 0 0) := cell_of_row _ _ 0 _ _ _ rR17_.out
  have R_1_ : (w2).cell? ⟨W.heap.size + 1 + 1, 1, none⟩ = some (.slice none 0 0) := cell_of_row _ _ 1 _ _ _ rR17_.out
  clear A_0_ A_1_ K_0_ K_1_ K_2_ K_3_ K_4_ K_5_ K_6_ K_7_ R_0_ R_1_
  have A_0_ : (w2).cell? ⟨W.heap.size, 0, none⟩ = some (.slice q0 m0 d0) := cell_of_row _ _ 0 _ _ _ rA15_.out
  have A_1_ : (w2).cell? ⟨W.heap.size, 1, none⟩ = some (.slice q1 m1 d1) := cell_of_row _ _ 1 _ _ _ rA15_.out
  have K_0_ : (w2).cell? ⟨W.heap.size + 1, 0, none⟩ = some (.int .i64 p.f0) := cell_of_row _ _ 0 _ _ _ rK16_.out
  have K_1_ : (w2).cell? ⟨W.heap.size + 1, 1, none⟩ = some (.int .i64 p.f1) := cell_of_row _ _ 1 _ _ _ rK16_.out
  have K_2_ : (w2).cell? ⟨W.heap.size + 1, 2, none⟩ = some (.int .i64 p.f2) := cell_of_row _ _ 2 _ _ _ rK16_.out
  have K_3_ : (w2).cell? ⟨W.heap.size + 1, 3, none⟩ = some (.int .i64 p.f3) := cell_of_row _ _ 3 _ _ _ rK16_.out
  have K_4_ : (w2).cell? ⟨W.heap.size + 1, 4, none⟩ = some (.int .i64 p.f4) := cell_of_row _ _ 4 _ _ _ rK16_.out
  have K_5_ : (w2).cell? ⟨W.heap.size + 1, 5, none⟩ = some (.int .i64 p.f5) := cell_of_row _ _ 5 _ _ _ rK16_.out
  have K_6_ : (w2).cell? ⟨W.heap.size + 1, 6, none⟩ = some (.int .i64 p.f6) := cell_of_row _ _ 6 _ _ _ rK16_.out
  have K_7_ : (w2).cell? ⟨W.heap.size + 1, 7, none⟩ = some (vp) := cell_of_row _ _ 7 _ _ _ rK16_.out
  have R_0_ : (w2).cell? ⟨W.heap.size + 1 + 1, 0, none⟩ = some (.slice none 0 0) := cell_of_row _ _ 0 _ _ _ rR17_.out
  have R_1_ : (w2).cell? ⟨W.heap.size + 1 + 1, 1, none⟩ = some (.slice none 0 0) := cell_of_row _ _ 1 _ _ _ rR17_.out
  have Rf0_ : (w2).frozen? ⟨W.heap.size + 1 + 1, 0, none⟩ = false := frozen_of_row _ _ 0 _ _ rR17_.out
  have Rf1_ : (w2).frozen? ⟨W.heap.size + 1 + 1, 1, none⟩ = false := frozen_of_row _ _ 1 _ _ rR17_.out
  have zr_ := Lib.hid (show (((w2.setCell ⟨W.heap.size + 1 + 1, 0, none⟩ (.slice q0 m0 d0)).setCell ⟨W.heap.size + 1 + 1, 1, none⟩ (.slice q1 m1 d1))).heap[W.heap.size + 1 + 1]? = some (.cells #[.slice q0 m0 d0, .slice q1 m1 d1] 54 (0, 0)) from (heap_setCell_same _ _ 1 _ _ _ (heap_setCell_same _ _ 0 _ _ _ rR17_.out)))
  have z0_ : (((w2.setCell ⟨W.heap.size + 1 + 1, 0, none⟩ (.slice q0 m0 d0)).setCell ⟨W.heap.size + 1 + 1, 1, none⟩ (.slice q1 m1 d1))).cell? ⟨W.heap.size + 1 + 1, 0, none⟩ = some (.slice q0 m0 d0) := cell_of_row _ _ 0 _ _ _ zr_.out
  have z1_ : (((w2.setCell ⟨W.heap.size + 1 + 1, 0, none⟩ (.slice q0 m0 d0)).setCell ⟨W.heap.size + 1 + 1, 1, none⟩ (.slice q1 m1 d1))).cell? ⟨W.heap.size + 1 + 1, 1, none⟩ = some (.slice q1 m1 d1) := cell_of_row _ _ 1 _ _ _ zr_.out
  go_wp2
  refine bodyPost_ret (v := .tuple #[.agg #[.slice q0 m0 d0, .slice q1 m1 d1], .bool false]) (by simp [results, go_sem, z0_, z1_]) rfl ⟨_, _, rfl, ?_, ?_⟩
  · exact OwU.wide (lo := W.heap.size + 1 + 1 + 1) (by omega) (by simp only [World.size_setCell]; omega) (OwU.keep (chg_one _ _ _ _) (.inr (by omega)) (OwU.keep (chg_one _ _ _ _) (.inr (by omega)) oC18_.out))
  · exact (gby_setnew (gby_setnew G19_.out _ (by dsimp only; omega) _) _ (by dsimp only; omega) _)

set_option maxRecDepth 8000 in
set_option maxHeartbeats 2000000 in
theorem implReturnCredits_pk (W : World) (u0 u1 vp : Value) (xs ys : List Int) (p : DPacket) (H0 : RdL shI W u0 xs) (H1 : RdL shI W u1 ys) (Hp : RdL shI W vp p.f7) (h0 : szL shI xs ≤ 1048576) (h1 : szL shI ys ≤ 1048576) (hl : szL shI p.f7 ≤ 1048576) (hb : CrdOk xs ys) (hn : ¬ 0 ≤ clsD p) : Calls Try.prog 42 #[.agg #[u0, u1], (vPacket p.f0 p.f1 p.f2 p.f3 p.f4 p.f5 p.f6 vp)] W (ResIReturnCredits xs ys false W) := by
  have HSX := Lib.hid H0
  have HSY := Lib.hid H1
  have HP := Lib.hid Hp
  have HXL := Lib.hid h0
  have HYL := Lib.hid h1
  have HL := Lib.hid hl
  obtain ⟨a0, n0, c0, rfl⟩ := RdL.form H0
  obtain ⟨a1, n1, c1, rfl⟩ := RdL.form H1
  clear H0 H1 Hp h0 h1 hl
  unfold vPacket
  have HCO := Lib.hid hb
  have HN := Lib.hid hn
  clear hb hn
  go_enter Try.func42, Try.ntmps42
  have rA1_ := Lib.hid (show ((((W.alloc (.cells #[.slice a0 n0 c0, .slice a1 n1 c1] 54)).alloc (.cells #[.int .i64 p.f0, .int .i64 p.f1, .int .i64 p.f2, .int .i64 p.f3, .int .i64 p.f4, .int .i64 p.f5, .int .i64 p.f6, vp] 29)).alloc (.cells #[.slice none 0 0, .slice none 0 0] 54))).heap[W.heap.size]? = some (.cells #[.slice a0 n0 c0, .slice a1 n1 c1] 54 (0, 0)) from by rw [heap_alloc_old _ _ (by simp only [World.size_alloc]; omega)]; rw [heap_alloc_old _ _ (by simp only [World.size_alloc]; omega)]; exact heap_alloc_new _ _)
  have rK2_ := Lib.hid (show ((((W.alloc (.cells #[.slice a0 n0 c0, .slice a1 n1 c1] 54)).alloc (.cells #[.int .i64 p.f0, .int .i64 p.f1, .int .i64 p.f2, .int .i64 p.f3, .int .i64 p.f4, .int .i64 p.f5, .int .i64 p.f6, vp] 29)).alloc (.cells #[.slice none 0 0, .slice none 0 0] 54))).heap[W.heap.size + 1]? = some (.cells #[.int .i64 p.f0, .int .i64 p.f1, .int .i64 p.f2, .int .i64 p.f3, .int .i64 p.f4, .int .i64 p.f5, .int .i64 p.f6, vp] 29 (0, 0)) from by rw [heap_alloc_old _ _ (by simp only [World.size_alloc]; omega)]; exact heap_pair _ _ _)
  have rR3_ := Lib.hid (show ((((W.alloc (.cells #[.slice a0 n0 c0, .slice a1 n1 c1] 54)).alloc (.cells #[.int .i64 p.f0, .int .i64 p.f1, .int .i64 p.f2, .int .i64 p.f3, .int .i64 p.f4, .int .i64 p.f5, .int .i64 p.f6, vp] 29)).alloc (.cells #[.slice none 0 0, .slice none 0 0] 54))).heap[W.heap.size + 1 + 1]? = some (.cells #[.slice none 0 0, .slice none 0 0] 54 (0, 0)) from by exact heap_trip _ _ _ _)
  have G4_ := Lib.hid (show (W).grownBy ((((W.alloc (.cells #[.slice a0 n0 c0, .slice a1 n1 c1] 54)).alloc (.cells #[.int .i64 p.f0, .int .i64 p.f1, .int .i64 p.f2, .int .i64 p.f3, .int .i64 p.f4, .int .i64 p.f5, .int .i64 p.f6, vp] 29)).alloc (.cells #[.slice none 0 0, .slice none 0 0] 54))) none from (gby_alloc (gby_alloc (gby_alloc (gby_refl _ _) _) _) _))
  have A_0_ : ((((W.alloc (.cells #[.slice a0 n0 c0, .slice a1 n1 c1] 54)).alloc (.cells #[.int .i64 p.f0, .int .i64 p.f1, .int .i64 p.f2, .int .i64 p.f3, .int .i64 p.f4, .int .i64 p.f5, .int .i64 p.f6, vp] 29)).alloc (.cells #[.slice none 0 0, .slice none 0 0] 54))).cell? ⟨W.heap.size, 0, none⟩ = some (.slice a0 n0 c0) := cell_of_row _ _ 0 _ _ _ rA1_.out
  have A_1_ : ((((W.alloc (.cells #[.slice a0 n0 c0, .slice a1 n1 c1] 54)).alloc (.cells #[.int .i64 p.f0, .int .i64 p.f1, .int .i64 p.f2, .int .i64 p.f3, .int .i64 p.f4, .int .i64 p.f5, .int .i64 p.f6, vp] 29)).alloc (.cells #[.slice none 0 0, .slice none 0 0] 54))).cell? ⟨W.heap.size, 1, none⟩ = some (.slice a1 n1 c1) := cell_of_row _ _ 1 _ _ _ rA1_.out
  have K_0_ : ((((W.alloc (.cells #[.slice a0 n0 c0, .slice a1 n1 c1] 54)).alloc (.cells #[.int .i64 p.f0, .int .i64 p.f1, .int .i64 p.f2, .int .i64 p.f3, .int .i64 p.f4, .int .i64 p.f5, .int .i64 p.f6, vp] 29)).alloc (.cells #[.slice none 0 0, .slice none 0 0] 54))).cell? ⟨W.heap.size + 1, 0, none⟩ = some (.int .i64 p.f0) := cell_of_row _ _ 0 _ _ _ rK2_.out
  have K_1_ : ((((W.alloc (.cells #[.slice a0 n0 c0, .slice a1 n1 c1] 54)).alloc (.cells #[.int .i64 p.f0, .int .i64 p.f1, .int .i64 p.f2, .int .i64 p.f3, .int .i64 p.f4, .int .i64 p.f5, .int .i64 p.f6, vp] 29)).alloc (.cells #[.slice none 0 0, .slice none 0 0] 54))).cell? ⟨W.heap.size + 1, 1, none⟩ = some (.int .i64 p.f1) := cell_of_row _ _ 1 _ _ _ rK2_.out
  have K_2_ : ((((W.alloc (.cells #[.slice a0 n0 c0, .slice a1 n1 c1] 54)).alloc (.cells #[.int .i64 p.f0, .int .i64 p.f1, .int .i64 p.f2, .int .i64 p.f3, .int .i64 p.f4, .int .i64 p.f5, .int .i64 p.f6, vp] 29)).alloc (.cells #[.slice none 0 0, .slice none 0 0] 54))).cell? ⟨W.heap.size + 1, 2, none⟩ = some (.int .i64 p.f2) := cell_of_row _ _ 2 _ _ _ rK2_.out
  have K_3_ : ((((W.alloc (.cells #[.slice a0 n0 c0, .slice a1 n1 c1] 54)).alloc (.cells #[.int .i64 p.f0, .int .i64 p.f1, .int .i64 p.f2, .int .i64 p.f3, .int .i64 p.f4, .int .i64 p.f5, .int .i64 p.f6, vp] 29)).alloc (.cells #[.slice none 0 0, .slice none 0 0] 54))).cell? ⟨W.heap.size + 1, 3, none⟩ = some (.int .i64 p.f3) := cell_of_row _ _ 3 _ _ _ rK2_.out
  have K_4_ : ((((W.alloc (.cells #[.slice a0 n0 c0, .slice a1 n1 c1] 54)).alloc (.cells #[.int .i64 p.f0, .int .i64 p.f1, .int .i64 p.f2, .int .i64 p.f3, .int .i64 p.f4, .int .i64 p.f5, .int .i64 p.f6, vp] 29)).alloc (.cells #[.slice none 0 0, .slice none 0 0] 54))).cell? ⟨W.heap.size + 1, 4, none⟩ = some (.int .i64 p.f4) := cell_of_row _ _ 4 _ _ _ rK2_.out
  have K_5_ : ((((W.alloc (.cells #[.slice a0 n0 c0, .slice a1 n1 c1] 54)).alloc (.cells #[.int .i64 p.f0, .int .i64 p.f1, .int .i64 p.f2, .int .i64 p.f3, .int .i64 p.f4, .int .i64 p.f5, .int .i64 p.f6, vp] 29)).alloc (.cells #[.slice none 0 0, .slice none 0 0] 54))).cell? ⟨W.heap.size + 1, 5, none⟩ = some (.int .i64 p.f5) := cell_of_row _ _ 5 _ _ _ rK2_.out
  have K_6_ : ((((W.alloc (.cells #[.slice a0 n0 c0, .slice a1 n1 c1] 54)).alloc (.cells #[.int .i64 p.f0, .int .i64 p.f1, .int .i64 p.f2, .int .i64 p.f3, .int .i64 p.f4, .int .i64 p.f5, .int .i64 p.f6, vp] 29)).alloc (.cells #[.slice none 0 0, .slice none 0 0] 54))).cell? ⟨W.heap.size + 1, 6, none⟩ = some (.int .i64 p.f6) := cell_of_row _ _ 6 _ _ _ rK2_.out
  have K_7_ : ((((W.alloc (.cells #[.slice a0 n0 c0, .slice a1 n1 c1] 54)).alloc (.cells #[.int .i64 p.f0, .int .i64 p.f1, .int .i64 p.f2, .int .i64 p.f3, .int .i64 p.f4, .int .i64 p.f5, .int .i64 p.f6, vp] 29)).alloc (.cells #[.slice none 0 0, .slice none 0 0] 54))).cell? ⟨W.heap.size + 1, 7, none⟩ = some (vp) := cell_of_row _ _ 7 _ _ _ rK2_.out
  have R_0_ : ((((W.alloc (.cells #[.slice a0 n0 c0, .slice a1 n1 c1] 54)).alloc (.cells #[.int .i64 p.f0, .int .i64 p.f1, .int .i64 p.f2, .int .i64 p.f3, .int .i64 p.f4, .int .i64 p.f5, .int .i64 p.f6, vp] 29)).alloc (.cells #[.slice none 0 0, .slice none 0 0] 54))).cell? ⟨W.heap.size + 1 + 1, 0, none⟩ = some (.slice none 0 0) := cell_of_row _ _ 0 _ _ _ rR3_.out
  have R_1_ : ((((W.alloc (.cells #[.slice a0 n0 c0, .slice a1 n1 c1] 54)).alloc (.cells #[.int .i64 p.f0, .int .i64 p.f1, .int .i64 p.f2, .int .i64 p.f3, .int .i64 p.f4, .int .i64 p.f5, .int .i64 p.f6, vp] 29)).alloc (.cells #[.slice none 0 0, .slice none 0 0] 54))).cell? ⟨W.heap.size + 1 + 1, 1, none⟩ = some (.slice none 0 0) := cell_of_row _ _ 1 _ _ _ rR3_.out
  go_wp2_with fail
  go_at_call 87
  refine (copiedCr_d _ _ _ xs ys (HSX.out.grow G4_.out) (HSY.out.grow G4_.out) HXL.out HYL.out).mono ?_
  rintro e w1 ⟨z0, z1, rfl, o, g⟩
  have sz_ := g.size
  try simp only [World.size_alloc] at sz_ o
  clear A_0_ A_1_ K_0_ K_1_ K_2_ K_3_ K_4_ K_5_ K_6_ K_7_ R_0_ R_1_
  have rA5_ := Lib.hid (show (w1).heap[W.heap.size]? = some (.cells #[.slice a0 n0 c0, .slice a1 n1 c1] 54 (0, 0)) from row_held g rA1_.out)
  clear rA1_
  have rK6_ := Lib.hid (show (w1).heap[W.heap.size + 1]? = some (.cells #[.int .i64 p.f0, .int .i64 p.f1, .int .i64 p.f2, .int .i64 p.f3, .int .i64 p.f4, .int .i64 p.f5, .int .i64 p.f6, vp] 29 (0, 0)) from row_held g rK2_.out)
  clear rK2_
  have rR7_ := Lib.hid (show (w1).heap[W.heap.size + 1 + 1]? = some (.cells #[.slice none 0 0, .slice none 0 0] 54 (0, 0)) from row_held g rR3_.out)
  clear rR3_
  have G8_ := Lib.hid (show (W).grownBy (w1) none from gby_trans G4_.out g)
  clear g
  obtain ⟨q0, m0, d0, hv_⟩ := RdL.form (OwU.rd o)
  subst hv_
  obtain ⟨q1, m1, d1, hv_⟩ := RdL.form (OwU.rd (OwU.tail o))
  subst hv_
  unfold vCredits
  have oC9_ := Lib.hid (show OwU (w1) ((W.heap.size + 1 + 1 + 1)) (w1.heap.size) [] [own shI (.slice q0 m0 d0) xs, own shI (.slice q1 m1 d1) ys] from o)
  clear o
  have A_0_ : (w1).cell? ⟨W.heap.size, 0, none⟩ = some (.slice a0 n0 c0) := cell_of_row _ _ 0 _ _ _ rA5_.out
  have A_1_ : (w1).cell? ⟨W.heap.size, 1, none⟩ = some (.slice a1 n1 c1) := cell_of_row _ _ 1 _ _ _ rA5_.out
  have Af0_ : (w1).frozen? ⟨W.heap.size, 0, none⟩ = false := frozen_of_row _ _ 0 _ _ rA5_.out
  have Af1_ : (w1).frozen? ⟨W.heap.size, 1, none⟩ = false := frozen_of_row _ _ 1 _ _ rA5_.out
  have K_0_ : (w1).cell? ⟨W.heap.size + 1, 0, none⟩ = some (.int .i64 p.f0) := cell_of_row _ _ 0 _ _ _ rK6_.out
  have K_1_ : (w1).cell? ⟨W.heap.size + 1, 1, none⟩ = some (.int .i64 p.f1) := cell_of_row _ _ 1 _ _ _ rK6_.out
  have K_2_ : (w1).cell? ⟨W.heap.size + 1, 2, none⟩ = some (.int .i64 p.f2) := cell_of_row _ _ 2 _ _ _ rK6_.out
  have K_3_ : (w1).cell? ⟨W.heap.size + 1, 3, none⟩ = some (.int .i64 p.f3) := cell_of_row _ _ 3 _ _ _ rK6_.out
  have K_4_ : (w1).cell? ⟨W.heap.size + 1, 4, none⟩ = some (.int .i64 p.f4) := cell_of_row _ _ 4 _ _ _ rK6_.out
  have K_5_ : (w1).cell? ⟨W.heap.size + 1, 5, none⟩ = some (.int .i64 p.f5) := cell_of_row _ _ 5 _ _ _ rK6_.out
  have K_6_ : (w1).cell? ⟨W.heap.size + 1, 6, none⟩ = some (.int .i64 p.f6) := cell_of_row _ _ 6 _ _ _ rK6_.out
  have K_7_ : (w1).cell? ⟨W.heap.size + 1, 7, none⟩ = some (vp) := cell_of_row _ _ 7 _ _ _ rK6_.out
  have R_0_ : (w1).cell? ⟨W.heap.size + 1 + 1, 0, none⟩ = some (.slice none 0 0) := cell_of_row _ _ 0 _ _ _ rR7_.out
  have R_1_ : (w1).cell? ⟨W.heap.size + 1 + 1, 1, none⟩ = some (.slice none 0 0) := cell_of_row _ _ 1 _ _ _ rR7_.out
  go_wp2_with fail
  go_at_call 47
  clear A_0_ A_1_ Af0_ Af1_ K_0_ K_1_ K_2_ K_3_ K_4_ K_5_ K_6_ K_7_ R_0_ R_1_
  have rK10_ := Lib.hid (show (((w1.setCell ⟨W.heap.size, 0, none⟩ (.slice q0 m0 d0)).setCell ⟨W.heap.size, 1, none⟩ (.slice q1 m1 d1))).heap[W.heap.size + 1]? = some (.cells #[.int .i64 p.f0, .int .i64 p.f1, .int .i64 p.f2, .int .i64 p.f3, .int .i64 p.f4, .int .i64 p.f5, .int .i64 p.f6, vp] 29 (0, 0)) from (set_far (set_far rK6_.out (by dsimp only; omega)) (by dsimp only; omega)))
  clear rK6_
  have rR11_ := Lib.hid (show (((w1.setCell ⟨W.heap.size, 0, none⟩ (.slice q0 m0 d0)).setCell ⟨W.heap.size, 1, none⟩ (.slice q1 m1 d1))).heap[W.heap.size + 1 + 1]? = some (.cells #[.slice none 0 0, .slice none 0 0] 54 (0, 0)) from (set_far (set_far rR7_.out (by dsimp only; omega)) (by dsimp only; omega)))
  clear rR7_
  have rA12_ := Lib.hid (show (((w1.setCell ⟨W.heap.size, 0, none⟩ (.slice q0 m0 d0)).setCell ⟨W.heap.size, 1, none⟩ (.slice q1 m1 d1))).heap[W.heap.size]? = some (.cells #[.slice q0 m0 d0, .slice q1 m1 d1] 54 (0, 0)) from (heap_setCell_same _ _ 1 _ _ _ (heap_setCell_same _ _ 0 _ _ _ rA5_.out)))
  clear rA5_
  have oC13_ := Lib.hid (show OwU (((w1.setCell ⟨W.heap.size, 0, none⟩ (.slice q0 m0 d0)).setCell ⟨W.heap.size, 1, none⟩ (.slice q1 m1 d1))) ((W.heap.size + 1 + 1 + 1)) (w1.heap.size) [] [own shI (.slice q0 m0 d0) xs, own shI (.slice q1 m1 d1) ys] from (OwU.keep (chg_one _ _ _ _) (by omega) (OwU.keep (chg_one _ _ _ _) (by omega) oC9_.out)))
  clear oC9_
  have G14_ := Lib.hid (show (W).grownBy (((w1.setCell ⟨W.heap.size, 0, none⟩ (.slice q0 m0 d0)).setCell ⟨W.heap.size, 1, none⟩ (.slice q1 m1 d1))) none from (gby_setnew (gby_setnew G8_.out _ (by dsimp only; omega) _) _ (by dsimp only; omega) _))
  have A_0_ : (((w1.setCell ⟨W.heap.size, 0, none⟩ (.slice q0 m0 d0)).setCell ⟨W.heap.size, 1, none⟩ (.slice q1 m1 d1))).cell? ⟨W.heap.size, 0, none⟩ = some (.slice q0 m0 d0) := cell_of_row _ _ 0 _ _ _ rA12_.out
  have A_1_ : (((w1.setCell ⟨W.heap.size, 0, none⟩ (.slice q0 m0 d0)).setCell ⟨W.heap.size, 1, none⟩ (.slice q1 m1 d1))).cell? ⟨W.heap.size, 1, none⟩ = some (.slice q1 m1 d1) := cell_of_row _ _ 1 _ _ _ rA12_.out
  have K_0_ : (((w1.setCell ⟨W.heap.size, 0, none⟩ (.slice q0 m0 d0)).setCell ⟨W.heap.size, 1, none⟩ (.slice q1 m1 d1))).cell? ⟨W.heap.size + 1, 0, none⟩ = some (.int .i64 p.f0) := cell_of_row _ _ 0 _ _ _ rK10_.out
  have K_1_ : (((w1.setCell ⟨W.heap.size, 0, none⟩ (.slice q0 m0 d0)).setCell ⟨W.heap.size, 1, none⟩ (.slice q1 m1 d1))).cell? ⟨W.heap.size + 1, 1, none⟩ = some (.int .i64 p.f1) := cell_of_row _ _ 1 _ _ _ rK10_.out
  have K_2_ : (((w1.setCell ⟨W.heap.size, 0, none⟩ (.slice q0 m0 d0)).setCell ⟨W.heap.size, 1, none⟩ (.slice q1 m1 d1))).cell? ⟨W.heap.size + 1, 2, none⟩ = some (.int .i64 p.f2) := cell_of_row _ _ 2 _ _ _ rK10_.out
  have K_3_ : (((w1.setCell ⟨W.heap.size, 0, none⟩ (.slice q0 m0 d0)).setCell ⟨W.heap.size, 1, none⟩ (.slice q1 m1 d1))).cell? ⟨W.heap.size + 1, 3, none⟩ = some (.int .i64 p.f3) := cell_of_row _ _ 3 _ _ _ rK10_.out
  have K_4_ : (((w1.setCell ⟨W.heap.size, 0, none⟩ (.slice q0 m0 d0)).setCell ⟨W.heap.size, 1, none⟩ (.slice q1 m1 d1))).cell? ⟨W.heap.size + 1, 4, none⟩ = some (.int .i64 p.f4) := cell_of_row _ _ 4 _ _ _ rK10_.out
  have K_5_ : (((w1.setCell ⟨W.heap.size, 0, none⟩ (.slice q0 m0 d0)).setCell ⟨W.heap.size, 1, none⟩ (.slice q1 m1 d1))).cell? ⟨W.heap.size + 1, 5, none⟩ = some (.int .i64 p.f5) := cell_of_row _ _ 5 _ _ _ rK10_.out
  have K_6_ : (((w1.setCell ⟨W.heap.size, 0, none⟩ (.slice q0 m0 d0)).setCell ⟨W.heap.size, 1, none⟩ (.slice q1 m1 d1))).cell? ⟨W.heap.size + 1, 6, none⟩ = some (.int .i64 p.f6) := cell_of_row _ _ 6 _ _ _ rK10_.out
  have K_7_ : (((w1.setCell ⟨W.heap.size, 0, none⟩ (.slice q0 m0 d0)).setCell ⟨W.heap.size, 1, none⟩ (.slice q1 m1 d1))).cell? ⟨W.heap.size + 1, 7, none⟩ = some (vp) := cell_of_row _ _ 7 _ _ _ rK10_.out
  have R_0_ : (((w1.setCell ⟨W.heap.size, 0, none⟩ (.slice q0 m0 d0)).setCell ⟨W.heap.size, 1, none⟩ (.slice q1 m1 d1))).cell? ⟨W.heap.size + 1 + 1, 0, none⟩ = some (.slice none 0 0) := cell_of_row _ _ 0 _ _ _ rR11_.out
  have R_1_ : (((w1.setCell ⟨W.heap.size, 0, none⟩ (.slice q0 m0 d0)).setCell ⟨W.heap.size, 1, none⟩ (.slice q1 m1 d1))).cell? ⟨W.heap.size + 1 + 1, 1, none⟩ = some (.slice none 0 0) := cell_of_row _ _ 1 _ _ _ rR11_.out
  refine (implCrD _ _ _ xs ys (OwU.rd oC13_.out) (OwU.rd (OwU.tail oC13_.out)) HXL.out HYL.out true (by rw [decide_eq_true HCO.out])).mono ?_
  rintro e w2 ⟨rfl, g⟩
  have szw2 := g.size
  try simp only [World.size_setCell] at szw2
  try simp only [World.size_alloc] at szw2
  clear A_0_ A_1_ K_0_ K_1_ K_2_ K_3_ K_4_ K_5_ K_6_ K_7_ R_0_ R_1_
  have rA15_ := Lib.hid (show (w2).heap[W.heap.size]? = some (.cells #[.slice q0 m0 d0, .slice q1 m1 d1] 54 (0, 0)) from row_held g rA12_.out)
  clear rA12_
  have rK16_ := Lib.hid (show (w2).heap[W.heap.size + 1]? = some (.cells #[.int .i64 p.f0, .int .i64 p.f1, .int .i64 p.f2, .int .i64 p.f3, .int .i64 p.f4, .int .i64 p.f5, .int .i64 p.f6, vp] 29 (0, 0)) from row_held g rK10_.out)
  clear rK10_
  have rR17_ := Lib.hid (show (w2).heap[W.heap.size + 1 + 1]? = some (.cells #[.slice none 0 0, .slice none 0 0] 54 (0, 0)) from row_held g rR11_.out)
  clear rR11_
  have oC18_ := Lib.hid (show OwU (w2) ((W.heap.size + 1 + 1 + 1)) (w1.heap.size) [] [own shI (.slice q0 m0 d0) xs, own shI (.slice q1 m1 d1) ys] from OwU.grow oC13_.out g)
  clear oC13_
  have G19_ := Lib.hid (show (W).grownBy (w2) none from gby_trans G14_.out g)
  clear g
  have A_0_ : (w2).cell? ⟨W.heap.size, 0, none⟩ = some (.slice q0 m0 d0) := cell_of_row _ _ 0 _ _ _ rA15_.out
  have A_1_ : (w2).cell? ⟨W.heap.size, 1, none⟩ = some (.slice q1 m1 d1) := cell_of_row _ _ 1 _ _ _ rA15_.out
  have K_0_ : (w2).cell? ⟨W.heap.size + 1, 0, none⟩ = some (.int .i64 p.f0) := cell_of_row _ _ 0 _ _ _ rK16_.out
  have K_1_ : (w2).cell? ⟨W.heap.size + 1, 1, none⟩ = some (.int .i64 p.f1) := cell_of_row _ _ 1 _ _ _ rK16_.out
  have K_2_ : (w2).cell? ⟨W.heap.size + 1, 2, none⟩ = some (.int .i64 p.f2) := cell_of_row _ _ 2 _ _ _ rK16_.out
  have K_3_ : (w2).cell? ⟨W.heap.size + 1, 3, none⟩ = some (.int .i64 p.f3) := cell_of_row _ _ 3 _ _ _ rK16_.out
  have K_4_ : (w2).cell? ⟨W.heap.size + 1, 4, none⟩ = some (.int .i64 p.f4) := cell_of_row _ _ 4 _ _ _ rK16_.out
  have K_5_ : (w2).cell? ⟨W.heap.size + 1, 5, none⟩ = some (.int .i64 p.f5) := cell_of_row _ _ 5 _ _ _ rK16_.out
  have K_6_ : (w2).cell? ⟨W.heap.size + 1, 6, none⟩ = some (.int .i64 p.f6) := cell_of_row _ _ 6 _ _ _ rK16_.out
  have K_7_ : (w2).cell? ⟨W.heap.size + 1, 7, none⟩ = some (vp) := cell_of_row _ _ 7 _ _ _ rK16_.out
  have R_0_ : (w2).cell? ⟨W.heap.size + 1 + 1, 0, none⟩ = some (.slice none 0 0) := cell_of_row _ _ 0 _ _ _ rR17_.out
  have R_1_ : (w2).cell? ⟨W.heap.size + 1 + 1, 1, none⟩ = some (.slice none 0 0) := cell_of_row _ _ 1 _ _ _ rR17_.out
  go_wp2_with fail
  go_at_call 30
  refine (implPkD _ p _ (HP.out.grow G19_.out) HL.out false (by have := HN.out; rw [decide_eq_false (by omega)])).mono ?_
  rintro e w3 ⟨rfl, g⟩
  have szw3 := g.size
  try simp only [World.size_alloc] at szw3
  try simp only [World.size_setCell] at szw3
  clear A_0_ A_1_ K_0_ K_1_ K_2_ K_3_ K_4_ K_5_ K_6_ K_7_ R_0_ R_1_
  have rA20_ := Lib.hid (show (w3).heap[W.heap.size]? = some (.cells #[.slice q0 m0 d0, .slice q1 m1 d1] 54 (0, 0)) from row_held g rA15_.out)
  clear rA15_
  have rK21_ := Lib.hid (show (w3).heap[W.heap.size + 1]? = some (.cells #[.int .i64 p.f0, .int .i64 p.f1, .int .i64 p.f2, .int .i64 p.f3, .int .i64 p.f4, .int .i64 p.f5, .int .i64 p.f6, vp] 29 (0, 0)) from row_held g rK16_.out)
  clear rK16_
  have rR22_ := Lib.hid (show (w3).heap[W.heap.size + 1 + 1]? = some (.cells #[.slice none 0 0, .slice none 0 0] 54 (0, 0)) from row_held g rR17_.out)
  clear rR17_
  have oC23_ := Lib.hid (show OwU (w3) ((W.heap.size + 1 + 1 + 1)) (w1.heap.size) [] [own shI (.slice q0 m0 d0) xs, own shI (.slice q1 m1 d1) ys] from OwU.grow oC18_.out g)
  clear oC18_
  have G24_ := Lib.hid (show (W).grownBy (w3) none from gby_trans G19_.out g)
  clear g
  have A_0_ : (w3).cell? ⟨W.heap.size, 0, none⟩ = some (.slice q0 m0 d0) := cell_of_row _ _ 0 _ _ _ rA20_.out
  have A_1_ : (w3).cell? ⟨W.heap.size, 1, none⟩ = some (.slice q1 m1 d1) := cell_of_row _ _ 1 _ _ _ rA20_.out
  have K_0_ : (w3).cell? ⟨W.heap.size + 1, 0, none⟩ = some (.int .i64 p.f0) := cell_of_row _ _ 0 _ _ _ rK21_.out
  have K_1_ : (w3).cell? ⟨W.heap.size + 1, 1, none⟩ = some (.int .i64 p.f1) := cell_of_row _ _ 1 _ _ _ rK21_.out
  have K_2_ : (w3).cell? ⟨W.heap.size + 1, 2, none⟩ = some (.int .i64 p.f2) := cell_of_row _ _ 2 _ _ _ rK21_.out
  have K_3_ : (w3).cell? ⟨W.heap.size + 1, 3, none⟩ = some (.int .i64 p.f3) := cell_of_row _ _ 3 _ _ _ rK21_.out
  have K_4_ : (w3).cell? ⟨W.heap.size + 1, 4, none⟩ = some (.int .i64 p.f4) := cell_of_row _ _ 4 _ _ _ rK21_.out
  have K_5_ : (w3).cell? ⟨W.heap.size + 1, 5, none⟩ = some (.int .i64 p.f5) := cell_of_row _ _ 5 _ _ _ rK21_.out
  have K_6_ : (w3).cell? ⟨W.heap.size + 1, 6, none⟩ = some (.int .i64 p.f6) := cell_of_row _ _ 6 _ _ _ rK21_.out
  have K_7_ : (w3).cell? ⟨W.heap.size + 1, 7, none⟩ = some (vp) := cell_of_row _ _ 7 _ _ _ rK21_.out
  have R_0_ : (w3).cell? ⟨W.heap.size + 1 + 1, 0, none⟩ = some (.slice none 0 0) := cell_of_row _ _ 0 _ _ _ rR22_.out
  have R_1_ : (w3).cell? ⟨W.heap.size + 1 + 1, 1, none⟩ = some (.slice none 0 0) := cell_of_row _ _ 1 _ _ _ rR22_.out
  clear A_0_ A_1_ K_0_ K_1_ K_2_ K_3_ K_4_ K_5_ K_6_ K_7_ R_0_ R_1_
  have A_0_ : (w3).cell? ⟨W.heap.size, 0, none⟩ = some (.slice q0 m0 d0) := cell_of_row _ _ 0 _ _ _ rA20_.out
  have A_1_ : (w3).cell? ⟨W.heap.size, 1, none⟩ = some (.slice q1 m1 d1) := cell_of_row _ _ 1 _ _ _ rA20_.out
  have K_0_ : (w3).cell? ⟨W.heap.size + 1, 0, none⟩ = some (.int .i64 p.f0) := cell_of_row _ _ 0 _ _ _ rK21_.out
  have K_1_ : (w3).cell? ⟨W.heap.size + 1, 1, none⟩ = some (.int .i64 p.f1) := cell_of_row _ _ 1 _ _ _ rK21_.out
  have K_2_ : (w3).cell? ⟨W.heap.size + 1, 2, none⟩ = some (.int .i64 p.f2) := cell_of_row _ _ 2 _ _ _ rK21_.out
  have K_3_ : (w3).cell? ⟨W.heap.size + 1, 3, none⟩ = some (.int .i64 p.f3) := cell_of_row _ _ 3 _ _ _ rK21_.out
  have K_4_ : (w3).cell? ⟨W.heap.size + 1, 4, none⟩ = some (.int .i64 p.f4) := cell_of_row _ _ 4 _ _ _ rK21_.out
  have K_5_ : (w3).cell? ⟨W.heap.size + 1, 5, none⟩ = some (.int .i64 p.f5) := cell_of_row _ _ 5 _ _ _ rK21_.out
  have K_6_ : (w3).cell? ⟨W.heap.size + 1, 6, none⟩ = some (.int .i64 p.f6) := cell_of_row _ _ 6 _ _ _ rK21_.out
  have K_7_ : (w3).cell? ⟨W.heap.size + 1, 7, none⟩ = some (vp) := cell_of_row _ _ 7 _ _ _ rK21_.out
  have R_0_ : (w3).cell? ⟨W.heap.size + 1 + 1, 0, none⟩ = some (.slice none 0 0) := cell_of_row _ _ 0 _ _ _ rR22_.out
  have R_1_ : (w3).cell? ⟨W.heap.size + 1 + 1, 1, none⟩ = some (.slice none 0 0) := cell_of_row _ _ 1 _ _ _ rR22_.out
  clear A_0_ A_1_ K_0_ K_1_ K_2_ K_3_ K_4_ K_5_ K_6_ K_7_ R_0_ R_1_
  have A_0_ : (w3).cell? ⟨W.heap.size, 0, none⟩ = some (.slice q0 m0 d0) := cell_of_row _ _ 0 _ _ _ rA20_.out
  have A_1_ : (w3).cell? ⟨W.heap.size, 1, none⟩ = some (.slice q1 m1 d1) := cell_of_row _ _ 1 _ _ _ rA20_.out
  have K_0_ : (w3).cell? ⟨W.heap.size + 1, 0, none⟩ = some (.int .i64 p.f0) := cell_of_row _ _ 0 _ _ _ rK21_.out
  have K_1_ : (w3).cell? ⟨W.heap.size + 1, 1, none⟩ = some (.int .i64 p.f1) := cell_of_row _ _ 1 _ _ _ rK21_.out
  have K_2_ : (w3).cell? ⟨W.heap.size + 1, 2, none⟩ = some (.int .i64 p.f2) := cell_of_row _ _ 2 _ _ _ rK21_.out
  have K_3_ : (w3).cell? ⟨W.heap.size + 1, 3, none⟩ = some (.int .i64 p.f3) := cell_of_row _ _ 3 _ _ _ rK21_.out
  have K_4_ : (w3).cell? ⟨W.heap.size + 1, 4, none⟩ = some (.int .i64 p.f4) := cell_of_row _ _ 4 _ _ _ rK21_.out
  have K_5_ : (w3).cell? ⟨W.heap.size + 1, 5, none⟩ = some (.int .i64 p.f5) := cell_of_row _ _ 5 _ _ _ rK21_.out
  have K_6_ : (w3).cell? ⟨W.heap.size + 1, 6, none⟩ = some (.int .i64 p.f6) := cell_of_row _ _ 6 _ _ _ rK21_.out
  have K_7_ : (w3).cell? ⟨W.heap.size + 1, 7, none⟩ = some (vp) := cell_of_row _ _ 7 _ _ _ rK21_.out
  have R_0_ : (w3).cell? ⟨W.heap.size + 1 + 1, 0, none⟩ = some (.slice none 0 0) := cell_of_row _ _ 0 _ _ _ rR22_.out
  have R_1_ : (w3).cell? ⟨W.heap.size + 1 + 1, 1, none⟩ = some (.slice none 0 0) := cell_of_row _ _ 1 _ _ _ rR22_.out
  have Rf0_ : (w3).frozen? ⟨W.heap.size + 1 + 1, 0, none⟩ = false := frozen_of_row _ _ 0 _ _ rR22_.out
  have Rf1_ : (w3).frozen? ⟨W.heap.size + 1 + 1, 1, none⟩ = false := frozen_of_row _ _ 1 _ _ rR22_.out
  have zr_ := Lib.hid (show (((w3.setCell ⟨W.heap.size + 1 + 1, 0, none⟩ (.slice q0 m0 d0)).setCell ⟨W.heap.size + 1 + 1, 1, none⟩ (.slice q1 m1 d1))).heap[W.heap.size + 1 + 1]? = some (.cells #[.slice q0 m0 d0, .slice q1 m1 d1] 54 (0, 0)) from (heap_setCell_same _ _ 1 _ _ _ (heap_setCell_same _ _ 0 _ _ _ rR22_.out)))
  have z0_ : (((w3.setCell ⟨W.heap.size + 1 + 1, 0, none⟩ (.slice q0 m0 d0)).setCell ⟨W.heap.size + 1 + 1, 1, none⟩ (.slice q1 m1 d1))).cell? ⟨W.heap.size + 1 + 1, 0, none⟩ = some (.slice q0 m0 d0) := cell_of_row _ _ 0 _ _ _ zr_.out
  have z1_ : (((w3.setCell ⟨W.heap.size + 1 + 1, 0, none⟩ (.slice q0 m0 d0)).setCell ⟨W.heap.size + 1 + 1, 1, none⟩ (.slice q1 m1 d1))).cell? ⟨W.heap.size + 1 + 1, 1, none⟩ = some (.slice q1 m1 d1) := cell_of_row _ _ 1 _ _ _ zr_.out
  go_wp2
  refine bodyPost_ret (v := .tuple #[.agg #[.slice q0 m0 d0, .slice q1 m1 d1], .bool false]) (by simp [results, go_sem, z0_, z1_]) rfl ⟨_, _, rfl, ?_, ?_⟩
  · exact OwU.wide (lo := W.heap.size + 1 + 1 + 1) (by omega) (by simp only [World.size_setCell]; omega) (OwU.keep (chg_one _ _ _ _) (.inr (by omega)) (OwU.keep (chg_one _ _ _ _) (.inr (by omega)) oC23_.out))
  · exact (gby_setnew (gby_setnew G24_.out _ (by dsimp only; omega) _) _ (by dsimp only; omega) _)

set_option maxRecDepth 8000 in
set_option maxHeartbeats 4000000 in
theorem implReturnCredits_f1 (W : World) (u0 u1 vp : Value) (xs ys : List Int) (p : DPacket) (H0 : RdL shI W u0 xs) (H1 : RdL shI W u1 ys) (Hp : RdL shI W vp p.f7) (h0 : szL shI xs ≤ 1048576) (h1 : szL shI ys ≤ 1048576) (hl : szL shI p.f7 ≤ 1048576) (k : Nat) (u : Int) (hc : clsD p = (k : Int)) (hk3 : k < 3) (hcr : CrdOk xs ys) (hu : untD p = u) (hu0 : 0 ≤ u) (hu9 : u ≤ 1000000) (hw : xs.getD k 0 + 1 > 30) : Calls Try.prog 42 #[.agg #[u0, u1], (vPacket p.f0 p.f1 p.f2 p.f3 p.f4 p.f5 p.f6 vp)] W (ResIReturnCredits xs ys false W) := by
  have HSX := Lib.hid H0
  have HSY := Lib.hid H1
  have HP := Lib.hid Hp
  have HXL := Lib.hid h0
  have HYL := Lib.hid h1
  have HL := Lib.hid hl
  obtain ⟨a0, n0, c0, rfl⟩ := RdL.form H0
  obtain ⟨a1, n1, c1, rfl⟩ := RdL.form H1
  clear H0 H1 Hp h0 h1 hl
  unfold vPacket
  have HCO := Lib.hid hcr
  have HC := Lib.hid hc
  have HU := Lib.hid hu
  have HCR := Lib.hid hcr
  have hx1 := crd_at hcr hk3
  obtain ⟨x, hx⟩ : ∃ x, x = xs.getD k 0 := ⟨_, rfl⟩
  obtain ⟨y, hy⟩ : ∃ y, y = ys.getD k 0 := ⟨_, rfl⟩
  rw [← hx, ← hy] at hx1
  obtain ⟨hxl, hyl, hx0, hx30, hy0, hy30⟩ := hx1
  have HX := Lib.hid hx
  have HY := Lib.hid hy
  have HW := Lib.hid hw
  clear hw
  clear hc hu hcr hx hy
  go_enter Try.func42, Try.ntmps42
  have rA1_ := Lib.hid (show ((((W.alloc (.cells #[.slice a0 n0 c0, .slice a1 n1 c1] 54)).alloc (.cells #[.int .i64 p.f0, .int .i64 p.f1, .int .i64 p.f2, .int .i64 p.f3, .int .i64 p.f4, .int .i64 p.f5, .int .i64 p.f6, vp] 29)).alloc (.cells #[.slice none 0 0, .slice none 0 0] 54))).heap[W.heap.size]? = some (.cells #[.slice a0 n0 c0, .slice a1 n1 c1] 54 (0, 0)) from by rw [heap_alloc_old _ _ (by simp only [World.size_alloc]; omega)]; rw [heap_alloc_old _ _ (by simp only [World.size_alloc]; omega)]; exact heap_alloc_new _ _)
  have rK2_ := Lib.hid (show ((((W.alloc (.cells #[.slice a0 n0 c0, .slice a1 n1 c1] 54)).alloc (.cells #[.int .i64 p.f0, .int .i64 p.f1, .int .i64 p.f2, .int .i64 p.f3, .int .i64 p.f4, .int .i64 p.f5, .int .i64 p.f6, vp] 29)).alloc (.cells #[.slice none 0 0, .slice none 0 0] 54))).heap[W.heap.size + 1]? = some (.cells #[.int .i64 p.f0, .int .i64 p.f1, .int .i64 p.f2, .int .i64 p.f3, .int .i64 p.f4, .int .i64 p.f5, .int .i64 p.f6, vp] 29 (0, 0)) from by rw [heap_alloc_old _ _ (by simp only [World.size_alloc]; omega)]; exact heap_pair _ _ _)
  have rR3_ := Lib.hid (show ((((W.alloc (.cells #[.slice a0 n0 c0, .slice a1 n1 c1] 54)).alloc (.cells #[.int .i64 p.f0, .int .i64 p.f1, .int .i64 p.f2, .int .i64 p.f3, .int .i64 p.f4, .int .i64 p.f5, .int .i64 p.f6, vp] 29)).alloc (.cells #[.slice none 0 0, .slice none 0 0] 54))).heap[W.heap.size + 1 + 1]? = some (.cells #[.slice none 0 0, .slice none 0 0] 54 (0, 0)) from by exact heap_trip _ _ _ _)
  have G4_ := Lib.hid (show (W).grownBy ((((W.alloc (.cells #[.slice a0 n0 c0, .slice a1 n1 c1] 54)).alloc (.cells #[.int .i64 p.f0, .int .i64 p.f1, .int .i64 p.f2, .int .i64 p.f3, .int .i64 p.f4, .int .i64 p.f5, .int .i64 p.f6, vp] 29)).alloc (.cells #[.slice none 0 0, .slice none 0 0] 54))) none from (gby_alloc (gby_alloc (gby_alloc (gby_refl _ _) _) _) _))
  have A_0_ : ((((W.alloc (.cells #[.slice a0 n0 c0, .slice a1 n1 c1] 54)).alloc (.cells #[.int .i64 p.f0, .int .i64 p.f1, .int .i64 p.f2, .int .i64 p.f3, .int .i64 p.f4, .int .i64 p.f5, .int .i64 p.f6, vp] 29)).alloc (.cells #[.slice none 0 0, .slice none 0 0] 54))).cell? ⟨W.heap.size, 0, none⟩ = some (.slice a0 n0 c0) := cell_of_row _ _ 0 _ _ _ rA1_.out
  have A_1_ : ((((W.alloc (.cells #[.slice a0 n0 c0, .slice a1 n1 c1] 54)).alloc (.cells #[.int .i64 p.f0, .int .i64 p.f1, .int .i64 p.f2, .int .i64 p.f3, .int .i64 p.f4, .int .i64 p.f5, .int .i64 p.f6, vp] 29)).alloc (.cells #[.slice none 0 0, .slice none 0 0] 54))).cell? ⟨W.heap.size, 1, none⟩ = some (.slice a1 n1 c1) := cell_of_row _ _ 1 _ _ _ rA1_.out
  have K_0_ : ((((W.alloc (.cells #[.slice a0 n0 c0, .slice a1 n1 c1] 54)).alloc (.cells #[.int .i64 p.f0, .int .i64 p.f1, .int .i64 p.f2, .int .i64 p.f3, .int .i64 p.f4, .int .i64 p.f5, .int .i64 p.f6, vp] 29)).alloc (.cells #[.slice none 0 0, .slice none 0 0] 54))).cell? ⟨W.heap.size + 1, 0, none⟩ = some (.int .i64 p.f0) := cell_of_row _ _ 0 _ _ _ rK2_.out
  have K_1_ : ((((W.alloc (.cells #[.slice a0 n0 c0, .slice a1 n1 c1] 54)).alloc (.cells #[.int .i64 p.f0, .int .i64 p.f1, .int .i64 p.f2, .int .i64 p.f3, .int .i64 p.f4, .int .i64 p.f5, .int .i64 p.f6, vp] 29)).alloc (.cells #[.slice none 0 0, .slice none 0 0] 54))).cell? ⟨W.heap.size + 1, 1, none⟩ = some (.int .i64 p.f1) := cell_of_row _ _ 1 _ _ _ rK2_.out
  have K_2_ : ((((W.alloc (.cells #[.slice a0 n0 c0, .slice a1 n1 c1] 54)).alloc (.cells #[.int .i64 p.f0, .int .i64 p.f1, .int .i64 p.f2, .int .i64 p.f3, .int .i64 p.f4, .int .i64 p.f5, .int .i64 p.f6, vp] 29)).alloc (.cells #[.slice none 0 0, .slice none 0 0] 54))).cell? ⟨W.heap.size + 1, 2, none⟩ = some (.int .i64 p.f2) := cell_of_row _ _ 2 _ _ _ rK2_.out
  have K_3_ : ((((W.alloc (.cells #[.slice a0 n0 c0, .slice a1 n1 c1] 54)).alloc (.cells #[.int .i64 p.f0, .int .i64 p.f1, .int .i64 p.f2, .int .i64 p.f3, .int .i64 p.f4, .int .i64 p.f5, .int .i64 p.f6, vp] 29)).alloc (.cells #[.slice none 0 0, .slice none 0 0] 54))).cell? ⟨W.heap.size + 1, 3, none⟩ = some (.int .i64 p.f3) := cell_of_row _ _ 3 _ _ _ rK2_.out
  have K_4_ : ((((W.alloc (.cells #[.slice a0 n0 c0, .slice a1 n1 c1] 54)).alloc (.cells #[.int .i64 p.f0, .int .i64 p.f1, .int .i64 p.f2, .int .i64 p.f3, .int .i64 p.f4, .int .i64 p.f5, .int .i64 p.f6, vp] 29)).alloc (.cells #[.slice none 0 0, .slice none 0 0] 54))).cell? ⟨W.heap.size + 1, 4, none⟩ = some (.int .i64 p.f4) := cell_of_row _ _ 4 _ _ _ rK2_.out
  have K_5_ : ((((W.alloc (.cells #[.slice a0 n0 c0, .slice a1 n1 c1] 54)).alloc (.cells #[.int .i64 p.f0, .int .i64 p.f1, .int .i64 p.f2, .int .i64 p.f3, .int .i64 p.f4, .int .i64 p.f5, .int .i64 p.f6, vp] 29)).alloc (.cells #[.slice none 0 0, .slice none 0 0] 54))).cell? ⟨W.heap.size + 1, 5, none⟩ = some (.int .i64 p.f5) := cell_of_row _ _ 5 _ _ _ rK2_.out
  have K_6_ : ((((W.alloc (.cells #[.slice a0 n0 c0, .slice a1 n1 c1] 54)).alloc (.cells #[.int .i64 p.f0, .int .i64 p.f1, .int .i64 p.f2, .int .i64 p.f3, .int .i64 p.f4, .int .i64 p.f5, .int .i64 p.f6, vp] 29)).alloc (.cells #[.slice none 0 0, .slice none 0 0] 54))).cell? ⟨W.heap.size + 1, 6, none⟩ = some (.int .i64 p.f6) := cell_of_row _ _ 6 _ _ _ rK2_.out
  have K_7_ : ((((W.alloc (.cells #[.slice a0 n0 c0, .slice a1 n1 c1] 54)).alloc (.cells #[.int .i64 p.f0, .int .i64 p.f1, .int .i64 p.f2, .int .i64 p.f3, .int .i64 p.f4, .int .i64 p.f5, .int .i64 p.f6, vp] 29)).alloc (.cells #[.slice none 0 0, .slice none 0 0] 54))).cell? ⟨W.heap.size + 1, 7, none⟩ = some (vp) := cell_of_row _ _ 7 _ _ _ rK2_.out
  have R_0_ : ((((W.alloc (.cells #[.slice a0 n0 c0, .slice a1 n1 c1] 54)).alloc (.cells #[.int .i64 p.f0, .int .i64 p.f1, .int .i64 p.f2, .int .i64 p.f3, .int .i64 p.f4, .int .i64 p.f5, .int .i64 p.f6, vp] 29)).alloc (.cells #[.slice none 0 0, .slice none 0 0] 54))).cell? ⟨W.heap.size + 1 + 1, 0, none⟩ = some (.slice none 0 0) := cell_of_row _ _ 0 _ _ _ rR3_.out
  have R_1_ : ((((W.alloc (.cells #[.slice a0 n0 c0, .slice a1 n1 c1] 54)).alloc (.cells #[.int .i64 p.f0, .int .i64 p.f1, .int .i64 p.f2, .int .i64 p.f3, .int .i64 p.f4, .int .i64 p.f5, .int .i64 p.f6, vp] 29)).alloc (.cells #[.slice none 0 0, .slice none 0 0] 54))).cell? ⟨W.heap.size + 1 + 1, 1, none⟩ = some (.slice none 0 0) := cell_of_row _ _ 1 _ _ _ rR3_.out
  go_wp2_with fail
  go_at_call 87
  refine (copiedCr_d _ _ _ xs ys (HSX.out.grow G4_.out) (HSY.out.grow G4_.out) HXL.out HYL.out).mono ?_
  rintro e w1 ⟨z0, z1, rfl, o, g⟩
  have sz_ := g.size
  try simp only [World.size_alloc] at sz_ o
  clear A_0_ A_1_ K_0_ K_1_ K_2_ K_3_ K_4_ K_5_ K_6_ K_7_ R_0_ R_1_
  have rA5_ := Lib.hid (show (w1).heap[W.heap.size]? = some (.cells #[.slice a0 n0 c0, .slice a1 n1 c1] 54 (0, 0)) from row_held g rA1_.out)
  clear rA1_
  have rK6_ := Lib.hid (show (w1).heap[W.heap.size + 1]? = some (.cells #[.int .i64 p.f0, .int .i64 p.f1, .int .i64 p.f2, .int .i64 p.f3, .int .i64 p.f4, .int .i64 p.f5, .int .i64 p.f6, vp] 29 (0, 0)) from row_held g rK2_.out)
  clear rK2_
  have rR7_ := Lib.hid (show (w1).heap[W.heap.size + 1 + 1]? = some (.cells #[.slice none 0 0, .slice none 0 0] 54 (0, 0)) from row_held g rR3_.out)
  clear rR3_
  have G8_ := Lib.hid (show (W).grownBy (w1) none from gby_trans G4_.out g)
  clear g
  obtain ⟨q0, m0, d0, hv_⟩ := RdL.form (OwU.rd o)
  subst hv_
  obtain ⟨q1, m1, d1, hv_⟩ := RdL.form (OwU.rd (OwU.tail o))
  subst hv_
  unfold vCredits
  have oC9_ := Lib.hid (show OwU (w1) ((W.heap.size + 1 + 1 + 1)) (w1.heap.size) [] [own shI (.slice q0 m0 d0) xs, own shI (.slice q1 m1 d1) ys] from o)
  clear o
  have A_0_ : (w1).cell? ⟨W.heap.size, 0, none⟩ = some (.slice a0 n0 c0) := cell_of_row _ _ 0 _ _ _ rA5_.out
  have A_1_ : (w1).cell? ⟨W.heap.size, 1, none⟩ = some (.slice a1 n1 c1) := cell_of_row _ _ 1 _ _ _ rA5_.out
  have Af0_ : (w1).frozen? ⟨W.heap.size, 0, none⟩ = false := frozen_of_row _ _ 0 _ _ rA5_.out
  have Af1_ : (w1).frozen? ⟨W.heap.size, 1, none⟩ = false := frozen_of_row _ _ 1 _ _ rA5_.out
  have K_0_ : (w1).cell? ⟨W.heap.size + 1, 0, none⟩ = some (.int .i64 p.f0) := cell_of_row _ _ 0 _ _ _ rK6_.out
  have K_1_ : (w1).cell? ⟨W.heap.size + 1, 1, none⟩ = some (.int .i64 p.f1) := cell_of_row _ _ 1 _ _ _ rK6_.out
  have K_2_ : (w1).cell? ⟨W.heap.size + 1, 2, none⟩ = some (.int .i64 p.f2) := cell_of_row _ _ 2 _ _ _ rK6_.out
  have K_3_ : (w1).cell? ⟨W.heap.size + 1, 3, none⟩ = some (.int .i64 p.f3) := cell_of_row _ _ 3 _ _ _ rK6_.out
  have K_4_ : (w1).cell? ⟨W.heap.size + 1, 4, none⟩ = some (.int .i64 p.f4) := cell_of_row _ _ 4 _ _ _ rK6_.out
  have K_5_ : (w1).cell? ⟨W.heap.size + 1, 5, none⟩ = some (.int .i64 p.f5) := cell_of_row _ _ 5 _ _ _ rK6_.out
  have K_6_ : (w1).cell? ⟨W.heap.size + 1, 6, none⟩ = some (.int .i64 p.f6) := cell_of_row _ _ 6 _ _ _ rK6_.out
  have K_7_ : (w1).cell? ⟨W.heap.size + 1, 7, none⟩ = some (vp) := cell_of_row _ _ 7 _ _ _ rK6_.out
  have R_0_ : (w1).cell? ⟨W.heap.size + 1 + 1, 0, none⟩ = some (.slice none 0 0) := cell_of_row _ _ 0 _ _ _ rR7_.out
  have R_1_ : (w1).cell? ⟨W.heap.size + 1 + 1, 1, none⟩ = some (.slice none 0 0) := cell_of_row _ _ 1 _ _ _ rR7_.out
  go_wp2_with fail
  go_at_call 47
  clear A_0_ A_1_ Af0_ Af1_ K_0_ K_1_ K_2_ K_3_ K_4_ K_5_ K_6_ K_7_ R_0_ R_1_
  have rK10_ := Lib.hid (show (((w1.setCell ⟨W.heap.size, 0, none⟩ (.slice q0 m0 d0)).setCell ⟨W.heap.size, 1, none⟩ (.slice q1 m1 d1))).heap[W.heap.size + 1]? = some (.cells #[.int .i64 p.f0, .int .i64 p.f1, .int .i64 p.f2, .int .i64 p.f3, .int .i64 p.f4, .int .i64 p.f5, .int .i64 p.f6, vp] 29 (0, 0)) from (set_far (set_far rK6_.out (by dsimp only; omega)) (by dsimp only; omega)))
  clear rK6_
  have rR11_ := Lib.hid (show (((w1.setCell ⟨W.heap.size, 0, none⟩ (.slice q0 m0 d0)).setCell ⟨W.heap.size, 1, none⟩ (.slice q1 m1 d1))).heap[W.heap.size + 1 + 1]? = some (.cells #[.slice none 0 0, .slice none 0 0] 54 (0, 0)) from (set_far (set_far rR7_.out (by dsimp only; omega)) (by dsimp only; omega)))
  clear rR7_
  have rA12_ := Lib.hid (show (((w1.setCell ⟨W.heap.size, 0, none⟩ (.slice q0 m0 d0)).setCell ⟨W.heap.size, 1, none⟩ (.slice q1 m1 d1))).heap[W.heap.size]? = some (.cells #[.slice q0 m0 d0, .slice q1 m1 d1] 54 (0, 0)) from (heap_setCell_same _ _ 1 _ _ _ (heap_setCell_same _ _ 0 _ _ _ rA5_.out)))
  clear rA5_
  have oC13_ := Lib.hid (show OwU (((w1.setCell ⟨W.heap.size, 0, none⟩ (.slice q0 m0 d0)).setCell ⟨W.heap.size, 1, none⟩ (.slice q1 m1 d1))) ((W.heap.size + 1 + 1 + 1)) (w1.heap.size) [] [own shI (.slice q0 m0 d0) xs, own shI (.slice q1 m1 d1) ys] from (OwU.keep (chg_one _ _ _ _) (by omega) (OwU.keep (chg_one _ _ _ _) (by omega) oC9_.out)))
  clear oC9_
  have G14_ := Lib.hid (show (W).grownBy (((w1.setCell ⟨W.heap.size, 0, none⟩ (.slice q0 m0 d0)).setCell ⟨W.heap.size, 1, none⟩ (.slice q1 m1 d1))) none from (gby_setnew (gby_setnew G8_.out _ (by dsimp only; omega) _) _ (by dsimp only; omega) _))
  have A_0_ : (((w1.setCell ⟨W.heap.size, 0, none⟩ (.slice q0 m0 d0)).setCell ⟨W.heap.size, 1, none⟩ (.slice q1 m1 d1))).cell? ⟨W.heap.size, 0, none⟩ = some (.slice q0 m0 d0) := cell_of_row _ _ 0 _ _ _ rA12_.out
  have A_1_ : (((w1.setCell ⟨W.heap.size, 0, none⟩ (.slice q0 m0 d0)).setCell ⟨W.heap.size, 1, none⟩ (.slice q1 m1 d1))).cell? ⟨W.heap.size, 1, none⟩ = some (.slice q1 m1 d1) := cell_of_row _ _ 1 _ _ _ rA12_.out
  have K_0_ : (((w1.setCell ⟨W.heap.size, 0, none⟩ (.slice q0 m0 d0)).setCell ⟨W.heap.size, 1, none⟩ (.slice q1 m1 d1))).cell? ⟨W.heap.size + 1, 0, none⟩ = some (.int .i64 p.f0) := cell_of_row _ _ 0 _ _ _ rK10_.out
  have K_1_ : (((w1.setCell ⟨W.heap.size, 0, none⟩ (.slice q0 m0 d0)).setCell ⟨W.heap.size, 1, none⟩ (.slice q1 m1 d1))).cell? ⟨W.heap.size + 1, 1, none⟩ = some (.int .i64 p.f1) := cell_of_row _ _ 1 _ _ _ rK10_.out
  have K_2_ : (((w1.setCell ⟨W.heap.size, 0, none⟩ (.slice q0 m0 d0)).setCell ⟨W.heap.size, 1, none⟩ (.slice q1 m1 d1))).cell? ⟨W.heap.size + 1, 2, none⟩ = some (.int .i64 p.f2) := cell_of_row _ _ 2 _ _ _ rK10_.out
  have K_3_ : (((w1.setCell ⟨W.heap.size, 0, none⟩ (.slice q0 m0 d0)).setCell ⟨W.heap.size, 1, none⟩ (.slice q1 m1 d1))).cell? ⟨W.heap.size + 1, 3, none⟩ = some (.int .i64 p.f3) := cell_of_row _ _ 3 _ _ _ rK10_.out
  have K_4_ : (((w1.setCell ⟨W.heap.size, 0, none⟩ (.slice q0 m0 d0)).setCell ⟨W.heap.size, 1, none⟩ (.slice q1 m1 d1))).cell? ⟨W.heap.size + 1, 4, none⟩ = some (.int .i64 p.f4) := cell_of_row _ _ 4 _ _ _ rK10_.out
  have K_5_ : (((w1.setCell ⟨W.heap.size, 0, none⟩ (.slice q0 m0 d0)).setCell ⟨W.heap.size, 1, none⟩ (.slice q1 m1 d1))).cell? ⟨W.heap.size + 1, 5, none⟩ = some (.int .i64 p.f5) := cell_of_row _ _ 5 _ _ _ rK10_.out
  have K_6_ : (((w1.setCell ⟨W.heap.size, 0, none⟩ (.slice q0 m0 d0)).setCell ⟨W.heap.size, 1, none⟩ (.slice q1 m1 d1))).cell? ⟨W.heap.size + 1, 6, none⟩ = some (.int .i64 p.f6) := cell_of_row _ _ 6 _ _ _ rK10_.out
  have K_7_ : (((w1.setCell ⟨W.heap.size, 0, none⟩ (.slice q0 m0 d0)).setCell ⟨W.heap.size, 1, none⟩ (.slice q1 m1 d1))).cell? ⟨W.heap.size + 1, 7, none⟩ = some (vp) := cell_of_row _ _ 7 _ _ _ rK10_.out
  have R_0_ : (((w1.setCell ⟨W.heap.size, 0, none⟩ (.slice q0 m0 d0)).setCell ⟨W.heap.size, 1, none⟩ (.slice q1 m1 d1))).cell? ⟨W.heap.size + 1 + 1, 0, none⟩ = some (.slice none 0 0) := cell_of_row _ _ 0 _ _ _ rR11_.out
  have R_1_ : (((w1.setCell ⟨W.heap.size, 0, none⟩ (.slice q0 m0 d0)).setCell ⟨W.heap.size, 1, none⟩ (.slice q1 m1 d1))).cell? ⟨W.heap.size + 1 + 1, 1, none⟩ = some (.slice none 0 0) := cell_of_row _ _ 1 _ _ _ rR11_.out
  refine (implCrD _ _ _ xs ys (OwU.rd oC13_.out) (OwU.rd (OwU.tail oC13_.out)) HXL.out HYL.out true (by rw [decide_eq_true HCO.out])).mono ?_
  rintro e w2 ⟨rfl, g⟩
  have szw2 := g.size
  try simp only [World.size_setCell] at szw2
  try simp only [World.size_alloc] at szw2
  clear A_0_ A_1_ K_0_ K_1_ K_2_ K_3_ K_4_ K_5_ K_6_ K_7_ R_0_ R_1_
  have rA15_ := Lib.hid (show (w2).heap[W.heap.size]? = some (.cells #[.slice q0 m0 d0, .slice q1 m1 d1] 54 (0, 0)) from row_held g rA12_.out)
  clear rA12_
  have rK16_ := Lib.hid (show (w2).heap[W.heap.size + 1]? = some (.cells #[.int .i64 p.f0, .int .i64 p.f1, .int .i64 p.f2, .int .i64 p.f3, .int .i64 p.f4, .int .i64 p.f5, .int .i64 p.f6, vp] 29 (0, 0)) from row_held g rK10_.out)
  clear rK10_
  have rR17_ := Lib.hid (show (w2).heap[W.heap.size + 1 + 1]? = some (.cells #[.slice none 0 0, .slice none 0 0] 54 (0, 0)) from row_held g rR11_.out)
  clear rR11_
  have oC18_ := Lib.hid (show OwU (w2) ((W.heap.size + 1 + 1 + 1)) (w1.heap.size) [] [own shI (.slice q0 m0 d0) xs, own shI (.slice q1 m1 d1) ys] from OwU.grow oC13_.out g)
  clear oC13_
  have G19_ := Lib.hid (show (W).grownBy (w2) none from gby_trans G14_.out g)
  clear g
  have A_0_ : (w2).cell? ⟨W.heap.size, 0, none⟩ = some (.slice q0 m0 d0) := cell_of_row _ _ 0 _ _ _ rA15_.out
  have A_1_ : (w2).cell? ⟨W.heap.size, 1, none⟩ = some (.slice q1 m1 d1) := cell_of_row _ _ 1 _ _ _ rA15_.out
  have K_0_ : (w2).cell? ⟨W.heap.size + 1, 0, none⟩ = some (.int .i64 p.f0) := cell_of_row _ _ 0 _ _ _ rK16_.out
  have K_1_ : (w2).cell? ⟨W.heap.size + 1, 1, none⟩ = some (.int .i64 p.f1) := cell_of_row _ _ 1 _ _ _ rK16_.out
  have K_2_ : (w2).cell? ⟨W.heap.size + 1, 2, none⟩ = some (.int .i64 p.f2) := cell_of_row _ _ 2 _ _ _ rK16_.out
  have K_3_ : (w2).cell? ⟨W.heap.size + 1, 3, none⟩ = some (.int .i64 p.f3) := cell_of_row _ _ 3 _ _ _ rK16_.out
  have K_4_ : (w2).cell? ⟨W.heap.size + 1, 4, none⟩ = some (.int .i64 p.f4) := cell_of_row _ _ 4 _ _ _ rK16_.out
  have K_5_ : (w2).cell? ⟨W.heap.size + 1, 5, none⟩ = some (.int .i64 p.f5) := cell_of_row _ _ 5 _ _ _ rK16_.out
  have K_6_ : (w2).cell? ⟨W.heap.size + 1, 6, none⟩ = some (.int .i64 p.f6) := cell_of_row _ _ 6 _ _ _ rK16_.out
  have K_7_ : (w2).cell? ⟨W.heap.size + 1, 7, none⟩ = some (vp) := cell_of_row _ _ 7 _ _ _ rK16_.out
  have R_0_ : (w2).cell? ⟨W.heap.size + 1 + 1, 0, none⟩ = some (.slice none 0 0) := cell_of_row _ _ 0 _ _ _ rR17_.out
  have R_1_ : (w2).cell? ⟨W.heap.size + 1 + 1, 1, none⟩ = some (.slice none 0 0) := cell_of_row _ _ 1 _ _ _ rR17_.out
  go_wp2_with fail
  go_at_call 30
  refine (implPkD _ p _ (HP.out.grow G19_.out) HL.out true (by rw [decide_eq_true (by rw [HC.out]; omega)])).mono ?_
  rintro e w3 ⟨rfl, g⟩
  have szw3 := g.size
  try simp only [World.size_alloc] at szw3
  try simp only [World.size_setCell] at szw3
  clear A_0_ A_1_ K_0_ K_1_ K_2_ K_3_ K_4_ K_5_ K_6_ K_7_ R_0_ R_1_
  have rA20_ := Lib.hid (show (w3).heap[W.heap.size]? = some (.cells #[.slice q0 m0 d0, .slice q1 m1 d1] 54 (0, 0)) from row_held g rA15_.out)
  clear rA15_
  have rK21_ := Lib.hid (show (w3).heap[W.heap.size + 1]? = some (.cells #[.int .i64 p.f0, .int .i64 p.f1, .int .i64 p.f2, .int .i64 p.f3, .int .i64 p.f4, .int .i64 p.f5, .int .i64 p.f6, vp] 29 (0, 0)) from row_held g rK16_.out)
  clear rK16_
  have rR22_ := Lib.hid (show (w3).heap[W.heap.size + 1 + 1]? = some (.cells #[.slice none 0 0, .slice none 0 0] 54 (0, 0)) from row_held g rR17_.out)
  clear rR17_
  have oC23_ := Lib.hid (show OwU (w3) ((W.heap.size + 1 + 1 + 1)) (w1.heap.size) [] [own shI (.slice q0 m0 d0) xs, own shI (.slice q1 m1 d1) ys] from OwU.grow oC18_.out g)
  clear oC18_
  have G24_ := Lib.hid (show (W).grownBy (w3) none from gby_trans G19_.out g)
  clear g
  have A_0_ : (w3).cell? ⟨W.heap.size, 0, none⟩ = some (.slice q0 m0 d0) := cell_of_row _ _ 0 _ _ _ rA20_.out
  have A_1_ : (w3).cell? ⟨W.heap.size, 1, none⟩ = some (.slice q1 m1 d1) := cell_of_row _ _ 1 _ _ _ rA20_.out
  have K_0_ : (w3).cell? ⟨W.heap.size + 1, 0, none⟩ = some (.int .i64 p.f0) := cell_of_row _ _ 0 _ _ _ rK21_.out
  have K_1_ : (w3).cell? ⟨W.heap.size + 1, 1, none⟩ = some (.int .i64 p.f1) := cell_of_row _ _ 1 _ _ _ rK21_.out
  have K_2_ : (w3).cell? ⟨W.heap.size + 1, 2, none⟩ = some (.int .i64 p.f2) := cell_of_row _ _ 2 _ _ _ rK21_.out
  have K_3_ : (w3).cell? ⟨W.heap.size + 1, 3, none⟩ = some (.int .i64 p.f3) := cell_of_row _ _ 3 _ _ _ rK21_.out
  have K_4_ : (w3).cell? ⟨W.heap.size + 1, 4, none⟩ = some (.int .i64 p.f4) := cell_of_row _ _ 4 _ _ _ rK21_.out
  have K_5_ : (w3).cell? ⟨W.heap.size + 1, 5, none⟩ = some (.int .i64 p.f5) := cell_of_row _ _ 5 _ _ _ rK21_.out
  have K_6_ : (w3).cell? ⟨W.heap.size + 1, 6, none⟩ = some (.int .i64 p.f6) := cell_of_row _ _ 6 _ _ _ rK21_.out
  have K_7_ : (w3).cell? ⟨W.heap.size + 1, 7, none⟩ = some (vp) := cell_of_row _ _ 7 _ _ _ rK21_.out
  have R_0_ : (w3).cell? ⟨W.heap.size + 1 + 1, 0, none⟩ = some (.slice none 0 0) := cell_of_row _ _ 0 _ _ _ rR22_.out
  have R_1_ : (w3).cell? ⟨W.heap.size + 1 + 1, 1, none⟩ = some (.slice none 0 0) := cell_of_row _ _ 1 _ _ _ rR22_.out
  have HCON := Lib.hid (show ∀ (w : World), w.heap[W.heap.size]? = some (.cells #[.slice q0 m0 d0, .slice q1 m1 d1] 54 (0, 0)) → OwU w (W.heap.size + 1 + 1 + 1) (w1.heap.size) [] [own shI (.slice q0 m0 d0) xs, own shI (.slice q1 m1 d1) ys] → W.grownBy w none → w1.heap.size ≤ w.heap.size → Calls Try.prog 90 #[.pointer (some ⟨W.heap.size, 0, none⟩), .agg #[.int .i64 p.f0, .int .i64 p.f1, .int .i64 p.f2, .int .i64 p.f3, .int .i64 p.f4, .int .i64 p.f5, .int .i64 p.f6, vp]] w (SpPost false (W.heap.size + 1 + 1 + 1) (w1.heap.size) (.slice q0 m0 d0) (.slice q1 m1 d1) xs ys w) from fun w r1 r2 r3 r4 => by
    have q := give_full1 w W.heap.size (W.heap.size + 1 + 1 + 1) (w1.heap.size) k (.slice q0 m0 d0) (.slice q1 m1 d1) vp xs ys p r1 r2 (.inl (by omega)) r4 (HP.out.grow r3) (fun w' gc => HP.out.grow (gby_chg r3 gc (by omega))) HL.out HC.out hk3 HCR.out u HU.out hu0 hu9 (by have := HW.out; omega)
    skip
    exact q)
  go_wp2_with fail
  go_at_call 90
  refine (HCON.out _ rA20_.out oC23_.out G24_.out (by omega)).mono ?_
  rintro e w4 ⟨rfl, o, gc⟩
  have szv_ := gc.size
  have NR_ := Lib.hid (show w4.heap[W.heap.size + 1 + 1]? = some (.cells #[.slice none 0 0, .slice none 0 0] 54 (0, 0)) from Chg.keep gc rR22_.out (.inl (by omega)))
  have NA_ := Lib.hid (show w4.heap[W.heap.size]? = some (.cells #[.slice q0 m0 d0, .slice q1 m1 d1] 54 (0, 0)) from Chg.keep gc rA20_.out (.inl (by omega)))
  have NO_ := Lib.hid o
  have NG_ := Lib.hid (gby_chg G24_.out gc (by omega))
  clear o gc
  clear A_0_ A_1_ K_0_ K_1_ K_2_ K_3_ K_4_ K_5_ K_6_ K_7_ R_0_ R_1_
  have G25_ := Lib.hid (show (W).grownBy (w4) none from NG_.out)
  have A_0_ : (w4).cell? ⟨W.heap.size, 0, none⟩ = some (.slice q0 m0 d0) := cell_of_row _ _ 0 _ _ _ NA_.out
  have A_1_ : (w4).cell? ⟨W.heap.size, 1, none⟩ = some (.slice q1 m1 d1) := cell_of_row _ _ 1 _ _ _ NA_.out
  have R_0_ : (w4).cell? ⟨W.heap.size + 1 + 1, 0, none⟩ = some (.slice none 0 0) := cell_of_row _ _ 0 _ _ _ NR_.out
  have R_1_ : (w4).cell? ⟨W.heap.size + 1 + 1, 1, none⟩ = some (.slice none 0 0) := cell_of_row _ _ 1 _ _ _ NR_.out
  clear A_0_ A_1_ R_0_ R_1_
  have A_0_ : (w4).cell? ⟨W.heap.size, 0, none⟩ = some (.slice q0 m0 d0) := cell_of_row _ _ 0 _ _ _ NA_.out
  have A_1_ : (w4).cell? ⟨W.heap.size, 1, none⟩ = some (.slice q1 m1 d1) := cell_of_row _ _ 1 _ _ _ NA_.out
  have R_0_ : (w4).cell? ⟨W.heap.size + 1 + 1, 0, none⟩ = some (.slice none 0 0) := cell_of_row _ _ 0 _ _ _ NR_.out
  have R_1_ : (w4).cell? ⟨W.heap.size + 1 + 1, 1, none⟩ = some (.slice none 0 0) := cell_of_row _ _ 1 _ _ _ NR_.out
  have Rf0_ : (w4).frozen? ⟨W.heap.size + 1 + 1, 0, none⟩ = false := frozen_of_row _ _ 0 _ _ NR_.out
  have Rf1_ : (w4).frozen? ⟨W.heap.size + 1 + 1, 1, none⟩ = false := frozen_of_row _ _ 1 _ _ NR_.out
  have zr_ := Lib.hid (show (((w4.setCell ⟨W.heap.size + 1 + 1, 0, none⟩ (.slice q0 m0 d0)).setCell ⟨W.heap.size + 1 + 1, 1, none⟩ (.slice q1 m1 d1))).heap[W.heap.size + 1 + 1]? = some (.cells #[.slice q0 m0 d0, .slice q1 m1 d1] 54 (0, 0)) from (heap_setCell_same _ _ 1 _ _ _ (heap_setCell_same _ _ 0 _ _ _ NR_.out)))
  have z0_ : (((w4.setCell ⟨W.heap.size + 1 + 1, 0, none⟩ (.slice q0 m0 d0)).setCell ⟨W.heap.size + 1 + 1, 1, none⟩ (.slice q1 m1 d1))).cell? ⟨W.heap.size + 1 + 1, 0, none⟩ = some (.slice q0 m0 d0) := cell_of_row _ _ 0 _ _ _ zr_.out
  have z1_ : (((w4.setCell ⟨W.heap.size + 1 + 1, 0, none⟩ (.slice q0 m0 d0)).setCell ⟨W.heap.size + 1 + 1, 1, none⟩ (.slice q1 m1 d1))).cell? ⟨W.heap.size + 1 + 1, 1, none⟩ = some (.slice q1 m1 d1) := cell_of_row _ _ 1 _ _ _ zr_.out
  go_wp2
  refine bodyPost_ret (v := .tuple #[.agg #[.slice q0 m0 d0, .slice q1 m1 d1], .bool false]) (by simp [results, go_sem, z0_, z1_]) rfl ⟨_, _, rfl, ?_, ?_⟩
  · exact OwU.wide (lo := W.heap.size + 1 + 1 + 1) (by omega) (by simp only [World.size_setCell]; omega) (OwU.keep (chg_one _ _ _ _) (.inr (by omega)) (OwU.keep (chg_one _ _ _ _) (.inr (by omega)) NO_.out))
  · exact (gby_setnew (gby_setnew G25_.out _ (by dsimp only; omega) _) _ (by dsimp only; omega) _)

set_option maxRecDepth 8000 in
set_option maxHeartbeats 4000000 in
theorem implReturnCredits_f2 (W : World) (u0 u1 vp : Value) (xs ys : List Int) (p : DPacket) (H0 : RdL shI W u0 xs) (H1 : RdL shI W u1 ys) (Hp : RdL shI W vp p.f7) (h0 : szL shI xs ≤ 1048576) (h1 : szL shI ys ≤ 1048576) (hl : szL shI p.f7 ≤ 1048576) (k : Nat) (u : Int) (hc : clsD p = (k : Int)) (hk3 : k < 3) (hcr : CrdOk xs ys) (hu : untD p = u) (hu0 : 0 ≤ u) (hu9 : u ≤ 1000000) (hw : ¬ xs.getD k 0 + 1 > 30 ∧ ys.getD k 0 + u > 30) : Calls Try.prog 42 #[.agg #[u0, u1], (vPacket p.f0 p.f1 p.f2 p.f3 p.f4 p.f5 p.f6 vp)] W (ResIReturnCredits xs ys false W) := by
  have HSX := Lib.hid H0
  have HSY := Lib.hid H1
  have HP := Lib.hid Hp
  have HXL := Lib.hid h0
  have HYL := Lib.hid h1
  have HL := Lib.hid hl
  obtain ⟨a0, n0, c0, rfl⟩ := RdL.form H0
  obtain ⟨a1, n1, c1, rfl⟩ := RdL.form H1
  clear H0 H1 Hp h0 h1 hl
  unfold vPacket
  have HCO := Lib.hid hcr
  have HC := Lib.hid hc
  have HU := Lib.hid hu
  have HCR := Lib.hid hcr
  have hx1 := crd_at hcr hk3
  obtain ⟨x, hx⟩ : ∃ x, x = xs.getD k 0 := ⟨_, rfl⟩
  obtain ⟨y, hy⟩ : ∃ y, y = ys.getD k 0 := ⟨_, rfl⟩
  rw [← hx, ← hy] at hx1
  obtain ⟨hxl, hyl, hx0, hx30, hy0, hy30⟩ := hx1
  have HX := Lib.hid hx
  have HY := Lib.hid hy
  have HW := Lib.hid hw
  clear hw
  clear hc hu hcr hx hy
  go_enter Try.func42, Try.ntmps42
  have rA1_ := Lib.hid (show ((((W.alloc (.cells #[.slice a0 n0 c0, .slice a1 n1 c1] 54)).alloc (.cells #[.int .i64 p.f0, .int .i64 p.f1, .int .i64 p.f2, .int .i64 p.f3, .int .i64 p.f4, .int .i64 p.f5, .int .i64 p.f6, vp] 29)).alloc (.cells #[.slice none 0 0, .slice none 0 0] 54))).heap[W.heap.size]? = some (.cells #[.slice a0 n0 c0, .slice a1 n1 c1] 54 (0, 0)) from by rw [heap_alloc_old _ _ (by simp only [World.size_alloc]; omega)]; rw [heap_alloc_old _ _ (by simp only [World.size_alloc]; omega)]; exact heap_alloc_new _ _)
  have rK2_ := Lib.hid (show ((((W.alloc (.cells #[.slice a0 n0 c0, .slice a1 n1 c1] 54)).alloc (.cells #[.int .i64 p.f0, .int .i64 p.f1, .int .i64 p.f2, .int .i64 p.f3, .int .i64 p.f4, .int .i64 p.f5, .int .i64 p.f6, vp] 29)).alloc (.cells #[.slice none 0 0, .slice none 0 0] 54))).heap[W.heap.size + 1]? = some (.cells #[.int .i64 p.f0, .int .i64 p.f1, .int .i64 p.f2, .int .i64 p.f3, .int .i64 p.f4, .int .i64 p.f5, .int .i64 p.f6, vp] 29 (0, 0)) from by rw [heap_alloc_old _ _ (by simp only [World.size_alloc]; omega)]; exact heap_pair _ _ _)
  have rR3_ := Lib.hid (show ((((W.alloc (.cells #[.slice a0 n0 c0, .slice a1 n1 c1] 54)).alloc (.cells #[.int .i64 p.f0, .int .i64 p.f1, .int .i64 p.f2, .int .i64 p.f3, .int .i64 p.f4, .int .i64 p.f5, .int .i64 p.f6, vp] 29)).alloc (.cells #[.slice none 0 0, .slice none 0 0] 54))).heap[W.heap.size + 1 + 1]? = some (.cells #[.slice none 0 0, .slice none 0 0] 54 (0, 0)) from by exact heap_trip _ _ _ _)
  have G4_ := Lib.hid (show (W).grownBy ((((W.alloc (.cells #[.slice a0 n0 c0, .slice a1 n1 c1] 54)).alloc (.cells #[.int .i64 p.f0, .int .i64 p.f1, .int .i64 p.f2, .int .i64 p.f3, .int .i64 p.f4, .int .i64 p.f5, .int .i64 p.f6, vp] 29)).alloc (.cells #[.slice none 0 0, .slice none 0 0] 54))) none from (gby_alloc (gby_alloc (gby_alloc (gby_refl _ _) _) _) _))
  have A_0_ : ((((W.alloc (.cells #[.slice a0 n0 c0, .slice a1 n1 c1] 54)).alloc (.cells #[.int .i64 p.f0, .int .i64 p.f1, .int .i64 p.f2, .int .i64 p.f3, .int .i64 p.f4, .int .i64 p.f5, .int .i64 p.f6, vp] 29)).alloc (.cells #[.slice none 0 0, .slice none 0 0] 54))).cell? ⟨W.heap.size, 0, none⟩ = some (.slice a0 n0 c0) := cell_of_row _ _ 0 _ _ _ rA1_.out
  have A_1_ : ((((W.alloc (.cells #[.slice a0 n0 c0, .slice a1 n1 c1] 54)).alloc (.cells #[.int .i64 p.f0, .int .i64 p.f1, .int .i64 p.f2, .int .i64 p.f3, .int .i64 p.f4, .int .i64 p.f5, .int .i64 p.f6, vp] 29)).alloc (.cells #[.slice none 0 0, .slice none 0 0] 54))).cell? ⟨W.heap.size, 1, none⟩ = some (.slice a1 n1 c1) := cell_of_row _ _ 1 _ _ _ rA1_.out
  have K_0_ : ((((W.alloc (.cells #[.slice a0 n0 c0, .slice a1 n1 c1] 54)).alloc (.cells #[.int .i64 p.f0, .int .i64 p.f1, .int .i64 p.f2, .int .i64 p.f3, .int .i64 p.f4, .int .i64 p.f5, .int .i64 p.f6, vp] 29)).alloc (.cells #[.slice none 0 0, .slice none 0 0] 54))).cell? ⟨W.heap.size + 1, 0, none⟩ = some (.int .i64 p.f0) := cell_of_row _ _ 0 _ _ _ rK2_.out
  have K_1_ : ((((W.alloc (.cells #[.slice a0 n0 c0, .slice a1 n1 c1] 54)).alloc (.cells #[.int .i64 p.f0, .int .i64 p.f1, .int .i64 p.f2, .int .i64 p.f3, .int .i64 p.f4, .int .i64 p.f5, .int .i64 p.f6, vp] 29)).alloc (.cells #[.slice none 0 0, .slice none 0 0] 54))).cell? ⟨W.heap.size + 1, 1, none⟩ = some (.int .i64 p.f1) := cell_of_row _ _ 1 _ _ _ rK2_.out
  have K_2_ : ((((W.alloc (.cells #[.slice a0 n0 c0, .slice a1 n1 c1] 54)).alloc (.cells #[.int .i64 p.f0, .int .i64 p.f1, .int .i64 p.f2, .int .i64 p.f3, .int .i64 p.f4, .int .i64 p.f5, .int .i64 p.f6, vp] 29)).alloc (.cells #[.slice none 0 0, .slice none 0 0] 54))).cell? ⟨W.heap.size + 1, 2, none⟩ = some (.int .i64 p.f2) := cell_of_row _ _ 2 _ _ _ rK2_.out
  have K_3_ : ((((W.alloc (.cells #[.slice a0 n0 c0, .slice a1 n1 c1] 54)).alloc (.cells #[.int .i64 p.f0, .int .i64 p.f1, .int .i64 p.f2, .int .i64 p.f3, .int .i64 p.f4, .int .i64 p.f5, .int .i64 p.f6, vp] 29)).alloc (.cells #[.slice none 0 0, .slice none 0 0] 54))).cell? ⟨W.heap.size + 1, 3, none⟩ = some (.int .i64 p.f3) := cell_of_row _ _ 3 _ _ _ rK2_.out
  have K_4_ : ((((W.alloc (.cells #[.slice a0 n0 c0, .slice a1 n1 c1] 54)).alloc (.cells #[.int .i64 p.f0, .int .i64 p.f1, .int .i64 p.f2, .int .i64 p.f3, .int .i64 p.f4, .int .i64 p.f5, .int .i64 p.f6, vp] 29)).alloc (.cells #[.slice none 0 0, .slice none 0 0] 54))).cell? ⟨W.heap.size + 1, 4, none⟩ = some (.int .i64 p.f4) := cell_of_row _ _ 4 _ _ _ rK2_.out
  have K_5_ : ((((W.alloc (.cells #[.slice a0 n0 c0, .slice a1 n1 c1] 54)).alloc (.cells #[.int .i64 p.f0, .int .i64 p.f1, .int .i64 p.f2, .int .i64 p.f3, .int .i64 p.f4, .int .i64 p.f5, .int .i64 p.f6, vp] 29)).alloc (.cells #[.slice none 0 0, .slice none 0 0] 54))).cell? ⟨W.heap.size + 1, 5, none⟩ = some (.int .i64 p.f5) := cell_of_row _ _ 5 _ _ _ rK2_.out
  have K_6_ : ((((W.alloc (.cells #[.slice a0 n0 c0, .slice a1 n1 c1] 54)).alloc (.cells #[.int .i64 p.f0, .int .i64 p.f1, .int .i64 p.f2, .int .i64 p.f3, .int .i64 p.f4, .int .i64 p.f5, .int .i64 p.f6, vp] 29)).alloc (.cells #[.slice none 0 0, .slice none 0 0] 54))).cell? ⟨W.heap.size + 1, 6, none⟩ = some (.int .i64 p.f6) := cell_of_row _ _ 6 _ _ _ rK2_.out
  have K_7_ : ((((W.alloc (.cells #[.slice a0 n0 c0, .slice a1 n1 c1] 54)).alloc (.cells #[.int .i64 p.f0, .int .i64 p.f1, .int .i64 p.f2, .int .i64 p.f3, .int .i64 p.f4, .int .i64 p.f5, .int .i64 p.f6, vp] 29)).alloc (.cells #[.slice none 0 0, .slice none 0 0] 54))).cell? ⟨W.heap.size + 1, 7, none⟩ = some (vp) := cell_of_row _ _ 7 _ _ _ rK2_.out
  have R_0_ : ((((W.alloc (.cells #[.slice a0 n0 c0, .slice a1 n1 c1] 54)).alloc (.cells #[.int .i64 p.f0, .int .i64 p.f1, .int .i64 p.f2, .int .i64 p.f3, .int .i64 p.f4, .int .i64 p.f5, .int .i64 p.f6, vp] 29)).alloc (.cells #[.slice none 0 0, .slice none 0 0] 54))).cell? ⟨W.heap.size + 1 + 1, 0, none⟩ = some (.slice none 0 0) := cell_of_row _ _ 0 _ _ _ rR3_.out
  have R_1_ : ((((W.alloc (.cells #[.slice a0 n0 c0, .slice a1 n1 c1] 54)).alloc (.cells #[.int .i64 p.f0, .int .i64 p.f1, .int .i64 p.f2, .int .i64 p.f3, .int .i64 p.f4, .int .i64 p.f5, .int .i64 p.f6, vp] 29)).alloc (.cells #[.slice none 0 0, .slice none 0 0] 54))).cell? ⟨W.heap.size + 1 + 1, 1, none⟩ = some (.slice none 0 0) := cell_of_row _ _ 1 _ _ _ rR3_.out
  go_wp2_with fail
  go_at_call 87
  refine (copiedCr_d _ _ _ xs ys (HSX.out.grow G4_.out) (HSY.out.grow G4_.out) HXL.out HYL.out).mono ?_
  rintro e w1 ⟨z0, z1, rfl, o, g⟩
  have sz_ := g.size
  try simp only [World.size_alloc] at sz_ o
  clear A_0_ A_1_ K_0_ K_1_ K_2_ K_3_ K_4_ K_5_ K_6_ K_7_ R_0_ R_1_
  have rA5_ := Lib.hid (show (w1).heap[W.heap.size]? = some (.cells #[.slice a0 n0 c0, .slice a1 n1 c1] 54 (0, 0)) from row_held g rA1_.out)
  clear rA1_
  have rK6_ := Lib.hid (show (w1).heap[W.heap.size + 1]? = some (.cells #[.int .i64 p.f0, .int .i64 p.f1, .int .i64 p.f2, .int .i64 p.f3, .int .i64 p.f4, .int .i64 p.f5, .int .i64 p.f6, vp] 29 (0, 0)) from row_held g rK2_.out)
  clear rK2_
  have rR7_ := Lib.hid (show (w1).heap[W.heap.size + 1 + 1]? = some (.cells #[.slice none 0 0, .slice none 0 0] 54 (0, 0)) from row_held g rR3_.out)
  clear rR3_
  have G8_ := Lib.hid (show (W).grownBy (w1) none from gby_trans G4_.out g)
  clear g
  obtain ⟨q0, m0, d0, hv_⟩ := RdL.form (OwU.rd o)
  subst hv_
  obtain ⟨q1, m1, d1, hv_⟩ := RdL.form (OwU.rd (OwU.tail o))
  subst hv_
  unfold vCredits
  have oC9_ := Lib.hid (show OwU (w1) ((W.heap.size + 1 + 1 + 1)) (w1.heap.size) [] [own shI (.slice q0 m0 d0) xs, own shI (.slice q1 m1 d1) ys] from o)
  clear o
  have A_0_ : (w1).cell? ⟨W.heap.size, 0, none⟩ = some (.slice a0 n0 c0) := cell_of_row _ _ 0 _ _ _ rA5_.out
  have A_1_ : (w1).cell? ⟨W.heap.size, 1, none⟩ = some (.slice a1 n1 c1) := cell_of_row _ _ 1 _ _ _ rA5_.out
  have Af0_ : (w1).frozen? ⟨W.heap.size, 0, none⟩ = false := frozen_of_row _ _ 0 _ _ rA5_.out
  have Af1_ : (w1).frozen? ⟨W.heap.size, 1, none⟩ = false := frozen_of_row _ _ 1 _ _ rA5_.out
  have K_0_ : (w1).cell? ⟨W.heap.size + 1, 0, none⟩ = some (.int .i64 p.f0) := cell_of_row _ _ 0 _ _ _ rK6_.out
  have K_1_ : (w1).cell? ⟨W.heap.size + 1, 1, none⟩ = some (.int .i64 p.f1) := cell_of_row _ _ 1 _ _ _ rK6_.out
  have K_2_ : (w1).cell? ⟨W.heap.size + 1, 2, none⟩ = some (.int .i64 p.f2) := cell_of_row _ _ 2 _ _ _ rK6_.out
  have K_3_ : (w1).cell? ⟨W.heap.size + 1, 3, none⟩ = some (.int .i64 p.f3) := cell_of_row _ _ 3 _ _ _ rK6_.out
  have K_4_ : (w1).cell? ⟨W.heap.size + 1, 4, none⟩ = some (.int .i64 p.f4) := cell_of_row _ _ 4 _ _ _ rK6_.out
  have K_5_ : (w1).cell? ⟨W.heap.size + 1, 5, none⟩ = some (.int .i64 p.f5) := cell_of_row _ _ 5 _ _ _ rK6_.out
  have K_6_ : (w1).cell? ⟨W.heap.size + 1, 6, none⟩ = some (.int .i64 p.f6) := cell_of_row _ _ 6 _ _ _ rK6_.out
  have K_7_ : (w1).cell? ⟨W.heap.size + 1, 7, none⟩ = some (vp) := cell_of_row _ _ 7 _ _ _ rK6_.out
  have R_0_ : (w1).cell? ⟨W.heap.size + 1 + 1, 0, none⟩ = some (.slice none 0 0) := cell_of_row _ _ 0 _ _ _ rR7_.out
  have R_1_ : (w1).cell? ⟨W.heap.size + 1 + 1, 1, none⟩ = some (.slice none 0 0) := cell_of_row _ _ 1 _ _ _ rR7_.out
  go_wp2_with fail
  go_at_call 47
  clear A_0_ A_1_ Af0_ Af1_ K_0_ K_1_ K_2_ K_3_ K_4_ K_5_ K_6_ K_7_ R_0_ R_1_
  have rK10_ := Lib.hid (show (((w1.setCell ⟨W.heap.size, 0, none⟩ (.slice q0 m0 d0)).setCell ⟨W.heap.size, 1, none⟩ (.slice q1 m1 d1))).heap[W.heap.size + 1]? = some (.cells #[.int .i64 p.f0, .int .i64 p.f1, .int .i64 p.f2, .int .i64 p.f3, .int .i64 p.f4, .int .i64 p.f5, .int .i64 p.f6, vp] 29 (0, 0)) from (set_far (set_far rK6_.out (by dsimp only; omega)) (by dsimp only; omega)))
  clear rK6_
  have rR11_ := Lib.hid (show (((w1.setCell ⟨W.heap.size, 0, none⟩ (.slice q0 m0 d0)).setCell ⟨W.heap.size, 1, none⟩ (.slice q1 m1 d1))).heap[W.heap.size + 1 + 1]? = some (.cells #[.slice none 0 0, .slice none 0 0] 54 (0, 0)) from (set_far (set_far rR7_.out (by dsimp only; omega)) (by dsimp only; omega)))
  clear rR7_
  have rA12_ := Lib.hid (show (((w1.setCell ⟨W.heap.size, 0, none⟩ (.slice q0 m0 d0)).setCell ⟨W.heap.size, 1, none⟩ (.slice q1 m1 d1))).heap[W.heap.size]? = some (.cells #[.slice q0 m0 d0, .slice q1 m1 d1] 54 (0, 0)) from (heap_setCell_same _ _ 1 _ _ _ (heap_setCell_same _ _ 0 _ _ _ rA5_.out)))
  clear rA5_
  have oC13_ := Lib.hid (show OwU (((w1.setCell ⟨W.heap.size, 0, none⟩ (.slice q0 m0 d0)).setCell ⟨W.heap.size, 1, none⟩ (.slice q1 m1 d1))) ((W.heap.size + 1 + 1 + 1)) (w1.heap.size) [] [own shI (.slice q0 m0 d0) xs, own shI (.slice q1 m1 d1) ys] from (OwU.keep (chg_one _ _ _ _) (by omega) (OwU.keep (chg_one _ _ _ _) (by omega) oC9_.out)))
  clear oC9_
  have G14_ := Lib.hid (show (W).grownBy (((w1.setCell ⟨W.heap.size, 0, none⟩ (.slice q0 m0 d0)).setCell ⟨W.heap.size, 1, none⟩ (.slice q1 m1 d1))) none from (gby_setnew (gby_setnew G8_.out _ (by dsimp only; omega) _) _ (by dsimp only; omega) _))
  have A_0_ : (((w1.setCell ⟨W.heap.size, 0, none⟩ (.slice q0 m0 d0)).setCell ⟨W.heap.size, 1, none⟩ (.slice q1 m1 d1))).cell? ⟨W.heap.size, 0, none⟩ = some (.slice q0 m0 d0) := cell_of_row _ _ 0 _ _ _ rA12_.out
  have A_1_ : (((w1.setCell ⟨W.heap.size, 0, none⟩ (.slice q0 m0 d0)).setCell ⟨W.heap.size, 1, none⟩ (.slice q1 m1 d1))).cell? ⟨W.heap.size, 1, none⟩ = some (.slice q1 m1 d1) := cell_of_row _ _ 1 _ _ _ rA12_.out
  have K_0_ : (((w1.setCell ⟨W.heap.size, 0, none⟩ (.slice q0 m0 d0)).setCell ⟨W.heap.size, 1, none⟩ (.slice q1 m1 d1))).cell? ⟨W.heap.size + 1, 0, none⟩ = some (.int .i64 p.f0) := cell_of_row _ _ 0 _ _ _ rK10_.out
  have K_1_ : (((w1.setCell ⟨W.heap.size, 0, none⟩ (.slice q0 m0 d0)).setCell ⟨W.heap.size, 1, none⟩ (.slice q1 m1 d1))).cell? ⟨W.heap.size + 1, 1, none⟩ = some (.int .i64 p.f1) := cell_of_row _ _ 1 _ _ _ rK10_.out
  have K_2_ : (((w1.setCell ⟨W.heap.size, 0, none⟩ (.slice q0 m0 d0)).setCell ⟨W.heap.size, 1, none⟩ (.slice q1 m1 d1))).cell? ⟨W.heap.size + 1, 2, none⟩ = some (.int .i64 p.f2) := cell_of_row _ _ 2 _ _ _ rK10_.out
  have K_3_ : (((w1.setCell ⟨W.heap.size, 0, none⟩ (.slice q0 m0 d0)).setCell ⟨W.heap.size, 1, none⟩ (.slice q1 m1 d1))).cell? ⟨W.heap.size + 1, 3, none⟩ = some (.int .i64 p.f3) := cell_of_row _ _ 3 _ _ _ rK10_.out
  have K_4_ : (((w1.setCell ⟨W.heap.size, 0, none⟩ (.slice q0 m0 d0)).setCell ⟨W.heap.size, 1, none⟩ (.slice q1 m1 d1))).cell? ⟨W.heap.size + 1, 4, none⟩ = some (.int .i64 p.f4) := cell_of_row _ _ 4 _ _ _ rK10_.out
  have K_5_ : (((w1.setCell ⟨W.heap.size, 0, none⟩ (.slice q0 m0 d0)).setCell ⟨W.heap.size, 1, none⟩ (.slice q1 m1 d1))).cell? ⟨W.heap.size + 1, 5, none⟩ = some (.int .i64 p.f5) := cell_of_row _ _ 5 _ _ _ rK10_.out
  have K_6_ : (((w1.setCell ⟨W.heap.size, 0, none⟩ (.slice q0 m0 d0)).setCell ⟨W.heap.size, 1, none⟩ (.slice q1 m1 d1))).cell? ⟨W.heap.size + 1, 6, none⟩ = some (.int .i64 p.f6) := cell_of_row _ _ 6 _ _ _ rK10_.out
  have K_7_ : (((w1.setCell ⟨W.heap.size, 0, none⟩ (.slice q0 m0 d0)).setCell ⟨W.heap.size, 1, none⟩ (.slice q1 m1 d1))).cell? ⟨W.heap.size + 1, 7, none⟩ = some (vp) := cell_of_row _ _ 7 _ _ _ rK10_.out
  have R_0_ : (((w1.setCell ⟨W.heap.size, 0, none⟩ (.slice q0 m0 d0)).setCell ⟨W.heap.size, 1, none⟩ (.slice q1 m1 d1))).cell? ⟨W.heap.size + 1 + 1, 0, none⟩ = some (.slice none 0 0) := cell_of_row _ _ 0 _ _ _ rR11_.out
  have R_1_ : (((w1.setCell ⟨W.heap.size, 0, none⟩ (.slice q0 m0 d0)).setCell ⟨W.heap.size, 1, none⟩ (.slice q1 m1 d1))).cell? ⟨W.heap.size + 1 + 1, 1, none⟩ = some (.slice none 0 0) := cell_of_row _ _ 1 _ _ _ rR11_.out
  refine (implCrD _ _ _ xs ys (OwU.rd oC13_.out) (OwU.rd (OwU.tail oC13_.out)) HXL.out HYL.out true (by rw [decide_eq_true HCO.out])).mono ?_
  rintro e w2 ⟨rfl, g⟩
  have szw2 := g.size
  try simp only [World.size_setCell] at szw2
  try simp only [World.size_alloc] at szw2
  clear A_0_ A_1_ K_0_ K_1_ K_2_ K_3_ K_4_ K_5_ K_6_ K_7_ R_0_ R_1_
  have rA15_ := Lib.hid (show (w2).heap[W.heap.size]? = some (.cells #[.slice q0 m0 d0, .slice q1 m1 d1] 54 (0, 0)) from row_held g rA12_.out)
  clear rA12_
  have rK16_ := Lib.hid (show (w2).heap[W.heap.size + 1]? = some (.cells #[.int .i64 p.f0, .int .i64 p.f1, .int .i64 p.f2, .int .i64 p.f3, .int .i64 p.f4, .int .i64 p.f5, .int .i64 p.f6, vp] 29 (0, 0)) from row_held g rK10_.out)
  clear rK10_
  have rR17_ := Lib.hid (show (w2).heap[W.heap.size + 1 + 1]? = some (.cells #[.slice none 0 0, .slice none 0 0] 54 (0, 0)) from row_held g rR11_.out)
  clear rR11_
  have oC18_ := Lib.hid (show OwU (w2) ((W.heap.size + 1 + 1 + 1)) (w1.heap.size) [] [own shI (.slice q0 m0 d0) xs, own shI (.slice q1 m1 d1) ys] from OwU.grow oC13_.out g)
  clear oC13_
  have G19_ := Lib.hid (show (W).grownBy (w2) none from gby_trans G14_.out g)
  clear g
  have A_0_ : (w2).cell? ⟨W.heap.size, 0, none⟩ = some (.slice q0 m0 d0) := cell_of_row _ _ 0 _ _ _ rA15_.out
  have A_1_ : (w2).cell? ⟨W.heap.size, 1, none⟩ = some (.slice q1 m1 d1) := cell_of_row _ _ 1 _ _ _ rA15_.out
  have K_0_ : (w2).cell? ⟨W.heap.size + 1, 0, none⟩ = some (.int .i64 p.f0) := cell_of_row _ _ 0 _ _ _ rK16_.out
  have K_1_ : (w2).cell? ⟨W.heap.size + 1, 1, none⟩ = some (.int .i64 p.f1) := cell_of_row _ _ 1 _ _ _ rK16_.out
  have K_2_ : (w2).cell? ⟨W.heap.size + 1, 2, none⟩ = some (.int .i64 p.f2) := cell_of_row _ _ 2 _ _ _ rK16_.out
  have K_3_ : (w2).cell? ⟨W.heap.size + 1, 3, none⟩ = some (.int .i64 p.f3) := cell_of_row _ _ 3 _ _ _ rK16_.out
  have K_4_ : (w2).cell? ⟨W.heap.size + 1, 4, none⟩ = some (.int .i64 p.f4) := cell_of_row _ _ 4 _ _ _ rK16_.out
  have K_5_ : (w2).cell? ⟨W.heap.size + 1, 5, none⟩ = some (.int .i64 p.f5) := cell_of_row _ _ 5 _ _ _ rK16_.out
  have K_6_ : (w2).cell? ⟨W.heap.size + 1, 6, none⟩ = some (.int .i64 p.f6) := cell_of_row _ _ 6 _ _ _ rK16_.out
  have K_7_ : (w2).cell? ⟨W.heap.size + 1, 7, none⟩ = some (vp) := cell_of_row _ _ 7 _ _ _ rK16_.out
  have R_0_ : (w2).cell? ⟨W.heap.size + 1 + 1, 0, none⟩ = some (.slice none 0 0) := cell_of_row _ _ 0 _ _ _ rR17_.out
  have R_1_ : (w2).cell? ⟨W.heap.size + 1 + 1, 1, none⟩ = some (.slice none 0 0) := cell_of_row _ _ 1 _ _ _ rR17_.out
  go_wp2_with fail
  go_at_call 30
  refine (implPkD _ p _ (HP.out.grow G19_.out) HL.out true (by rw [decide_eq_true (by rw [HC.out]; omega)])).mono ?_
  rintro e w3 ⟨rfl, g⟩
  have szw3 := g.size
  try simp only [World.size_alloc] at szw3
  try simp only [World.size_setCell] at szw3
  clear A_0_ A_1_ K_0_ K_1_ K_2_ K_3_ K_4_ K_5_ K_6_ K_7_ R_0_ R_1_
  have rA20_ := Lib.hid (show (w3).heap[W.heap.size]? = some (.cells #[.slice q0 m0 d0, .slice q1 m1 d1] 54 (0, 0)) from row_held g rA15_.out)
  clear rA15_
  have rK21_ := Lib.hid (show (w3).heap[W.heap.size + 1]? = some (.cells #[.int .i64 p.f0, .int .i64 p.f1, .int .i64 p.f2, .int .i64 p.f3, .int .i64 p.f4, .int .i64 p.f5, .int .i64 p.f6, vp] 29 (0, 0)) from row_held g rK16_.out)
  clear rK16_
  have rR22_ := Lib.hid (show (w3).heap[W.heap.size + 1 + 1]? = some (.cells #[.slice none 0 0, .slice none 0 0] 54 (0, 0)) from row_held g rR17_.out)
  clear rR17_
  have oC23_ := Lib.hid (show OwU (w3) ((W.heap.size + 1 + 1 + 1)) (w1.heap.size) [] [own shI (.slice q0 m0 d0) xs, own shI (.slice q1 m1 d1) ys] from OwU.grow oC18_.out g)
  clear oC18_
  have G24_ := Lib.hid (show (W).grownBy (w3) none from gby_trans G19_.out g)
  clear g
  have A_0_ : (w3).cell? ⟨W.heap.size, 0, none⟩ = some (.slice q0 m0 d0) := cell_of_row _ _ 0 _ _ _ rA20_.out
  have A_1_ : (w3).cell? ⟨W.heap.size, 1, none⟩ = some (.slice q1 m1 d1) := cell_of_row _ _ 1 _ _ _ rA20_.out
  have K_0_ : (w3).cell? ⟨W.heap.size + 1, 0, none⟩ = some (.int .i64 p.f0) := cell_of_row _ _ 0 _ _ _ rK21_.out
  have K_1_ : (w3).cell? ⟨W.heap.size + 1, 1, none⟩ = some (.int .i64 p.f1) := cell_of_row _ _ 1 _ _ _ rK21_.out
  have K_2_ : (w3).cell? ⟨W.heap.size + 1, 2, none⟩ = some (.int .i64 p.f2) := cell_of_row _ _ 2 _ _ _ rK21_.out
  have K_3_ : (w3).cell? ⟨W.heap.size + 1, 3, none⟩ = some (.int .i64 p.f3) := cell_of_row _ _ 3 _ _ _ rK21_.out
  have K_4_ : (w3).cell? ⟨W.heap.size + 1, 4, none⟩ = some (.int .i64 p.f4) := cell_of_row _ _ 4 _ _ _ rK21_.out
  have K_5_ : (w3).cell? ⟨W.heap.size + 1, 5, none⟩ = some (.int .i64 p.f5) := cell_of_row _ _ 5 _ _ _ rK21_.out
  have K_6_ : (w3).cell? ⟨W.heap.size + 1, 6, none⟩ = some (.int .i64 p.f6) := cell_of_row _ _ 6 _ _ _ rK21_.out
  have K_7_ : (w3).cell? ⟨W.heap.size + 1, 7, none⟩ = some (vp) := cell_of_row _ _ 7 _ _ _ rK21_.out
  have R_0_ : (w3).cell? ⟨W.heap.size + 1 + 1, 0, none⟩ = some (.slice none 0 0) := cell_of_row _ _ 0 _ _ _ rR22_.out
  have R_1_ : (w3).cell? ⟨W.heap.size + 1 + 1, 1, none⟩ = some (.slice none 0 0) := cell_of_row _ _ 1 _ _ _ rR22_.out
  have HCON := Lib.hid (show ∀ (w : World), w.heap[W.heap.size]? = some (.cells #[.slice q0 m0 d0, .slice q1 m1 d1] 54 (0, 0)) → OwU w (W.heap.size + 1 + 1 + 1) (w1.heap.size) [] [own shI (.slice q0 m0 d0) xs, own shI (.slice q1 m1 d1) ys] → W.grownBy w none → w1.heap.size ≤ w.heap.size → Calls Try.prog 90 #[.pointer (some ⟨W.heap.size, 0, none⟩), .agg #[.int .i64 p.f0, .int .i64 p.f1, .int .i64 p.f2, .int .i64 p.f3, .int .i64 p.f4, .int .i64 p.f5, .int .i64 p.f6, vp]] w (SpPost false (W.heap.size + 1 + 1 + 1) (w1.heap.size) (.slice q0 m0 d0) (.slice q1 m1 d1) xs ys w) from fun w r1 r2 r3 r4 => by
    have q := give_full2 w W.heap.size (W.heap.size + 1 + 1 + 1) (w1.heap.size) k (.slice q0 m0 d0) (.slice q1 m1 d1) vp xs ys p r1 r2 (.inl (by omega)) r4 (HP.out.grow r3) (fun w' gc => HP.out.grow (gby_chg r3 gc (by omega))) HL.out HC.out hk3 HCR.out u HU.out hu0 hu9 ⟨by have := HW.out.1; omega, by have := HW.out.2; omega⟩
    skip
    exact q)
  go_wp2_with fail
  go_at_call 90
  refine (HCON.out _ rA20_.out oC23_.out G24_.out (by omega)).mono ?_
  rintro e w4 ⟨rfl, o, gc⟩
  have szv_ := gc.size
  have NR_ := Lib.hid (show w4.heap[W.heap.size + 1 + 1]? = some (.cells #[.slice none 0 0, .slice none 0 0] 54 (0, 0)) from Chg.keep gc rR22_.out (.inl (by omega)))
  have NA_ := Lib.hid (show w4.heap[W.heap.size]? = some (.cells #[.slice q0 m0 d0, .slice q1 m1 d1] 54 (0, 0)) from Chg.keep gc rA20_.out (.inl (by omega)))
  have NO_ := Lib.hid o
  have NG_ := Lib.hid (gby_chg G24_.out gc (by omega))
  clear o gc
  clear A_0_ A_1_ K_0_ K_1_ K_2_ K_3_ K_4_ K_5_ K_6_ K_7_ R_0_ R_1_
  have G25_ := Lib.hid (show (W).grownBy (w4) none from NG_.out)
  have A_0_ : (w4).cell? ⟨W.heap.size, 0, none⟩ = some (.slice q0 m0 d0) := cell_of_row _ _ 0 _ _ _ NA_.out
  have A_1_ : (w4).cell? ⟨W.heap.size, 1, none⟩ = some (.slice q1 m1 d1) := cell_of_row _ _ 1 _ _ _ NA_.out
  have R_0_ : (w4).cell? ⟨W.heap.size + 1 + 1, 0, none⟩ = some (.slice none 0 0) := cell_of_row _ _ 0 _ _ _ NR_.out
  have R_1_ : (w4).cell? ⟨W.heap.size + 1 + 1, 1, none⟩ = some (.slice none 0 0) := cell_of_row _ _ 1 _ _ _ NR_.out
  clear A_0_ A_1_ R_0_ R_1_
  have A_0_ : (w4).cell? ⟨W.heap.size, 0, none⟩ = some (.slice q0 m0 d0) := cell_of_row _ _ 0 _ _ _ NA_.out
  have A_1_ : (w4).cell? ⟨W.heap.size, 1, none⟩ = some (.slice q1 m1 d1) := cell_of_row _ _ 1 _ _ _ NA_.out
  have R_0_ : (w4).cell? ⟨W.heap.size + 1 + 1, 0, none⟩ = some (.slice none 0 0) := cell_of_row _ _ 0 _ _ _ NR_.out
  have R_1_ : (w4).cell? ⟨W.heap.size + 1 + 1, 1, none⟩ = some (.slice none 0 0) := cell_of_row _ _ 1 _ _ _ NR_.out
  have Rf0_ : (w4).frozen? ⟨W.heap.size + 1 + 1, 0, none⟩ = false := frozen_of_row _ _ 0 _ _ NR_.out
  have Rf1_ : (w4).frozen? ⟨W.heap.size + 1 + 1, 1, none⟩ = false := frozen_of_row _ _ 1 _ _ NR_.out
  have zr_ := Lib.hid (show (((w4.setCell ⟨W.heap.size + 1 + 1, 0, none⟩ (.slice q0 m0 d0)).setCell ⟨W.heap.size + 1 + 1, 1, none⟩ (.slice q1 m1 d1))).heap[W.heap.size + 1 + 1]? = some (.cells #[.slice q0 m0 d0, .slice q1 m1 d1] 54 (0, 0)) from (heap_setCell_same _ _ 1 _ _ _ (heap_setCell_same _ _ 0 _ _ _ NR_.out)))
  have z0_ : (((w4.setCell ⟨W.heap.size + 1 + 1, 0, none⟩ (.slice q0 m0 d0)).setCell ⟨W.heap.size + 1 + 1, 1, none⟩ (.slice q1 m1 d1))).cell? ⟨W.heap.size + 1 + 1, 0, none⟩ = some (.slice q0 m0 d0) := cell_of_row _ _ 0 _ _ _ zr_.out
  have z1_ : (((w4.setCell ⟨W.heap.size + 1 + 1, 0, none⟩ (.slice q0 m0 d0)).setCell ⟨W.heap.size + 1 + 1, 1, none⟩ (.slice q1 m1 d1))).cell? ⟨W.heap.size + 1 + 1, 1, none⟩ = some (.slice q1 m1 d1) := cell_of_row _ _ 1 _ _ _ zr_.out
  go_wp2
  refine bodyPost_ret (v := .tuple #[.agg #[.slice q0 m0 d0, .slice q1 m1 d1], .bool false]) (by simp [results, go_sem, z0_, z1_]) rfl ⟨_, _, rfl, ?_, ?_⟩
  · exact OwU.wide (lo := W.heap.size + 1 + 1 + 1) (by omega) (by simp only [World.size_setCell]; omega) (OwU.keep (chg_one _ _ _ _) (.inr (by omega)) (OwU.keep (chg_one _ _ _ _) (.inr (by omega)) NO_.out))
  · exact (gby_setnew (gby_setnew G25_.out _ (by dsimp only; omega) _) _ (by dsimp only; omega) _)

set_option maxRecDepth 8000 in
set_option maxHeartbeats 4000000 in
theorem implReturnCredits_yes (W : World) (u0 u1 vp : Value) (xs ys : List Int) (p : DPacket) (H0 : RdL shI W u0 xs) (H1 : RdL shI W u1 ys) (Hp : RdL shI W vp p.f7) (h0 : szL shI xs ≤ 1048576) (h1 : szL shI ys ≤ 1048576) (hl : szL shI p.f7 ≤ 1048576) (k : Nat) (u : Int) (hc : clsD p = (k : Int)) (hk3 : k < 3) (hcr : CrdOk xs ys) (hu : untD p = u) (hu0 : 0 ≤ u) (hu9 : u ≤ 1000000) (hw : ¬ xs.getD k 0 + 1 > 30) (hw2 : ¬ ys.getD k 0 + u > 30) : Calls Try.prog 42 #[.agg #[u0, u1], (vPacket p.f0 p.f1 p.f2 p.f3 p.f4 p.f5 p.f6 vp)] W (ResIReturnCredits (xs.set k (xs.getD k 0 + 1)) (ys.set k (ys.getD k 0 + u)) true W) := by
  have HSX := Lib.hid H0
  have HSY := Lib.hid H1
  have HP := Lib.hid Hp
  have HXL := Lib.hid h0
  have HYL := Lib.hid h1
  have HL := Lib.hid hl
  obtain ⟨a0, n0, c0, rfl⟩ := RdL.form H0
  obtain ⟨a1, n1, c1, rfl⟩ := RdL.form H1
  clear H0 H1 Hp h0 h1 hl
  unfold vPacket
  have HCO := Lib.hid hcr
  have HC := Lib.hid hc
  have HU := Lib.hid hu
  have HCR := Lib.hid hcr
  have hx1 := crd_at hcr hk3
  obtain ⟨x, hx⟩ : ∃ x, x = xs.getD k 0 := ⟨_, rfl⟩
  obtain ⟨y, hy⟩ : ∃ y, y = ys.getD k 0 := ⟨_, rfl⟩
  rw [← hx, ← hy] at hx1
  obtain ⟨hxl, hyl, hx0, hx30, hy0, hy30⟩ := hx1
  have HX := Lib.hid hx
  have HY := Lib.hid hy
  have HW := Lib.hid hw
  have HW2 := Lib.hid hw2
  clear hw2
  clear hw
  clear hc hu hcr hx hy
  obtain ⟨rx, hrx⟩ : ∃ r, r = xs.set k (xs.getD k 0 + 1) := ⟨_, rfl⟩
  obtain ⟨ry, hry⟩ : ∃ r, r = ys.set k (ys.getD k 0 + u) := ⟨_, rfl⟩
  have HRX := Lib.hid hrx.symm
  have HRY := Lib.hid hry.symm
  rw [← hrx, ← hry]
  clear hrx hry
  go_enter Try.func42, Try.ntmps42
  have rA1_ := Lib.hid (show ((((W.alloc (.cells #[.slice a0 n0 c0, .slice a1 n1 c1] 54)).alloc (.cells #[.int .i64 p.f0, .int .i64 p.f1, .int .i64 p.f2, .int .i64 p.f3, .int .i64 p.f4, .int .i64 p.f5, .int .i64 p.f6, vp] 29)).alloc (.cells #[.slice none 0 0, .slice none 0 0] 54))).heap[W.heap.size]? = some (.cells #[.slice a0 n0 c0, .slice a1 n1 c1] 54 (0, 0)) from by rw [heap_alloc_old _ _ (by simp only [World.size_alloc]; omega)]; rw [heap_alloc_old _ _ (by simp only [World.size_alloc]; omega)]; exact heap_alloc_new _ _)
  have rK2_ := Lib.hid (show ((((W.alloc (.cells #[.slice a0 n0 c0, .slice a1 n1 c1] 54)).alloc (.cells #[.int .i64 p.f0, .int .i64 p.f1, .int .i64 p.f2, .int .i64 p.f3, .int .i64 p.f4, .int .i64 p.f5, .int .i64 p.f6, vp] 29)).alloc (.cells #[.slice none 0 0, .slice none 0 0] 54))).heap[W.heap.size + 1]? = some (.cells #[.int .i64 p.f0, .int .i64 p.f1, .int .i64 p.f2, .int .i64 p.f3, .int .i64 p.f4, .int .i64 p.f5, .int .i64 p.f6, vp] 29 (0, 0)) from by rw [heap_alloc_old _ _ (by simp only [World.size_alloc]; omega)]; exact heap_pair _ _ _)
  have rR3_ := Lib.hid (show ((((W.alloc (.cells #[.slice a0 n0 c0, .slice a1 n1 c1] 54)).alloc (.cells #[.int .i64 p.f0, .int .i64 p.f1, .int .i64 p.f2, .int .i64 p.f3, .int .i64 p.f4, .int .i64 p.f5, .int .i64 p.f6, vp] 29)).alloc (.cells #[.slice none 0 0, .slice none 0 0] 54))).heap[W.heap.size + 1 + 1]? = some (.cells #[.slice none 0 0, .slice none 0 0] 54 (0, 0)) from by exact heap_trip _ _ _ _)
  have G4_ := Lib.hid (show (W).grownBy ((((W.alloc (.cells #[.slice a0 n0 c0, .slice a1 n1 c1] 54)).alloc (.cells #[.int .i64 p.f0, .int .i64 p.f1, .int .i64 p.f2, .int .i64 p.f3, .int .i64 p.f4, .int .i64 p.f5, .int .i64 p.f6, vp] 29)).alloc (.cells #[.slice none 0 0, .slice none 0 0] 54))) none from (gby_alloc (gby_alloc (gby_alloc (gby_refl _ _) _) _) _))
  have A_0_ : ((((W.alloc (.cells #[.slice a0 n0 c0, .slice a1 n1 c1] 54)).alloc (.cells #[.int .i64 p.f0, .int .i64 p.f1, .int .i64 p.f2, .int .i64 p.f3, .int .i64 p.f4, .int .i64 p.f5, .int .i64 p.f6, vp] 29)).alloc (.cells #[.slice none 0 0, .slice none 0 0] 54))).cell? ⟨W.heap.size, 0, none⟩ = some (.slice a0 n0 c0) := cell_of_row _ _ 0 _ _ _ rA1_.out
  have A_1_ : ((((W.alloc (.cells #[.slice a0 n0 c0, .slice a1 n1 c1] 54)).alloc (.cells #[.int .i64 p.f0, .int .i64 p.f1, .int .i64 p.f2, .int .i64 p.f3, .int .i64 p.f4, .int .i64 p.f5, .int .i64 p.f6, vp] 29)).alloc (.cells #[.slice none 0 0, .slice none 0 0] 54))).cell? ⟨W.heap.size, 1, none⟩ = some (.slice a1 n1 c1) := cell_of_row _ _ 1 _ _ _ rA1_.out
  have K_0_ : ((((W.alloc (.cells #[.slice a0 n0 c0, .slice a1 n1 c1] 54)).alloc (.cells #[.int .i64 p.f0, .int .i64 p.f1, .int .i64 p.f2, .int .i64 p.f3, .int .i64 p.f4, .int .i64 p.f5, .int .i64 p.f6, vp] 29)).alloc (.cells #[.slice none 0 0, .slice none 0 0] 54))).cell? ⟨W.heap.size + 1, 0, none⟩ = some (.int .i64 p.f0) := cell_of_row _ _ 0 _ _ _ rK2_.out
  have K_1_ : ((((W.alloc (.cells #[.slice a0 n0 c0, .slice a1 n1 c1] 54)).alloc (.cells #[.int .i64 p.f0, .int .i64 p.f1, .int .i64 p.f2, .int .i64 p.f3, .int .i64 p.f4, .int .i64 p.f5, .int .i64 p.f6, vp] 29)).alloc (.cells #[.slice none 0 0, .slice none 0 0] 54))).cell? ⟨W.heap.size + 1, 1, none⟩ = some (.int .i64 p.f1) := cell_of_row _ _ 1 _ _ _ rK2_.out
  have K_2_ : ((((W.alloc (.cells #[.slice a0 n0 c0, .slice a1 n1 c1] 54)).alloc (.cells #[.int .i64 p.f0, .int .i64 p.f1, .int .i64 p.f2, .int .i64 p.f3, .int .i64 p.f4, .int .i64 p.f5, .int .i64 p.f6, vp] 29)).alloc (.cells #[.slice none 0 0, .slice none 0 0] 54))).cell? ⟨W.heap.size + 1, 2, none⟩ = some (.int .i64 p.f2) := cell_of_row _ _ 2 _ _ _ rK2_.out
  have K_3_ : ((((W.alloc (.cells #[.slice a0 n0 c0, .slice a1 n1 c1] 54)).alloc (.cells #[.int .i64 p.f0, .int .i64 p.f1, .int .i64 p.f2, .int .i64 p.f3, .int .i64 p.f4, .int .i64 p.f5, .int .i64 p.f6, vp] 29)).alloc (.cells #[.slice none 0 0, .slice none 0 0] 54))).cell? ⟨W.heap.size + 1, 3, none⟩ = some (.int .i64 p.f3) := cell_of_row _ _ 3 _ _ _ rK2_.out
  have K_4_ : ((((W.alloc (.cells #[.slice a0 n0 c0, .slice a1 n1 c1] 54)).alloc (.cells #[.int .i64 p.f0, .int .i64 p.f1, .int .i64 p.f2, .int .i64 p.f3, .int .i64 p.f4, .int .i64 p.f5, .int .i64 p.f6, vp] 29)).alloc (.cells #[.slice none 0 0, .slice none 0 0] 54))).cell? ⟨W.heap.size + 1, 4, none⟩ = some (.int .i64 p.f4) := cell_of_row _ _ 4 _ _ _ rK2_.out
  have K_5_ : ((((W.alloc (.cells #[.slice a0 n0 c0, .slice a1 n1 c1] 54)).alloc (.cells #[.int .i64 p.f0, .int .i64 p.f1, .int .i64 p.f2, .int .i64 p.f3, .int .i64 p.f4, .int .i64 p.f5, .int .i64 p.f6, vp] 29)).alloc (.cells #[.slice none 0 0, .slice none 0 0] 54))).cell? ⟨W.heap.size + 1, 5, none⟩ = some (.int .i64 p.f5) := cell_of_row _ _ 5 _ _ _ rK2_.out
  have K_6_ : ((((W.alloc (.cells #[.slice a0 n0 c0, .slice a1 n1 c1] 54)).alloc (.cells #[.int .i64 p.f0, .int .i64 p.f1, .int .i64 p.f2, .int .i64 p.f3, .int .i64 p.f4, .int .i64 p.f5, .int .i64 p.f6, vp] 29)).alloc (.cells #[.slice none 0 0, .slice none 0 0] 54))).cell? ⟨W.heap.size + 1, 6, none⟩ = some (.int .i64 p.f6) := cell_of_row _ _ 6 _ _ _ rK2_.out
  have K_7_ : ((((W.alloc (.cells #[.slice a0 n0 c0, .slice a1 n1 c1] 54)).alloc (.cells #[.int .i64 p.f0, .int .i64 p.f1, .int .i64 p.f2, .int .i64 p.f3, .int .i64 p.f4, .int .i64 p.f5, .int .i64 p.f6, vp] 29)).alloc (.cells #[.slice none 0 0, .slice none 0 0] 54))).cell? ⟨W.heap.size + 1, 7, none⟩ = some (vp) := cell_of_row _ _ 7 _ _ _ rK2_.out
  have R_0_ : ((((W.alloc (.cells #[.slice a0 n0 c0, .slice a1 n1 c1] 54)).alloc (.cells #[.int .i64 p.f0, .int .i64 p.f1, .int .i64 p.f2, .int .i64 p.f3, .int .i64 p.f4, .int .i64 p.f5, .int .i64 p.f6, vp] 29)).alloc (.cells #[.slice none 0 0, .slice none 0 0] 54))).cell? ⟨W.heap.size + 1 + 1, 0, none⟩ = some (.slice none 0 0) := cell_of_row _ _ 0 _ _ _ rR3_.out
  have R_1_ : ((((W.alloc (.cells #[.slice a0 n0 c0, .slice a1 n1 c1] 54)).alloc (.cells #[.int .i64 p.f0, .int .i64 p.f1, .int .i64 p.f2, .int .i64 p.f3, .int .i64 p.f4, .int .i64 p.f5, .int .i64 p.f6, vp] 29)).alloc (.cells #[.slice none 0 0, .slice none 0 0] 54))).cell? ⟨W.heap.size + 1 + 1, 1, none⟩ = some (.slice none 0 0) := cell_of_row _ _ 1 _ _ _ rR3_.out
  go_wp2_with fail
  go_at_call 87
  refine (copiedCr_d _ _ _ xs ys (HSX.out.grow G4_.out) (HSY.out.grow G4_.out) HXL.out HYL.out).mono ?_
  rintro e w1 ⟨z0, z1, rfl, o, g⟩
  have sz_ := g.size
  try simp only [World.size_alloc] at sz_ o
  clear A_0_ A_1_ K_0_ K_1_ K_2_ K_3_ K_4_ K_5_ K_6_ K_7_ R_0_ R_1_
  have rA5_ := Lib.hid (show (w1).heap[W.heap.size]? = some (.cells #[.slice a0 n0 c0, .slice a1 n1 c1] 54 (0, 0)) from row_held g rA1_.out)
  clear rA1_
  have rK6_ := Lib.hid (show (w1).heap[W.heap.size + 1]? = some (.cells #[.int .i64 p.f0, .int .i64 p.f1, .int .i64 p.f2, .int .i64 p.f3, .int .i64 p.f4, .int .i64 p.f5, .int .i64 p.f6, vp] 29 (0, 0)) from row_held g rK2_.out)
  clear rK2_
  have rR7_ := Lib.hid (show (w1).heap[W.heap.size + 1 + 1]? = some (.cells #[.slice none 0 0, .slice none 0 0] 54 (0, 0)) from row_held g rR3_.out)
  clear rR3_
  have G8_ := Lib.hid (show (W).grownBy (w1) none from gby_trans G4_.out g)
  clear g
  obtain ⟨q0, m0, d0, hv_⟩ := RdL.form (OwU.rd o)
  subst hv_
  obtain ⟨q1, m1, d1, hv_⟩ := RdL.form (OwU.rd (OwU.tail o))
  subst hv_
  unfold vCredits
  have oC9_ := Lib.hid (show OwU (w1) ((W.heap.size + 1 + 1 + 1)) (w1.heap.size) [] [own shI (.slice q0 m0 d0) xs, own shI (.slice q1 m1 d1) ys] from o)
  clear o
  have A_0_ : (w1).cell? ⟨W.heap.size, 0, none⟩ = some (.slice a0 n0 c0) := cell_of_row _ _ 0 _ _ _ rA5_.out
  have A_1_ : (w1).cell? ⟨W.heap.size, 1, none⟩ = some (.slice a1 n1 c1) := cell_of_row _ _ 1 _ _ _ rA5_.out
  have Af0_ : (w1).frozen? ⟨W.heap.size, 0, none⟩ = false := frozen_of_row _ _ 0 _ _ rA5_.out
  have Af1_ : (w1).frozen? ⟨W.heap.size, 1, none⟩ = false := frozen_of_row _ _ 1 _ _ rA5_.out
  have K_0_ : (w1).cell? ⟨W.heap.size + 1, 0, none⟩ = some (.int .i64 p.f0) := cell_of_row _ _ 0 _ _ _ rK6_.out
  have K_1_ : (w1).cell? ⟨W.heap.size + 1, 1, none⟩ = some (.int .i64 p.f1) := cell_of_row _ _ 1 _ _ _ rK6_.out
  have K_2_ : (w1).cell? ⟨W.heap.size + 1, 2, none⟩ = some (.int .i64 p.f2) := cell_of_row _ _ 2 _ _ _ rK6_.out
  have K_3_ : (w1).cell? ⟨W.heap.size + 1, 3, none⟩ = some (.int .i64 p.f3) := cell_of_row _ _ 3 _ _ _ rK6_.out
  have K_4_ : (w1).cell? ⟨W.heap.size + 1, 4, none⟩ = some (.int .i64 p.f4) := cell_of_row _ _ 4 _ _ _ rK6_.out
  have K_5_ : (w1).cell? ⟨W.heap.size + 1, 5, none⟩ = some (.int .i64 p.f5) := cell_of_row _ _ 5 _ _ _ rK6_.out
  have K_6_ : (w1).cell? ⟨W.heap.size + 1, 6, none⟩ = some (.int .i64 p.f6) := cell_of_row _ _ 6 _ _ _ rK6_.out
  have K_7_ : (w1).cell? ⟨W.heap.size + 1, 7, none⟩ = some (vp) := cell_of_row _ _ 7 _ _ _ rK6_.out
  have R_0_ : (w1).cell? ⟨W.heap.size + 1 + 1, 0, none⟩ = some (.slice none 0 0) := cell_of_row _ _ 0 _ _ _ rR7_.out
  have R_1_ : (w1).cell? ⟨W.heap.size + 1 + 1, 1, none⟩ = some (.slice none 0 0) := cell_of_row _ _ 1 _ _ _ rR7_.out
  go_wp2_with fail
  go_at_call 47
  clear A_0_ A_1_ Af0_ Af1_ K_0_ K_1_ K_2_ K_3_ K_4_ K_5_ K_6_ K_7_ R_0_ R_1_
  have rK10_ := Lib.hid (show (((w1.setCell ⟨W.heap.size, 0, none⟩ (.slice q0 m0 d0)).setCell ⟨W.heap.size, 1, none⟩ (.slice q1 m1 d1))).heap[W.heap.size + 1]? = some (.cells #[.int .i64 p.f0, .int .i64 p.f1, .int .i64 p.f2, .int .i64 p.f3, .int .i64 p.f4, .int .i64 p.f5, .int .i64 p.f6, vp] 29 (0, 0)) from (set_far (set_far rK6_.out (by dsimp only; omega)) (by dsimp only; omega)))
  clear rK6_
  have rR11_ := Lib.hid (show (((w1.setCell ⟨W.heap.size, 0, none⟩ (.slice q0 m0 d0)).setCell ⟨W.heap.size, 1, none⟩ (.slice q1 m1 d1))).heap[W.heap.size + 1 + 1]? = some (.cells #[.slice none 0 0, .slice none 0 0] 54 (0, 0)) from (set_far (set_far rR7_.out (by dsimp only; omega)) (by dsimp only; omega)))
  clear rR7_
  have rA12_ := Lib.hid (show (((w1.setCell ⟨W.heap.size, 0, none⟩ (.slice q0 m0 d0)).setCell ⟨W.heap.size, 1, none⟩ (.slice q1 m1 d1))).heap[W.heap.size]? = some (.cells #[.slice q0 m0 d0, .slice q1 m1 d1] 54 (0, 0)) from (heap_setCell_same _ _ 1 _ _ _ (heap_setCell_same _ _ 0 _ _ _ rA5_.out)))
  clear rA5_
  have oC13_ := Lib.hid (show OwU (((w1.setCell ⟨W.heap.size, 0, none⟩ (.slice q0 m0 d0)).setCell ⟨W.heap.size, 1, none⟩ (.slice q1 m1 d1))) ((W.heap.size + 1 + 1 + 1)) (w1.heap.size) [] [own shI (.slice q0 m0 d0) xs, own shI (.slice q1 m1 d1) ys] from (OwU.keep (chg_one _ _ _ _) (by omega) (OwU.keep (chg_one _ _ _ _) (by omega) oC9_.out)))
  clear oC9_
  have G14_ := Lib.hid (show (W).grownBy (((w1.setCell ⟨W.heap.size, 0, none⟩ (.slice q0 m0 d0)).setCell ⟨W.heap.size, 1, none⟩ (.slice q1 m1 d1))) none from (gby_setnew (gby_setnew G8_.out _ (by dsimp only; omega) _) _ (by dsimp only; omega) _))
  have A_0_ : (((w1.setCell ⟨W.heap.size, 0, none⟩ (.slice q0 m0 d0)).setCell ⟨W.heap.size, 1, none⟩ (.slice q1 m1 d1))).cell? ⟨W.heap.size, 0, none⟩ = some (.slice q0 m0 d0) := cell_of_row _ _ 0 _ _ _ rA12_.out
  have A_1_ : (((w1.setCell ⟨W.heap.size, 0, none⟩ (.slice q0 m0 d0)).setCell ⟨W.heap.size, 1, none⟩ (.slice q1 m1 d1))).cell? ⟨W.heap.size, 1, none⟩ = some (.slice q1 m1 d1) := cell_of_row _ _ 1 _ _ _ rA12_.out
  have K_0_ : (((w1.setCell ⟨W.heap.size, 0, none⟩ (.slice q0 m0 d0)).setCell ⟨W.heap.size, 1, none⟩ (.slice q1 m1 d1))).cell? ⟨W.heap.size + 1, 0, none⟩ = some (.int .i64 p.f0) := cell_of_row _ _ 0 _ _ _ rK10_.out
  have K_1_ : (((w1.setCell ⟨W.heap.size, 0, none⟩ (.slice q0 m0 d0)).setCell ⟨W.heap.size, 1, none⟩ (.slice q1 m1 d1))).cell? ⟨W.heap.size + 1, 1, none⟩ = some (.int .i64 p.f1) := cell_of_row _ _ 1 _ _ _ rK10_.out
  have K_2_ : (((w1.setCell ⟨W.heap.size, 0, none⟩ (.slice q0 m0 d0)).setCell ⟨W.heap.size, 1, none⟩ (.slice q1 m1 d1))).cell? ⟨W.heap.size + 1, 2, none⟩ = some (.int .i64 p.f2) := cell_of_row _ _ 2 _ _ _ rK10_.out
  have K_3_ : (((w1.setCell ⟨W.heap.size, 0, none⟩ (.slice q0 m0 d0)).setCell ⟨W.heap.size, 1, none⟩ (.slice q1 m1 d1))).cell? ⟨W.heap.size + 1, 3, none⟩ = some (.int .i64 p.f3) := cell_of_row _ _ 3 _ _ _ rK10_.out
  have K_4_ : (((w1.setCell ⟨W.heap.size, 0, none⟩ (.slice q0 m0 d0)).setCell ⟨W.heap.size, 1, none⟩ (.slice q1 m1 d1))).cell? ⟨W.heap.size + 1, 4, none⟩ = some (.int .i64 p.f4) := cell_of_row _ _ 4 _ _ _ rK10_.out
  have K_5_ : (((w1.setCell ⟨W.heap.size, 0, none⟩ (.slice q0 m0 d0)).setCell ⟨W.heap.size, 1, none⟩ (.slice q1 m1 d1))).cell? ⟨W.heap.size + 1, 5, none⟩ = some (.int .i64 p.f5) := cell_of_row _ _ 5 _ _ _ rK10_.out
  have K_6_ : (((w1.setCell ⟨W.heap.size, 0, none⟩ (.slice q0 m0 d0)).setCell ⟨W.heap.size, 1, none⟩ (.slice q1 m1 d1))).cell? ⟨W.heap.size + 1, 6, none⟩ = some (.int .i64 p.f6) := cell_of_row _ _ 6 _ _ _ rK10_.out
  have K_7_ : (((w1.setCell ⟨W.heap.size, 0, none⟩ (.slice q0 m0 d0)).setCell ⟨W.heap.size, 1, none⟩ (.slice q1 m1 d1))).cell? ⟨W.heap.size + 1, 7, none⟩ = some (vp) := cell_of_row _ _ 7 _ _ _ rK10_.out
  have R_0_ : (((w1.setCell ⟨W.heap.size, 0, none⟩ (.slice q0 m0 d0)).setCell ⟨W.heap.size, 1, none⟩ (.slice q1 m1 d1))).cell? ⟨W.heap.size + 1 + 1, 0, none⟩ = some (.slice none 0 0) := cell_of_row _ _ 0 _ _ _ rR11_.out
  have R_1_ : (((w1.setCell ⟨W.heap.size, 0, none⟩ (.slice q0 m0 d0)).setCell ⟨W.heap.size, 1, none⟩ (.slice q1 m1 d1))).cell? ⟨W.heap.size + 1 + 1, 1, none⟩ = some (.slice none 0 0) := cell_of_row _ _ 1 _ _ _ rR11_.out
  refine (implCrD _ _ _ xs ys (OwU.rd oC13_.out) (OwU.rd (OwU.tail oC13_.out)) HXL.out HYL.out true (by rw [decide_eq_true HCO.out])).mono ?_
  rintro e w2 ⟨rfl, g⟩
  have szw2 := g.size
  try simp only [World.size_setCell] at szw2
  try simp only [World.size_alloc] at szw2
  clear A_0_ A_1_ K_0_ K_1_ K_2_ K_3_ K_4_ K_5_ K_6_ K_7_ R_0_ R_1_
  have rA15_ := Lib.hid (show (w2).heap[W.heap.size]? = some (.cells #[.slice q0 m0 d0, .slice q1 m1 d1] 54 (0, 0)) from row_held g rA12_.out)
  clear rA12_
  have rK16_ := Lib.hid (show (w2).heap[W.heap.size + 1]? = some (.cells #[.int .i64 p.f0, .int .i64 p.f1, .int .i64 p.f2, .int .i64 p.f3, .int .i64 p.f4, .int .i64 p.f5, .int .i64 p.f6, vp] 29 (0, 0)) from row_held g rK10_.out)
  clear rK10_
  have rR17_ := Lib.hid (show (w2).heap[W.heap.size + 1 + 1]? = some (.cells #[.slice none 0 0, .slice none 0 0] 54 (0, 0)) from row_held g rR11_.out)
  clear rR11_
  have oC18_ := Lib.hid (show OwU (w2) ((W.heap.size + 1 + 1 + 1)) (w1.heap.size) [] [own shI (.slice q0 m0 d0) xs, own shI (.slice q1 m1 d1) ys] from OwU.grow oC13_.out g)
  clear oC13_
  have G19_ := Lib.hid (show (W).grownBy (w2) none from gby_trans G14_.out g)
  clear g
  have A_0_ : (w2).cell? ⟨W.heap.size, 0, none⟩ = some (.slice q0 m0 d0) := cell_of_row _ _ 0 _ _ _ rA15_.out
  have A_1_ : (w2).cell? ⟨W.heap.size, 1, none⟩ = some (.slice q1 m1 d1) := cell_of_row _ _ 1 _ _ _ rA15_.out
  have K_0_ : (w2).cell? ⟨W.heap.size + 1, 0, none⟩ = some (.int .i64 p.f0) := cell_of_row _ _ 0 _ _ _ rK16_.out
  have K_1_ : (w2).cell? ⟨W.heap.size + 1, 1, none⟩ = some (.int .i64 p.f1) := cell_of_row _ _ 1 _ _ _ rK16_.out
  have K_2_ : (w2).cell? ⟨W.heap.size + 1, 2, none⟩ = some (.int .i64 p.f2) := cell_of_row _ _ 2 _ _ _ rK16_.out
  have K_3_ : (w2).cell? ⟨W.heap.size + 1, 3, none⟩ = some (.int .i64 p.f3) := cell_of_row _ _ 3 _ _ _ rK16_.out
  have K_4_ : (w2).cell? ⟨W.heap.size + 1, 4, none⟩ = some (.int .i64 p.f4) := cell_of_row _ _ 4 _ _ _ rK16_.out
  have K_5_ : (w2).cell? ⟨W.heap.size + 1, 5, none⟩ = some (.int .i64 p.f5) := cell_of_row _ _ 5 _ _ _ rK16_.out
  have K_6_ : (w2).cell? ⟨W.heap.size + 1, 6, none⟩ = some (.int .i64 p.f6) := cell_of_row _ _ 6 _ _ _ rK16_.out
  have K_7_ : (w2).cell? ⟨W.heap.size + 1, 7, none⟩ = some (vp) := cell_of_row _ _ 7 _ _ _ rK16_.out
  have R_0_ : (w2).cell? ⟨W.heap.size + 1 + 1, 0, none⟩ = some (.slice none 0 0) := cell_of_row _ _ 0 _ _ _ rR17_.out
  have R_1_ : (w2).cell? ⟨W.heap.size + 1 + 1, 1, none⟩ = some (.slice none 0 0) := cell_of_row _ _ 1 _ _ _ rR17_.out
  go_wp2_with fail
  go_at_call 30
  refine (implPkD _ p _ (HP.out.grow G19_.out) HL.out true (by rw [decide_eq_true (by rw [HC.out]; omega)])).mono ?_
  rintro e w3 ⟨rfl, g⟩
  have szw3 := g.size
  try simp only [World.size_alloc] at szw3
  try simp only [World.size_setCell] at szw3
  clear A_0_ A_1_ K_0_ K_1_ K_2_ K_3_ K_4_ K_5_ K_6_ K_7_ R_0_ R_1_
  have rA20_ := Lib.hid (show (w3).heap[W.heap.size]? = some (.cells #[.slice q0 m0 d0, .slice q1 m1 d1] 54 (0, 0)) from row_held g rA15_.out)
  clear rA15_
  have rK21_ := Lib.hid (show (w3).heap[W.heap.size + 1]? = some (.cells #[.int .i64 p.f0, .int .i64 p.f1, .int .i64 p.f2, .int .i64 p.f3, .int .i64 p.f4, .int .i64 p.f5, .int .i64 p.f6, vp] 29 (0, 0)) from row_held g rK16_.out)
  clear rK16_
  have rR22_ := Lib.hid (show (w3).heap[W.heap.size + 1 + 1]? = some (.cells #[.slice none 0 0, .slice none 0 0] 54 (0, 0)) from row_held g rR17_.out)
  clear rR17_
  have oC23_ := Lib.hid (show OwU (w3) ((W.heap.size + 1 + 1 + 1)) (w1.heap.size) [] [own shI (.slice q0 m0 d0) xs, own shI (.slice q1 m1 d1) ys] from OwU.grow oC18_.out g)
  clear oC18_
  have G24_ := Lib.hid (show (W).grownBy (w3) none from gby_trans G19_.out g)
  clear g
  have A_0_ : (w3).cell? ⟨W.heap.size, 0, none⟩ = some (.slice q0 m0 d0) := cell_of_row _ _ 0 _ _ _ rA20_.out
  have A_1_ : (w3).cell? ⟨W.heap.size, 1, none⟩ = some (.slice q1 m1 d1) := cell_of_row _ _ 1 _ _ _ rA20_.out
  have K_0_ : (w3).cell? ⟨W.heap.size + 1, 0, none⟩ = some (.int .i64 p.f0) := cell_of_row _ _ 0 _ _ _ rK21_.out
  have K_1_ : (w3).cell? ⟨W.heap.size + 1, 1, none⟩ = some (.int .i64 p.f1) := cell_of_row _ _ 1 _ _ _ rK21_.out
  have K_2_ : (w3).cell? ⟨W.heap.size + 1, 2, none⟩ = some (.int .i64 p.f2) := cell_of_row _ _ 2 _ _ _ rK21_.out
  have K_3_ : (w3).cell? ⟨W.heap.size + 1, 3, none⟩ = some (.int .i64 p.f3) := cell_of_row _ _ 3 _ _ _ rK21_.out
  have K_4_ : (w3).cell? ⟨W.heap.size + 1, 4, none⟩ = some (.int .i64 p.f4) := cell_of_row _ _ 4 _ _ _ rK21_.out
  have K_5_ : (w3).cell? ⟨W.heap.size + 1, 5, none⟩ = some (.int .i64 p.f5) := cell_of_row _ _ 5 _ _ _ rK21_.out
  have K_6_ : (w3).cell? ⟨W.heap.size + 1, 6, none⟩ = some (.int .i64 p.f6) := cell_of_row _ _ 6 _ _ _ rK21_.out
  have K_7_ : (w3).cell? ⟨W.heap.size + 1, 7, none⟩ = some (vp) := cell_of_row _ _ 7 _ _ _ rK21_.out
  have R_0_ : (w3).cell? ⟨W.heap.size + 1 + 1, 0, none⟩ = some (.slice none 0 0) := cell_of_row _ _ 0 _ _ _ rR22_.out
  have R_1_ : (w3).cell? ⟨W.heap.size + 1 + 1, 1, none⟩ = some (.slice none 0 0) := cell_of_row _ _ 1 _ _ _ rR22_.out
  have HCON := Lib.hid (show ∀ (w : World), w.heap[W.heap.size]? = some (.cells #[.slice q0 m0 d0, .slice q1 m1 d1] 54 (0, 0)) → OwU w (W.heap.size + 1 + 1 + 1) (w1.heap.size) [] [own shI (.slice q0 m0 d0) xs, own shI (.slice q1 m1 d1) ys] → W.grownBy w none → w1.heap.size ≤ w.heap.size → Calls Try.prog 90 #[.pointer (some ⟨W.heap.size, 0, none⟩), .agg #[.int .i64 p.f0, .int .i64 p.f1, .int .i64 p.f2, .int .i64 p.f3, .int .i64 p.f4, .int .i64 p.f5, .int .i64 p.f6, vp]] w (SpPost true (W.heap.size + 1 + 1 + 1) (w1.heap.size) (.slice q0 m0 d0) (.slice q1 m1 d1) rx ry w) from fun w r1 r2 r3 r4 => by
    have q := give_yes w W.heap.size (W.heap.size + 1 + 1 + 1) (w1.heap.size) k (.slice q0 m0 d0) (.slice q1 m1 d1) vp xs ys p r1 r2 (.inl (by omega)) r4 (HP.out.grow r3) (fun w' gc => HP.out.grow (gby_chg r3 gc (by omega))) HL.out HC.out hk3 HCR.out u HU.out hu0 hu9 (by have := HW.out; omega) (by have := HW2.out; omega)
    rw [HRX.out, HRY.out] at q
    exact q)
  go_wp2_with fail
  go_at_call 90
  refine (HCON.out _ rA20_.out oC23_.out G24_.out (by omega)).mono ?_
  rintro e w4 ⟨rfl, o, gc⟩
  have szv_ := gc.size
  have NR_ := Lib.hid (show w4.heap[W.heap.size + 1 + 1]? = some (.cells #[.slice none 0 0, .slice none 0 0] 54 (0, 0)) from Chg.keep gc rR22_.out (.inl (by omega)))
  have NA_ := Lib.hid (show w4.heap[W.heap.size]? = some (.cells #[.slice q0 m0 d0, .slice q1 m1 d1] 54 (0, 0)) from Chg.keep gc rA20_.out (.inl (by omega)))
  have NO_ := Lib.hid o
  have NG_ := Lib.hid (gby_chg G24_.out gc (by omega))
  clear o gc
  clear A_0_ A_1_ K_0_ K_1_ K_2_ K_3_ K_4_ K_5_ K_6_ K_7_ R_0_ R_1_
  have G25_ := Lib.hid (show (W).grownBy (w4) none from NG_.out)
  have A_0_ : (w4).cell? ⟨W.heap.size, 0, none⟩ = some (.slice q0 m0 d0) := cell_of_row _ _ 0 _ _ _ NA_.out
  have A_1_ : (w4).cell? ⟨W.heap.size, 1, none⟩ = some (.slice q1 m1 d1) := cell_of_row _ _ 1 _ _ _ NA_.out
  have R_0_ : (w4).cell? ⟨W.heap.size + 1 + 1, 0, none⟩ = some (.slice none 0 0) := cell_of_row _ _ 0 _ _ _ NR_.out
  have R_1_ : (w4).cell? ⟨W.heap.size + 1 + 1, 1, none⟩ = some (.slice none 0 0) := cell_of_row _ _ 1 _ _ _ NR_.out
  clear A_0_ A_1_ R_0_ R_1_
  have A_0_ : (w4).cell? ⟨W.heap.size, 0, none⟩ = some (.slice q0 m0 d0) := cell_of_row _ _ 0 _ _ _ NA_.out
  have A_1_ : (w4).cell? ⟨W.heap.size, 1, none⟩ = some (.slice q1 m1 d1) := cell_of_row _ _ 1 _ _ _ NA_.out
  have R_0_ : (w4).cell? ⟨W.heap.size + 1 + 1, 0, none⟩ = some (.slice none 0 0) := cell_of_row _ _ 0 _ _ _ NR_.out
  have R_1_ : (w4).cell? ⟨W.heap.size + 1 + 1, 1, none⟩ = some (.slice none 0 0) := cell_of_row _ _ 1 _ _ _ NR_.out
  have Rf0_ : (w4).frozen? ⟨W.heap.size + 1 + 1, 0, none⟩ = false := frozen_of_row _ _ 0 _ _ NR_.out
  have Rf1_ : (w4).frozen? ⟨W.heap.size + 1 + 1, 1, none⟩ = false := frozen_of_row _ _ 1 _ _ NR_.out
  have zr_ := Lib.hid (show (((w4.setCell ⟨W.heap.size + 1 + 1, 0, none⟩ (.slice q0 m0 d0)).setCell ⟨W.heap.size + 1 + 1, 1, none⟩ (.slice q1 m1 d1))).heap[W.heap.size + 1 + 1]? = some (.cells #[.slice q0 m0 d0, .slice q1 m1 d1] 54 (0, 0)) from (heap_setCell_same _ _ 1 _ _ _ (heap_setCell_same _ _ 0 _ _ _ NR_.out)))
  have z0_ : (((w4.setCell ⟨W.heap.size + 1 + 1, 0, none⟩ (.slice q0 m0 d0)).setCell ⟨W.heap.size + 1 + 1, 1, none⟩ (.slice q1 m1 d1))).cell? ⟨W.heap.size + 1 + 1, 0, none⟩ = some (.slice q0 m0 d0) := cell_of_row _ _ 0 _ _ _ zr_.out
  have z1_ : (((w4.setCell ⟨W.heap.size + 1 + 1, 0, none⟩ (.slice q0 m0 d0)).setCell ⟨W.heap.size + 1 + 1, 1, none⟩ (.slice q1 m1 d1))).cell? ⟨W.heap.size + 1 + 1, 1, none⟩ = some (.slice q1 m1 d1) := cell_of_row _ _ 1 _ _ _ zr_.out
  go_wp2
  refine bodyPost_ret (v := .tuple #[.agg #[.slice q0 m0 d0, .slice q1 m1 d1], .bool true]) (by simp [results, go_sem, z0_, z1_]) rfl ⟨_, _, rfl, ?_, ?_⟩
  · exact OwU.wide (lo := W.heap.size + 1 + 1 + 1) (by omega) (by simp only [World.size_setCell]; omega) (OwU.keep (chg_one _ _ _ _) (.inr (by omega)) (OwU.keep (chg_one _ _ _ _) (.inr (by omega)) NO_.out))
  · exact (gby_setnew (gby_setnew G25_.out _ (by dsimp only; omega) _) _ (by dsimp only; omega) _)

end Go.Proofs.Ytgagbhkidponnac
