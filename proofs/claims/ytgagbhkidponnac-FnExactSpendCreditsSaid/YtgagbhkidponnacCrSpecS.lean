/-
  SpendCredits and ReturnCredits of the model.
-/
import Derived.Test.YtgagbhkidponnacCrSp
import Derived.Test.YtgagbhkidponnacBPost0
import Derived.Test.YtgagbhkidponnacRSpendCredits
import Derived.Test.YtgagbhkidponnacRReturnCredits
import Derived.StillTailTactics
namespace Go.Proofs.Ytgagbhkidponnac
open Go Go.RowKit
set_option linter.unusedVariables false

/-- a region whose ways all end in one state: what is behind it is gone through once -/
theorem wp_at {P : Program} {c : Code} {Q : Exit → Act → World → Prop} {a : Act} {w : World} (A : Act) (R : World → Prop) (hreg : c.wp P (fun e a' w' => match e with | .normal => a' = A ∧ R w' | _ => False) a w) (hc : ∀ w', R w' → Q .normal A w') : c.wp P Q a w :=
  Code.wp_mono (fun e a' w' h => by
    cases e
    case normal => obtain ⟨rfl, h⟩ := h; exact hc _ h
    all_goals exact False.elim h) hreg

set_option maxRecDepth 8000 in
set_option maxHeartbeats 2000000 in
theorem specSpendCredits_no (W : World) (u0 u1 vp : Value) (xs ys : List Int) (p : DPacket) (H0 : RdL shI W u0 xs) (H1 : RdL shI W u1 ys) (Hp : RdL shI W vp p.f7) (h0 : szL shI xs ≤ 1048576) (h1 : szL shI ys ≤ 1048576) (hl : szL shI p.f7 ≤ 1048576) (hw : ¬ CanP xs ys (clsD p) (untD p)) : Calls Try.prog 34 #[.agg #[u0, u1], (vPacket p.f0 p.f1 p.f2 p.f3 p.f4 p.f5 p.f6 vp)] W (ResISpendCredits xs ys false W) := by
  have HSX := Lib.hid H0
  have HSY := Lib.hid H1
  have HP := Lib.hid Hp
  have HXL := Lib.hid h0
  have HYL := Lib.hid h1
  have HL := Lib.hid hl
  obtain ⟨a0, n0, c0, rfl⟩ := RdL.form H0
  obtain ⟨a1, n1, c1, rfl⟩ := RdL.form H1
  clear H0 H1 Hp h0 h1 hl
  unfold vPacket
  have HCAN := Lib.hid (show ∀ (W : World) (z0 z1 z2 : Value), RdL shI W z0 xs → RdL shI W z1 ys → RdL shI W z2 p.f7 → Calls Try.prog 83 #[.agg #[z0, z1], .agg #[.int .i64 p.f0, .int .i64 p.f1, .int .i64 p.f2, .int .i64 p.f3, .int .i64 p.f4, .int .i64 p.f5, .int .i64 p.f6, z2]] W (AnsN (.bool false) W) from fun W z0 z1 z2 h0 h1 h2 => by
    have q := specCanD W z0 z1 z2 xs ys p h0 h1 h2 HXL.out HYL.out HL.out
    rw [decide_eq_false hw] at q
    exact q)
  go_enter Try.func34, Try.ntmps34
  have rA1_ := Lib.hid (show ((((W.alloc (.cells #[.slice a0 n0 c0, .slice a1 n1 c1] 54)).alloc (.cells #[.int .i64 p.f0, .int .i64 p.f1, .int .i64 p.f2, .int .i64 p.f3, .int .i64 p.f4, .int .i64 p.f5, .int .i64 p.f6, vp] 29)).alloc (.cells #[.slice none 0 0, .slice none 0 0] 54))).heap[W.heap.size]? = some (.cells #[.slice a0 n0 c0, .slice a1 n1 c1] 54 (0, 0)) from by rw [heap_alloc_old _ _ (by simp only [World.size_alloc]; omega)]; rw [heap_alloc_old _ _ (by simp only [World.size_alloc]; omega)]; exact heap_alloc_new _ _)
  have rK2_ := Lib.hid (show ((((W.alloc (.cells #[.slice a0 n0 c0, .slice a1 n1 c1] 54)).alloc (.cells #[.int .i64 p.f0, .int .i64 p.f1, .int .i64 p.f2, .int .i64 p.f3, .int .i64 p.f4, .int .i64 p.f5, .int .i64 p.f6, vp] 29)).alloc (.cells #[.slice none 0 0, .slice none 0 0] 54))).heap[W.heap.size + 1]? = some (.cells #[.int .i64 p.f0, .int .i64 p.f1, .int .i64 p.f2, .int .i64 p.f3, .int .i64 p.f4, .int .i64 p.f5, .int .i64 p.f6, vp] 29 (0, 0)) from by rw [heap_alloc_old _ _ (by simp only [World.size_alloc]; omega)]; exact heap_pair _ _ _)
  have rR3_ := Lib.hid (show ((((W.alloc (.cells #[.slice a0 n0 c0, .slice a1 n1 c1] 54)).alloc (.cells #[.int .i64 p.f0, .int .i64 p.f1, .int .i64 p.f2, .int .i64 p.f3, .int .i64 p.f4, .int .i64 p.f5, .int .i64 p.f6, vp] 29)).alloc (.cells #[.slice none 0 0, .slice none 0 0] 54))).heap[W.heap.size + 1 + 1]? = some (.cells #[.slice none 0 0, .slice none 0 0] 54 (0, 0)) from by exact heap_trip _ _ _ _)
  have G4_ := Lib.hid (show (W).grownBy ((((W.alloc (.cells #[.slice a0 n0 c0, .slice a1 n1 c1] 54)).alloc (.cells #[.int .i64 p.f0, .int .i64 p.f1, .int .i64 p.f2, .int .i64 p.f3, .int .i64 p.f4, .int .i64 p.f5, .int .i64 p.f6, vp] 29)).alloc (.cells #[.slice none 0 0, .slice none 0 0] 54))) none from (gby_alloc (gby_alloc (gby_alloc (gby_refl _ _) _) _) _))
  have A_0_ : ((((W.alloc (.cells #[.slice a0 n0 c0, .slice a1 n1 c1] 54)).alloc (.cells #[.int .i64 p.f0, .int .i64 p.f1, .int .i64 p.f2, .int .i64 p.f3, .int .i64 p.f4, .int .i64 p.f5, .int .i64 p.f6, vp] 29)).alloc (.cells #[.slice none 0 0, .slice none 0 0] 54))).cell? ⟨W.heap.size, 0, none⟩ = some (.slice a0 n0 c0) := cell_of_row _ _ 0 _ _ _ rA1_.out
  have A_1_ : ((((W.alloc (.cells #[.slice a0 n0 c0, .slice a1 n1 c1] 54)).alloc (.cells #[.int .i64 p.f0, .int .i64 p.f1, .int .i64 p.f2, .int .i64 p.f3, .int .i64 p.f4, .int .i64 p.f5, .int .i64 p.f6, vp] 29)).alloc (.cells #[.slice none 0 0, .slice none 0 0] 54))).cell? ⟨W.heap.size, 1, none⟩ = some (.slice a1 n1 c1) := cell_of_row _ _ 1 _ _ _ rA1_.out
  have K_0_ : ((((W.alloc (.cells #[.slice a0 n0 c0, .slice a1 n1 c1] 54)).alloc (.cells #[.int .i64 p.f0, .int .i64 p.f1, .int .i64 p.f2, .int .i64 p.f3, .int .i64 p.f4, .int .i64 p.f5, .int .i64 p.f6, vp] 29)).alloc (.cells #[.slice none 0 0, .slice none 0 0] 54))).cell? ⟨W.heap.size + 1, 0, none⟩ = some (.int .i64 p.f0) := cell_of_row _ _ 0 _ _ _ rK2_.out
  have K_1_ : ((((W.alloc (.cells #[.slice a0 n0 c0, .slice a1 n1 c1] 54)).alloc (.cells #[.int .i64 p.f0, .int .i64 p.f1, .int .i64 p.f2, .int .i64 p.f3, .int .i64 p.f4, .int .i64 p.f5, .int .i64 p.f6, vp] 29)).alloc (.cells #[.slice none 0 0, .slice none 0 0] 54))).cell? ⟨W.heap.size + 1, 1, none⟩ = some (.int .i64 p.f1) := cell_of_row _ _ 1 _ _ _ rK2_.out
  have K_2_ : ((((W.alloc (.cells #[.slice a0 n0 c0, .slice a1 n1 c1] 54)).alloc (.cells #[.int .i64 p.f0, .int .i64 p.f1, .int .i64 p.f2, .int .i64 p.f3, .int .i64 p.f4, .int .i64 p.f5, .int .i64 p.f6, vp] 29)).alloc (.cells #[.slice none 0 0, .slice none 0 0] 54))).cell? ⟨W.heap.size + 1, 2, none⟩ = some (.int .i64 p.f2) := cell_of_row _ _ 2 _ _ _ rK2_.out
  have K_3_ : ((((W.alloc (.cells #[.slice a0 n0 c0, .slice a1 n1 c1] 54)).alloc (.cells #[.int .i64 p.f0, .int .i64 p.f1, .int .i64 p.f2, .int .i64 p.f3, .int .i64 p.f4, .int .i64 p.f5, .int .i64 p.f6, vp] 29)).alloc (.cells #[.slice none 0 0, .slice none 0 0] 54))).cell? ⟨W.heap.size + 1, 3, none⟩ = some (.int .i64 p.f3) := cell_of_row _ _ 3 _ _ _ rK2_.out
  have K_4_ : ((((W.alloc (.cells #[.slice a0 n0 c0, .slice a1 n1 c1] 54)).alloc (.cells #[.int .i64 p.f0, .int .i64 p.f1, .int .i64 p.f2, .int .i64 p.f3, .int .i64 p.f4, .int .i64 p.f5, .int .i64 p.f6, vp] 29)).alloc (.cells #[.slice none 0 0, .slice none 0 0] 54))).cell? ⟨W.heap.size + 1, 4, none⟩ = some (.int .i64 p.f4) := cell_of_row _ _ 4 _ _ _ rK2_.out
  have K_5_ : ((((W.alloc (.cells #[.slice a0 n0 c0, .slice a1 n1 c1] 54)).alloc (.cells #[.int .i64 p.f0, .int .i64 p.f1, .int .i64 p.f2, .int .i64 p.f3, .int .i64 p.f4, .int .i64 p.f5, .int .i64 p.f6, vp] 29)).alloc (.cells #[.slice none 0 0, .slice none 0 0] 54))).cell? ⟨W.heap.size + 1, 5, none⟩ = some (.int .i64 p.f5) := cell_of_row _ _ 5 _ _ _ rK2_.out
  have K_6_ : ((((W.alloc (.cells #[.slice a0 n0 c0, .slice a1 n1 c1] 54)).alloc (.cells #[.int .i64 p.f0, .int .i64 p.f1, .int .i64 p.f2, .int .i64 p.f3, .int .i64 p.f4, .int .i64 p.f5, .int .i64 p.f6, vp] 29)).alloc (.cells #[.slice none 0 0, .slice none 0 0] 54))).cell? ⟨W.heap.size + 1, 6, none⟩ = some (.int .i64 p.f6) := cell_of_row _ _ 6 _ _ _ rK2_.out
  have K_7_ : ((((W.alloc (.cells #[.slice a0 n0 c0, .slice a1 n1 c1] 54)).alloc (.cells #[.int .i64 p.f0, .int .i64 p.f1, .int .i64 p.f2, .int .i64 p.f3, .int .i64 p.f4, .int .i64 p.f5, .int .i64 p.f6, vp] 29)).alloc (.cells #[.slice none 0 0, .slice none 0 0] 54))).cell? ⟨W.heap.size + 1, 7, none⟩ = some (vp) := cell_of_row _ _ 7 _ _ _ rK2_.out
  have R_0_ : ((((W.alloc (.cells #[.slice a0 n0 c0, .slice a1 n1 c1] 54)).alloc (.cells #[.int .i64 p.f0, .int .i64 p.f1, .int .i64 p.f2, .int .i64 p.f3, .int .i64 p.f4, .int .i64 p.f5, .int .i64 p.f6, vp] 29)).alloc (.cells #[.slice none 0 0, .slice none 0 0] 54))).cell? ⟨W.heap.size + 1 + 1, 0, none⟩ = some (.slice none 0 0) := cell_of_row _ _ 0 _ _ _ rR3_.out
  have R_1_ : ((((W.alloc (.cells #[.slice a0 n0 c0, .slice a1 n1 c1] 54)).alloc (.cells #[.int .i64 p.f0, .int .i64 p.f1, .int .i64 p.f2, .int .i64 p.f3, .int .i64 p.f4, .int .i64 p.f5, .int .i64 p.f6, vp] 29)).alloc (.cells #[.slice none 0 0, .slice none 0 0] 54))).cell? ⟨W.heap.size + 1 + 1, 1, none⟩ = some (.slice none 0 0) := cell_of_row _ _ 1 _ _ _ rR3_.out
  go_wp2_with fail
  go_at_call 82
  refine (l14Copy_d _ _ _ xs ys (HSX.out.grow G4_.out) (HSY.out.grow G4_.out) HXL.out HYL.out).mono ?_
  rintro e w1 ⟨z0, z1, rfl, o, g⟩
  have sz_ := g.size
  try simp only [World.size_alloc] at sz_ o
  clear A_0_ A_1_ K_0_ K_1_ K_2_ K_3_ K_4_ K_5_ K_6_ K_7_ R_0_ R_1_
  have rA5_ := Lib.hid (show (w1).heap[W.heap.size]? = some (.cells #[.slice a0 n0 c0, .slice a1 n1 c1] 54 (0, 0)) from row_held g rA1_.out)
  clear rA1_
  have rK6_ := Lib.hid (show (w1).heap[W.heap.size + 1]? = some (.cells #[.int .i64 p.f0, .int .i64 p.f1, .int .i64 p.f2, .int .i64 p.f3, .int .i64 p.f4, .int .i64 p.f5, .int .i64 p.f6, vp] 29 (0, 0)) from row_held g rK2_.out)
  clear rK2_
  have rR7_ := Lib.hid (show (w1).heap[W.heap.size + 1 + 1]? = some (.cells #[.slice none 0 0, .slice none 0 0] 54 (0, 0)) from row_held g rR3_.out)
  clear rR3_
  have G8_ := Lib.hid (show (W).grownBy (w1) none from gby_trans G4_.out g)
  clear g
  obtain ⟨q0, m0, d0, hv_⟩ := RdL.form (OwU.rd o)
  subst hv_
  obtain ⟨q1, m1, d1, hv_⟩ := RdL.form (OwU.rd (OwU.tail o))
  subst hv_
  unfold vCredits
  have oC9_ := Lib.hid (show OwU (w1) ((W.heap.size + 1 + 1 + 1)) (w1.heap.size) [] [own shI (.slice q0 m0 d0) xs, own shI (.slice q1 m1 d1) ys] from o)
  clear o
  have al_ : (w1).grownBy ((w1).alloc (.cells #[.slice q0 m0 d0, .slice q1 m1 d1] 54)) none := gby_alloc (gby_refl _ _) _
  have rA10_ := Lib.hid (show ((w1.alloc (.cells #[.slice q0 m0 d0, .slice q1 m1 d1] 54))).heap[W.heap.size]? = some (.cells #[.slice a0 n0 c0, .slice a1 n1 c1] 54 (0, 0)) from row_held al_ rA5_.out)
  clear rA5_
  have rK11_ := Lib.hid (show ((w1.alloc (.cells #[.slice q0 m0 d0, .slice q1 m1 d1] 54))).heap[W.heap.size + 1]? = some (.cells #[.int .i64 p.f0, .int .i64 p.f1, .int .i64 p.f2, .int .i64 p.f3, .int .i64 p.f4, .int .i64 p.f5, .int .i64 p.f6, vp] 29 (0, 0)) from row_held al_ rK6_.out)
  clear rK6_
  have rR12_ := Lib.hid (show ((w1.alloc (.cells #[.slice q0 m0 d0, .slice q1 m1 d1] 54))).heap[W.heap.size + 1 + 1]? = some (.cells #[.slice none 0 0, .slice none 0 0] 54 (0, 0)) from row_held al_ rR7_.out)
  clear rR7_
  have oC13_ := Lib.hid (show OwU ((w1.alloc (.cells #[.slice q0 m0 d0, .slice q1 m1 d1] 54))) ((W.heap.size + 1 + 1 + 1)) (w1.heap.size) [] [own shI (.slice q0 m0 d0) xs, own shI (.slice q1 m1 d1) ys] from OwU.grow oC9_.out al_)
  clear oC9_
  have G14_ := Lib.hid (show (W).grownBy ((w1.alloc (.cells #[.slice q0 m0 d0, .slice q1 m1 d1] 54))) none from gby_trans G8_.out al_)
  have rX15_ := Lib.hid (show ((w1.alloc (.cells #[.slice q0 m0 d0, .slice q1 m1 d1] 54))).heap[w1.heap.size]? = some (.cells #[.slice q0 m0 d0, .slice q1 m1 d1] 54 (0, 0)) from by first | exact heap_alloc_new _ _ | exact heap_pair _ _ _ | exact heap_trip _ _ _ _)
  clear al_
  have A_0_ : ((w1.alloc (.cells #[.slice q0 m0 d0, .slice q1 m1 d1] 54))).cell? ⟨W.heap.size, 0, none⟩ = some (.slice a0 n0 c0) := cell_of_row _ _ 0 _ _ _ rA10_.out
  have A_1_ : ((w1.alloc (.cells #[.slice q0 m0 d0, .slice q1 m1 d1] 54))).cell? ⟨W.heap.size, 1, none⟩ = some (.slice a1 n1 c1) := cell_of_row _ _ 1 _ _ _ rA10_.out
  have K_0_ : ((w1.alloc (.cells #[.slice q0 m0 d0, .slice q1 m1 d1] 54))).cell? ⟨W.heap.size + 1, 0, none⟩ = some (.int .i64 p.f0) := cell_of_row _ _ 0 _ _ _ rK11_.out
  have K_1_ : ((w1.alloc (.cells #[.slice q0 m0 d0, .slice q1 m1 d1] 54))).cell? ⟨W.heap.size + 1, 1, none⟩ = some (.int .i64 p.f1) := cell_of_row _ _ 1 _ _ _ rK11_.out
  have K_2_ : ((w1.alloc (.cells #[.slice q0 m0 d0, .slice q1 m1 d1] 54))).cell? ⟨W.heap.size + 1, 2, none⟩ = some (.int .i64 p.f2) := cell_of_row _ _ 2 _ _ _ rK11_.out
  have K_3_ : ((w1.alloc (.cells #[.slice q0 m0 d0, .slice q1 m1 d1] 54))).cell? ⟨W.heap.size + 1, 3, none⟩ = some (.int .i64 p.f3) := cell_of_row _ _ 3 _ _ _ rK11_.out
  have K_4_ : ((w1.alloc (.cells #[.slice q0 m0 d0, .slice q1 m1 d1] 54))).cell? ⟨W.heap.size + 1, 4, none⟩ = some (.int .i64 p.f4) := cell_of_row _ _ 4 _ _ _ rK11_.out
  have K_5_ : ((w1.alloc (.cells #[.slice q0 m0 d0, .slice q1 m1 d1] 54))).cell? ⟨W.heap.size + 1, 5, none⟩ = some (.int .i64 p.f5) := cell_of_row _ _ 5 _ _ _ rK11_.out
  have K_6_ : ((w1.alloc (.cells #[.slice q0 m0 d0, .slice q1 m1 d1] 54))).cell? ⟨W.heap.size + 1, 6, none⟩ = some (.int .i64 p.f6) := cell_of_row _ _ 6 _ _ _ rK11_.out
  have K_7_ : ((w1.alloc (.cells #[.slice q0 m0 d0, .slice q1 m1 d1] 54))).cell? ⟨W.heap.size + 1, 7, none⟩ = some (vp) := cell_of_row _ _ 7 _ _ _ rK11_.out
  have R_0_ : ((w1.alloc (.cells #[.slice q0 m0 d0, .slice q1 m1 d1] 54))).cell? ⟨W.heap.size + 1 + 1, 0, none⟩ = some (.slice none 0 0) := cell_of_row _ _ 0 _ _ _ rR12_.out
  have R_1_ : ((w1.alloc (.cells #[.slice q0 m0 d0, .slice q1 m1 d1] 54))).cell? ⟨W.heap.size + 1 + 1, 1, none⟩ = some (.slice none 0 0) := cell_of_row _ _ 1 _ _ _ rR12_.out
  have X_0_ : ((w1.alloc (.cells #[.slice q0 m0 d0, .slice q1 m1 d1] 54))).cell? ⟨w1.heap.size, 0, none⟩ = some (.slice q0 m0 d0) := cell_of_row _ _ 0 _ _ _ rX15_.out
  have X_1_ : ((w1.alloc (.cells #[.slice q0 m0 d0, .slice q1 m1 d1] 54))).cell? ⟨w1.heap.size, 1, none⟩ = some (.slice q1 m1 d1) := cell_of_row _ _ 1 _ _ _ rX15_.out
  go_wp2_with fail
  go_at_call 83
  refine (HCAN.out _ _ _ _ (HSX.out.grow G14_.out) (HSY.out.grow G14_.out) (HP.out.grow G14_.out)).mono ?_
  rintro e w2 ⟨rfl, g⟩
  have szw2 := g.size
  try simp only [World.size_alloc] at szw2
  try simp only [World.size_setCell] at szw2
  clear A_0_ A_1_ K_0_ K_1_ K_2_ K_3_ K_4_ K_5_ K_6_ K_7_ R_0_ R_1_ X_0_ X_1_
  have rA16_ := Lib.hid (show (w2).heap[W.heap.size]? = some (.cells #[.slice a0 n0 c0, .slice a1 n1 c1] 54 (0, 0)) from row_held g rA10_.out)
  clear rA10_
  have rK17_ := Lib.hid (show (w2).heap[W.heap.size + 1]? = some (.cells #[.int .i64 p.f0, .int .i64 p.f1, .int .i64 p.f2, .int .i64 p.f3, .int .i64 p.f4, .int .i64 p.f5, .int .i64 p.f6, vp] 29 (0, 0)) from row_held g rK11_.out)
  clear rK11_
  have rR18_ := Lib.hid (show (w2).heap[W.heap.size + 1 + 1]? = some (.cells #[.slice none 0 0, .slice none 0 0] 54 (0, 0)) from row_held g rR12_.out)
  clear rR12_
  have rX19_ := Lib.hid (show (w2).heap[w1.heap.size]? = some (.cells #[.slice q0 m0 d0, .slice q1 m1 d1] 54 (0, 0)) from row_held g rX15_.out)
  clear rX15_
  have oC20_ := Lib.hid (show OwU (w2) ((W.heap.size + 1 + 1 + 1)) (w1.heap.size) [] [own shI (.slice q0 m0 d0) xs, own shI (.slice q1 m1 d1) ys] from OwU.grow oC13_.out g)
  clear oC13_
  have G21_ := Lib.hid (show (W).grownBy (w2) none from gby_trans G14_.out g)
  clear g
  have A_0_ : (w2).cell? ⟨W.heap.size, 0, none⟩ = some (.slice a0 n0 c0) := cell_of_row _ _ 0 _ _ _ rA16_.out
  have A_1_ : (w2).cell? ⟨W.heap.size, 1, none⟩ = some (.slice a1 n1 c1) := cell_of_row _ _ 1 _ _ _ rA16_.out
  have K_0_ : (w2).cell? ⟨W.heap.size + 1, 0, none⟩ = some (.int .i64 p.f0) := cell_of_row _ _ 0 _ _ _ rK17_.out
  have K_1_ : (w2).cell? ⟨W.heap.size + 1, 1, none⟩ = some (.int .i64 p.f1) := cell_of_row _ _ 1 _ _ _ rK17_.out
  have K_2_ : (w2).cell? ⟨W.heap.size + 1, 2, none⟩ = some (.int .i64 p.f2) := cell_of_row _ _ 2 _ _ _ rK17_.out
  have K_3_ : (w2).cell? ⟨W.heap.size + 1, 3, none⟩ = some (.int .i64 p.f3) := cell_of_row _ _ 3 _ _ _ rK17_.out
  have K_4_ : (w2).cell? ⟨W.heap.size + 1, 4, none⟩ = some (.int .i64 p.f4) := cell_of_row _ _ 4 _ _ _ rK17_.out
  have K_5_ : (w2).cell? ⟨W.heap.size + 1, 5, none⟩ = some (.int .i64 p.f5) := cell_of_row _ _ 5 _ _ _ rK17_.out
  have K_6_ : (w2).cell? ⟨W.heap.size + 1, 6, none⟩ = some (.int .i64 p.f6) := cell_of_row _ _ 6 _ _ _ rK17_.out
  have K_7_ : (w2).cell? ⟨W.heap.size + 1, 7, none⟩ = some (vp) := cell_of_row _ _ 7 _ _ _ rK17_.out
  have R_0_ : (w2).cell? ⟨W.heap.size + 1 + 1, 0, none⟩ = some (.slice none 0 0) := cell_of_row _ _ 0 _ _ _ rR18_.out
  have R_1_ : (w2).cell? ⟨W.heap.size + 1 + 1, 1, none⟩ = some (.slice none 0 0) := cell_of_row _ _ 1 _ _ _ rR18_.out
  have X_0_ : (w2).cell? ⟨w1.heap.size, 0, none⟩ = some (.slice q0 m0 d0) := cell_of_row _ _ 0 _ _ _ rX19_.out
  have X_1_ : (w2).cell? ⟨w1.heap.size, 1, none⟩ = some (.slice q1 m1 d1) := cell_of_row _ _ 1 _ _ _ rX19_.out
  clear A_0_ A_1_ K_0_ K_1_ K_2_ K_3_ K_4_ K_5_ K_6_ K_7_ R_0_ R_1_ X_0_ X_1_
  have A_0_ : (w2).cell? ⟨W.heap.size, 0, none⟩ = some (.slice a0 n0 c0) := cell_of_row _ _ 0 _ _ _ rA16_.out
  have A_1_ : (w2).cell? ⟨W.heap.size, 1, none⟩ = some (.slice a1 n1 c1) := cell_of_row _ _ 1 _ _ _ rA16_.out
  have K_0_ : (w2).cell? ⟨W.heap.size + 1, 0, none⟩ = some (.int .i64 p.f0) := cell_of_row _ _ 0 _ _ _ rK17_.out
  have K_1_ : (w2).cell? ⟨W.heap.size + 1, 1, none⟩ = some (.int .i64 p.f1) := cell_of_row _ _ 1 _ _ _ rK17_.out
  have K_2_ : (w2).cell? ⟨W.heap.size + 1, 2, none⟩ = some (.int .i64 p.f2) := cell_of_row _ _ 2 _ _ _ rK17_.out
  have K_3_ : (w2).cell? ⟨W.heap.size + 1, 3, none⟩ = some (.int .i64 p.f3) := cell_of_row _ _ 3 _ _ _ rK17_.out
  have K_4_ : (w2).cell? ⟨W.heap.size + 1, 4, none⟩ = some (.int .i64 p.f4) := cell_of_row _ _ 4 _ _ _ rK17_.out
  have K_5_ : (w2).cell? ⟨W.heap.size + 1, 5, none⟩ = some (.int .i64 p.f5) := cell_of_row _ _ 5 _ _ _ rK17_.out
  have K_6_ : (w2).cell? ⟨W.heap.size + 1, 6, none⟩ = some (.int .i64 p.f6) := cell_of_row _ _ 6 _ _ _ rK17_.out
  have K_7_ : (w2).cell? ⟨W.heap.size + 1, 7, none⟩ = some (vp) := cell_of_row _ _ 7 _ _ _ rK17_.out
  have R_0_ : (w2).cell? ⟨W.heap.size + 1 + 1, 0, none⟩ = some (.slice none 0 0) := cell_of_row _ _ 0 _ _ _ rR18_.out
  have R_1_ : (w2).cell? ⟨W.heap.size + 1 + 1, 1, none⟩ = some (.slice none 0 0) := cell_of_row _ _ 1 _ _ _ rR18_.out
  have X_0_ : (w2).cell? ⟨w1.heap.size, 0, none⟩ = some (.slice q0 m0 d0) := cell_of_row _ _ 0 _ _ _ rX19_.out
  have X_1_ : (w2).cell? ⟨w1.heap.size, 1, none⟩ = some (.slice q1 m1 d1) := cell_of_row _ _ 1 _ _ _ rX19_.out
  clear A_0_ A_1_ K_0_ K_1_ K_2_ K_3_ K_4_ K_5_ K_6_ K_7_ R_0_ R_1_ X_0_ X_1_
  have A_0_ : (w2).cell? ⟨W.heap.size, 0, none⟩ = some (.slice a0 n0 c0) := cell_of_row _ _ 0 _ _ _ rA16_.out
  have A_1_ : (w2).cell? ⟨W.heap.size, 1, none⟩ = some (.slice a1 n1 c1) := cell_of_row _ _ 1 _ _ _ rA16_.out
  have K_0_ : (w2).cell? ⟨W.heap.size + 1, 0, none⟩ = some (.int .i64 p.f0) := cell_of_row _ _ 0 _ _ _ rK17_.out
  have K_1_ : (w2).cell? ⟨W.heap.size + 1, 1, none⟩ = some (.int .i64 p.f1) := cell_of_row _ _ 1 _ _ _ rK17_.out
  have K_2_ : (w2).cell? ⟨W.heap.size + 1, 2, none⟩ = some (.int .i64 p.f2) := cell_of_row _ _ 2 _ _ _ rK17_.out
  have K_3_ : (w2).cell? ⟨W.heap.size + 1, 3, none⟩ = some (.int .i64 p.f3) := cell_of_row _ _ 3 _ _ _ rK17_.out
  have K_4_ : (w2).cell? ⟨W.heap.size + 1, 4, none⟩ = some (.int .i64 p.f4) := cell_of_row _ _ 4 _ _ _ rK17_.out
  have K_5_ : (w2).cell? ⟨W.heap.size + 1, 5, none⟩ = some (.int .i64 p.f5) := cell_of_row _ _ 5 _ _ _ rK17_.out
  have K_6_ : (w2).cell? ⟨W.heap.size + 1, 6, none⟩ = some (.int .i64 p.f6) := cell_of_row _ _ 6 _ _ _ rK17_.out
  have K_7_ : (w2).cell? ⟨W.heap.size + 1, 7, none⟩ = some (vp) := cell_of_row _ _ 7 _ _ _ rK17_.out
  have R_0_ : (w2).cell? ⟨W.heap.size + 1 + 1, 0, none⟩ = some (.slice none 0 0) := cell_of_row _ _ 0 _ _ _ rR18_.out
  have R_1_ : (w2).cell? ⟨W.heap.size + 1 + 1, 1, none⟩ = some (.slice none 0 0) := cell_of_row _ _ 1 _ _ _ rR18_.out
  have Rf0_ : (w2).frozen? ⟨W.heap.size + 1 + 1, 0, none⟩ = false := frozen_of_row _ _ 0 _ _ rR18_.out
  have Rf1_ : (w2).frozen? ⟨W.heap.size + 1 + 1, 1, none⟩ = false := frozen_of_row _ _ 1 _ _ rR18_.out
  have X_0_ : (w2).cell? ⟨w1.heap.size, 0, none⟩ = some (.slice q0 m0 d0) := cell_of_row _ _ 0 _ _ _ rX19_.out
  have X_1_ : (w2).cell? ⟨w1.heap.size, 1, none⟩ = some (.slice q1 m1 d1) := cell_of_row _ _ 1 _ _ _ rX19_.out
  have zr_ := Lib.hid (show (((w2.setCell ⟨W.heap.size + 1 + 1, 0, none⟩ (.slice q0 m0 d0)).setCell ⟨W.heap.size + 1 + 1, 1, none⟩ (.slice q1 m1 d1))).heap[W.heap.size + 1 + 1]? = some (.cells #[.slice q0 m0 d0, .slice q1 m1 d1] 54 (0, 0)) from (heap_setCell_same _ _ 1 _ _ _ (heap_setCell_same _ _ 0 _ _ _ rR18_.out)))
  have z0_ : (((w2.setCell ⟨W.heap.size + 1 + 1, 0, none⟩ (.slice q0 m0 d0)).setCell ⟨W.heap.size + 1 + 1, 1, none⟩ (.slice q1 m1 d1))).cell? ⟨W.heap.size + 1 + 1, 0, none⟩ = some (.slice q0 m0 d0) := cell_of_row _ _ 0 _ _ _ zr_.out
  have z1_ : (((w2.setCell ⟨W.heap.size + 1 + 1, 0, none⟩ (.slice q0 m0 d0)).setCell ⟨W.heap.size + 1 + 1, 1, none⟩ (.slice q1 m1 d1))).cell? ⟨W.heap.size + 1 + 1, 1, none⟩ = some (.slice q1 m1 d1) := cell_of_row _ _ 1 _ _ _ zr_.out
  go_wp2
  refine bodyPost_ret (v := .tuple #[.agg #[.slice q0 m0 d0, .slice q1 m1 d1], .bool false]) (by simp [results, go_sem, z0_, z1_]) rfl ⟨_, _, rfl, ?_, ?_⟩
  · exact OwU.wide (lo := W.heap.size + 1 + 1 + 1) (by omega) (by simp only [World.size_setCell]; omega) (OwU.keep (chg_one _ _ _ _) (.inr (by omega)) (OwU.keep (chg_one _ _ _ _) (.inr (by omega)) oC20_.out))
  · exact (gby_setnew (gby_setnew G21_.out _ (by dsimp only; omega) _) _ (by dsimp only; omega) _)

set_option maxRecDepth 8000 in
set_option maxHeartbeats 4000000 in
theorem specSpendCredits_yes (W : World) (u0 u1 vp : Value) (xs ys : List Int) (p : DPacket) (H0 : RdL shI W u0 xs) (H1 : RdL shI W u1 ys) (Hp : RdL shI W vp p.f7) (h0 : szL shI xs ≤ 1048576) (h1 : szL shI ys ≤ 1048576) (hl : szL shI p.f7 ≤ 1048576) (k : Nat) (u : Int) (hc : clsD p = (k : Int)) (hk3 : k < 3) (hcr : CrdOk xs ys) (hu : untD p = u) (hu0 : 0 ≤ u) (hu9 : u ≤ 1000000) (hw : CanP xs ys (clsD p) (untD p)) (hux : u ≤ ys.getD k 0) : Calls Try.prog 34 #[.agg #[u0, u1], (vPacket p.f0 p.f1 p.f2 p.f3 p.f4 p.f5 p.f6 vp)] W (ResISpendCredits (xs.set k (xs.getD k 0 - 1)) (ys.set k (ys.getD k 0 - u)) true W) := by
  have HSX := Lib.hid H0
  have HSY := Lib.hid H1
  have HP := Lib.hid Hp
  have HXL := Lib.hid h0
  have HYL := Lib.hid h1
  have HL := Lib.hid hl
  obtain ⟨a0, n0, c0, rfl⟩ := RdL.form H0
  obtain ⟨a1, n1, c1, rfl⟩ := RdL.form H1
  clear H0 H1 Hp h0 h1 hl
  unfold vPacket
  have HCAN := Lib.hid (show ∀ (W : World) (z0 z1 z2 : Value), RdL shI W z0 xs → RdL shI W z1 ys → RdL shI W z2 p.f7 → Calls Try.prog 83 #[.agg #[z0, z1], .agg #[.int .i64 p.f0, .int .i64 p.f1, .int .i64 p.f2, .int .i64 p.f3, .int .i64 p.f4, .int .i64 p.f5, .int .i64 p.f6, z2]] W (AnsN (.bool true) W) from fun W z0 z1 z2 h0 h1 h2 => by
    have q := specCanD W z0 z1 z2 xs ys p h0 h1 h2 HXL.out HYL.out HL.out
    rw [decide_eq_true hw] at q
    exact q)
  have HC := Lib.hid hc
  have HU := Lib.hid hu
  have HCR := Lib.hid hcr
  have hx1 := crd_at hcr hk3
  obtain ⟨x, hx⟩ : ∃ x, x = xs.getD k 0 := ⟨_, rfl⟩
  obtain ⟨y, hy⟩ : ∃ y, y = ys.getD k 0 := ⟨_, rfl⟩
  rw [← hx, ← hy] at hx1
  obtain ⟨hxl, hyl, hx0, hx30, hy0, hy30⟩ := hx1
  have HX := Lib.hid hx
  have HY := Lib.hid hy
  clear hc hu hcr hx hy
  have HCL := Lib.hid (show ∀ (W : World) (v : Value), RdL shI W v p.f7 → Calls Try.prog 84 #[vPacket p.f0 p.f1 p.f2 p.f3 p.f4 p.f5 p.f6 v] W (AnsN (.int .i64 (k : Int)) W) from fun W v H => by have q := specClsD W p v H HL.out; rw [HC.out] at q; exact q)
  have HUN := Lib.hid (show ∀ (W : World) (v : Value), RdL shI W v p.f7 → Calls Try.prog 85 #[vPacket p.f0 p.f1 p.f2 p.f3 p.f4 p.f5 p.f6 v] W (AnsN (.int .i64 u) W) from fun W v H => by have q := specUntD W p v H HL.out (by rw [HC.out]; omega); rw [HU.out] at q; exact q)
  rw [← HX.out, ← HY.out]
  rw [← HY.out] at hux
  go_enter Try.func34, Try.ntmps34
  have rA1_ := Lib.hid (show ((((W.alloc (.cells #[.slice a0 n0 c0, .slice a1 n1 c1] 54)).alloc (.cells #[.int .i64 p.f0, .int .i64 p.f1, .int .i64 p.f2, .int .i64 p.f3, .int .i64 p.f4, .int .i64 p.f5, .int .i64 p.f6, vp] 29)).alloc (.cells #[.slice none 0 0, .slice none 0 0] 54))).heap[W.heap.size]? = some (.cells #[.slice a0 n0 c0, .slice a1 n1 c1] 54 (0, 0)) from by rw [heap_alloc_old _ _ (by simp only [World.size_alloc]; omega)]; rw [heap_alloc_old _ _ (by simp only [World.size_alloc]; omega)]; exact heap_alloc_new _ _)
  have rK2_ := Lib.hid (show ((((W.alloc (.cells #[.slice a0 n0 c0, .slice a1 n1 c1] 54)).alloc (.cells #[.int .i64 p.f0, .int .i64 p.f1, .int .i64 p.f2, .int .i64 p.f3, .int .i64 p.f4, .int .i64 p.f5, .int .i64 p.f6, vp] 29)).alloc (.cells #[.slice none 0 0, .slice none 0 0] 54))).heap[W.heap.size + 1]? = some (.cells #[.int .i64 p.f0, .int .i64 p.f1, .int .i64 p.f2, .int .i64 p.f3, .int .i64 p.f4, .int .i64 p.f5, .int .i64 p.f6, vp] 29 (0, 0)) from by rw [heap_alloc_old _ _ (by simp only [World.size_alloc]; omega)]; exact heap_pair _ _ _)
  have rR3_ := Lib.hid (show ((((W.alloc (.cells #[.slice a0 n0 c0, .slice a1 n1 c1] 54)).alloc (.cells #[.int .i64 p.f0, .int .i64 p.f1, .int .i64 p.f2, .int .i64 p.f3, .int .i64 p.f4, .int .i64 p.f5, .int .i64 p.f6, vp] 29)).alloc (.cells #[.slice none 0 0, .slice none 0 0] 54))).heap[W.heap.size + 1 + 1]? = some (.cells #[.slice none 0 0, .slice none 0 0] 54 (0, 0)) from by exact heap_trip _ _ _ _)
  have G4_ := Lib.hid (show (W).grownBy ((((W.alloc (.cells #[.slice a0 n0 c0, .slice a1 n1 c1] 54)).alloc (.cells #[.int .i64 p.f0, .int .i64 p.f1, .int .i64 p.f2, .int .i64 p.f3, .int .i64 p.f4, .int .i64 p.f5, .int .i64 p.f6, vp] 29)).alloc (.cells #[.slice none 0 0, .slice none 0 0] 54))) none from (gby_alloc (gby_alloc (gby_alloc (gby_refl _ _) _) _) _))
  have A_0_ : ((((W.alloc (.cells #[.slice a0 n0 c0, .slice a1 n1 c1] 54)).alloc (.cells #[.int .i64 p.f0, .int .i64 p.f1, .int .i64 p.f2, .int .i64 p.f3, .int .i64 p.f4, .int .i64 p.f5, .int .i64 p.f6, vp] 29)).alloc (.cells #[.slice none 0 0, .slice none 0 0] 54))).cell? ⟨W.heap.size, 0, none⟩ = some (.slice a0 n0 c0) := cell_of_row _ _ 0 _ _ _ rA1_.out
  have A_1_ : ((((W.alloc (.cells #[.slice a0 n0 c0, .slice a1 n1 c1] 54)).alloc (.cells #[.int .i64 p.f0, .int .i64 p.f1, .int .i64 p.f2, .int .i64 p.f3, .int .i64 p.f4, .int .i64 p.f5, .int .i64 p.f6, vp] 29)).alloc (.cells #[.slice none 0 0, .slice none 0 0] 54))).cell? ⟨W.heap.size, 1, none⟩ = some (.slice a1 n1 c1) := cell_of_row _ _ 1 _ _ _ rA1_.out
  have K_0_ : ((((W.alloc (.cells #[.slice a0 n0 c0, .slice a1 n1 c1] 54)).alloc (.cells #[.int .i64 p.f0, .int .i64 p.f1, .int .i64 p.f2, .int .i64 p.f3, .int .i64 p.f4, .int .i64 p.f5, .int .i64 p.f6, vp] 29)).alloc (.cells #[.slice none 0 0, .slice none 0 0] 54))).cell? ⟨W.heap.size + 1, 0, none⟩ = some (.int .i64 p.f0) := cell_of_row _ _ 0 _ _ _ rK2_.out
  have K_1_ : ((((W.alloc (.cells #[.slice a0 n0 c0, .slice a1 n1 c1] 54)).alloc (.cells #[.int .i64 p.f0, .int .i64 p.f1, .int .i64 p.f2, .int .i64 p.f3, .int .i64 p.f4, .int .i64 p.f5, .int .i64 p.f6, vp] 29)).alloc (.cells #[.slice none 0 0, .slice none 0 0] 54))).cell? ⟨W.heap.size + 1, 1, none⟩ = some (.int .i64 p.f1) := cell_of_row _ _ 1 _ _ _ rK2_.out
  have K_2_ : ((((W.alloc (.cells #[.slice a0 n0 c0, .slice a1 n1 c1] 54)).alloc (.cells #[.int .i64 p.f0, .int .i64 p.f1, .int .i64 p.f2, .int .i64 p.f3, .int .i64 p.f4, .int .i64 p.f5, .int .i64 p.f6, vp] 29)).alloc (.cells #[.slice none 0 0, .slice none 0 0] 54))).cell? ⟨W.heap.size + 1, 2, none⟩ = some (.int .i64 p.f2) := cell_of_row _ _ 2 _ _ _ rK2_.out
  have K_3_ : ((((W.alloc (.cells #[.slice a0 n0 c0, .slice a1 n1 c1] 54)).alloc (.cells #[.int .i64 p.f0, .int .i64 p.f1, .int .i64 p.f2, .int .i64 p.f3, .int .i64 p.f4, .int .i64 p.f5, .int .i64 p.f6, vp] 29)).alloc (.cells #[.slice none 0 0, .slice none 0 0] 54))).cell? ⟨W.heap.size + 1, 3, none⟩ = some (.int .i64 p.f3) := cell_of_row _ _ 3 _ _ _ rK2_.out
  have K_4_ : ((((W.alloc (.cells #[.slice a0 n0 c0, .slice a1 n1 c1] 54)).alloc (.cells #[.int .i64 p.f0, .int .i64 p.f1, .int .i64 p.f2, .int .i64 p.f3, .int .i64 p.f4, .int .i64 p.f5, .int .i64 p.f6, vp] 29)).alloc (.cells #[.slice none 0 0, .slice none 0 0] 54))).cell? ⟨W.heap.size + 1, 4, none⟩ = some (.int .i64 p.f4) := cell_of_row _ _ 4 _ _ _ rK2_.out
  have K_5_ : ((((W.alloc (.cells #[.slice a0 n0 c0, .slice a1 n1 c1] 54)).alloc (.cells #[.int .i64 p.f0, .int .i64 p.f1, .int .i64 p.f2, .int .i64 p.f3, .int .i64 p.f4, .int .i64 p.f5, .int .i64 p.f6, vp] 29)).alloc (.cells #[.slice none 0 0, .slice none 0 0] 54))).cell? ⟨W.heap.size + 1, 5, none⟩ = some (.int .i64 p.f5) := cell_of_row _ _ 5 _ _ _ rK2_.out
  have K_6_ : ((((W.alloc (.cells #[.slice a0 n0 c0, .slice a1 n1 c1] 54)).alloc (.cells #[.int .i64 p.f0, .int .i64 p.f1, .int .i64 p.f2, .int .i64 p.f3, .int .i64 p.f4, .int .i64 p.f5, .int .i64 p.f6, vp] 29)).alloc (.cells #[.slice none 0 0, .slice none 0 0] 54))).cell? ⟨W.heap.size + 1, 6, none⟩ = some (.int .i64 p.f6) := cell_of_row _ _ 6 _ _ _ rK2_.out
  have K_7_ : ((((W.alloc (.cells #[.slice a0 n0 c0, .slice a1 n1 c1] 54)).alloc (.cells #[.int .i64 p.f0, .int .i64 p.f1, .int .i64 p.f2, .int .i64 p.f3, .int .i64 p.f4, .int .i64 p.f5, .int .i64 p.f6, vp] 29)).alloc (.cells #[.slice none 0 0, .slice none 0 0] 54))).cell? ⟨W.heap.size + 1, 7, none⟩ = some (vp) := cell_of_row _ _ 7 _ _ _ rK2_.out
  have R_0_ : ((((W.alloc (.cells #[.slice a0 n0 c0, .slice a1 n1 c1] 54)).alloc (.cells #[.int .i64 p.f0, .int .i64 p.f1, .int .i64 p.f2, .int .i64 p.f3, .int .i64 p.f4, .int .i64 p.f5, .int .i64 p.f6, vp] 29)).alloc (.cells #[.slice none 0 0, .slice none 0 0] 54))).cell? ⟨W.heap.size + 1 + 1, 0, none⟩ = some (.slice none 0 0) := cell_of_row _ _ 0 _ _ _ rR3_.out
  have R_1_ : ((((W.alloc (.cells #[.slice a0 n0 c0, .slice a1 n1 c1] 54)).alloc (.cells #[.int .i64 p.f0, .int .i64 p.f1, .int .i64 p.f2, .int .i64 p.f3, .int .i64 p.f4, .int .i64 p.f5, .int .i64 p.f6, vp] 29)).alloc (.cells #[.slice none 0 0, .slice none 0 0] 54))).cell? ⟨W.heap.size + 1 + 1, 1, none⟩ = some (.slice none 0 0) := cell_of_row _ _ 1 _ _ _ rR3_.out
  go_wp2_with fail
  go_at_call 82
  refine (l14Copy_d _ _ _ xs ys (HSX.out.grow G4_.out) (HSY.out.grow G4_.out) HXL.out HYL.out).mono ?_
  rintro e w1 ⟨z0, z1, rfl, o, g⟩
  have sz_ := g.size
  try simp only [World.size_alloc] at sz_ o
  clear A_0_ A_1_ K_0_ K_1_ K_2_ K_3_ K_4_ K_5_ K_6_ K_7_ R_0_ R_1_
  have rA5_ := Lib.hid (show (w1).heap[W.heap.size]? = some (.cells #[.slice a0 n0 c0, .slice a1 n1 c1] 54 (0, 0)) from row_held g rA1_.out)
  clear rA1_
  have rK6_ := Lib.hid (show (w1).heap[W.heap.size + 1]? = some (.cells #[.int .i64 p.f0, .int .i64 p.f1, .int .i64 p.f2, .int .i64 p.f3, .int .i64 p.f4, .int .i64 p.f5, .int .i64 p.f6, vp] 29 (0, 0)) from row_held g rK2_.out)
  clear rK2_
  have rR7_ := Lib.hid (show (w1).heap[W.heap.size + 1 + 1]? = some (.cells #[.slice none 0 0, .slice none 0 0] 54 (0, 0)) from row_held g rR3_.out)
  clear rR3_
  have G8_ := Lib.hid (show (W).grownBy (w1) none from gby_trans G4_.out g)
  clear g
  obtain ⟨q0, m0, d0, hv_⟩ := RdL.form (OwU.rd o)
  subst hv_
  obtain ⟨q1, m1, d1, hv_⟩ := RdL.form (OwU.rd (OwU.tail o))
  subst hv_
  unfold vCredits
  have oC9_ := Lib.hid (show OwU (w1) ((W.heap.size + 1 + 1 + 1)) (w1.heap.size) [] [own shI (.slice q0 m0 d0) xs, own shI (.slice q1 m1 d1) ys] from o)
  clear o
  have al_ : (w1).grownBy ((w1).alloc (.cells #[.slice q0 m0 d0, .slice q1 m1 d1] 54)) none := gby_alloc (gby_refl _ _) _
  have rA10_ := Lib.hid (show ((w1.alloc (.cells #[.slice q0 m0 d0, .slice q1 m1 d1] 54))).heap[W.heap.size]? = some (.cells #[.slice a0 n0 c0, .slice a1 n1 c1] 54 (0, 0)) from row_held al_ rA5_.out)
  clear rA5_
  have rK11_ := Lib.hid (show ((w1.alloc (.cells #[.slice q0 m0 d0, .slice q1 m1 d1] 54))).heap[W.heap.size + 1]? = some (.cells #[.int .i64 p.f0, .int .i64 p.f1, .int .i64 p.f2, .int .i64 p.f3, .int .i64 p.f4, .int .i64 p.f5, .int .i64 p.f6, vp] 29 (0, 0)) from row_held al_ rK6_.out)
  clear rK6_
  have rR12_ := Lib.hid (show ((w1.alloc (.cells #[.slice q0 m0 d0, .slice q1 m1 d1] 54))).heap[W.heap.size + 1 + 1]? = some (.cells #[.slice none 0 0, .slice none 0 0] 54 (0, 0)) from row_held al_ rR7_.out)
  clear rR7_
  have oC13_ := Lib.hid (show OwU ((w1.alloc (.cells #[.slice q0 m0 d0, .slice q1 m1 d1] 54))) ((W.heap.size + 1 + 1 + 1)) (w1.heap.size) [] [own shI (.slice q0 m0 d0) xs, own shI (.slice q1 m1 d1) ys] from OwU.grow oC9_.out al_)
  clear oC9_
  have G14_ := Lib.hid (show (W).grownBy ((w1.alloc (.cells #[.slice q0 m0 d0, .slice q1 m1 d1] 54))) none from gby_trans G8_.out al_)
  have rX15_ := Lib.hid (show ((w1.alloc (.cells #[.slice q0 m0 d0, .slice q1 m1 d1] 54))).heap[w1.heap.size]? = some (.cells #[.slice q0 m0 d0, .slice q1 m1 d1] 54 (0, 0)) from by first | exact heap_alloc_new _ _ | exact heap_pair _ _ _ | exact heap_trip _ _ _ _)
  clear al_
  have A_0_ : ((w1.alloc (.cells #[.slice q0 m0 d0, .slice q1 m1 d1] 54))).cell? ⟨W.heap.size, 0, none⟩ = some (.slice a0 n0 c0) := cell_of_row _ _ 0 _ _ _ rA10_.out
  have A_1_ : ((w1.alloc (.cells #[.slice q0 m0 d0, .slice q1 m1 d1] 54))).cell? ⟨W.heap.size, 1, none⟩ = some (.slice a1 n1 c1) := cell_of_row _ _ 1 _ _ _ rA10_.out
  have K_0_ : ((w1.alloc (.cells #[.slice q0 m0 d0, .slice q1 m1 d1] 54))).cell? ⟨W.heap.size + 1, 0, none⟩ = some (.int .i64 p.f0) := cell_of_row _ _ 0 _ _ _ rK11_.out
  have K_1_ : ((w1.alloc (.cells #[.slice q0 m0 d0, .slice q1 m1 d1] 54))).cell? ⟨W.heap.size + 1, 1, none⟩ = some (.int .i64 p.f1) := cell_of_row _ _ 1 _ _ _ rK11_.out
  have K_2_ : ((w1.alloc (.cells #[.slice q0 m0 d0, .slice q1 m1 d1] 54))).cell? ⟨W.heap.size + 1, 2, none⟩ = some (.int .i64 p.f2) := cell_of_row _ _ 2 _ _ _ rK11_.out
  have K_3_ : ((w1.alloc (.cells #[.slice q0 m0 d0, .slice q1 m1 d1] 54))).cell? ⟨W.heap.size + 1, 3, none⟩ = some (.int .i64 p.f3) := cell_of_row _ _ 3 _ _ _ rK11_.out
  have K_4_ : ((w1.alloc (.cells #[.slice q0 m0 d0, .slice q1 m1 d1] 54))).cell? ⟨W.heap.size + 1, 4, none⟩ = some (.int .i64 p.f4) := cell_of_row _ _ 4 _ _ _ rK11_.out
  have K_5_ : ((w1.alloc (.cells #[.slice q0 m0 d0, .slice q1 m1 d1] 54))).cell? ⟨W.heap.size + 1, 5, none⟩ = some (.int .i64 p.f5) := cell_of_row _ _ 5 _ _ _ rK11_.out
  have K_6_ : ((w1.alloc (.cells #[.slice q0 m0 d0, .slice q1 m1 d1] 54))).cell? ⟨W.heap.size + 1, 6, none⟩ = some (.int .i64 p.f6) := cell_of_row _ _ 6 _ _ _ rK11_.out
  have K_7_ : ((w1.alloc (.cells #[.slice q0 m0 d0, .slice q1 m1 d1] 54))).cell? ⟨W.heap.size + 1, 7, none⟩ = some (vp) := cell_of_row _ _ 7 _ _ _ rK11_.out
  have R_0_ : ((w1.alloc (.cells #[.slice q0 m0 d0, .slice q1 m1 d1] 54))).cell? ⟨W.heap.size + 1 + 1, 0, none⟩ = some (.slice none 0 0) := cell_of_row _ _ 0 _ _ _ rR12_.out
  have R_1_ : ((w1.alloc (.cells #[.slice q0 m0 d0, .slice q1 m1 d1] 54))).cell? ⟨W.heap.size + 1 + 1, 1, none⟩ = some (.slice none 0 0) := cell_of_row _ _ 1 _ _ _ rR12_.out
  have X_0_ : ((w1.alloc (.cells #[.slice q0 m0 d0, .slice q1 m1 d1] 54))).cell? ⟨w1.heap.size, 0, none⟩ = some (.slice q0 m0 d0) := cell_of_row _ _ 0 _ _ _ rX15_.out
  have X_1_ : ((w1.alloc (.cells #[.slice q0 m0 d0, .slice q1 m1 d1] 54))).cell? ⟨w1.heap.size, 1, none⟩ = some (.slice q1 m1 d1) := cell_of_row _ _ 1 _ _ _ rX15_.out
  go_wp2_with fail
  go_at_call 83
  refine (HCAN.out _ _ _ _ (HSX.out.grow G14_.out) (HSY.out.grow G14_.out) (HP.out.grow G14_.out)).mono ?_
  rintro e w2 ⟨rfl, g⟩
  have szw2 := g.size
  try simp only [World.size_alloc] at szw2
  try simp only [World.size_setCell] at szw2
  clear A_0_ A_1_ K_0_ K_1_ K_2_ K_3_ K_4_ K_5_ K_6_ K_7_ R_0_ R_1_ X_0_ X_1_
  have rA16_ := Lib.hid (show (w2).heap[W.heap.size]? = some (.cells #[.slice a0 n0 c0, .slice a1 n1 c1] 54 (0, 0)) from row_held g rA10_.out)
  clear rA10_
  have rK17_ := Lib.hid (show (w2).heap[W.heap.size + 1]? = some (.cells #[.int .i64 p.f0, .int .i64 p.f1, .int .i64 p.f2, .int .i64 p.f3, .int .i64 p.f4, .int .i64 p.f5, .int .i64 p.f6, vp] 29 (0, 0)) from row_held g rK11_.out)
  clear rK11_
  have rR18_ := Lib.hid (show (w2).heap[W.heap.size + 1 + 1]? = some (.cells #[.slice none 0 0, .slice none 0 0] 54 (0, 0)) from row_held g rR12_.out)
  clear rR12_
  have rX19_ := Lib.hid (show (w2).heap[w1.heap.size]? = some (.cells #[.slice q0 m0 d0, .slice q1 m1 d1] 54 (0, 0)) from row_held g rX15_.out)
  clear rX15_
  have oC20_ := Lib.hid (show OwU (w2) ((W.heap.size + 1 + 1 + 1)) (w1.heap.size) [] [own shI (.slice q0 m0 d0) xs, own shI (.slice q1 m1 d1) ys] from OwU.grow oC13_.out g)
  clear oC13_
  have G21_ := Lib.hid (show (W).grownBy (w2) none from gby_trans G14_.out g)
  clear g
  have A_0_ : (w2).cell? ⟨W.heap.size, 0, none⟩ = some (.slice a0 n0 c0) := cell_of_row _ _ 0 _ _ _ rA16_.out
  have A_1_ : (w2).cell? ⟨W.heap.size, 1, none⟩ = some (.slice a1 n1 c1) := cell_of_row _ _ 1 _ _ _ rA16_.out
  have K_0_ : (w2).cell? ⟨W.heap.size + 1, 0, none⟩ = some (.int .i64 p.f0) := cell_of_row _ _ 0 _ _ _ rK17_.out
  have K_1_ : (w2).cell? ⟨W.heap.size + 1, 1, none⟩ = some (.int .i64 p.f1) := cell_of_row _ _ 1 _ _ _ rK17_.out
  have K_2_ : (w2).cell? ⟨W.heap.size + 1, 2, none⟩ = some (.int .i64 p.f2) := cell_of_row _ _ 2 _ _ _ rK17_.out
  have K_3_ : (w2).cell? ⟨W.heap.size + 1, 3, none⟩ = some (.int .i64 p.f3) := cell_of_row _ _ 3 _ _ _ rK17_.out
  have K_4_ : (w2).cell? ⟨W.heap.size + 1, 4, none⟩ = some (.int .i64 p.f4) := cell_of_row _ _ 4 _ _ _ rK17_.out
  have K_5_ : (w2).cell? ⟨W.heap.size + 1, 5, none⟩ = some (.int .i64 p.f5) := cell_of_row _ _ 5 _ _ _ rK17_.out
  have K_6_ : (w2).cell? ⟨W.heap.size + 1, 6, none⟩ = some (.int .i64 p.f6) := cell_of_row _ _ 6 _ _ _ rK17_.out
  have K_7_ : (w2).cell? ⟨W.heap.size + 1, 7, none⟩ = some (vp) := cell_of_row _ _ 7 _ _ _ rK17_.out
  have R_0_ : (w2).cell? ⟨W.heap.size + 1 + 1, 0, none⟩ = some (.slice none 0 0) := cell_of_row _ _ 0 _ _ _ rR18_.out
  have R_1_ : (w2).cell? ⟨W.heap.size + 1 + 1, 1, none⟩ = some (.slice none 0 0) := cell_of_row _ _ 1 _ _ _ rR18_.out
  have X_0_ : (w2).cell? ⟨w1.heap.size, 0, none⟩ = some (.slice q0 m0 d0) := cell_of_row _ _ 0 _ _ _ rX19_.out
  have X_1_ : (w2).cell? ⟨w1.heap.size, 1, none⟩ = some (.slice q1 m1 d1) := cell_of_row _ _ 1 _ _ _ rX19_.out
  go_wp2_with fail
  go_at_call 84
  refine (HCL.out _ _ (HP.out.grow G21_.out)).mono ?_
  rintro e w3 ⟨rfl, g⟩
  have szw3 := g.size
  try simp only [World.size_alloc] at szw3
  try simp only [World.size_setCell] at szw3
  clear A_0_ A_1_ K_0_ K_1_ K_2_ K_3_ K_4_ K_5_ K_6_ K_7_ R_0_ R_1_ X_0_ X_1_
  have rA22_ := Lib.hid (show (w3).heap[W.heap.size]? = some (.cells #[.slice a0 n0 c0, .slice a1 n1 c1] 54 (0, 0)) from row_held g rA16_.out)
  clear rA16_
  have rK23_ := Lib.hid (show (w3).heap[W.heap.size + 1]? = some (.cells #[.int .i64 p.f0, .int .i64 p.f1, .int .i64 p.f2, .int .i64 p.f3, .int .i64 p.f4, .int .i64 p.f5, .int .i64 p.f6, vp] 29 (0, 0)) from row_held g rK17_.out)
  clear rK17_
  have rR24_ := Lib.hid (show (w3).heap[W.heap.size + 1 + 1]? = some (.cells #[.slice none 0 0, .slice none 0 0] 54 (0, 0)) from row_held g rR18_.out)
  clear rR18_
  have rX25_ := Lib.hid (show (w3).heap[w1.heap.size]? = some (.cells #[.slice q0 m0 d0, .slice q1 m1 d1] 54 (0, 0)) from row_held g rX19_.out)
  clear rX19_
  have oC26_ := Lib.hid (show OwU (w3) ((W.heap.size + 1 + 1 + 1)) (w1.heap.size) [] [own shI (.slice q0 m0 d0) xs, own shI (.slice q1 m1 d1) ys] from OwU.grow oC20_.out g)
  clear oC20_
  have G27_ := Lib.hid (show (W).grownBy (w3) none from gby_trans G21_.out g)
  clear g
  have A_0_ : (w3).cell? ⟨W.heap.size, 0, none⟩ = some (.slice a0 n0 c0) := cell_of_row _ _ 0 _ _ _ rA22_.out
  have A_1_ : (w3).cell? ⟨W.heap.size, 1, none⟩ = some (.slice a1 n1 c1) := cell_of_row _ _ 1 _ _ _ rA22_.out
  have K_0_ : (w3).cell? ⟨W.heap.size + 1, 0, none⟩ = some (.int .i64 p.f0) := cell_of_row _ _ 0 _ _ _ rK23_.out
  have K_1_ : (w3).cell? ⟨W.heap.size + 1, 1, none⟩ = some (.int .i64 p.f1) := cell_of_row _ _ 1 _ _ _ rK23_.out
  have K_2_ : (w3).cell? ⟨W.heap.size + 1, 2, none⟩ = some (.int .i64 p.f2) := cell_of_row _ _ 2 _ _ _ rK23_.out
  have K_3_ : (w3).cell? ⟨W.heap.size + 1, 3, none⟩ = some (.int .i64 p.f3) := cell_of_row _ _ 3 _ _ _ rK23_.out
  have K_4_ : (w3).cell? ⟨W.heap.size + 1, 4, none⟩ = some (.int .i64 p.f4) := cell_of_row _ _ 4 _ _ _ rK23_.out
  have K_5_ : (w3).cell? ⟨W.heap.size + 1, 5, none⟩ = some (.int .i64 p.f5) := cell_of_row _ _ 5 _ _ _ rK23_.out
  have K_6_ : (w3).cell? ⟨W.heap.size + 1, 6, none⟩ = some (.int .i64 p.f6) := cell_of_row _ _ 6 _ _ _ rK23_.out
  have K_7_ : (w3).cell? ⟨W.heap.size + 1, 7, none⟩ = some (vp) := cell_of_row _ _ 7 _ _ _ rK23_.out
  have R_0_ : (w3).cell? ⟨W.heap.size + 1 + 1, 0, none⟩ = some (.slice none 0 0) := cell_of_row _ _ 0 _ _ _ rR24_.out
  have R_1_ : (w3).cell? ⟨W.heap.size + 1 + 1, 1, none⟩ = some (.slice none 0 0) := cell_of_row _ _ 1 _ _ _ rR24_.out
  have X_0_ : (w3).cell? ⟨w1.heap.size, 0, none⟩ = some (.slice q0 m0 d0) := cell_of_row _ _ 0 _ _ _ rX25_.out
  have X_1_ : (w3).cell? ⟨w1.heap.size, 1, none⟩ = some (.slice q1 m1 d1) := cell_of_row _ _ 1 _ _ _ rX25_.out
  clear A_0_ A_1_ K_0_ K_1_ K_2_ K_3_ K_4_ K_5_ K_6_ K_7_ R_0_ R_1_ X_0_ X_1_
  obtain ⟨b0, o0, e0_, hv0, l0, h0, ce0, fr0, st0⟩ := cset1 oC26_.out k (by omega)
  obtain ⟨b1, o1, e1_, hv1, l1, h1, _, _, _⟩ := cset2 oC26_.out k (by omega)
  injection hv0 with v0a v0b v0c
  injection hv1 with v1a v1b v1c
  have v0d := v0b.trans hxl
  have v1d := v1b.trans hyl
  subst v0a v0c v1a v1c
  clear v0b v1b
  subst v0d v1d
  rw [← HX.out] at ce0
  have hk0 : (0 : Int) ≤ (k : Int) := by omega
  have htk : ((k : Int)).toNat = k := by omega
  have hkx : (k : Int) < (xs.length : Int) := by omega
  have hky : (k : Int) < (ys.length : Int) := by omega
  have hk3i : (k : Int) < 3 := by omega
  have w1_ : IntKind.i64.wrap (x - 1) = x - 1 := IntWalk.i64_in _ (by omega)
  have w2_ : IntKind.i64.wrap (y - u) = y - u := IntWalk.i64_in _ (by omega)
  have HS0 := Lib.hid (st0 (x - 1))
  clear st0
  have n0a_ : ¬ w1.heap.size = b0 := by omega
  have n0b_ : ¬ b0 = w1.heap.size := by omega
  have n1a_ : ¬ w1.heap.size = b1 := by omega
  have n1b_ : ¬ b1 = w1.heap.size := by omega
  have n2a_ : ¬ W.heap.size + 1 = b0 := by omega
  have n2b_ : ¬ b0 = W.heap.size + 1 := by omega
  have n3a_ : ¬ W.heap.size + 1 = b1 := by omega
  have n3b_ : ¬ b1 = W.heap.size + 1 := by omega
  have n4a_ : ¬ W.heap.size + 1 + 1 = b0 := by omega
  have n4b_ : ¬ b0 = W.heap.size + 1 + 1 := by omega
  have n5a_ : ¬ W.heap.size + 1 + 1 = b1 := by omega
  have n5b_ : ¬ b1 = W.heap.size + 1 + 1 := by omega
  have nXR : ¬ w1.heap.size = W.heap.size + 1 + 1 := by omega
  have nRX : ¬ W.heap.size + 1 + 1 = w1.heap.size := by omega
  have X_0_ : (w3).cell? ⟨w1.heap.size, 0, none⟩ = some (.slice (some ⟨b0, o0, none⟩) 3 d0) := cell_of_row _ _ 0 _ _ _ rX25_.out
  have X_1_ : (w3).cell? ⟨w1.heap.size, 1, none⟩ = some (.slice (some ⟨b1, o1, none⟩) 3 d1) := cell_of_row _ _ 1 _ _ _ rX25_.out
  go_wp2_with fail
  go_still_tail 10, (by kernel_rfl)
  change wpList _ _ _ _ _ (w3).drew
  have gd_ : (w3).grownBy (w3).drew none := gby_drew (gby_refl _ _)
  have cd_ : (w3).drew.cell? ⟨b0, o0 + k, none⟩ = some (.int .i64 x) := ce0
  have fd_ : (w3).drew.frozen? ⟨b0, o0 + k, none⟩ = false := fr0
  have HS0d := Lib.hid (show OwU ((w3).drew.setCell ⟨b0, o0 + k, none⟩ (.int .i64 (x - 1))) (W.heap.size + 1 + 1 + 1) (w1.heap.size) [] [own shI (.slice (some ⟨b0, o0, none⟩) 3 d0) (xs.set k (x - 1)), own shI (.slice (some ⟨b1, o1, none⟩) 3 d1) ys] from HS0.out)
  clear ce0 fr0 HS0
  generalize (w3).drew = wd1 at gd_ cd_ fd_ HS0d ⊢
  have szwd1 := gd_.size
  try simp only [World.size_setCell, World.size_alloc] at szwd1
  have rA28_ := Lib.hid (show (wd1).heap[W.heap.size]? = some (.cells #[.slice a0 n0 c0, .slice a1 n1 c1] 54 (0, 0)) from row_held gd_ rA22_.out)
  clear rA22_
  have rK29_ := Lib.hid (show (wd1).heap[W.heap.size + 1]? = some (.cells #[.int .i64 p.f0, .int .i64 p.f1, .int .i64 p.f2, .int .i64 p.f3, .int .i64 p.f4, .int .i64 p.f5, .int .i64 p.f6, vp] 29 (0, 0)) from row_held gd_ rK23_.out)
  clear rK23_
  have rR30_ := Lib.hid (show (wd1).heap[W.heap.size + 1 + 1]? = some (.cells #[.slice none 0 0, .slice none 0 0] 54 (0, 0)) from row_held gd_ rR24_.out)
  clear rR24_
  have rX31_ := Lib.hid (show (wd1).heap[w1.heap.size]? = some (.cells #[.slice (some ⟨b0, o0, none⟩) 3 d0, .slice (some ⟨b1, o1, none⟩) 3 d1] 54 (0, 0)) from row_held gd_ rX25_.out)
  clear rX25_
  have G32_ := Lib.hid (show (W).grownBy (wd1) none from gby_trans G27_.out gd_)
  clear gd_
  have X_0_ : (wd1).cell? ⟨w1.heap.size, 0, none⟩ = some (.slice (some ⟨b0, o0, none⟩) 3 d0) := cell_of_row _ _ 0 _ _ _ rX31_.out
  have X_1_ : (wd1).cell? ⟨w1.heap.size, 1, none⟩ = some (.slice (some ⟨b1, o1, none⟩) 3 d1) := cell_of_row _ _ 1 _ _ _ rX31_.out
  go_wp2_with fail
  clear X_0_ X_1_
  clear cd_ fd_
  have sz9_ : ((wd1.setCell ⟨b0, o0 + k, none⟩ (.int .i64 (x - 1)))).heap.size = wd1.heap.size := by simp only [World.size_setCell]
  have RX_ := Lib.hid (show ((wd1.setCell ⟨b0, o0 + k, none⟩ (.int .i64 (x - 1)))).heap[w1.heap.size]? = some (.cells #[.slice (some ⟨b0, o0, none⟩) 3 d0, .slice (some ⟨b1, o1, none⟩) 3 d1] 54 (0, 0)) from set_far rX31_.out (by dsimp only; omega))
  have RK_ := Lib.hid (show ((wd1.setCell ⟨b0, o0 + k, none⟩ (.int .i64 (x - 1)))).heap[W.heap.size + 1]? = some (.cells #[.int .i64 p.f0, .int .i64 p.f1, .int .i64 p.f2, .int .i64 p.f3, .int .i64 p.f4, .int .i64 p.f5, .int .i64 p.f6, vp] 29 (0, 0)) from set_far rK29_.out (by dsimp only; omega))
  have RR_ := Lib.hid (show ((wd1.setCell ⟨b0, o0 + k, none⟩ (.int .i64 (x - 1)))).heap[W.heap.size + 1 + 1]? = some (.cells #[.slice none 0 0, .slice none 0 0] 54 (0, 0)) from set_far rR30_.out (by dsimp only; omega))
  have GW_ := Lib.hid (show W.grownBy ((wd1.setCell ⟨b0, o0 + k, none⟩ (.int .i64 (x - 1)))) none from gby_setnew G32_.out _ (by dsimp only; omega) _)
  generalize (wd1.setCell ⟨b0, o0 + k, none⟩ (.int .i64 (x - 1))) = w9 at HS0d sz9_ RX_ RK_ RR_ GW_ ⊢
  obtain ⟨b2, o2, c2, hv2, l2, h2, ce1, fr1, st1⟩ := cset2 HS0d.out k (by omega)
  injection hv2 with q1_ q2_ q3_
  injection q1_ with q1_
  injection q1_ with q4_ q5_ _
  subst q4_ q5_
  clear q2_ q3_ st1
  rw [← HY.out] at ce1
  have hb1w : b1 < w9.heap.size := World.block_lt_of_cell? _ _ ce1
  have hRK := RK_.out
  have hRX := RX_.out
  have k0_ : w9.cell? ⟨W.heap.size + 1, 0, none⟩ = some (.int .i64 p.f0) := cell_of_row _ _ 0 _ _ _ hRK
  have k1_ : w9.cell? ⟨W.heap.size + 1, 1, none⟩ = some (.int .i64 p.f1) := cell_of_row _ _ 1 _ _ _ hRK
  have k2_ : w9.cell? ⟨W.heap.size + 1, 2, none⟩ = some (.int .i64 p.f2) := cell_of_row _ _ 2 _ _ _ hRK
  have k3_ : w9.cell? ⟨W.heap.size + 1, 3, none⟩ = some (.int .i64 p.f3) := cell_of_row _ _ 3 _ _ _ hRK
  have k4_ : w9.cell? ⟨W.heap.size + 1, 4, none⟩ = some (.int .i64 p.f4) := cell_of_row _ _ 4 _ _ _ hRK
  have k5_ : w9.cell? ⟨W.heap.size + 1, 5, none⟩ = some (.int .i64 p.f5) := cell_of_row _ _ 5 _ _ _ hRK
  have k6_ : w9.cell? ⟨W.heap.size + 1, 6, none⟩ = some (.int .i64 p.f6) := cell_of_row _ _ 6 _ _ _ hRK
  have k7_ : w9.cell? ⟨W.heap.size + 1, 7, none⟩ = some (vp) := cell_of_row _ _ 7 _ _ _ hRK
  have x0_ : w9.cell? ⟨w1.heap.size, 0, none⟩ = some (.slice (some ⟨b0, o0, none⟩) 3 d0) := cell_of_row _ _ 0 _ _ _ hRX
  have x1_ : w9.cell? ⟨w1.heap.size, 1, none⟩ = some (.slice (some ⟨b1, o1, none⟩) 3 d1) := cell_of_row _ _ 1 _ _ _ hRX
  clear hRK hRX
  have HP9 := Lib.hid (HP.out.grow (gby_drew GW_.out))
  go_wp2_with fail
  apply wp_at (R := fun w' => ∃ wA : World, w' = wA.setCell ⟨b1, o1 + k, none⟩ (.int .i64 (y - u)) ∧ w9.grownBy wA none)
  case hreg =>
    go_region_law (first
      | (go_simp; go_at_call 85; refine (HUN.out _ _ HP9.out).mono ?_; rintro e wA ⟨rfl, gA⟩; have a0_ : wA.cell? ⟨w1.heap.size, 0, none⟩ = some (.slice (some ⟨b0, o0, none⟩) 3 d0) := (gby_trans (gby_drew (gby_refl w9 none)) gA).cell x0_ (by simp); have a1_ : wA.cell? ⟨w1.heap.size, 1, none⟩ = some (.slice (some ⟨b1, o1, none⟩) 3 d1) := (gby_trans (gby_drew (gby_refl w9 none)) gA).cell x1_ (by simp); have ae_ : wA.cell? ⟨b1, o1 + k, none⟩ = some (.int .i64 y) := (gby_trans (gby_drew (gby_refl w9 none)) gA).cell ce1 (by simp); have af_ : wA.frozen? ⟨b1, o1 + k, none⟩ = false := ((gby_trans (gby_drew (gby_refl w9 none)) gA).frozen_far ⟨b1, o1 + k, none⟩ hb1w (by simp)).trans fr1; have HGA := Lib.hid (gby_trans (gby_drew (gby_refl w9 none)) gA))
      | fail)
    all_goals exact ⟨rfl, wA, rfl, HGA.out⟩
  rintro w' ⟨wA, rfl, hga_⟩
  have HGA := Lib.hid hga_
  clear hga_
  obtain ⟨b3, o3, c3, hv3, l3, h3, _, _, st3⟩ := cset2 (HS0d.out.grow HGA.out) k (by omega)
  injection hv3 with q1_ q2_ q3_
  injection q1_ with q1_
  injection q1_ with q4_ q5_ _
  subst q4_ q5_
  clear q2_ q3_
  have HS1 := Lib.hid (st3 (y - u))
  clear st3
  have szA_ := HGA.out.size
  have RXA := Lib.hid (show ((wA.setCell ⟨b1, o1 + k, none⟩ (.int .i64 (y - u)))).heap[w1.heap.size]? = some (.cells #[.slice (some ⟨b0, o0, none⟩) 3 d0, .slice (some ⟨b1, o1, none⟩) 3 d1] 54 (0, 0)) from set_far (row_held HGA.out RX_.out) (by dsimp only; omega))
  have RRA := Lib.hid (show ((wA.setCell ⟨b1, o1 + k, none⟩ (.int .i64 (y - u)))).heap[W.heap.size + 1 + 1]? = some (.cells #[.slice none 0 0, .slice none 0 0] 54 (0, 0)) from set_far (row_held HGA.out RR_.out) (by dsimp only; omega))
  have GWA := Lib.hid (show W.grownBy ((wA.setCell ⟨b1, o1 + k, none⟩ (.int .i64 (y - u)))) none from gby_setnew (gby_trans GW_.out HGA.out) _ (by dsimp only; omega) _)
  have szB_ : ((wA.setCell ⟨b1, o1 + k, none⟩ (.int .i64 (y - u)))).heap.size = wA.heap.size := by simp only [World.size_setCell]
  generalize (wA.setCell ⟨b1, o1 + k, none⟩ (.int .i64 (y - u))) = wF at HS1 RXA RRA GWA szB_ ⊢
  have G33_ := Lib.hid (show (W).grownBy (wF) none from GWA.out)
  have X_0_ : (wF).cell? ⟨w1.heap.size, 0, none⟩ = some (.slice (some ⟨b0, o0, none⟩) 3 d0) := cell_of_row _ _ 0 _ _ _ RXA.out
  have X_1_ : (wF).cell? ⟨w1.heap.size, 1, none⟩ = some (.slice (some ⟨b1, o1, none⟩) 3 d1) := cell_of_row _ _ 1 _ _ _ RXA.out
  have R_0_ : (wF).cell? ⟨W.heap.size + 1 + 1, 0, none⟩ = some (.slice none 0 0) := cell_of_row _ _ 0 _ _ _ RRA.out
  have R_1_ : (wF).cell? ⟨W.heap.size + 1 + 1, 1, none⟩ = some (.slice none 0 0) := cell_of_row _ _ 1 _ _ _ RRA.out
  clear X_0_ X_1_ R_0_ R_1_
  have X_0_ : (wF).cell? ⟨w1.heap.size, 0, none⟩ = some (.slice (some ⟨b0, o0, none⟩) 3 d0) := cell_of_row _ _ 0 _ _ _ RXA.out
  have X_1_ : (wF).cell? ⟨w1.heap.size, 1, none⟩ = some (.slice (some ⟨b1, o1, none⟩) 3 d1) := cell_of_row _ _ 1 _ _ _ RXA.out
  have R_0_ : (wF).cell? ⟨W.heap.size + 1 + 1, 0, none⟩ = some (.slice none 0 0) := cell_of_row _ _ 0 _ _ _ RRA.out
  have R_1_ : (wF).cell? ⟨W.heap.size + 1 + 1, 1, none⟩ = some (.slice none 0 0) := cell_of_row _ _ 1 _ _ _ RRA.out
  have Rf0_ : (wF).frozen? ⟨W.heap.size + 1 + 1, 0, none⟩ = false := frozen_of_row _ _ 0 _ _ RRA.out
  have Rf1_ : (wF).frozen? ⟨W.heap.size + 1 + 1, 1, none⟩ = false := frozen_of_row _ _ 1 _ _ RRA.out
  have zr_ := Lib.hid (show (((wF.setCell ⟨W.heap.size + 1 + 1, 0, none⟩ (.slice (some ⟨b0, o0, none⟩) 3 d0)).setCell ⟨W.heap.size + 1 + 1, 1, none⟩ (.slice (some ⟨b1, o1, none⟩) 3 d1))).heap[W.heap.size + 1 + 1]? = some (.cells #[.slice (some ⟨b0, o0, none⟩) 3 d0, .slice (some ⟨b1, o1, none⟩) 3 d1] 54 (0, 0)) from (heap_setCell_same _ _ 1 _ _ _ (heap_setCell_same _ _ 0 _ _ _ RRA.out)))
  have z0_ : (((wF.setCell ⟨W.heap.size + 1 + 1, 0, none⟩ (.slice (some ⟨b0, o0, none⟩) 3 d0)).setCell ⟨W.heap.size + 1 + 1, 1, none⟩ (.slice (some ⟨b1, o1, none⟩) 3 d1))).cell? ⟨W.heap.size + 1 + 1, 0, none⟩ = some (.slice (some ⟨b0, o0, none⟩) 3 d0) := cell_of_row _ _ 0 _ _ _ zr_.out
  have z1_ : (((wF.setCell ⟨W.heap.size + 1 + 1, 0, none⟩ (.slice (some ⟨b0, o0, none⟩) 3 d0)).setCell ⟨W.heap.size + 1 + 1, 1, none⟩ (.slice (some ⟨b1, o1, none⟩) 3 d1))).cell? ⟨W.heap.size + 1 + 1, 1, none⟩ = some (.slice (some ⟨b1, o1, none⟩) 3 d1) := cell_of_row _ _ 1 _ _ _ zr_.out
  go_wp2
  refine bodyPost_ret (v := .tuple #[.agg #[.slice (some ⟨b0, o0, none⟩) 3 d0, .slice (some ⟨b1, o1, none⟩) 3 d1], .bool true]) (by simp [results, go_sem, z0_, z1_]) rfl ⟨_, _, rfl, ?_, ?_⟩
  · exact OwU.wide (lo := W.heap.size + 1 + 1 + 1) (by omega) (by simp only [World.size_setCell]; omega) (OwU.keep (chg_one _ _ _ _) (.inr (by omega)) (OwU.keep (chg_one _ _ _ _) (.inr (by omega)) HS1.out))
  · exact (gby_setnew (gby_setnew G33_.out _ (by dsimp only; omega) _) _ (by dsimp only; omega) _)

end Go.Proofs.Ytgagbhkidponnac
