/-
  SpendCredits and ReturnCredits of the model.
-/
import Derived.Test.YtgagbhkidponnacCrSp
import Derived.Test.YtgagbhkidponnacBPost0
import Derived.Test.YtgagbhkidponnacRSpendCredits
import Derived.Test.YtgagbhkidponnacRReturnCredits
import Derived.StillTailTactics
namespace Go.Proofs.Ytgagbhkidponnac
open Go Go.RowKit
set_option linter.unusedVariables false

/-- a region whose ways all end in one state: what is behind it is gone through once -/
theorem wp_at {P : Program} {c : Code} {Q : Exit → Act → World → Prop} {a : Act} {w : World} (A : Act) (R : World → Prop) (hreg : c.wp P (fun e a' w' => match e with | .normal => a' = A ∧ R w' | _ => False) a w) (hc : ∀ w', R w' → Q .normal A w') : c.wp P Q a w :=
  Code.wp_mono (fun e a' w' h => by
    cases e
    case normal => obtain ⟨rfl, h⟩ := h; exact hc _ h
    all_goals exact False.elim h) hreg

theorem rdI_cellC {w : World} {b o n c : Nat} {xs : List Int} (H : RdL shI w (.slice (some ⟨b, o, none⟩) n c) xs) (k : Nat) (hk : k < xs.length) : w.cell? ⟨b, o + k, none⟩ = some (.int .i64 (xs.getD k 0)) := by
  obtain ⟨a, cap, e, _, r⟩ := rdI1_in H
  obtain ⟨b2, o2, h2, hc⟩ := r.resolve_left (by omega)
  injection e with e1 e2 e3
  rw [h2] at e1
  injection e1 with e1
  injection e1 with e4 e5
  subst e4 e5
  exact hc k hk

set_option maxRecDepth 8000 in
set_option maxHeartbeats 4000000 in
theorem specReturnCredits_bad (W : World) (u0 u1 vp : Value) (xs ys : List Int) (p : DPacket) (H0 : RdL shI W u0 xs) (H1 : RdL shI W u1 ys) (Hp : RdL shI W vp p.f7) (h0 : szL shI xs ≤ 1048576) (h1 : szL shI ys ≤ 1048576) (hl : szL shI p.f7 ≤ 1048576) (hcr : ¬ CrdOk xs ys) : Calls Try.prog 41 #[.agg #[u0, u1], (vPacket p.f0 p.f1 p.f2 p.f3 p.f4 p.f5 p.f6 vp)] W (ResIReturnCredits xs ys false W) := by
  have HSX := Lib.hid H0
  have HSY := Lib.hid H1
  have HP := Lib.hid Hp
  have HXL := Lib.hid h0
  have HYL := Lib.hid h1
  have HL := Lib.hid hl
  obtain ⟨a0, n0, c0, rfl⟩ := RdL.form H0
  obtain ⟨a1, n1, c1, rfl⟩ := RdL.form H1
  clear H0 H1 Hp h0 h1 hl
  unfold vPacket
  have HCD := Lib.hid (show ∀ (W : World) (z0 z1 : Value), RdL shI W z0 xs → RdL shI W z1 ys → Calls Try.prog 89 #[.agg #[z0, z1]] W (AnsN (.bool false) W) from fun W z0 z1 h0 h1 => specCrD W z0 z1 xs ys h0 h1 HXL.out HYL.out false (by rw [decide_eq_false hcr]))
  have HCLX := Lib.hid (show ∀ (W : World) (v : Value), RdL shI W v p.f7 → Calls Try.prog 84 #[vPacket p.f0 p.f1 p.f2 p.f3 p.f4 p.f5 p.f6 v] W (AnsN (.int .i64 (clsD p)) W) from fun W v H => specClsD W p v H HL.out)
  clear hcr
  go_enter Try.func41, Try.ntmps41
  have rA1_ := Lib.hid (show ((((W.alloc (.cells #[.slice a0 n0 c0, .slice a1 n1 c1] 54)).alloc (.cells #[.int .i64 p.f0, .int .i64 p.f1, .int .i64 p.f2, .int .i64 p.f3, .int .i64 p.f4, .int .i64 p.f5, .int .i64 p.f6, vp] 29)).alloc (.cells #[.slice none 0 0, .slice none 0 0] 54))).heap[W.heap.size]? = some (.cells #[.slice a0 n0 c0, .slice a1 n1 c1] 54 (0, 0)) from by rw [heap_alloc_old _ _ (by simp only [World.size_alloc]; omega)]; rw [heap_alloc_old _ _ (by simp only [World.size_alloc]; omega)]; exact heap_alloc_new _ _)
  have rK2_ := Lib.hid (show ((((W.alloc (.cells #[.slice a0 n0 c0, .slice a1 n1 c1] 54)).alloc (.cells #[.int .i64 p.f0, .int .i64 p.f1, .int .i64 p.f2, .int .i64 p.f3, .int .i64 p.f4, .int .i64 p.f5, .int .i64 p.f6, vp] 29)).alloc (.cells #[.slice none 0 0, .slice none 0 0] 54))).heap[W.heap.size + 1]? = some (.cells #[.int .i64 p.f0, .int .i64 p.f1, .int .i64 p.f2, .int .i64 p.f3, .int .i64 p.f4, .int .i64 p.f5, .int .i64 p.f6, vp] 29 (0, 0)) from by rw [heap_alloc_old _ _ (by simp only [World.size_alloc]; omega)]; exact heap_pair _ _ _)
  have rR3_ := Lib.hid (show ((((W.alloc (.cells #[.slice a0 n0 c0, .slice a1 n1 c1] 54)).alloc (.cells #[.int .i64 p.f0, .int .i64 p.f1, .int .i64 p.f2, .int .i64 p.f3, .int .i64 p.f4, .int .i64 p.f5, .int .i64 p.f6, vp] 29)).alloc (.cells #[.slice none 0 0, .slice none 0 0] 54))).heap[W.heap.size + 1 + 1]? = some (.cells #[.slice none 0 0, .slice none 0 0] 54 (0, 0)) from by exact heap_trip _ _ _ _)
  have G4_ := Lib.hid (show (W).grownBy ((((W.alloc (.cells #[.slice a0 n0 c0, .slice a1 n1 c1] 54)).alloc (.cells #[.int .i64 p.f0, .int .i64 p.f1, .int .i64 p.f2, .int .i64 p.f3, .int .i64 p.f4, .int .i64 p.f5, .int .i64 p.f6, vp] 29)).alloc (.cells #[.slice none 0 0, .slice none 0 0] 54))) none from (gby_alloc (gby_alloc (gby_alloc (gby_refl _ _) _) _) _))
  have A_0_ : ((((W.alloc (.cells #[.slice a0 n0 c0, .slice a1 n1 c1] 54)).alloc (.cells #[.int .i64 p.f0, .int .i64 p.f1, .int .i64 p.f2, .int .i64 p.f3, .int .i64 p.f4, .int .i64 p.f5, .int .i64 p.f6, vp] 29)).alloc (.cells #[.slice none 0 0, .slice none 0 0] 54))).cell? ⟨W.heap.size, 0, none⟩ = some (.slice a0 n0 c0) := cell_of_row _ _ 0 _ _ _ rA1_.out
  have A_1_ : ((((W.alloc (.cells #[.slice a0 n0 c0, .slice a1 n1 c1] 54)).alloc (.cells #[.int .i64 p.f0, .int .i64 p.f1, .int .i64 p.f2, .int .i64 p.f3, .int .i64 p.f4, .int .i64 p.f5, .int .i64 p.f6, vp] 29)).alloc (.cells #[.slice none 0 0, .slice none 0 0] 54))).cell? ⟨W.heap.size, 1, none⟩ = some (.slice a1 n1 c1) := cell_of_row _ _ 1 _ _ _ rA1_.out
  have K_0_ : ((((W.alloc (.cells #[.slice a0 n0 c0, .slice a1 n1 c1] 54)).alloc (.cells #[.int .i64 p.f0, .int .i64 p.f1, .int .i64 p.f2, .int .i64 p.f3, .int .i64 p.f4, .int .i64 p.f5, .int .i64 p.f6, vp] 29)).alloc (.cells #[.slice none 0 0, .slice none 0 0] 54))).cell? ⟨W.heap.size + 1, 0, none⟩ = some (.int .i64 p.f0) := cell_of_row _ _ 0 _ _ _ rK2_.out
  have K_1_ : ((((W.alloc (.cells #[.slice a0 n0 c0, .slice a1 n1 c1] 54)).alloc (.cells #[.int .i64 p.f0, .int .i64 p.f1, .int .i64 p.f2, .int .i64 p.f3, .int .i64 p.f4, .int .i64 p.f5, .int .i64 p.f6, vp] 29)).alloc (.cells #[.slice none 0 0, .slice none 0 0] 54))).cell? ⟨W.heap.size + 1, 1, none⟩ = some (.int .i64 p.f1) := cell_of_row _ _ 1 _ _ _ rK2_.out
  have K_2_ : ((((W.alloc (.cells #[.slice a0 n0 c0, .slice a1 n1 c1] 54)).alloc (.cells #[.int .i64 p.f0, .int .i64 p.f1, .int .i64 p.f2, .int .i64 p.f3, .int .i64 p.f4, .int .i64 p.f5, .int .i64 p.f6, vp] 29)).alloc (.cells #[.slice none 0 0, .slice none 0 0] 54))).cell? ⟨W.heap.size + 1, 2, none⟩ = some (.int .i64 p.f2) := cell_of_row _ _ 2 _ _ _ rK2_.out
  have K_3_ : ((((W.alloc (.cells #[.slice a0 n0 c0, .slice a1 n1 c1] 54)).alloc (.cells #[.int .i64 p.f0, .int .i64 p.f1, .int .i64 p.f2, .int .i64 p.f3, .int .i64 p.f4, .int .i64 p.f5, .int .i64 p.f6, vp] 29)).alloc (.cells #[.slice none 0 0, .slice none 0 0] 54))).cell? ⟨W.heap.size + 1, 3, none⟩ = some (.int .i64 p.f3) := cell_of_row _ _ 3 _ _ _ rK2_.out
  have K_4_ : ((((W.alloc (.cells #[.slice a0 n0 c0, .slice a1 n1 c1] 54)).alloc (.cells #[.int .i64 p.f0, .int .i64 p.f1, .int .i64 p.f2, .int .i64 p.f3, .int .i64 p.f4, .int .i64 p.f5, .int .i64 p.f6, vp] 29)).alloc (.cells #[.slice none 0 0, .slice none 0 0] 54))).cell? ⟨W.heap.size + 1, 4, none⟩ = some (.int .i64 p.f4) := cell_of_row _ _ 4 _ _ _ rK2_.out
  have K_5_ : ((((W.alloc (.cells #[.slice a0 n0 c0, .slice a1 n1 c1] 54)).alloc (.cells #[.int .i64 p.f0, .int .i64 p.f1, .int .i64 p.f2, .int .i64 p.f3, .int .i64 p.f4, .int .i64 p.f5, .int .i64 p.f6, vp] 29)).alloc (.cells #[.slice none 0 0, .slice none 0 0] 54))).cell? ⟨W.heap.size + 1, 5, none⟩ = some (.int .i64 p.f5) := cell_of_row _ _ 5 _ _ _ rK2_.out
  have K_6_ : ((((W.alloc (.cells #[.slice a0 n0 c0, .slice a1 n1 c1] 54)).alloc (.cells #[.int .i64 p.f0, .int .i64 p.f1, .int .i64 p.f2, .int .i64 p.f3, .int .i64 p.f4, .int .i64 p.f5, .int .i64 p.f6, vp] 29)).alloc (.cells #[.slice none 0 0, .slice none 0 0] 54))).cell? ⟨W.heap.size + 1, 6, none⟩ = some (.int .i64 p.f6) := cell_of_row _ _ 6 _ _ _ rK2_.out
  have K_7_ : ((((W.alloc (.cells #[.slice a0 n0 c0, .slice a1 n1 c1] 54)).alloc (.cells #[.int .i64 p.f0, .int .i64 p.f1, .int .i64 p.f2, .int .i64 p.f3, .int .i64 p.f4, .int .i64 p.f5, .int .i64 p.f6, vp] 29)).alloc (.cells #[.slice none 0 0, .slice none 0 0] 54))).cell? ⟨W.heap.size + 1, 7, none⟩ = some (vp) := cell_of_row _ _ 7 _ _ _ rK2_.out
  have R_0_ : ((((W.alloc (.cells #[.slice a0 n0 c0, .slice a1 n1 c1] 54)).alloc (.cells #[.int .i64 p.f0, .int .i64 p.f1, .int .i64 p.f2, .int .i64 p.f3, .int .i64 p.f4, .int .i64 p.f5, .int .i64 p.f6, vp] 29)).alloc (.cells #[.slice none 0 0, .slice none 0 0] 54))).cell? ⟨W.heap.size + 1 + 1, 0, none⟩ = some (.slice none 0 0) := cell_of_row _ _ 0 _ _ _ rR3_.out
  have R_1_ : ((((W.alloc (.cells #[.slice a0 n0 c0, .slice a1 n1 c1] 54)).alloc (.cells #[.int .i64 p.f0, .int .i64 p.f1, .int .i64 p.f2, .int .i64 p.f3, .int .i64 p.f4, .int .i64 p.f5, .int .i64 p.f6, vp] 29)).alloc (.cells #[.slice none 0 0, .slice none 0 0] 54))).cell? ⟨W.heap.size + 1 + 1, 1, none⟩ = some (.slice none 0 0) := cell_of_row _ _ 1 _ _ _ rR3_.out
  go_wp2_with fail
  go_at_call 82
  refine (l14Copy_d _ _ _ xs ys (HSX.out.grow G4_.out) (HSY.out.grow G4_.out) HXL.out HYL.out).mono ?_
  rintro e w1 ⟨z0, z1, rfl, o, g⟩
  have sz_ := g.size
  try simp only [World.size_alloc] at sz_ o
  clear A_0_ A_1_ K_0_ K_1_ K_2_ K_3_ K_4_ K_5_ K_6_ K_7_ R_0_ R_1_
  have rA5_ := Lib.hid (show (w1).heap[W.heap.size]? = some (.cells #[.slice a0 n0 c0, .slice a1 n1 c1] 54 (0, 0)) from row_held g rA1_.out)
  clear rA1_
  have rK6_ := Lib.hid (show (w1).heap[W.heap.size + 1]? = some (.cells #[.int .i64 p.f0, .int .i64 p.f1, .int .i64 p.f2, .int .i64 p.f3, .int .i64 p.f4, .int .i64 p.f5, .int .i64 p.f6, vp] 29 (0, 0)) from row_held g rK2_.out)
  clear rK2_
  have rR7_ := Lib.hid (show (w1).heap[W.heap.size + 1 + 1]? = some (.cells #[.slice none 0 0, .slice none 0 0] 54 (0, 0)) from row_held g rR3_.out)
  clear rR3_
  have G8_ := Lib.hid (show (W).grownBy (w1) none from gby_trans G4_.out g)
  clear g
  obtain ⟨q0, m0, d0, hv_⟩ := RdL.form (OwU.rd o)
  subst hv_
  obtain ⟨q1, m1, d1, hv_⟩ := RdL.form (OwU.rd (OwU.tail o))
  subst hv_
  unfold vCredits
  have oC9_ := Lib.hid (show OwU (w1) ((W.heap.size + 1 + 1 + 1)) (w1.heap.size) [] [own shI (.slice q0 m0 d0) xs, own shI (.slice q1 m1 d1) ys] from o)
  clear o
  have al_ : (w1).grownBy ((w1).alloc (.cells #[.slice q0 m0 d0, .slice q1 m1 d1] 54)) none := gby_alloc (gby_refl _ _) _
  have rA10_ := Lib.hid (show ((w1.alloc (.cells #[.slice q0 m0 d0, .slice q1 m1 d1] 54))).heap[W.heap.size]? = some (.cells #[.slice a0 n0 c0, .slice a1 n1 c1] 54 (0, 0)) from row_held al_ rA5_.out)
  clear rA5_
  have rK11_ := Lib.hid (show ((w1.alloc (.cells #[.slice q0 m0 d0, .slice q1 m1 d1] 54))).heap[W.heap.size + 1]? = some (.cells #[.int .i64 p.f0, .int .i64 p.f1, .int .i64 p.f2, .int .i64 p.f3, .int .i64 p.f4, .int .i64 p.f5, .int .i64 p.f6, vp] 29 (0, 0)) from row_held al_ rK6_.out)
  clear rK6_
  have rR12_ := Lib.hid (show ((w1.alloc (.cells #[.slice q0 m0 d0, .slice q1 m1 d1] 54))).heap[W.heap.size + 1 + 1]? = some (.cells #[.slice none 0 0, .slice none 0 0] 54 (0, 0)) from row_held al_ rR7_.out)
  clear rR7_
  have oC13_ := Lib.hid (show OwU ((w1.alloc (.cells #[.slice q0 m0 d0, .slice q1 m1 d1] 54))) ((W.heap.size + 1 + 1 + 1)) (w1.heap.size) [] [own shI (.slice q0 m0 d0) xs, own shI (.slice q1 m1 d1) ys] from OwU.grow oC9_.out al_)
  clear oC9_
  have G14_ := Lib.hid (show (W).grownBy ((w1.alloc (.cells #[.slice q0 m0 d0, .slice q1 m1 d1] 54))) none from gby_trans G8_.out al_)
  have rX15_ := Lib.hid (show ((w1.alloc (.cells #[.slice q0 m0 d0, .slice q1 m1 d1] 54))).heap[w1.heap.size]? = some (.cells #[.slice q0 m0 d0, .slice q1 m1 d1] 54 (0, 0)) from by first | exact heap_alloc_new _ _ | exact heap_pair _ _ _ | exact heap_trip _ _ _ _)
  clear al_
  have A_0_ : ((w1.alloc (.cells #[.slice q0 m0 d0, .slice q1 m1 d1] 54))).cell? ⟨W.heap.size, 0, none⟩ = some (.slice a0 n0 c0) := cell_of_row _ _ 0 _ _ _ rA10_.out
  have A_1_ : ((w1.alloc (.cells #[.slice q0 m0 d0, .slice q1 m1 d1] 54))).cell? ⟨W.heap.size, 1, none⟩ = some (.slice a1 n1 c1) := cell_of_row _ _ 1 _ _ _ rA10_.out
  have K_0_ : ((w1.alloc (.cells #[.slice q0 m0 d0, .slice q1 m1 d1] 54))).cell? ⟨W.heap.size + 1, 0, none⟩ = some (.int .i64 p.f0) := cell_of_row _ _ 0 _ _ _ rK11_.out
  have K_1_ : ((w1.alloc (.cells #[.slice q0 m0 d0, .slice q1 m1 d1] 54))).cell? ⟨W.heap.size + 1, 1, none⟩ = some (.int .i64 p.f1) := cell_of_row _ _ 1 _ _ _ rK11_.out
  have K_2_ : ((w1.alloc (.cells #[.slice q0 m0 d0, .slice q1 m1 d1] 54))).cell? ⟨W.heap.size + 1, 2, none⟩ = some (.int .i64 p.f2) := cell_of_row _ _ 2 _ _ _ rK11_.out
  have K_3_ : ((w1.alloc (.cells #[.slice q0 m0 d0, .slice q1 m1 d1] 54))).cell? ⟨W.heap.size + 1, 3, none⟩ = some (.int .i64 p.f3) := cell_of_row _ _ 3 _ _ _ rK11_.out
  have K_4_ : ((w1.alloc (.cells #[.slice q0 m0 d0, .slice q1 m1 d1] 54))).cell? ⟨W.heap.size + 1, 4, none⟩ = some (.int .i64 p.f4) := cell_of_row _ _ 4 _ _ _ rK11_.out
  have K_5_ : ((w1.alloc (.cells #[.slice q0 m0 d0, .slice q1 m1 d1] 54))).cell? ⟨W.heap.size + 1, 5, none⟩ = some (.int .i64 p.f5) := cell_of_row _ _ 5 _ _ _ rK11_.out
  have K_6_ : ((w1.alloc (.cells #[.slice q0 m0 d0, .slice q1 m1 d1] 54))).cell? ⟨W.heap.size + 1, 6, none⟩ = some (.int .i64 p.f6) := cell_of_row _ _ 6 _ _ _ rK11_.out
  have K_7_ : ((w1.alloc (.cells #[.slice q0 m0 d0, .slice q1 m1 d1] 54))).cell? ⟨W.heap.size + 1, 7, none⟩ = some (vp) := cell_of_row _ _ 7 _ _ _ rK11_.out
  have R_0_ : ((w1.alloc (.cells #[.slice q0 m0 d0, .slice q1 m1 d1] 54))).cell? ⟨W.heap.size + 1 + 1, 0, none⟩ = some (.slice none 0 0) := cell_of_row _ _ 0 _ _ _ rR12_.out
  have R_1_ : ((w1.alloc (.cells #[.slice q0 m0 d0, .slice q1 m1 d1] 54))).cell? ⟨W.heap.size + 1 + 1, 1, none⟩ = some (.slice none 0 0) := cell_of_row _ _ 1 _ _ _ rR12_.out
  have X_0_ : ((w1.alloc (.cells #[.slice q0 m0 d0, .slice q1 m1 d1] 54))).cell? ⟨w1.heap.size, 0, none⟩ = some (.slice q0 m0 d0) := cell_of_row _ _ 0 _ _ _ rX15_.out
  have X_1_ : ((w1.alloc (.cells #[.slice q0 m0 d0, .slice q1 m1 d1] 54))).cell? ⟨w1.heap.size, 1, none⟩ = some (.slice q1 m1 d1) := cell_of_row _ _ 1 _ _ _ rX15_.out
  go_wp2_with fail
  go_at_call 84
  refine (HCLX.out _ _ (HP.out.grow G14_.out)).mono ?_
  rintro e w2 ⟨rfl, g⟩
  have szw2 := g.size
  try simp only [World.size_alloc] at szw2
  try simp only [World.size_setCell] at szw2
  clear A_0_ A_1_ K_0_ K_1_ K_2_ K_3_ K_4_ K_5_ K_6_ K_7_ R_0_ R_1_ X_0_ X_1_
  have rA16_ := Lib.hid (show (w2).heap[W.heap.size]? = some (.cells #[.slice a0 n0 c0, .slice a1 n1 c1] 54 (0, 0)) from row_held g rA10_.out)
  clear rA10_
  have rK17_ := Lib.hid (show (w2).heap[W.heap.size + 1]? = some (.cells #[.int .i64 p.f0, .int .i64 p.f1, .int .i64 p.f2, .int .i64 p.f3, .int .i64 p.f4, .int .i64 p.f5, .int .i64 p.f6, vp] 29 (0, 0)) from row_held g rK11_.out)
  clear rK11_
  have rR18_ := Lib.hid (show (w2).heap[W.heap.size + 1 + 1]? = some (.cells #[.slice none 0 0, .slice none 0 0] 54 (0, 0)) from row_held g rR12_.out)
  clear rR12_
  have rX19_ := Lib.hid (show (w2).heap[w1.heap.size]? = some (.cells #[.slice q0 m0 d0, .slice q1 m1 d1] 54 (0, 0)) from row_held g rX15_.out)
  clear rX15_
  have oC20_ := Lib.hid (show OwU (w2) ((W.heap.size + 1 + 1 + 1)) (w1.heap.size) [] [own shI (.slice q0 m0 d0) xs, own shI (.slice q1 m1 d1) ys] from OwU.grow oC13_.out g)
  clear oC13_
  have G21_ := Lib.hid (show (W).grownBy (w2) none from gby_trans G14_.out g)
  clear g
  have A_0_ : (w2).cell? ⟨W.heap.size, 0, none⟩ = some (.slice a0 n0 c0) := cell_of_row _ _ 0 _ _ _ rA16_.out
  have A_1_ : (w2).cell? ⟨W.heap.size, 1, none⟩ = some (.slice a1 n1 c1) := cell_of_row _ _ 1 _ _ _ rA16_.out
  have K_0_ : (w2).cell? ⟨W.heap.size + 1, 0, none⟩ = some (.int .i64 p.f0) := cell_of_row _ _ 0 _ _ _ rK17_.out
  have K_1_ : (w2).cell? ⟨W.heap.size + 1, 1, none⟩ = some (.int .i64 p.f1) := cell_of_row _ _ 1 _ _ _ rK17_.out
  have K_2_ : (w2).cell? ⟨W.heap.size + 1, 2, none⟩ = some (.int .i64 p.f2) := cell_of_row _ _ 2 _ _ _ rK17_.out
  have K_3_ : (w2).cell? ⟨W.heap.size + 1, 3, none⟩ = some (.int .i64 p.f3) := cell_of_row _ _ 3 _ _ _ rK17_.out
  have K_4_ : (w2).cell? ⟨W.heap.size + 1, 4, none⟩ = some (.int .i64 p.f4) := cell_of_row _ _ 4 _ _ _ rK17_.out
  have K_5_ : (w2).cell? ⟨W.heap.size + 1, 5, none⟩ = some (.int .i64 p.f5) := cell_of_row _ _ 5 _ _ _ rK17_.out
  have K_6_ : (w2).cell? ⟨W.heap.size + 1, 6, none⟩ = some (.int .i64 p.f6) := cell_of_row _ _ 6 _ _ _ rK17_.out
  have K_7_ : (w2).cell? ⟨W.heap.size + 1, 7, none⟩ = some (vp) := cell_of_row _ _ 7 _ _ _ rK17_.out
  have R_0_ : (w2).cell? ⟨W.heap.size + 1 + 1, 0, none⟩ = some (.slice none 0 0) := cell_of_row _ _ 0 _ _ _ rR18_.out
  have R_1_ : (w2).cell? ⟨W.heap.size + 1 + 1, 1, none⟩ = some (.slice none 0 0) := cell_of_row _ _ 1 _ _ _ rR18_.out
  have X_0_ : (w2).cell? ⟨w1.heap.size, 0, none⟩ = some (.slice q0 m0 d0) := cell_of_row _ _ 0 _ _ _ rX19_.out
  have X_1_ : (w2).cell? ⟨w1.heap.size, 1, none⟩ = some (.slice q1 m1 d1) := cell_of_row _ _ 1 _ _ _ rX19_.out
  clear A_0_ A_1_ K_0_ K_1_ K_2_ K_3_ K_4_ K_5_ K_6_ K_7_ R_0_ R_1_ X_0_ X_1_
  have A_0_ : (w2).cell? ⟨W.heap.size, 0, none⟩ = some (.slice a0 n0 c0) := cell_of_row _ _ 0 _ _ _ rA16_.out
  have A_1_ : (w2).cell? ⟨W.heap.size, 1, none⟩ = some (.slice a1 n1 c1) := cell_of_row _ _ 1 _ _ _ rA16_.out
  have K_0_ : (w2).cell? ⟨W.heap.size + 1, 0, none⟩ = some (.int .i64 p.f0) := cell_of_row _ _ 0 _ _ _ rK17_.out
  have K_1_ : (w2).cell? ⟨W.heap.size + 1, 1, none⟩ = some (.int .i64 p.f1) := cell_of_row _ _ 1 _ _ _ rK17_.out
  have K_2_ : (w2).cell? ⟨W.heap.size + 1, 2, none⟩ = some (.int .i64 p.f2) := cell_of_row _ _ 2 _ _ _ rK17_.out
  have K_3_ : (w2).cell? ⟨W.heap.size + 1, 3, none⟩ = some (.int .i64 p.f3) := cell_of_row _ _ 3 _ _ _ rK17_.out
  have K_4_ : (w2).cell? ⟨W.heap.size + 1, 4, none⟩ = some (.int .i64 p.f4) := cell_of_row _ _ 4 _ _ _ rK17_.out
  have K_5_ : (w2).cell? ⟨W.heap.size + 1, 5, none⟩ = some (.int .i64 p.f5) := cell_of_row _ _ 5 _ _ _ rK17_.out
  have K_6_ : (w2).cell? ⟨W.heap.size + 1, 6, none⟩ = some (.int .i64 p.f6) := cell_of_row _ _ 6 _ _ _ rK17_.out
  have K_7_ : (w2).cell? ⟨W.heap.size + 1, 7, none⟩ = some (vp) := cell_of_row _ _ 7 _ _ _ rK17_.out
  have HG9 := Lib.hid (G21_.out)
  go_wp2_with fail
  refine wp_region_held_drew (S := fun w' => w'.cell? ⟨W.heap.size, 0, none⟩ = some (.slice a0 n0 c0) ∧ w'.cell? ⟨W.heap.size, 1, none⟩ = some (.slice a1 n1 c1) ∧ w'.cell? ⟨W.heap.size + 1, 0, none⟩ = some (.int .i64 p.f0) ∧ w'.cell? ⟨W.heap.size + 1, 1, none⟩ = some (.int .i64 p.f1) ∧ w'.cell? ⟨W.heap.size + 1, 2, none⟩ = some (.int .i64 p.f2) ∧ w'.cell? ⟨W.heap.size + 1, 3, none⟩ = some (.int .i64 p.f3) ∧ w'.cell? ⟨W.heap.size + 1, 4, none⟩ = some (.int .i64 p.f4) ∧ w'.cell? ⟨W.heap.size + 1, 5, none⟩ = some (.int .i64 p.f5) ∧ w'.cell? ⟨W.heap.size + 1, 6, none⟩ = some (.int .i64 p.f6) ∧ w'.cell? ⟨W.heap.size + 1, 7, none⟩ = some (vp)) (by kernel_rfl) (by (try dsimp only); exact ⟨A_0_, A_1_, K_0_, K_1_, K_2_, K_3_, K_4_, K_5_, K_6_, K_7_⟩) (fun hHeld => ?_)
  refine wpAnyH_take (i := 0) (oi := { dst := some 12, op := Op.load 54 (Operand.tmp 2), type := 54, pos := "l14_credit.go:40", after := #[], guard := none }) (v := ?v0_r1_1) rfl (by kernel_rfl) (by kernel_rfl) (by kernel_rfl) (fun _ _ _ h => h) (Or.inl ⟨by rfl, ?y0_r1_1⟩) (by assumption) ?r0_r1_1
  case y0_r1_1 => (intro w hSw; (try dsimp only at hSw); go_simp; all_goals (with_reducible rfl))
  try simp only [Act.put, List.setIfInBounds_toArray, List.set_cons_zero, List.set_cons_succ]
  refine wpAnyH_ready (rs := [1]) (by kernel_rfl) (by simp) ?_
  refine AllReadyH.cons (o := { dst := some 13, op := Op.call { callee := Callee.value (Operand.func 89), args := #[Operand.tmp 12], argTypes := #[54] }, type := 4, pos := "l14_credit.go:40", after := #[{ on := 0, ground := Ground.data }], guard := none }) rfl (fun K hK => ?_) AllReadyH.nil
  go_simp
  go_at_call 89
  refine (HCD.out _ _ _ (HSX.out.grow (gby_trans HG9.out (gby_drew (gby_refl _ none)))) (HSY.out.grow (gby_trans HG9.out (gby_drew (gby_refl _ none))))).mono ?_
  rintro e wH2_r1 ⟨rfl, gH2_r1⟩
  have m2_A_0_ : wH2_r1.cell? _ = some _ := gH2_r1.cell A_0_ (by simp); have m2_A_1_ : wH2_r1.cell? _ = some _ := gH2_r1.cell A_1_ (by simp); have m2_K_0_ : wH2_r1.cell? _ = some _ := gH2_r1.cell K_0_ (by simp); have m2_K_1_ : wH2_r1.cell? _ = some _ := gH2_r1.cell K_1_ (by simp); have m2_K_2_ : wH2_r1.cell? _ = some _ := gH2_r1.cell K_2_ (by simp); have m2_K_3_ : wH2_r1.cell? _ = some _ := gH2_r1.cell K_3_ (by simp); have m2_K_4_ : wH2_r1.cell? _ = some _ := gH2_r1.cell K_4_ (by simp); have m2_K_5_ : wH2_r1.cell? _ = some _ := gH2_r1.cell K_5_ (by simp); have m2_K_6_ : wH2_r1.cell? _ = some _ := gH2_r1.cell K_6_ (by simp); have m2_K_7_ : wH2_r1.cell? _ = some _ := gH2_r1.cell K_7_ (by simp)
  go_wp2_with fail
  clear hHeld
  refine hK.out _ _ ?s1_r1_2 (fun hHeld => ?_)
  case s1_r1_2 => exact ⟨m2_A_0_, m2_A_1_, m2_K_0_, m2_K_1_, m2_K_2_, m2_K_3_, m2_K_4_, m2_K_5_, m2_K_6_, m2_K_7_⟩
  clear hK K
  try simp only [Act.put, List.setIfInBounds_toArray, List.set_cons_zero, List.set_cons_succ]
  refine wpAnyH_take (i := 2) (oi := { dst := some 14, op := Op.unOp UnOp.not 4 (Operand.tmp 13), type := 4, pos := "l14_credit.go:40", after := #[{ on := 1, ground := Ground.data }], guard := none }) (v := ?v2_r1_3) rfl (by kernel_rfl) (by kernel_rfl) (by kernel_rfl) (fun _ _ _ h => h) (Or.inl ⟨by rfl, ?y2_r1_3⟩) (by assumption) ?r2_r1_3
  case y2_r1_3 => (intro w hSw; (try dsimp only at hSw); go_simp; all_goals (with_reducible rfl))
  try simp only [Act.put, List.setIfInBounds_toArray, List.set_cons_zero, List.set_cons_succ]
  refine wpAnyH_take (i := 3) (oi := { dst := some 15, op := Op.move (Operand.tmp 14), type := 4, pos := "l14_credit.go:40", after := #[{ on := 2, ground := Ground.data }, { on := 1, ground := Ground.chain }], guard := none }) (v := ?v3_r1_4) rfl (by kernel_rfl) (by kernel_rfl) (by kernel_rfl) (fun _ _ _ h => h) (Or.inl ⟨by rfl, ?y3_r1_4⟩) (by assumption) ?r3_r1_4
  case y3_r1_4 => (intro w hSw; (try dsimp only at hSw); go_simp; all_goals (with_reducible rfl))
  try simp only [Act.put, List.setIfInBounds_toArray, List.set_cons_zero, List.set_cons_succ]
  refine wpAnyH_take (i := 4) (oi := { dst := some 16, op := Op.move (Operand.tmp 7), type := 3, pos := "l14_credit.go:40", after := #[{ on := 3, ground := Ground.guard }], guard := some (3, false) }) (v := undef) rfl (by kernel_rfl) (by kernel_rfl) (by kernel_rfl) (fun _ _ _ h => h) (Or.inr ⟨by rfl, rfl⟩) (by assumption) ?r4_r1_5
  try simp only [Act.put, List.setIfInBounds_toArray, List.set_cons_zero, List.set_cons_succ]
  refine wpAnyH_take (i := 5) (oi := { dst := some 17, op := Op.binOp BinOp.lss 3 (Operand.tmp 16) (Operand.const (Value.int IntKind.i64 0)) 3, type := 4, pos := "l14_credit.go:40", after := #[{ on := 4, ground := Ground.data }, { on := 3, ground := Ground.guard }], guard := some (3, false) }) (v := undef) rfl (by kernel_rfl) (by kernel_rfl) (by kernel_rfl) (fun _ _ _ h => h) (Or.inr ⟨by rfl, rfl⟩) (by assumption) ?r5_r1_6
  try simp only [Act.put, List.setIfInBounds_toArray, List.set_cons_zero, List.set_cons_succ]
  refine wpAnyH_take (i := 6) (oi := { dst := some 18, op := Op.pick (Operand.tmp 15) (Operand.const (Value.bool true)) (Operand.tmp 17), type := 4, pos := "l14_credit.go:40", after := #[{ on := 3, ground := Ground.data }, { on := 5, ground := Ground.data }], guard := none }) (v := ?v6_r1_7) rfl (by kernel_rfl) (by kernel_rfl) (by kernel_rfl) (fun _ _ _ h => h) (Or.inl ⟨by rfl, ?y6_r1_7⟩) (by assumption) ?r6_r1_7
  case y6_r1_7 => (intro w hSw; (try dsimp only at hSw); go_simp; all_goals (with_reducible rfl))
  try simp only [Act.put, List.setIfInBounds_toArray, List.set_cons_zero, List.set_cons_succ]
  refine wpAnyH_take (i := 7) (oi := { dst := some 19, op := Op.move (Operand.tmp 18), type := 4, pos := "l14_credit.go:40", after := #[{ on := 6, ground := Ground.data }, { on := 3, ground := Ground.chain }], guard := none }) (v := ?v7_r1_8) rfl (by kernel_rfl) (by kernel_rfl) (by kernel_rfl) (fun _ _ _ h => h) (Or.inl ⟨by rfl, ?y7_r1_8⟩) (by assumption) ?r7_r1_8
  case y7_r1_8 => (intro w hSw; (try dsimp only at hSw); go_simp; all_goals (with_reducible rfl))
  try simp only [Act.put, List.setIfInBounds_toArray, List.set_cons_zero, List.set_cons_succ]
  refine wpAnyH_take (i := 8) (oi := { dst := some 20, op := Op.fieldAddr 54 (Operand.tmp 2) 0, type := 0, pos := "l14_credit.go:40", after := #[{ on := 7, ground := Ground.guard }], guard := some (7, false) }) (v := undef) rfl (by kernel_rfl) (by kernel_rfl) (by kernel_rfl) (fun _ _ _ h => h) (Or.inr ⟨by rfl, rfl⟩) (by assumption) ?r8_r1_9
  try simp only [Act.put, List.setIfInBounds_toArray, List.set_cons_zero, List.set_cons_succ]
  refine wpAnyH_take (i := 9) (oi := { dst := some 21, op := Op.load 27 (Operand.tmp 20), type := 27, pos := "l14_credit.go:40", after := #[{ on := 8, ground := Ground.data }, { on := 7, ground := Ground.guard }], guard := some (7, false) }) (v := undef) rfl (by kernel_rfl) (by kernel_rfl) (by kernel_rfl) (fun _ _ _ h => h) (Or.inr ⟨by rfl, rfl⟩) (by assumption) ?r9_r1_10
  try simp only [Act.put, List.setIfInBounds_toArray, List.set_cons_zero, List.set_cons_succ]
  refine wpAnyH_take (i := 10) (oi := { dst := some 22, op := Op.move (Operand.tmp 7), type := 3, pos := "l14_credit.go:40", after := #[{ on := 7, ground := Ground.guard }], guard := some (7, false) }) (v := undef) rfl (by kernel_rfl) (by kernel_rfl) (by kernel_rfl) (fun _ _ _ h => h) (Or.inr ⟨by rfl, rfl⟩) (by assumption) ?r10_r1_11
  try simp only [Act.put, List.setIfInBounds_toArray, List.set_cons_zero, List.set_cons_succ]
  refine wpAnyH_take (i := 11) (oi := { dst := some 23, op := Op.indexAddr 27 (Operand.tmp 21) (Operand.tmp 22), type := 0, pos := "l14_credit.go:40", after := #[{ on := 9, ground := Ground.data }, { on := 10, ground := Ground.data }, { on := 7, ground := Ground.guard }], guard := some (7, false) }) (v := undef) rfl (by kernel_rfl) (by kernel_rfl) (by kernel_rfl) (fun _ _ _ h => h) (Or.inr ⟨by rfl, rfl⟩) (by assumption) ?r11_r1_12
  try simp only [Act.put, List.setIfInBounds_toArray, List.set_cons_zero, List.set_cons_succ]
  refine wpAnyH_take (i := 12) (oi := { dst := some 24, op := Op.load 3 (Operand.tmp 23), type := 3, pos := "l14_credit.go:40", after := #[{ on := 11, ground := Ground.data }, { on := 7, ground := Ground.guard }], guard := some (7, false) }) (v := undef) rfl (by kernel_rfl) (by kernel_rfl) (by kernel_rfl) (fun _ _ _ h => h) (Or.inr ⟨by rfl, rfl⟩) (by assumption) ?r12_r1_13
  try simp only [Act.put, List.setIfInBounds_toArray, List.set_cons_zero, List.set_cons_succ]
  refine wpAnyH_take (i := 13) (oi := { dst := some 25, op := Op.binOp BinOp.eql 3 (Operand.tmp 24) (Operand.const (Value.int IntKind.i64 30)) 3, type := 4, pos := "l14_credit.go:40", after := #[{ on := 12, ground := Ground.data }, { on := 7, ground := Ground.guard }], guard := some (7, false) }) (v := undef) rfl (by kernel_rfl) (by kernel_rfl) (by kernel_rfl) (fun _ _ _ h => h) (Or.inr ⟨by rfl, rfl⟩) (by assumption) ?r13_r1_14
  try simp only [Act.put, List.setIfInBounds_toArray, List.set_cons_zero, List.set_cons_succ]
  refine wpAnyH_take (i := 14) (oi := { dst := some 26, op := Op.pick (Operand.tmp 19) (Operand.const (Value.bool true)) (Operand.tmp 25), type := 4, pos := "l14_credit.go:40", after := #[{ on := 7, ground := Ground.data }, { on := 13, ground := Ground.data }], guard := none }) (v := ?v14_r1_15) rfl (by kernel_rfl) (by kernel_rfl) (by kernel_rfl) (fun _ _ _ h => h) (Or.inl ⟨by rfl, ?y14_r1_15⟩) (by assumption) ?r14_r1_15
  case y14_r1_15 => (intro w hSw; (try dsimp only at hSw); go_simp; all_goals (with_reducible rfl))
  try simp only [Act.put, List.setIfInBounds_toArray, List.set_cons_zero, List.set_cons_succ]
  refine wpAnyH_take (i := 15) (oi := { dst := some 27, op := Op.move (Operand.tmp 26), type := 4, pos := "l14_credit.go:40", after := #[{ on := 14, ground := Ground.data }, { on := 7, ground := Ground.chain }], guard := none }) (v := ?v15_r1_16) rfl (by kernel_rfl) (by kernel_rfl) (by kernel_rfl) (fun _ _ _ h => h) (Or.inl ⟨by rfl, ?y15_r1_16⟩) (by assumption) ?r15_r1_16
  case y15_r1_16 => (intro w hSw; (try dsimp only at hSw); go_simp; all_goals (with_reducible rfl))
  try simp only [Act.put, List.setIfInBounds_toArray, List.set_cons_zero, List.set_cons_succ]
  refine wpAnyH_take (i := 16) (oi := { dst := some 28, op := Op.fieldAddr 54 (Operand.tmp 2) 1, type := 0, pos := "l14_credit.go:40", after := #[{ on := 15, ground := Ground.guard }], guard := some (15, false) }) (v := undef) rfl (by kernel_rfl) (by kernel_rfl) (by kernel_rfl) (fun _ _ _ h => h) (Or.inr ⟨by rfl, rfl⟩) (by assumption) ?r16_r1_17
  try simp only [Act.put, List.setIfInBounds_toArray, List.set_cons_zero, List.set_cons_succ]
  refine wpAnyH_take (i := 17) (oi := { dst := some 29, op := Op.load 27 (Operand.tmp 28), type := 27, pos := "l14_credit.go:40", after := #[{ on := 16, ground := Ground.data }, { on := 15, ground := Ground.guard }], guard := some (15, false) }) (v := undef) rfl (by kernel_rfl) (by kernel_rfl) (by kernel_rfl) (fun _ _ _ h => h) (Or.inr ⟨by rfl, rfl⟩) (by assumption) ?r17_r1_18
  try simp only [Act.put, List.setIfInBounds_toArray, List.set_cons_zero, List.set_cons_succ]
  refine wpAnyH_take (i := 18) (oi := { dst := some 30, op := Op.move (Operand.tmp 7), type := 3, pos := "l14_credit.go:40", after := #[{ on := 15, ground := Ground.guard }], guard := some (15, false) }) (v := undef) rfl (by kernel_rfl) (by kernel_rfl) (by kernel_rfl) (fun _ _ _ h => h) (Or.inr ⟨by rfl, rfl⟩) (by assumption) ?r18_r1_19
  try simp only [Act.put, List.setIfInBounds_toArray, List.set_cons_zero, List.set_cons_succ]
  refine wpAnyH_take (i := 19) (oi := { dst := some 31, op := Op.indexAddr 27 (Operand.tmp 29) (Operand.tmp 30), type := 0, pos := "l14_credit.go:40", after := #[{ on := 17, ground := Ground.data }, { on := 18, ground := Ground.data }, { on := 15, ground := Ground.guard }], guard := some (15, false) }) (v := undef) rfl (by kernel_rfl) (by kernel_rfl) (by kernel_rfl) (fun _ _ _ h => h) (Or.inr ⟨by rfl, rfl⟩) (by assumption) ?r19_r1_20
  try simp only [Act.put, List.setIfInBounds_toArray, List.set_cons_zero, List.set_cons_succ]
  refine wpAnyH_take (i := 20) (oi := { dst := some 32, op := Op.load 3 (Operand.tmp 31), type := 3, pos := "l14_credit.go:40", after := #[{ on := 19, ground := Ground.data }, { on := 15, ground := Ground.guard }], guard := some (15, false) }) (v := undef) rfl (by kernel_rfl) (by kernel_rfl) (by kernel_rfl) (fun _ _ _ h => h) (Or.inr ⟨by rfl, rfl⟩) (by assumption) ?r20_r1_21
  try simp only [Act.put, List.setIfInBounds_toArray, List.set_cons_zero, List.set_cons_succ]
  refine wpAnyH_take (i := 21) (oi := { dst := some 33, op := Op.load 29 (Operand.tmp 3), type := 29, pos := "l14_credit.go:40", after := #[{ on := 15, ground := Ground.guard }], guard := some (15, false) }) (v := undef) rfl (by kernel_rfl) (by kernel_rfl) (by kernel_rfl) (fun _ _ _ h => h) (Or.inr ⟨by rfl, rfl⟩) (by assumption) ?r21_r1_22
  try simp only [Act.put, List.setIfInBounds_toArray, List.set_cons_zero, List.set_cons_succ]
  refine wpAnyH_take (i := 22) (oi := { dst := some 34, op := Op.call { callee := Callee.value (Operand.func 85), args := #[Operand.tmp 33], argTypes := #[29] }, type := 3, pos := "l14_credit.go:40", after := #[{ on := 21, ground := Ground.data }, { on := 15, ground := Ground.chain }, { on := 15, ground := Ground.guard }], guard := some (15, false) }) (v := undef) rfl (by kernel_rfl) (by kernel_rfl) (by kernel_rfl) (fun _ _ _ h => h) (Or.inr ⟨by rfl, rfl⟩) (by assumption) ?r22_r1_23
  try simp only [Act.put, List.setIfInBounds_toArray, List.set_cons_zero, List.set_cons_succ]
  refine wpAnyH_take (i := 23) (oi := { dst := some 35, op := Op.binOp BinOp.add 3 (Operand.tmp 32) (Operand.tmp 34) 3, type := 3, pos := "l14_credit.go:40", after := #[{ on := 20, ground := Ground.data }, { on := 22, ground := Ground.data }, { on := 15, ground := Ground.guard }], guard := some (15, false) }) (v := undef) rfl (by kernel_rfl) (by kernel_rfl) (by kernel_rfl) (fun _ _ _ h => h) (Or.inr ⟨by rfl, rfl⟩) (by assumption) ?r23_r1_24
  try simp only [Act.put, List.setIfInBounds_toArray, List.set_cons_zero, List.set_cons_succ]
  refine wpAnyH_take (i := 24) (oi := { dst := some 36, op := Op.binOp BinOp.gtr 3 (Operand.tmp 35) (Operand.const (Value.int IntKind.i64 30)) 3, type := 4, pos := "l14_credit.go:40", after := #[{ on := 23, ground := Ground.data }, { on := 15, ground := Ground.guard }], guard := some (15, false) }) (v := undef) rfl (by kernel_rfl) (by kernel_rfl) (by kernel_rfl) (fun _ _ _ h => h) (Or.inr ⟨by rfl, rfl⟩) (by assumption) ?r24_r1_25
  try simp only [Act.put, List.setIfInBounds_toArray, List.set_cons_zero, List.set_cons_succ]
  refine wpAnyH_take (i := 25) (oi := { dst := some 37, op := Op.pick (Operand.tmp 27) (Operand.const (Value.bool true)) (Operand.tmp 36), type := 4, pos := "l14_credit.go:40", after := #[{ on := 15, ground := Ground.data }, { on := 24, ground := Ground.data }], guard := none }) (v := ?v25_r1_26) rfl (by kernel_rfl) (by kernel_rfl) (by kernel_rfl) (fun _ _ _ h => h) (Or.inl ⟨by rfl, ?y25_r1_26⟩) (by assumption) ?r25_r1_26
  case y25_r1_26 => (intro w hSw; (try dsimp only at hSw); go_simp; all_goals (with_reducible rfl))
  try simp only [Act.put, List.setIfInBounds_toArray, List.set_cons_zero, List.set_cons_succ]
  refine wpAnyH_done (by kernel_rfl) ?_ _
  have gR_ : (w2).grownBy (wH2_r1) none := (gby_trans (gby_drew (gby_refl _ none)) gH2_r1)
  have szwH2_r1 := gR_.size
  try simp only [World.size_alloc] at szwH2_r1
  clear A_0_ A_1_ K_0_ K_1_ K_2_ K_3_ K_4_ K_5_ K_6_ K_7_
  have rA22_ := Lib.hid (show (wH2_r1).heap[W.heap.size]? = some (.cells #[.slice a0 n0 c0, .slice a1 n1 c1] 54 (0, 0)) from row_held gR_ rA16_.out)
  clear rA16_
  have rK23_ := Lib.hid (show (wH2_r1).heap[W.heap.size + 1]? = some (.cells #[.int .i64 p.f0, .int .i64 p.f1, .int .i64 p.f2, .int .i64 p.f3, .int .i64 p.f4, .int .i64 p.f5, .int .i64 p.f6, vp] 29 (0, 0)) from row_held gR_ rK17_.out)
  clear rK17_
  have rR24_ := Lib.hid (show (wH2_r1).heap[W.heap.size + 1 + 1]? = some (.cells #[.slice none 0 0, .slice none 0 0] 54 (0, 0)) from row_held gR_ rR18_.out)
  clear rR18_
  have rX25_ := Lib.hid (show (wH2_r1).heap[w1.heap.size]? = some (.cells #[.slice q0 m0 d0, .slice q1 m1 d1] 54 (0, 0)) from row_held gR_ rX19_.out)
  clear rX19_
  have oC26_ := Lib.hid (show OwU (wH2_r1) ((W.heap.size + 1 + 1 + 1)) (w1.heap.size) [] [own shI (.slice q0 m0 d0) xs, own shI (.slice q1 m1 d1) ys] from OwU.grow oC20_.out gR_)
  clear oC20_
  have G27_ := Lib.hid (show (W).grownBy (wH2_r1) none from gby_trans G21_.out gR_)
  clear gR_
  have A_0_ : (wH2_r1).cell? ⟨W.heap.size, 0, none⟩ = some (.slice a0 n0 c0) := cell_of_row _ _ 0 _ _ _ rA22_.out
  have A_1_ : (wH2_r1).cell? ⟨W.heap.size, 1, none⟩ = some (.slice a1 n1 c1) := cell_of_row _ _ 1 _ _ _ rA22_.out
  have K_0_ : (wH2_r1).cell? ⟨W.heap.size + 1, 0, none⟩ = some (.int .i64 p.f0) := cell_of_row _ _ 0 _ _ _ rK23_.out
  have K_1_ : (wH2_r1).cell? ⟨W.heap.size + 1, 1, none⟩ = some (.int .i64 p.f1) := cell_of_row _ _ 1 _ _ _ rK23_.out
  have K_2_ : (wH2_r1).cell? ⟨W.heap.size + 1, 2, none⟩ = some (.int .i64 p.f2) := cell_of_row _ _ 2 _ _ _ rK23_.out
  have K_3_ : (wH2_r1).cell? ⟨W.heap.size + 1, 3, none⟩ = some (.int .i64 p.f3) := cell_of_row _ _ 3 _ _ _ rK23_.out
  have K_4_ : (wH2_r1).cell? ⟨W.heap.size + 1, 4, none⟩ = some (.int .i64 p.f4) := cell_of_row _ _ 4 _ _ _ rK23_.out
  have K_5_ : (wH2_r1).cell? ⟨W.heap.size + 1, 5, none⟩ = some (.int .i64 p.f5) := cell_of_row _ _ 5 _ _ _ rK23_.out
  have K_6_ : (wH2_r1).cell? ⟨W.heap.size + 1, 6, none⟩ = some (.int .i64 p.f6) := cell_of_row _ _ 6 _ _ _ rK23_.out
  have K_7_ : (wH2_r1).cell? ⟨W.heap.size + 1, 7, none⟩ = some (vp) := cell_of_row _ _ 7 _ _ _ rK23_.out
  have R_0_ : (wH2_r1).cell? ⟨W.heap.size + 1 + 1, 0, none⟩ = some (.slice none 0 0) := cell_of_row _ _ 0 _ _ _ rR24_.out
  have R_1_ : (wH2_r1).cell? ⟨W.heap.size + 1 + 1, 1, none⟩ = some (.slice none 0 0) := cell_of_row _ _ 1 _ _ _ rR24_.out
  have X_0_ : (wH2_r1).cell? ⟨w1.heap.size, 0, none⟩ = some (.slice q0 m0 d0) := cell_of_row _ _ 0 _ _ _ rX25_.out
  have X_1_ : (wH2_r1).cell? ⟨w1.heap.size, 1, none⟩ = some (.slice q1 m1 d1) := cell_of_row _ _ 1 _ _ _ rX25_.out
  clear A_0_ A_1_ K_0_ K_1_ K_2_ K_3_ K_4_ K_5_ K_6_ K_7_ R_0_ R_1_ X_0_ X_1_
  have A_0_ : (wH2_r1).cell? ⟨W.heap.size, 0, none⟩ = some (.slice a0 n0 c0) := cell_of_row _ _ 0 _ _ _ rA22_.out
  have A_1_ : (wH2_r1).cell? ⟨W.heap.size, 1, none⟩ = some (.slice a1 n1 c1) := cell_of_row _ _ 1 _ _ _ rA22_.out
  have K_0_ : (wH2_r1).cell? ⟨W.heap.size + 1, 0, none⟩ = some (.int .i64 p.f0) := cell_of_row _ _ 0 _ _ _ rK23_.out
  have K_1_ : (wH2_r1).cell? ⟨W.heap.size + 1, 1, none⟩ = some (.int .i64 p.f1) := cell_of_row _ _ 1 _ _ _ rK23_.out
  have K_2_ : (wH2_r1).cell? ⟨W.heap.size + 1, 2, none⟩ = some (.int .i64 p.f2) := cell_of_row _ _ 2 _ _ _ rK23_.out
  have K_3_ : (wH2_r1).cell? ⟨W.heap.size + 1, 3, none⟩ = some (.int .i64 p.f3) := cell_of_row _ _ 3 _ _ _ rK23_.out
  have K_4_ : (wH2_r1).cell? ⟨W.heap.size + 1, 4, none⟩ = some (.int .i64 p.f4) := cell_of_row _ _ 4 _ _ _ rK23_.out
  have K_5_ : (wH2_r1).cell? ⟨W.heap.size + 1, 5, none⟩ = some (.int .i64 p.f5) := cell_of_row _ _ 5 _ _ _ rK23_.out
  have K_6_ : (wH2_r1).cell? ⟨W.heap.size + 1, 6, none⟩ = some (.int .i64 p.f6) := cell_of_row _ _ 6 _ _ _ rK23_.out
  have K_7_ : (wH2_r1).cell? ⟨W.heap.size + 1, 7, none⟩ = some (vp) := cell_of_row _ _ 7 _ _ _ rK23_.out
  have R_0_ : (wH2_r1).cell? ⟨W.heap.size + 1 + 1, 0, none⟩ = some (.slice none 0 0) := cell_of_row _ _ 0 _ _ _ rR24_.out
  have R_1_ : (wH2_r1).cell? ⟨W.heap.size + 1 + 1, 1, none⟩ = some (.slice none 0 0) := cell_of_row _ _ 1 _ _ _ rR24_.out
  have Rf0_ : (wH2_r1).frozen? ⟨W.heap.size + 1 + 1, 0, none⟩ = false := frozen_of_row _ _ 0 _ _ rR24_.out
  have Rf1_ : (wH2_r1).frozen? ⟨W.heap.size + 1 + 1, 1, none⟩ = false := frozen_of_row _ _ 1 _ _ rR24_.out
  have X_0_ : (wH2_r1).cell? ⟨w1.heap.size, 0, none⟩ = some (.slice q0 m0 d0) := cell_of_row _ _ 0 _ _ _ rX25_.out
  have X_1_ : (wH2_r1).cell? ⟨w1.heap.size, 1, none⟩ = some (.slice q1 m1 d1) := cell_of_row _ _ 1 _ _ _ rX25_.out
  have zr_ := Lib.hid (show (((wH2_r1.setCell ⟨W.heap.size + 1 + 1, 0, none⟩ (.slice q0 m0 d0)).setCell ⟨W.heap.size + 1 + 1, 1, none⟩ (.slice q1 m1 d1))).heap[W.heap.size + 1 + 1]? = some (.cells #[.slice q0 m0 d0, .slice q1 m1 d1] 54 (0, 0)) from (heap_setCell_same _ _ 1 _ _ _ (heap_setCell_same _ _ 0 _ _ _ rR24_.out)))
  have z0_ : (((wH2_r1.setCell ⟨W.heap.size + 1 + 1, 0, none⟩ (.slice q0 m0 d0)).setCell ⟨W.heap.size + 1 + 1, 1, none⟩ (.slice q1 m1 d1))).cell? ⟨W.heap.size + 1 + 1, 0, none⟩ = some (.slice q0 m0 d0) := cell_of_row _ _ 0 _ _ _ zr_.out
  have z1_ : (((wH2_r1.setCell ⟨W.heap.size + 1 + 1, 0, none⟩ (.slice q0 m0 d0)).setCell ⟨W.heap.size + 1 + 1, 1, none⟩ (.slice q1 m1 d1))).cell? ⟨W.heap.size + 1 + 1, 1, none⟩ = some (.slice q1 m1 d1) := cell_of_row _ _ 1 _ _ _ zr_.out
  go_wp2
  refine bodyPost_ret (v := .tuple #[.agg #[.slice q0 m0 d0, .slice q1 m1 d1], .bool false]) (by simp [results, go_sem, z0_, z1_]) rfl ⟨_, _, rfl, ?_, ?_⟩
  · exact OwU.wide (lo := W.heap.size + 1 + 1 + 1) (by omega) (by simp only [World.size_setCell]; omega) (OwU.keep (chg_one _ _ _ _) (.inr (by omega)) (OwU.keep (chg_one _ _ _ _) (.inr (by omega)) oC26_.out))
  · exact (gby_setnew (gby_setnew G27_.out _ (by dsimp only; omega) _) _ (by dsimp only; omega) _)

set_option maxRecDepth 8000 in
set_option maxHeartbeats 4000000 in
theorem specReturnCredits_pk (W : World) (u0 u1 vp : Value) (xs ys : List Int) (p : DPacket) (H0 : RdL shI W u0 xs) (H1 : RdL shI W u1 ys) (Hp : RdL shI W vp p.f7) (h0 : szL shI xs ≤ 1048576) (h1 : szL shI ys ≤ 1048576) (hl : szL shI p.f7 ≤ 1048576) (hcr : CrdOk xs ys) (hn : ¬ 0 ≤ clsD p) : Calls Try.prog 41 #[.agg #[u0, u1], (vPacket p.f0 p.f1 p.f2 p.f3 p.f4 p.f5 p.f6 vp)] W (ResIReturnCredits xs ys false W) := by
  have HSX := Lib.hid H0
  have HSY := Lib.hid H1
  have HP := Lib.hid Hp
  have HXL := Lib.hid h0
  have HYL := Lib.hid h1
  have HL := Lib.hid hl
  obtain ⟨a0, n0, c0, rfl⟩ := RdL.form H0
  obtain ⟨a1, n1, c1, rfl⟩ := RdL.form H1
  clear H0 H1 Hp h0 h1 hl
  unfold vPacket
  have HCD := Lib.hid (show ∀ (W : World) (z0 z1 : Value), RdL shI W z0 xs → RdL shI W z1 ys → Calls Try.prog 89 #[.agg #[z0, z1]] W (AnsN (.bool true) W) from fun W z0 z1 h0 h1 => specCrD W z0 z1 xs ys h0 h1 HXL.out HYL.out true (by rw [decide_eq_true hcr]))
  have HCLX := Lib.hid (show ∀ (W : World) (v : Value), RdL shI W v p.f7 → Calls Try.prog 84 #[vPacket p.f0 p.f1 p.f2 p.f3 p.f4 p.f5 p.f6 v] W (AnsN (.int .i64 (clsD p)) W) from fun W v H => specClsD W p v H HL.out)
  have HN := Lib.hid hn
  clear hcr hn
  go_enter Try.func41, Try.ntmps41
  have rA1_ := Lib.hid (show ((((W.alloc (.cells #[.slice a0 n0 c0, .slice a1 n1 c1] 54)).alloc (.cells #[.int .i64 p.f0, .int .i64 p.f1, .int .i64 p.f2, .int .i64 p.f3, .int .i64 p.f4, .int .i64 p.f5, .int .i64 p.f6, vp] 29)).alloc (.cells #[.slice none 0 0, .slice none 0 0] 54))).heap[W.heap.size]? = some (.cells #[.slice a0 n0 c0, .slice a1 n1 c1] 54 (0, 0)) from by rw [heap_alloc_old _ _ (by simp only [World.size_alloc]; omega)]; rw [heap_alloc_old _ _ (by simp only [World.size_alloc]; omega)]; exact heap_alloc_new _ _)
  have rK2_ := Lib.hid (show ((((W.alloc (.cells #[.slice a0 n0 c0, .slice a1 n1 c1] 54)).alloc (.cells #[.int .i64 p.f0, .int .i64 p.f1, .int .i64 p.f2, .int .i64 p.f3, .int .i64 p.f4, .int .i64 p.f5, .int .i64 p.f6, vp] 29)).alloc (.cells #[.slice none 0 0, .slice none 0 0] 54))).heap[W.heap.size + 1]? = some (.cells #[.int .i64 p.f0, .int .i64 p.f1, .int .i64 p.f2, .int .i64 p.f3, .int .i64 p.f4, .int .i64 p.f5, .int .i64 p.f6, vp] 29 (0, 0)) from by rw [heap_alloc_old _ _ (by simp only [World.size_alloc]; omega)]; exact heap_pair _ _ _)
  have rR3_ := Lib.hid (show ((((W.alloc (.cells #[.slice a0 n0 c0, .slice a1 n1 c1] 54)).alloc (.cells #[.int .i64 p.f0, .int .i64 p.f1, .int .i64 p.f2, .int .i64 p.f3, .int .i64 p.f4, .int .i64 p.f5, .int .i64 p.f6, vp] 29)).alloc (.cells #[.slice none 0 0, .slice none 0 0] 54))).heap[W.heap.size + 1 + 1]? = some (.cells #[.slice none 0 0, .slice none 0 0] 54 (0, 0)) from by exact heap_trip _ _ _ _)
  have G4_ := Lib.hid (show (W).grownBy ((((W.alloc (.cells #[.slice a0 n0 c0, .slice a1 n1 c1] 54)).alloc (.cells #[.int .i64 p.f0, .int .i64 p.f1, .int .i64 p.f2, .int .i64 p.f3, .int .i64 p.f4, .int .i64 p.f5, .int .i64 p.f6, vp] 29)).alloc (.cells #[.slice none 0 0, .slice none 0 0] 54))) none from (gby_alloc (gby_alloc (gby_alloc (gby_refl _ _) _) _) _))
  have A_0_ : ((((W.alloc (.cells #[.slice a0 n0 c0, .slice a1 n1 c1] 54)).alloc (.cells #[.int .i64 p.f0, .int .i64 p.f1, .int .i64 p.f2, .int .i64 p.f3, .int .i64 p.f4, .int .i64 p.f5, .int .i64 p.f6, vp] 29)).alloc (.cells #[.slice none 0 0, .slice none 0 0] 54))).cell? ⟨W.heap.size, 0, none⟩ = some (.slice a0 n0 c0) := cell_of_row _ _ 0 _ _ _ rA1_.out
  have A_1_ : ((((W.alloc (.cells #[.slice a0 n0 c0, .slice a1 n1 c1] 54)).alloc (.cells #[.int .i64 p.f0, .int .i64 p.f1, .int .i64 p.f2, .int .i64 p.f3, .int .i64 p.f4, .int .i64 p.f5, .int .i64 p.f6, vp] 29)).alloc (.cells #[.slice none 0 0, .slice none 0 0] 54))).cell? ⟨W.heap.size, 1, none⟩ = some (.slice a1 n1 c1) := cell_of_row _ _ 1 _ _ _ rA1_.out
  have K_0_ : ((((W.alloc (.cells #[.slice a0 n0 c0, .slice a1 n1 c1] 54)).alloc (.cells #[.int .i64 p.f0, .int .i64 p.f1, .int .i64 p.f2, .int .i64 p.f3, .int .i64 p.f4, .int .i64 p.f5, .int .i64 p.f6, vp] 29)).alloc (.cells #[.slice none 0 0, .slice none 0 0] 54))).cell? ⟨W.heap.size + 1, 0, none⟩ = some (.int .i64 p.f0) := cell_of_row _ _ 0 _ _ _ rK2_.out
  have K_1_ : ((((W.alloc (.cells #[.slice a0 n0 c0, .slice a1 n1 c1] 54)).alloc (.cells #[.int .i64 p.f0, .int .i64 p.f1, .int .i64 p.f2, .int .i64 p.f3, .int .i64 p.f4, .int .i64 p.f5, .int .i64 p.f6, vp] 29)).alloc (.cells #[.slice none 0 0, .slice none 0 0] 54))).cell? ⟨W.heap.size + 1, 1, none⟩ = some (.int .i64 p.f1) := cell_of_row _ _ 1 _ _ _ rK2_.out
  have K_2_ : ((((W.alloc (.cells #[.slice a0 n0 c0, .slice a1 n1 c1] 54)).alloc (.cells #[.int .i64 p.f0, .int .i64 p.f1, .int .i64 p.f2, .int .i64 p.f3, .int .i64 p.f4, .int .i64 p.f5, .int .i64 p.f6, vp] 29)).alloc (.cells #[.slice none 0 0, .slice none 0 0] 54))).cell? ⟨W.heap.size + 1, 2, none⟩ = some (.int .i64 p.f2) := cell_of_row _ _ 2 _ _ _ rK2_.out
  have K_3_ : ((((W.alloc (.cells #[.slice a0 n0 c0, .slice a1 n1 c1] 54)).alloc (.cells #[.int .i64 p.f0, .int .i64 p.f1, .int .i64 p.f2, .int .i64 p.f3, .int .i64 p.f4, .int .i64 p.f5, .int .i64 p.f6, vp] 29)).alloc (.cells #[.slice none 0 0, .slice none 0 0] 54))).cell? ⟨W.heap.size + 1, 3, none⟩ = some (.int .i64 p.f3) := cell_of_row _ _ 3 _ _ _ rK2_.out
  have K_4_ : ((((W.alloc (.cells #[.slice a0 n0 c0, .slice a1 n1 c1] 54)).alloc (.cells #[.int .i64 p.f0, .int .i64 p.f1, .int .i64 p.f2, .int .i64 p.f3, .int .i64 p.f4, .int .i64 p.f5, .int .i64 p.f6, vp] 29)).alloc (.cells #[.slice none 0 0, .slice none 0 0] 54))).cell? ⟨W.heap.size + 1, 4, none⟩ = some (.int .i64 p.f4) := cell_of_row _ _ 4 _ _ _ rK2_.out
  have K_5_ : ((((W.alloc (.cells #[.slice a0 n0 c0, .slice a1 n1 c1] 54)).alloc (.cells #[.int .i64 p.f0, .int .i64 p.f1, .int .i64 p.f2, .int .i64 p.f3, .int .i64 p.f4, .int .i64 p.f5, .int .i64 p.f6, vp] 29)).alloc (.cells #[.slice none 0 0, .slice none 0 0] 54))).cell? ⟨W.heap.size + 1, 5, none⟩ = some (.int .i64 p.f5) := cell_of_row _ _ 5 _ _ _ rK2_.out
  have K_6_ : ((((W.alloc (.cells #[.slice a0 n0 c0, .slice a1 n1 c1] 54)).alloc (.cells #[.int .i64 p.f0, .int .i64 p.f1, .int .i64 p.f2, .int .i64 p.f3, .int .i64 p.f4, .int .i64 p.f5, .int .i64 p.f6, vp] 29)).alloc (.cells #[.slice none 0 0, .slice none 0 0] 54))).cell? ⟨W.heap.size + 1, 6, none⟩ = some (.int .i64 p.f6) := cell_of_row _ _ 6 _ _ _ rK2_.out
  have K_7_ : ((((W.alloc (.cells #[.slice a0 n0 c0, .slice a1 n1 c1] 54)).alloc (.cells #[.int .i64 p.f0, .int .i64 p.f1, .int .i64 p.f2, .int .i64 p.f3, .int .i64 p.f4, .int .i64 p.f5, .int .i64 p.f6, vp] 29)).alloc (.cells #[.slice none 0 0, .slice none 0 0] 54))).cell? ⟨W.heap.size + 1, 7, none⟩ = some (vp) := cell_of_row _ _ 7 _ _ _ rK2_.out
  have R_0_ : ((((W.alloc (.cells #[.slice a0 n0 c0, .slice a1 n1 c1] 54)).alloc (.cells #[.int .i64 p.f0, .int .i64 p.f1, .int .i64 p.f2, .int .i64 p.f3, .int .i64 p.f4, .int .i64 p.f5, .int .i64 p.f6, vp] 29)).alloc (.cells #[.slice none 0 0, .slice none 0 0] 54))).cell? ⟨W.heap.size + 1 + 1, 0, none⟩ = some (.slice none 0 0) := cell_of_row _ _ 0 _ _ _ rR3_.out
  have R_1_ : ((((W.alloc (.cells #[.slice a0 n0 c0, .slice a1 n1 c1] 54)).alloc (.cells #[.int .i64 p.f0, .int .i64 p.f1, .int .i64 p.f2, .int .i64 p.f3, .int .i64 p.f4, .int .i64 p.f5, .int .i64 p.f6, vp] 29)).alloc (.cells #[.slice none 0 0, .slice none 0 0] 54))).cell? ⟨W.heap.size + 1 + 1, 1, none⟩ = some (.slice none 0 0) := cell_of_row _ _ 1 _ _ _ rR3_.out
  go_wp2_with fail
  go_at_call 82
  refine (l14Copy_d _ _ _ xs ys (HSX.out.grow G4_.out) (HSY.out.grow G4_.out) HXL.out HYL.out).mono ?_
  rintro e w1 ⟨z0, z1, rfl, o, g⟩
  have sz_ := g.size
  try simp only [World.size_alloc] at sz_ o
  clear A_0_ A_1_ K_0_ K_1_ K_2_ K_3_ K_4_ K_5_ K_6_ K_7_ R_0_ R_1_
  have rA5_ := Lib.hid (show (w1).heap[W.heap.size]? = some (.cells #[.slice a0 n0 c0, .slice a1 n1 c1] 54 (0, 0)) from row_held g rA1_.out)
  clear rA1_
  have rK6_ := Lib.hid (show (w1).heap[W.heap.size + 1]? = some (.cells #[.int .i64 p.f0, .int .i64 p.f1, .int .i64 p.f2, .int .i64 p.f3, .int .i64 p.f4, .int .i64 p.f5, .int .i64 p.f6, vp] 29 (0, 0)) from row_held g rK2_.out)
  clear rK2_
  have rR7_ := Lib.hid (show (w1).heap[W.heap.size + 1 + 1]? = some (.cells #[.slice none 0 0, .slice none 0 0] 54 (0, 0)) from row_held g rR3_.out)
  clear rR3_
  have G8_ := Lib.hid (show (W).grownBy (w1) none from gby_trans G4_.out g)
  clear g
  obtain ⟨q0, m0, d0, hv_⟩ := RdL.form (OwU.rd o)
  subst hv_
  obtain ⟨q1, m1, d1, hv_⟩ := RdL.form (OwU.rd (OwU.tail o))
  subst hv_
  unfold vCredits
  have oC9_ := Lib.hid (show OwU (w1) ((W.heap.size + 1 + 1 + 1)) (w1.heap.size) [] [own shI (.slice q0 m0 d0) xs, own shI (.slice q1 m1 d1) ys] from o)
  clear o
  have al_ : (w1).grownBy ((w1).alloc (.cells #[.slice q0 m0 d0, .slice q1 m1 d1] 54)) none := gby_alloc (gby_refl _ _) _
  have rA10_ := Lib.hid (show ((w1.alloc (.cells #[.slice q0 m0 d0, .slice q1 m1 d1] 54))).heap[W.heap.size]? = some (.cells #[.slice a0 n0 c0, .slice a1 n1 c1] 54 (0, 0)) from row_held al_ rA5_.out)
  clear rA5_
  have rK11_ := Lib.hid (show ((w1.alloc (.cells #[.slice q0 m0 d0, .slice q1 m1 d1] 54))).heap[W.heap.size + 1]? = some (.cells #[.int .i64 p.f0, .int .i64 p.f1, .int .i64 p.f2, .int .i64 p.f3, .int .i64 p.f4, .int .i64 p.f5, .int .i64 p.f6, vp] 29 (0, 0)) from row_held al_ rK6_.out)
  clear rK6_
  have rR12_ := Lib.hid (show ((w1.alloc (.cells #[.slice q0 m0 d0, .slice q1 m1 d1] 54))).heap[W.heap.size + 1 + 1]? = some (.cells #[.slice none 0 0, .slice none 0 0] 54 (0, 0)) from row_held al_ rR7_.out)
  clear rR7_
  have oC13_ := Lib.hid (show OwU ((w1.alloc (.cells #[.slice q0 m0 d0, .slice q1 m1 d1] 54))) ((W.heap.size + 1 + 1 + 1)) (w1.heap.size) [] [own shI (.slice q0 m0 d0) xs, own shI (.slice q1 m1 d1) ys] from OwU.grow oC9_.out al_)
  clear oC9_
  have G14_ := Lib.hid (show (W).grownBy ((w1.alloc (.cells #[.slice q0 m0 d0, .slice q1 m1 d1] 54))) none from gby_trans G8_.out al_)
  have rX15_ := Lib.hid (show ((w1.alloc (.cells #[.slice q0 m0 d0, .slice q1 m1 d1] 54))).heap[w1.heap.size]? = some (.cells #[.slice q0 m0 d0, .slice q1 m1 d1] 54 (0, 0)) from by first | exact heap_alloc_new _ _ | exact heap_pair _ _ _ | exact heap_trip _ _ _ _)
  clear al_
  have A_0_ : ((w1.alloc (.cells #[.slice q0 m0 d0, .slice q1 m1 d1] 54))).cell? ⟨W.heap.size, 0, none⟩ = some (.slice a0 n0 c0) := cell_of_row _ _ 0 _ _ _ rA10_.out
  have A_1_ : ((w1.alloc (.cells #[.slice q0 m0 d0, .slice q1 m1 d1] 54))).cell? ⟨W.heap.size, 1, none⟩ = some (.slice a1 n1 c1) := cell_of_row _ _ 1 _ _ _ rA10_.out
  have K_0_ : ((w1.alloc (.cells #[.slice q0 m0 d0, .slice q1 m1 d1] 54))).cell? ⟨W.heap.size + 1, 0, none⟩ = some (.int .i64 p.f0) := cell_of_row _ _ 0 _ _ _ rK11_.out
  have K_1_ : ((w1.alloc (.cells #[.slice q0 m0 d0, .slice q1 m1 d1] 54))).cell? ⟨W.heap.size + 1, 1, none⟩ = some (.int .i64 p.f1) := cell_of_row _ _ 1 _ _ _ rK11_.out
  have K_2_ : ((w1.alloc (.cells #[.slice q0 m0 d0, .slice q1 m1 d1] 54))).cell? ⟨W.heap.size + 1, 2, none⟩ = some (.int .i64 p.f2) := cell_of_row _ _ 2 _ _ _ rK11_.out
  have K_3_ : ((w1.alloc (.cells #[.slice q0 m0 d0, .slice q1 m1 d1] 54))).cell? ⟨W.heap.size + 1, 3, none⟩ = some (.int .i64 p.f3) := cell_of_row _ _ 3 _ _ _ rK11_.out
  have K_4_ : ((w1.alloc (.cells #[.slice q0 m0 d0, .slice q1 m1 d1] 54))).cell? ⟨W.heap.size + 1, 4, none⟩ = some (.int .i64 p.f4) := cell_of_row _ _ 4 _ _ _ rK11_.out
  have K_5_ : ((w1.alloc (.cells #[.slice q0 m0 d0, .slice q1 m1 d1] 54))).cell? ⟨W.heap.size + 1, 5, none⟩ = some (.int .i64 p.f5) := cell_of_row _ _ 5 _ _ _ rK11_.out
  have K_6_ : ((w1.alloc (.cells #[.slice q0 m0 d0, .slice q1 m1 d1] 54))).cell? ⟨W.heap.size + 1, 6, none⟩ = some (.int .i64 p.f6) := cell_of_row _ _ 6 _ _ _ rK11_.out
  have K_7_ : ((w1.alloc (.cells #[.slice q0 m0 d0, .slice q1 m1 d1] 54))).cell? ⟨W.heap.size + 1, 7, none⟩ = some (vp) := cell_of_row _ _ 7 _ _ _ rK11_.out
  have R_0_ : ((w1.alloc (.cells #[.slice q0 m0 d0, .slice q1 m1 d1] 54))).cell? ⟨W.heap.size + 1 + 1, 0, none⟩ = some (.slice none 0 0) := cell_of_row _ _ 0 _ _ _ rR12_.out
  have R_1_ : ((w1.alloc (.cells #[.slice q0 m0 d0, .slice q1 m1 d1] 54))).cell? ⟨W.heap.size + 1 + 1, 1, none⟩ = some (.slice none 0 0) := cell_of_row _ _ 1 _ _ _ rR12_.out
  have X_0_ : ((w1.alloc (.cells #[.slice q0 m0 d0, .slice q1 m1 d1] 54))).cell? ⟨w1.heap.size, 0, none⟩ = some (.slice q0 m0 d0) := cell_of_row _ _ 0 _ _ _ rX15_.out
  have X_1_ : ((w1.alloc (.cells #[.slice q0 m0 d0, .slice q1 m1 d1] 54))).cell? ⟨w1.heap.size, 1, none⟩ = some (.slice q1 m1 d1) := cell_of_row _ _ 1 _ _ _ rX15_.out
  go_wp2_with fail
  go_at_call 84
  refine (HCLX.out _ _ (HP.out.grow G14_.out)).mono ?_
  rintro e w2 ⟨rfl, g⟩
  have szw2 := g.size
  try simp only [World.size_alloc] at szw2
  try simp only [World.size_setCell] at szw2
  clear A_0_ A_1_ K_0_ K_1_ K_2_ K_3_ K_4_ K_5_ K_6_ K_7_ R_0_ R_1_ X_0_ X_1_
  have rA16_ := Lib.hid (show (w2).heap[W.heap.size]? = some (.cells #[.slice a0 n0 c0, .slice a1 n1 c1] 54 (0, 0)) from row_held g rA10_.out)
  clear rA10_
  have rK17_ := Lib.hid (show (w2).heap[W.heap.size + 1]? = some (.cells #[.int .i64 p.f0, .int .i64 p.f1, .int .i64 p.f2, .int .i64 p.f3, .int .i64 p.f4, .int .i64 p.f5, .int .i64 p.f6, vp] 29 (0, 0)) from row_held g rK11_.out)
  clear rK11_
  have rR18_ := Lib.hid (show (w2).heap[W.heap.size + 1 + 1]? = some (.cells #[.slice none 0 0, .slice none 0 0] 54 (0, 0)) from row_held g rR12_.out)
  clear rR12_
  have rX19_ := Lib.hid (show (w2).heap[w1.heap.size]? = some (.cells #[.slice q0 m0 d0, .slice q1 m1 d1] 54 (0, 0)) from row_held g rX15_.out)
  clear rX15_
  have oC20_ := Lib.hid (show OwU (w2) ((W.heap.size + 1 + 1 + 1)) (w1.heap.size) [] [own shI (.slice q0 m0 d0) xs, own shI (.slice q1 m1 d1) ys] from OwU.grow oC13_.out g)
  clear oC13_
  have G21_ := Lib.hid (show (W).grownBy (w2) none from gby_trans G14_.out g)
  clear g
  have A_0_ : (w2).cell? ⟨W.heap.size, 0, none⟩ = some (.slice a0 n0 c0) := cell_of_row _ _ 0 _ _ _ rA16_.out
  have A_1_ : (w2).cell? ⟨W.heap.size, 1, none⟩ = some (.slice a1 n1 c1) := cell_of_row _ _ 1 _ _ _ rA16_.out
  have K_0_ : (w2).cell? ⟨W.heap.size + 1, 0, none⟩ = some (.int .i64 p.f0) := cell_of_row _ _ 0 _ _ _ rK17_.out
  have K_1_ : (w2).cell? ⟨W.heap.size + 1, 1, none⟩ = some (.int .i64 p.f1) := cell_of_row _ _ 1 _ _ _ rK17_.out
  have K_2_ : (w2).cell? ⟨W.heap.size + 1, 2, none⟩ = some (.int .i64 p.f2) := cell_of_row _ _ 2 _ _ _ rK17_.out
  have K_3_ : (w2).cell? ⟨W.heap.size + 1, 3, none⟩ = some (.int .i64 p.f3) := cell_of_row _ _ 3 _ _ _ rK17_.out
  have K_4_ : (w2).cell? ⟨W.heap.size + 1, 4, none⟩ = some (.int .i64 p.f4) := cell_of_row _ _ 4 _ _ _ rK17_.out
  have K_5_ : (w2).cell? ⟨W.heap.size + 1, 5, none⟩ = some (.int .i64 p.f5) := cell_of_row _ _ 5 _ _ _ rK17_.out
  have K_6_ : (w2).cell? ⟨W.heap.size + 1, 6, none⟩ = some (.int .i64 p.f6) := cell_of_row _ _ 6 _ _ _ rK17_.out
  have K_7_ : (w2).cell? ⟨W.heap.size + 1, 7, none⟩ = some (vp) := cell_of_row _ _ 7 _ _ _ rK17_.out
  have R_0_ : (w2).cell? ⟨W.heap.size + 1 + 1, 0, none⟩ = some (.slice none 0 0) := cell_of_row _ _ 0 _ _ _ rR18_.out
  have R_1_ : (w2).cell? ⟨W.heap.size + 1 + 1, 1, none⟩ = some (.slice none 0 0) := cell_of_row _ _ 1 _ _ _ rR18_.out
  have X_0_ : (w2).cell? ⟨w1.heap.size, 0, none⟩ = some (.slice q0 m0 d0) := cell_of_row _ _ 0 _ _ _ rX19_.out
  have X_1_ : (w2).cell? ⟨w1.heap.size, 1, none⟩ = some (.slice q1 m1 d1) := cell_of_row _ _ 1 _ _ _ rX19_.out
  have cn_ : clsD p < 0 := by have := HN.out; omega
  have cn2_ : decide (clsD p < 0) = true := decide_eq_true cn_
  clear A_0_ A_1_ K_0_ K_1_ K_2_ K_3_ K_4_ K_5_ K_6_ K_7_ R_0_ R_1_ X_0_ X_1_
  have A_0_ : (w2).cell? ⟨W.heap.size, 0, none⟩ = some (.slice a0 n0 c0) := cell_of_row _ _ 0 _ _ _ rA16_.out
  have A_1_ : (w2).cell? ⟨W.heap.size, 1, none⟩ = some (.slice a1 n1 c1) := cell_of_row _ _ 1 _ _ _ rA16_.out
  have K_0_ : (w2).cell? ⟨W.heap.size + 1, 0, none⟩ = some (.int .i64 p.f0) := cell_of_row _ _ 0 _ _ _ rK17_.out
  have K_1_ : (w2).cell? ⟨W.heap.size + 1, 1, none⟩ = some (.int .i64 p.f1) := cell_of_row _ _ 1 _ _ _ rK17_.out
  have K_2_ : (w2).cell? ⟨W.heap.size + 1, 2, none⟩ = some (.int .i64 p.f2) := cell_of_row _ _ 2 _ _ _ rK17_.out
  have K_3_ : (w2).cell? ⟨W.heap.size + 1, 3, none⟩ = some (.int .i64 p.f3) := cell_of_row _ _ 3 _ _ _ rK17_.out
  have K_4_ : (w2).cell? ⟨W.heap.size + 1, 4, none⟩ = some (.int .i64 p.f4) := cell_of_row _ _ 4 _ _ _ rK17_.out
  have K_5_ : (w2).cell? ⟨W.heap.size + 1, 5, none⟩ = some (.int .i64 p.f5) := cell_of_row _ _ 5 _ _ _ rK17_.out
  have K_6_ : (w2).cell? ⟨W.heap.size + 1, 6, none⟩ = some (.int .i64 p.f6) := cell_of_row _ _ 6 _ _ _ rK17_.out
  have K_7_ : (w2).cell? ⟨W.heap.size + 1, 7, none⟩ = some (vp) := cell_of_row _ _ 7 _ _ _ rK17_.out
  have HG9 := Lib.hid (G21_.out)
  go_wp2_with fail
  refine wp_region_held_drew (S := fun w' => w'.cell? ⟨W.heap.size, 0, none⟩ = some (.slice a0 n0 c0) ∧ w'.cell? ⟨W.heap.size, 1, none⟩ = some (.slice a1 n1 c1) ∧ w'.cell? ⟨W.heap.size + 1, 0, none⟩ = some (.int .i64 p.f0) ∧ w'.cell? ⟨W.heap.size + 1, 1, none⟩ = some (.int .i64 p.f1) ∧ w'.cell? ⟨W.heap.size + 1, 2, none⟩ = some (.int .i64 p.f2) ∧ w'.cell? ⟨W.heap.size + 1, 3, none⟩ = some (.int .i64 p.f3) ∧ w'.cell? ⟨W.heap.size + 1, 4, none⟩ = some (.int .i64 p.f4) ∧ w'.cell? ⟨W.heap.size + 1, 5, none⟩ = some (.int .i64 p.f5) ∧ w'.cell? ⟨W.heap.size + 1, 6, none⟩ = some (.int .i64 p.f6) ∧ w'.cell? ⟨W.heap.size + 1, 7, none⟩ = some (vp)) (by kernel_rfl) (by (try dsimp only); exact ⟨A_0_, A_1_, K_0_, K_1_, K_2_, K_3_, K_4_, K_5_, K_6_, K_7_⟩) (fun hHeld => ?_)
  refine wpAnyH_take (i := 0) (oi := { dst := some 12, op := Op.load 54 (Operand.tmp 2), type := 54, pos := "l14_credit.go:40", after := #[], guard := none }) (v := ?v0_r2_1) rfl (by kernel_rfl) (by kernel_rfl) (by kernel_rfl) (fun _ _ _ h => h) (Or.inl ⟨by rfl, ?y0_r2_1⟩) (by assumption) ?r0_r2_1
  case y0_r2_1 => (intro w hSw; (try dsimp only at hSw); go_simp; all_goals (with_reducible rfl))
  try simp only [Act.put, List.setIfInBounds_toArray, List.set_cons_zero, List.set_cons_succ]
  refine wpAnyH_ready (rs := [1]) (by kernel_rfl) (by simp) ?_
  refine AllReadyH.cons (o := { dst := some 13, op := Op.call { callee := Callee.value (Operand.func 89), args := #[Operand.tmp 12], argTypes := #[54] }, type := 4, pos := "l14_credit.go:40", after := #[{ on := 0, ground := Ground.data }], guard := none }) rfl (fun K hK => ?_) AllReadyH.nil
  go_simp
  go_at_call 89
  refine (HCD.out _ _ _ (HSX.out.grow (gby_trans HG9.out (gby_drew (gby_refl _ none)))) (HSY.out.grow (gby_trans HG9.out (gby_drew (gby_refl _ none))))).mono ?_
  rintro e wH2_r2 ⟨rfl, gH2_r2⟩
  have m2_A_0_ : wH2_r2.cell? _ = some _ := gH2_r2.cell A_0_ (by simp); have m2_A_1_ : wH2_r2.cell? _ = some _ := gH2_r2.cell A_1_ (by simp); have m2_K_0_ : wH2_r2.cell? _ = some _ := gH2_r2.cell K_0_ (by simp); have m2_K_1_ : wH2_r2.cell? _ = some _ := gH2_r2.cell K_1_ (by simp); have m2_K_2_ : wH2_r2.cell? _ = some _ := gH2_r2.cell K_2_ (by simp); have m2_K_3_ : wH2_r2.cell? _ = some _ := gH2_r2.cell K_3_ (by simp); have m2_K_4_ : wH2_r2.cell? _ = some _ := gH2_r2.cell K_4_ (by simp); have m2_K_5_ : wH2_r2.cell? _ = some _ := gH2_r2.cell K_5_ (by simp); have m2_K_6_ : wH2_r2.cell? _ = some _ := gH2_r2.cell K_6_ (by simp); have m2_K_7_ : wH2_r2.cell? _ = some _ := gH2_r2.cell K_7_ (by simp)
  go_wp2_with fail
  clear hHeld
  refine hK.out _ _ ?s1_r2_2 (fun hHeld => ?_)
  case s1_r2_2 => exact ⟨m2_A_0_, m2_A_1_, m2_K_0_, m2_K_1_, m2_K_2_, m2_K_3_, m2_K_4_, m2_K_5_, m2_K_6_, m2_K_7_⟩
  clear hK K
  try simp only [Act.put, List.setIfInBounds_toArray, List.set_cons_zero, List.set_cons_succ]
  refine wpAnyH_take (i := 2) (oi := { dst := some 14, op := Op.unOp UnOp.not 4 (Operand.tmp 13), type := 4, pos := "l14_credit.go:40", after := #[{ on := 1, ground := Ground.data }], guard := none }) (v := ?v2_r2_3) rfl (by kernel_rfl) (by kernel_rfl) (by kernel_rfl) (fun _ _ _ h => h) (Or.inl ⟨by rfl, ?y2_r2_3⟩) (by assumption) ?r2_r2_3
  case y2_r2_3 => (intro w hSw; (try dsimp only at hSw); go_simp; all_goals (with_reducible rfl))
  try simp only [Act.put, List.setIfInBounds_toArray, List.set_cons_zero, List.set_cons_succ]
  refine wpAnyH_take (i := 3) (oi := { dst := some 15, op := Op.move (Operand.tmp 14), type := 4, pos := "l14_credit.go:40", after := #[{ on := 2, ground := Ground.data }, { on := 1, ground := Ground.chain }], guard := none }) (v := ?v3_r2_4) rfl (by kernel_rfl) (by kernel_rfl) (by kernel_rfl) (fun _ _ _ h => h) (Or.inl ⟨by rfl, ?y3_r2_4⟩) (by assumption) ?r3_r2_4
  case y3_r2_4 => (intro w hSw; (try dsimp only at hSw); go_simp; all_goals (with_reducible rfl))
  try simp only [Act.put, List.setIfInBounds_toArray, List.set_cons_zero, List.set_cons_succ]
  refine wpAnyH_take (i := 4) (oi := { dst := some 16, op := Op.move (Operand.tmp 7), type := 3, pos := "l14_credit.go:40", after := #[{ on := 3, ground := Ground.guard }], guard := some (3, false) }) (v := ?v4_r2_5) rfl (by kernel_rfl) (by kernel_rfl) (by kernel_rfl) (fun _ _ _ h => h) (Or.inl ⟨by rfl, ?y4_r2_5⟩) (by assumption) ?r4_r2_5
  case y4_r2_5 => (intro w hSw; (try dsimp only at hSw); go_simp; all_goals (with_reducible rfl))
  try simp only [Act.put, List.setIfInBounds_toArray, List.set_cons_zero, List.set_cons_succ]
  refine wpAnyH_take (i := 5) (oi := { dst := some 17, op := Op.binOp BinOp.lss 3 (Operand.tmp 16) (Operand.const (Value.int IntKind.i64 0)) 3, type := 4, pos := "l14_credit.go:40", after := #[{ on := 4, ground := Ground.data }, { on := 3, ground := Ground.guard }], guard := some (3, false) }) (v := ?v5_r2_6) rfl (by kernel_rfl) (by kernel_rfl) (by kernel_rfl) (fun _ _ _ h => h) (Or.inl ⟨by rfl, ?y5_r2_6⟩) (by assumption) ?r5_r2_6
  case y5_r2_6 => (intro w hSw; (try dsimp only at hSw); go_simp; all_goals (with_reducible rfl))
  try simp only [Act.put, List.setIfInBounds_toArray, List.set_cons_zero, List.set_cons_succ]
  refine wpAnyH_take (i := 6) (oi := { dst := some 18, op := Op.pick (Operand.tmp 15) (Operand.const (Value.bool true)) (Operand.tmp 17), type := 4, pos := "l14_credit.go:40", after := #[{ on := 3, ground := Ground.data }, { on := 5, ground := Ground.data }], guard := none }) (v := ?v6_r2_7) rfl (by kernel_rfl) (by kernel_rfl) (by kernel_rfl) (fun _ _ _ h => h) (Or.inl ⟨by rfl, ?y6_r2_7⟩) (by assumption) ?r6_r2_7
  case y6_r2_7 => (intro w hSw; (try dsimp only at hSw); go_simp; all_goals (with_reducible rfl))
  try simp only [Act.put, List.setIfInBounds_toArray, List.set_cons_zero, List.set_cons_succ]
  refine wpAnyH_take (i := 7) (oi := { dst := some 19, op := Op.move (Operand.tmp 18), type := 4, pos := "l14_credit.go:40", after := #[{ on := 6, ground := Ground.data }, { on := 3, ground := Ground.chain }], guard := none }) (v := ?v7_r2_8) rfl (by kernel_rfl) (by kernel_rfl) (by kernel_rfl) (fun _ _ _ h => h) (Or.inl ⟨by rfl, ?y7_r2_8⟩) (by assumption) ?r7_r2_8
  case y7_r2_8 => (intro w hSw; (try dsimp only at hSw); go_simp; all_goals (with_reducible rfl))
  try simp only [Act.put, List.setIfInBounds_toArray, List.set_cons_zero, List.set_cons_succ]
  refine wpAnyH_take (i := 8) (oi := { dst := some 20, op := Op.fieldAddr 54 (Operand.tmp 2) 0, type := 0, pos := "l14_credit.go:40", after := #[{ on := 7, ground := Ground.guard }], guard := some (7, false) }) (v := undef) rfl (by kernel_rfl) (by kernel_rfl) (by kernel_rfl) (fun _ _ _ h => h) (Or.inr ⟨by rfl, rfl⟩) (by assumption) ?r8_r2_9
  try simp only [Act.put, List.setIfInBounds_toArray, List.set_cons_zero, List.set_cons_succ]
  refine wpAnyH_take (i := 9) (oi := { dst := some 21, op := Op.load 27 (Operand.tmp 20), type := 27, pos := "l14_credit.go:40", after := #[{ on := 8, ground := Ground.data }, { on := 7, ground := Ground.guard }], guard := some (7, false) }) (v := undef) rfl (by kernel_rfl) (by kernel_rfl) (by kernel_rfl) (fun _ _ _ h => h) (Or.inr ⟨by rfl, rfl⟩) (by assumption) ?r9_r2_10
  try simp only [Act.put, List.setIfInBounds_toArray, List.set_cons_zero, List.set_cons_succ]
  refine wpAnyH_take (i := 10) (oi := { dst := some 22, op := Op.move (Operand.tmp 7), type := 3, pos := "l14_credit.go:40", after := #[{ on := 7, ground := Ground.guard }], guard := some (7, false) }) (v := undef) rfl (by kernel_rfl) (by kernel_rfl) (by kernel_rfl) (fun _ _ _ h => h) (Or.inr ⟨by rfl, rfl⟩) (by assumption) ?r10_r2_11
  try simp only [Act.put, List.setIfInBounds_toArray, List.set_cons_zero, List.set_cons_succ]
  refine wpAnyH_take (i := 11) (oi := { dst := some 23, op := Op.indexAddr 27 (Operand.tmp 21) (Operand.tmp 22), type := 0, pos := "l14_credit.go:40", after := #[{ on := 9, ground := Ground.data }, { on := 10, ground := Ground.data }, { on := 7, ground := Ground.guard }], guard := some (7, false) }) (v := undef) rfl (by kernel_rfl) (by kernel_rfl) (by kernel_rfl) (fun _ _ _ h => h) (Or.inr ⟨by rfl, rfl⟩) (by assumption) ?r11_r2_12
  try simp only [Act.put, List.setIfInBounds_toArray, List.set_cons_zero, List.set_cons_succ]
  refine wpAnyH_take (i := 12) (oi := { dst := some 24, op := Op.load 3 (Operand.tmp 23), type := 3, pos := "l14_credit.go:40", after := #[{ on := 11, ground := Ground.data }, { on := 7, ground := Ground.guard }], guard := some (7, false) }) (v := undef) rfl (by kernel_rfl) (by kernel_rfl) (by kernel_rfl) (fun _ _ _ h => h) (Or.inr ⟨by rfl, rfl⟩) (by assumption) ?r12_r2_13
  try simp only [Act.put, List.setIfInBounds_toArray, List.set_cons_zero, List.set_cons_succ]
  refine wpAnyH_take (i := 13) (oi := { dst := some 25, op := Op.binOp BinOp.eql 3 (Operand.tmp 24) (Operand.const (Value.int IntKind.i64 30)) 3, type := 4, pos := "l14_credit.go:40", after := #[{ on := 12, ground := Ground.data }, { on := 7, ground := Ground.guard }], guard := some (7, false) }) (v := undef) rfl (by kernel_rfl) (by kernel_rfl) (by kernel_rfl) (fun _ _ _ h => h) (Or.inr ⟨by rfl, rfl⟩) (by assumption) ?r13_r2_14
  try simp only [Act.put, List.setIfInBounds_toArray, List.set_cons_zero, List.set_cons_succ]
  refine wpAnyH_take (i := 14) (oi := { dst := some 26, op := Op.pick (Operand.tmp 19) (Operand.const (Value.bool true)) (Operand.tmp 25), type := 4, pos := "l14_credit.go:40", after := #[{ on := 7, ground := Ground.data }, { on := 13, ground := Ground.data }], guard := none }) (v := ?v14_r2_15) rfl (by kernel_rfl) (by kernel_rfl) (by kernel_rfl) (fun _ _ _ h => h) (Or.inl ⟨by rfl, ?y14_r2_15⟩) (by assumption) ?r14_r2_15
  case y14_r2_15 => (intro w hSw; (try dsimp only at hSw); go_simp; all_goals (with_reducible rfl))
  try simp only [Act.put, List.setIfInBounds_toArray, List.set_cons_zero, List.set_cons_succ]
  refine wpAnyH_take (i := 15) (oi := { dst := some 27, op := Op.move (Operand.tmp 26), type := 4, pos := "l14_credit.go:40", after := #[{ on := 14, ground := Ground.data }, { on := 7, ground := Ground.chain }], guard := none }) (v := ?v15_r2_16) rfl (by kernel_rfl) (by kernel_rfl) (by kernel_rfl) (fun _ _ _ h => h) (Or.inl ⟨by rfl, ?y15_r2_16⟩) (by assumption) ?r15_r2_16
  case y15_r2_16 => (intro w hSw; (try dsimp only at hSw); go_simp; all_goals (with_reducible rfl))
  try simp only [Act.put, List.setIfInBounds_toArray, List.set_cons_zero, List.set_cons_succ]
  refine wpAnyH_take (i := 16) (oi := { dst := some 28, op := Op.fieldAddr 54 (Operand.tmp 2) 1, type := 0, pos := "l14_credit.go:40", after := #[{ on := 15, ground := Ground.guard }], guard := some (15, false) }) (v := undef) rfl (by kernel_rfl) (by kernel_rfl) (by kernel_rfl) (fun _ _ _ h => h) (Or.inr ⟨by rfl, rfl⟩) (by assumption) ?r16_r2_17
  try simp only [Act.put, List.setIfInBounds_toArray, List.set_cons_zero, List.set_cons_succ]
  refine wpAnyH_take (i := 17) (oi := { dst := some 29, op := Op.load 27 (Operand.tmp 28), type := 27, pos := "l14_credit.go:40", after := #[{ on := 16, ground := Ground.data }, { on := 15, ground := Ground.guard }], guard := some (15, false) }) (v := undef) rfl (by kernel_rfl) (by kernel_rfl) (by kernel_rfl) (fun _ _ _ h => h) (Or.inr ⟨by rfl, rfl⟩) (by assumption) ?r17_r2_18
  try simp only [Act.put, List.setIfInBounds_toArray, List.set_cons_zero, List.set_cons_succ]
  refine wpAnyH_take (i := 18) (oi := { dst := some 30, op := Op.move (Operand.tmp 7), type := 3, pos := "l14_credit.go:40", after := #[{ on := 15, ground := Ground.guard }], guard := some (15, false) }) (v := undef) rfl (by kernel_rfl) (by kernel_rfl) (by kernel_rfl) (fun _ _ _ h => h) (Or.inr ⟨by rfl, rfl⟩) (by assumption) ?r18_r2_19
  try simp only [Act.put, List.setIfInBounds_toArray, List.set_cons_zero, List.set_cons_succ]
  refine wpAnyH_take (i := 19) (oi := { dst := some 31, op := Op.indexAddr 27 (Operand.tmp 29) (Operand.tmp 30), type := 0, pos := "l14_credit.go:40", after := #[{ on := 17, ground := Ground.data }, { on := 18, ground := Ground.data }, { on := 15, ground := Ground.guard }], guard := some (15, false) }) (v := undef) rfl (by kernel_rfl) (by kernel_rfl) (by kernel_rfl) (fun _ _ _ h => h) (Or.inr ⟨by rfl, rfl⟩) (by assumption) ?r19_r2_20
  try simp only [Act.put, List.setIfInBounds_toArray, List.set_cons_zero, List.set_cons_succ]
  refine wpAnyH_take (i := 20) (oi := { dst := some 32, op := Op.load 3 (Operand.tmp 31), type := 3, pos := "l14_credit.go:40", after := #[{ on := 19, ground := Ground.data }, { on := 15, ground := Ground.guard }], guard := some (15, false) }) (v := undef) rfl (by kernel_rfl) (by kernel_rfl) (by kernel_rfl) (fun _ _ _ h => h) (Or.inr ⟨by rfl, rfl⟩) (by assumption) ?r20_r2_21
  try simp only [Act.put, List.setIfInBounds_toArray, List.set_cons_zero, List.set_cons_succ]
  refine wpAnyH_take (i := 21) (oi := { dst := some 33, op := Op.load 29 (Operand.tmp 3), type := 29, pos := "l14_credit.go:40", after := #[{ on := 15, ground := Ground.guard }], guard := some (15, false) }) (v := undef) rfl (by kernel_rfl) (by kernel_rfl) (by kernel_rfl) (fun _ _ _ h => h) (Or.inr ⟨by rfl, rfl⟩) (by assumption) ?r21_r2_22
  try simp only [Act.put, List.setIfInBounds_toArray, List.set_cons_zero, List.set_cons_succ]
  refine wpAnyH_take (i := 22) (oi := { dst := some 34, op := Op.call { callee := Callee.value (Operand.func 85), args := #[Operand.tmp 33], argTypes := #[29] }, type := 3, pos := "l14_credit.go:40", after := #[{ on := 21, ground := Ground.data }, { on := 15, ground := Ground.chain }, { on := 15, ground := Ground.guard }], guard := some (15, false) }) (v := undef) rfl (by kernel_rfl) (by kernel_rfl) (by kernel_rfl) (fun _ _ _ h => h) (Or.inr ⟨by rfl, rfl⟩) (by assumption) ?r22_r2_23
  try simp only [Act.put, List.setIfInBounds_toArray, List.set_cons_zero, List.set_cons_succ]
  refine wpAnyH_take (i := 23) (oi := { dst := some 35, op := Op.binOp BinOp.add 3 (Operand.tmp 32) (Operand.tmp 34) 3, type := 3, pos := "l14_credit.go:40", after := #[{ on := 20, ground := Ground.data }, { on := 22, ground := Ground.data }, { on := 15, ground := Ground.guard }], guard := some (15, false) }) (v := undef) rfl (by kernel_rfl) (by kernel_rfl) (by kernel_rfl) (fun _ _ _ h => h) (Or.inr ⟨by rfl, rfl⟩) (by assumption) ?r23_r2_24
  try simp only [Act.put, List.setIfInBounds_toArray, List.set_cons_zero, List.set_cons_succ]
  refine wpAnyH_take (i := 24) (oi := { dst := some 36, op := Op.binOp BinOp.gtr 3 (Operand.tmp 35) (Operand.const (Value.int IntKind.i64 30)) 3, type := 4, pos := "l14_credit.go:40", after := #[{ on := 23, ground := Ground.data }, { on := 15, ground := Ground.guard }], guard := some (15, false) }) (v := undef) rfl (by kernel_rfl) (by kernel_rfl) (by kernel_rfl) (fun _ _ _ h => h) (Or.inr ⟨by rfl, rfl⟩) (by assumption) ?r24_r2_25
  try simp only [Act.put, List.setIfInBounds_toArray, List.set_cons_zero, List.set_cons_succ]
  refine wpAnyH_take (i := 25) (oi := { dst := some 37, op := Op.pick (Operand.tmp 27) (Operand.const (Value.bool true)) (Operand.tmp 36), type := 4, pos := "l14_credit.go:40", after := #[{ on := 15, ground := Ground.data }, { on := 24, ground := Ground.data }], guard := none }) (v := ?v25_r2_26) rfl (by kernel_rfl) (by kernel_rfl) (by kernel_rfl) (fun _ _ _ h => h) (Or.inl ⟨by rfl, ?y25_r2_26⟩) (by assumption) ?r25_r2_26
  case y25_r2_26 => (intro w hSw; (try dsimp only at hSw); go_simp; all_goals (with_reducible rfl))
  try simp only [Act.put, List.setIfInBounds_toArray, List.set_cons_zero, List.set_cons_succ]
  refine wpAnyH_done (by kernel_rfl) ?_ _
  have gR_ : (w2).grownBy (wH2_r2) none := (gby_trans (gby_drew (gby_refl _ none)) gH2_r2)
  have szwH2_r2 := gR_.size
  try simp only [World.size_alloc] at szwH2_r2
  clear A_0_ A_1_ K_0_ K_1_ K_2_ K_3_ K_4_ K_5_ K_6_ K_7_
  have rA22_ := Lib.hid (show (wH2_r2).heap[W.heap.size]? = some (.cells #[.slice a0 n0 c0, .slice a1 n1 c1] 54 (0, 0)) from row_held gR_ rA16_.out)
  clear rA16_
  have rK23_ := Lib.hid (show (wH2_r2).heap[W.heap.size + 1]? = some (.cells #[.int .i64 p.f0, .int .i64 p.f1, .int .i64 p.f2, .int .i64 p.f3, .int .i64 p.f4, .int .i64 p.f5, .int .i64 p.f6, vp] 29 (0, 0)) from row_held gR_ rK17_.out)
  clear rK17_
  have rR24_ := Lib.hid (show (wH2_r2).heap[W.heap.size + 1 + 1]? = some (.cells #[.slice none 0 0, .slice none 0 0] 54 (0, 0)) from row_held gR_ rR18_.out)
  clear rR18_
  have rX25_ := Lib.hid (show (wH2_r2).heap[w1.heap.size]? = some (.cells #[.slice q0 m0 d0, .slice q1 m1 d1] 54 (0, 0)) from row_held gR_ rX19_.out)
  clear rX19_
  have oC26_ := Lib.hid (show OwU (wH2_r2) ((W.heap.size + 1 + 1 + 1)) (w1.heap.size) [] [own shI (.slice q0 m0 d0) xs, own shI (.slice q1 m1 d1) ys] from OwU.grow oC20_.out gR_)
  clear oC20_
  have G27_ := Lib.hid (show (W).grownBy (wH2_r2) none from gby_trans G21_.out gR_)
  clear gR_
  have A_0_ : (wH2_r2).cell? ⟨W.heap.size, 0, none⟩ = some (.slice a0 n0 c0) := cell_of_row _ _ 0 _ _ _ rA22_.out
  have A_1_ : (wH2_r2).cell? ⟨W.heap.size, 1, none⟩ = some (.slice a1 n1 c1) := cell_of_row _ _ 1 _ _ _ rA22_.out
  have K_0_ : (wH2_r2).cell? ⟨W.heap.size + 1, 0, none⟩ = some (.int .i64 p.f0) := cell_of_row _ _ 0 _ _ _ rK23_.out
  have K_1_ : (wH2_r2).cell? ⟨W.heap.size + 1, 1, none⟩ = some (.int .i64 p.f1) := cell_of_row _ _ 1 _ _ _ rK23_.out
  have K_2_ : (wH2_r2).cell? ⟨W.heap.size + 1, 2, none⟩ = some (.int .i64 p.f2) := cell_of_row _ _ 2 _ _ _ rK23_.out
  have K_3_ : (wH2_r2).cell? ⟨W.heap.size + 1, 3, none⟩ = some (.int .i64 p.f3) := cell_of_row _ _ 3 _ _ _ rK23_.out
  have K_4_ : (wH2_r2).cell? ⟨W.heap.size + 1, 4, none⟩ = some (.int .i64 p.f4) := cell_of_row _ _ 4 _ _ _ rK23_.out
  have K_5_ : (wH2_r2).cell? ⟨W.heap.size + 1, 5, none⟩ = some (.int .i64 p.f5) := cell_of_row _ _ 5 _ _ _ rK23_.out
  have K_6_ : (wH2_r2).cell? ⟨W.heap.size + 1, 6, none⟩ = some (.int .i64 p.f6) := cell_of_row _ _ 6 _ _ _ rK23_.out
  have K_7_ : (wH2_r2).cell? ⟨W.heap.size + 1, 7, none⟩ = some (vp) := cell_of_row _ _ 7 _ _ _ rK23_.out
  have R_0_ : (wH2_r2).cell? ⟨W.heap.size + 1 + 1, 0, none⟩ = some (.slice none 0 0) := cell_of_row _ _ 0 _ _ _ rR24_.out
  have R_1_ : (wH2_r2).cell? ⟨W.heap.size + 1 + 1, 1, none⟩ = some (.slice none 0 0) := cell_of_row _ _ 1 _ _ _ rR24_.out
  have X_0_ : (wH2_r2).cell? ⟨w1.heap.size, 0, none⟩ = some (.slice q0 m0 d0) := cell_of_row _ _ 0 _ _ _ rX25_.out
  have X_1_ : (wH2_r2).cell? ⟨w1.heap.size, 1, none⟩ = some (.slice q1 m1 d1) := cell_of_row _ _ 1 _ _ _ rX25_.out
  clear A_0_ A_1_ K_0_ K_1_ K_2_ K_3_ K_4_ K_5_ K_6_ K_7_ R_0_ R_1_ X_0_ X_1_
  have A_0_ : (wH2_r2).cell? ⟨W.heap.size, 0, none⟩ = some (.slice a0 n0 c0) := cell_of_row _ _ 0 _ _ _ rA22_.out
  have A_1_ : (wH2_r2).cell? ⟨W.heap.size, 1, none⟩ = some (.slice a1 n1 c1) := cell_of_row _ _ 1 _ _ _ rA22_.out
  have K_0_ : (wH2_r2).cell? ⟨W.heap.size + 1, 0, none⟩ = some (.int .i64 p.f0) := cell_of_row _ _ 0 _ _ _ rK23_.out
  have K_1_ : (wH2_r2).cell? ⟨W.heap.size + 1, 1, none⟩ = some (.int .i64 p.f1) := cell_of_row _ _ 1 _ _ _ rK23_.out
  have K_2_ : (wH2_r2).cell? ⟨W.heap.size + 1, 2, none⟩ = some (.int .i64 p.f2) := cell_of_row _ _ 2 _ _ _ rK23_.out
  have K_3_ : (wH2_r2).cell? ⟨W.heap.size + 1, 3, none⟩ = some (.int .i64 p.f3) := cell_of_row _ _ 3 _ _ _ rK23_.out
  have K_4_ : (wH2_r2).cell? ⟨W.heap.size + 1, 4, none⟩ = some (.int .i64 p.f4) := cell_of_row _ _ 4 _ _ _ rK23_.out
  have K_5_ : (wH2_r2).cell? ⟨W.heap.size + 1, 5, none⟩ = some (.int .i64 p.f5) := cell_of_row _ _ 5 _ _ _ rK23_.out
  have K_6_ : (wH2_r2).cell? ⟨W.heap.size + 1, 6, none⟩ = some (.int .i64 p.f6) := cell_of_row _ _ 6 _ _ _ rK23_.out
  have K_7_ : (wH2_r2).cell? ⟨W.heap.size + 1, 7, none⟩ = some (vp) := cell_of_row _ _ 7 _ _ _ rK23_.out
  have R_0_ : (wH2_r2).cell? ⟨W.heap.size + 1 + 1, 0, none⟩ = some (.slice none 0 0) := cell_of_row _ _ 0 _ _ _ rR24_.out
  have R_1_ : (wH2_r2).cell? ⟨W.heap.size + 1 + 1, 1, none⟩ = some (.slice none 0 0) := cell_of_row _ _ 1 _ _ _ rR24_.out
  have Rf0_ : (wH2_r2).frozen? ⟨W.heap.size + 1 + 1, 0, none⟩ = false := frozen_of_row _ _ 0 _ _ rR24_.out
  have Rf1_ : (wH2_r2).frozen? ⟨W.heap.size + 1 + 1, 1, none⟩ = false := frozen_of_row _ _ 1 _ _ rR24_.out
  have X_0_ : (wH2_r2).cell? ⟨w1.heap.size, 0, none⟩ = some (.slice q0 m0 d0) := cell_of_row _ _ 0 _ _ _ rX25_.out
  have X_1_ : (wH2_r2).cell? ⟨w1.heap.size, 1, none⟩ = some (.slice q1 m1 d1) := cell_of_row _ _ 1 _ _ _ rX25_.out
  have zr_ := Lib.hid (show (((wH2_r2.setCell ⟨W.heap.size + 1 + 1, 0, none⟩ (.slice q0 m0 d0)).setCell ⟨W.heap.size + 1 + 1, 1, none⟩ (.slice q1 m1 d1))).heap[W.heap.size + 1 + 1]? = some (.cells #[.slice q0 m0 d0, .slice q1 m1 d1] 54 (0, 0)) from (heap_setCell_same _ _ 1 _ _ _ (heap_setCell_same _ _ 0 _ _ _ rR24_.out)))
  have z0_ : (((wH2_r2.setCell ⟨W.heap.size + 1 + 1, 0, none⟩ (.slice q0 m0 d0)).setCell ⟨W.heap.size + 1 + 1, 1, none⟩ (.slice q1 m1 d1))).cell? ⟨W.heap.size + 1 + 1, 0, none⟩ = some (.slice q0 m0 d0) := cell_of_row _ _ 0 _ _ _ zr_.out
  have z1_ : (((wH2_r2.setCell ⟨W.heap.size + 1 + 1, 0, none⟩ (.slice q0 m0 d0)).setCell ⟨W.heap.size + 1 + 1, 1, none⟩ (.slice q1 m1 d1))).cell? ⟨W.heap.size + 1 + 1, 1, none⟩ = some (.slice q1 m1 d1) := cell_of_row _ _ 1 _ _ _ zr_.out
  go_wp2
  refine bodyPost_ret (v := .tuple #[.agg #[.slice q0 m0 d0, .slice q1 m1 d1], .bool false]) (by simp [results, go_sem, z0_, z1_]) rfl ⟨_, _, rfl, ?_, ?_⟩
  · exact OwU.wide (lo := W.heap.size + 1 + 1 + 1) (by omega) (by simp only [World.size_setCell]; omega) (OwU.keep (chg_one _ _ _ _) (.inr (by omega)) (OwU.keep (chg_one _ _ _ _) (.inr (by omega)) oC26_.out))
  · exact (gby_setnew (gby_setnew G27_.out _ (by dsimp only; omega) _) _ (by dsimp only; omega) _)

set_option maxRecDepth 8000 in
set_option maxHeartbeats 4000000 in
theorem specReturnCredits_f1 (W : World) (u0 u1 vp : Value) (xs ys : List Int) (p : DPacket) (H0 : RdL shI W u0 xs) (H1 : RdL shI W u1 ys) (Hp : RdL shI W vp p.f7) (h0 : szL shI xs ≤ 1048576) (h1 : szL shI ys ≤ 1048576) (hl : szL shI p.f7 ≤ 1048576) (k : Nat) (u : Int) (hc : clsD p = (k : Int)) (hk3 : k < 3) (hcr : CrdOk xs ys) (hu : untD p = u) (hu0 : 0 ≤ u) (hu9 : u ≤ 1000000) (hw : xs.getD k 0 + 1 > 30) : Calls Try.prog 41 #[.agg #[u0, u1], (vPacket p.f0 p.f1 p.f2 p.f3 p.f4 p.f5 p.f6 vp)] W (ResIReturnCredits xs ys false W) := by
  have HSX := Lib.hid H0
  have HSY := Lib.hid H1
  have HP := Lib.hid Hp
  have HXL := Lib.hid h0
  have HYL := Lib.hid h1
  have HL := Lib.hid hl
  obtain ⟨za_, c0, rfl, _, zi_⟩ := rdI1_in H0
  obtain ⟨ab, ao, rfl, _⟩ := zi_.resolve_left (by have := hcr.1.1; omega)
  obtain ⟨zb_, c1, rfl, _, zj_⟩ := rdI1_in H1
  obtain ⟨bb, bo, rfl, _⟩ := zj_.resolve_left (by have := hcr.2.1; omega)
  rw [hcr.1.1] at HSX ⊢
  rw [hcr.2.1] at HSY ⊢
  clear H0 H1 Hp h0 h1 hl
  unfold vPacket
  have HCD := Lib.hid (show ∀ (W : World) (z0 z1 : Value), RdL shI W z0 xs → RdL shI W z1 ys → Calls Try.prog 89 #[.agg #[z0, z1]] W (AnsN (.bool true) W) from fun W z0 z1 h0 h1 => specCrD W z0 z1 xs ys h0 h1 HXL.out HYL.out true (by rw [decide_eq_true hcr]))
  have HC := Lib.hid hc
  have HU := Lib.hid hu
  have HCR := Lib.hid hcr
  have hx1 := crd_at hcr hk3
  obtain ⟨x, hx⟩ : ∃ x, x = xs.getD k 0 := ⟨_, rfl⟩
  obtain ⟨y, hy⟩ : ∃ y, y = ys.getD k 0 := ⟨_, rfl⟩
  rw [← hx, ← hy] at hx1
  obtain ⟨hxl, hyl, hx0, hx30, hy0, hy30⟩ := hx1
  have HX := Lib.hid hx
  have HY := Lib.hid hy
  clear hc hu hcr hx hy
  have HCL := Lib.hid (show ∀ (W : World) (v : Value), RdL shI W v p.f7 → Calls Try.prog 84 #[vPacket p.f0 p.f1 p.f2 p.f3 p.f4 p.f5 p.f6 v] W (AnsN (.int .i64 (k : Int)) W) from fun W v H => by have q := specClsD W p v H HL.out; rw [HC.out] at q; exact q)
  have HUN := Lib.hid (show ∀ (W : World) (v : Value), RdL shI W v p.f7 → Calls Try.prog 85 #[vPacket p.f0 p.f1 p.f2 p.f3 p.f4 p.f5 p.f6 v] W (AnsN (.int .i64 u) W) from fun W v H => by have q := specUntD W p v H HL.out (by rw [HC.out]; omega); rw [HU.out] at q; exact q)
  rw [← HX.out] at hw
  go_enter Try.func41, Try.ntmps41
  have rA1_ := Lib.hid (show ((((W.alloc (.cells #[.slice (some ⟨ab, ao, none⟩) 3 c0, .slice (some ⟨bb, bo, none⟩) 3 c1] 54)).alloc (.cells #[.int .i64 p.f0, .int .i64 p.f1, .int .i64 p.f2, .int .i64 p.f3, .int .i64 p.f4, .int .i64 p.f5, .int .i64 p.f6, vp] 29)).alloc (.cells #[.slice none 0 0, .slice none 0 0] 54))).heap[W.heap.size]? = some (.cells #[.slice (some ⟨ab, ao, none⟩) 3 c0, .slice (some ⟨bb, bo, none⟩) 3 c1] 54 (0, 0)) from by rw [heap_alloc_old _ _ (by simp only [World.size_alloc]; omega)]; rw [heap_alloc_old _ _ (by simp only [World.size_alloc]; omega)]; exact heap_alloc_new _ _)
  have rK2_ := Lib.hid (show ((((W.alloc (.cells #[.slice (some ⟨ab, ao, none⟩) 3 c0, .slice (some ⟨bb, bo, none⟩) 3 c1] 54)).alloc (.cells #[.int .i64 p.f0, .int .i64 p.f1, .int .i64 p.f2, .int .i64 p.f3, .int .i64 p.f4, .int .i64 p.f5, .int .i64 p.f6, vp] 29)).alloc (.cells #[.slice none 0 0, .slice none 0 0] 54))).heap[W.heap.size + 1]? = some (.cells #[.int .i64 p.f0, .int .i64 p.f1, .int .i64 p.f2, .int .i64 p.f3, .int .i64 p.f4, .int .i64 p.f5, .int .i64 p.f6, vp] 29 (0, 0)) from by rw [heap_alloc_old _ _ (by simp only [World.size_alloc]; omega)]; exact heap_pair _ _ _)
  have rR3_ := Lib.hid (show ((((W.alloc (.cells #[.slice (some ⟨ab, ao, none⟩) 3 c0, .slice (some ⟨bb, bo, none⟩) 3 c1] 54)).alloc (.cells #[.int .i64 p.f0, .int .i64 p.f1, .int .i64 p.f2, .int .i64 p.f3, .int .i64 p.f4, .int .i64 p.f5, .int .i64 p.f6, vp] 29)).alloc (.cells #[.slice none 0 0, .slice none 0 0] 54))).heap[W.heap.size + 1 + 1]? = some (.cells #[.slice none 0 0, .slice none 0 0] 54 (0, 0)) from by exact heap_trip _ _ _ _)
  have G4_ := Lib.hid (show (W).grownBy ((((W.alloc (.cells #[.slice (some ⟨ab, ao, none⟩) 3 c0, .slice (some ⟨bb, bo, none⟩) 3 c1] 54)).alloc (.cells #[.int .i64 p.f0, .int .i64 p.f1, .int .i64 p.f2, .int .i64 p.f3, .int .i64 p.f4, .int .i64 p.f5, .int .i64 p.f6, vp] 29)).alloc (.cells #[.slice none 0 0, .slice none 0 0] 54))) none from (gby_alloc (gby_alloc (gby_alloc (gby_refl _ _) _) _) _))
  have A_0_ : ((((W.alloc (.cells #[.slice (some ⟨ab, ao, none⟩) 3 c0, .slice (some ⟨bb, bo, none⟩) 3 c1] 54)).alloc (.cells #[.int .i64 p.f0, .int .i64 p.f1, .int .i64 p.f2, .int .i64 p.f3, .int .i64 p.f4, .int .i64 p.f5, .int .i64 p.f6, vp] 29)).alloc (.cells #[.slice none 0 0, .slice none 0 0] 54))).cell? ⟨W.heap.size, 0, none⟩ = some (.slice (some ⟨ab, ao, none⟩) 3 c0) := cell_of_row _ _ 0 _ _ _ rA1_.out
  have A_1_ : ((((W.alloc (.cells #[.slice (some ⟨ab, ao, none⟩) 3 c0, .slice (some ⟨bb, bo, none⟩) 3 c1] 54)).alloc (.cells #[.int .i64 p.f0, .int .i64 p.f1, .int .i64 p.f2, .int .i64 p.f3, .int .i64 p.f4, .int .i64 p.f5, .int .i64 p.f6, vp] 29)).alloc (.cells #[.slice none 0 0, .slice none 0 0] 54))).cell? ⟨W.heap.size, 1, none⟩ = some (.slice (some ⟨bb, bo, none⟩) 3 c1) := cell_of_row _ _ 1 _ _ _ rA1_.out
  have K_0_ : ((((W.alloc (.cells #[.slice (some ⟨ab, ao, none⟩) 3 c0, .slice (some ⟨bb, bo, none⟩) 3 c1] 54)).alloc (.cells #[.int .i64 p.f0, .int .i64 p.f1, .int .i64 p.f2, .int .i64 p.f3, .int .i64 p.f4, .int .i64 p.f5, .int .i64 p.f6, vp] 29)).alloc (.cells #[.slice none 0 0, .slice none 0 0] 54))).cell? ⟨W.heap.size + 1, 0, none⟩ = some (.int .i64 p.f0) := cell_of_row _ _ 0 _ _ _ rK2_.out
  have K_1_ : ((((W.alloc (.cells #[.slice (some ⟨ab, ao, none⟩) 3 c0, .slice (some ⟨bb, bo, none⟩) 3 c1] 54)).alloc (.cells #[.int .i64 p.f0, .int .i64 p.f1, .int .i64 p.f2, .int .i64 p.f3, .int .i64 p.f4, .int .i64 p.f5, .int .i64 p.f6, vp] 29)).alloc (.cells #[.slice none 0 0, .slice none 0 0] 54))).cell? ⟨W.heap.size + 1, 1, none⟩ = some (.int .i64 p.f1) := cell_of_row _ _ 1 _ _ _ rK2_.out
  have K_2_ : ((((W.alloc (.cells #[.slice (some ⟨ab, ao, none⟩) 3 c0, .slice (some ⟨bb, bo, none⟩) 3 c1] 54)).alloc (.cells #[.int .i64 p.f0, .int .i64 p.f1, .int .i64 p.f2, .int .i64 p.f3, .int .i64 p.f4, .int .i64 p.f5, .int .i64 p.f6, vp] 29)).alloc (.cells #[.slice none 0 0, .slice none 0 0] 54))).cell? ⟨W.heap.size + 1, 2, none⟩ = some (.int .i64 p.f2) := cell_of_row _ _ 2 _ _ _ rK2_.out
  have K_3_ : ((((W.alloc (.cells #[.slice (some ⟨ab, ao, none⟩) 3 c0, .slice (some ⟨bb, bo, none⟩) 3 c1] 54)).alloc (.cells #[.int .i64 p.f0, .int .i64 p.f1, .int .i64 p.f2, .int .i64 p.f3, .int .i64 p.f4, .int .i64 p.f5, .int .i64 p.f6, vp] 29)).alloc (.cells #[.slice none 0 0, .slice none 0 0] 54))).cell? ⟨W.heap.size + 1, 3, none⟩ = some (.int .i64 p.f3) := cell_of_row _ _ 3 _ _ _ rK2_.out
  have K_4_ : ((((W.alloc (.cells #[.slice (some ⟨ab, ao, none⟩) 3 c0, .slice (some ⟨bb, bo, none⟩) 3 c1] 54)).alloc (.cells #[.int .i64 p.f0, .int .i64 p.f1, .int .i64 p.f2, .int .i64 p.f3, .int .i64 p.f4, .int .i64 p.f5, .int .i64 p.f6, vp] 29)).alloc (.cells #[.slice none 0 0, .slice none 0 0] 54))).cell? ⟨W.heap.size + 1, 4, none⟩ = some (.int .i64 p.f4) := cell_of_row _ _ 4 _ _ _ rK2_.out
  have K_5_ : ((((W.alloc (.cells #[.slice (some ⟨ab, ao, none⟩) 3 c0, .slice (some ⟨bb, bo, none⟩) 3 c1] 54)).alloc (.cells #[.int .i64 p.f0, .int .i64 p.f1, .int .i64 p.f2, .int .i64 p.f3, .int .i64 p.f4, .int .i64 p.f5, .int .i64 p.f6, vp] 29)).alloc (.cells #[.slice none 0 0, .slice none 0 0] 54))).cell? ⟨W.heap.size + 1, 5, none⟩ = some (.int .i64 p.f5) := cell_of_row _ _ 5 _ _ _ rK2_.out
  have K_6_ : ((((W.alloc (.cells #[.slice (some ⟨ab, ao, none⟩) 3 c0, .slice (some ⟨bb, bo, none⟩) 3 c1] 54)).alloc (.cells #[.int .i64 p.f0, .int .i64 p.f1, .int .i64 p.f2, .int .i64 p.f3, .int .i64 p.f4, .int .i64 p.f5, .int .i64 p.f6, vp] 29)).alloc (.cells #[.slice none 0 0, .slice none 0 0] 54))).cell? ⟨W.heap.size + 1, 6, none⟩ = some (.int .i64 p.f6) := cell_of_row _ _ 6 _ _ _ rK2_.out
  have K_7_ : ((((W.alloc (.cells #[.slice (some ⟨ab, ao, none⟩) 3 c0, .slice (some ⟨bb, bo, none⟩) 3 c1] 54)).alloc (.cells #[.int .i64 p.f0, .int .i64 p.f1, .int .i64 p.f2, .int .i64 p.f3, .int .i64 p.f4, .int .i64 p.f5, .int .i64 p.f6, vp] 29)).alloc (.cells #[.slice none 0 0, .slice none 0 0] 54))).cell? ⟨W.heap.size + 1, 7, none⟩ = some (vp) := cell_of_row _ _ 7 _ _ _ rK2_.out
  have R_0_ : ((((W.alloc (.cells #[.slice (some ⟨ab, ao, none⟩) 3 c0, .slice (some ⟨bb, bo, none⟩) 3 c1] 54)).alloc (.cells #[.int .i64 p.f0, .int .i64 p.f1, .int .i64 p.f2, .int .i64 p.f3, .int .i64 p.f4, .int .i64 p.f5, .int .i64 p.f6, vp] 29)).alloc (.cells #[.slice none 0 0, .slice none 0 0] 54))).cell? ⟨W.heap.size + 1 + 1, 0, none⟩ = some (.slice none 0 0) := cell_of_row _ _ 0 _ _ _ rR3_.out
  have R_1_ : ((((W.alloc (.cells #[.slice (some ⟨ab, ao, none⟩) 3 c0, .slice (some ⟨bb, bo, none⟩) 3 c1] 54)).alloc (.cells #[.int .i64 p.f0, .int .i64 p.f1, .int .i64 p.f2, .int .i64 p.f3, .int .i64 p.f4, .int .i64 p.f5, .int .i64 p.f6, vp] 29)).alloc (.cells #[.slice none 0 0, .slice none 0 0] 54))).cell? ⟨W.heap.size + 1 + 1, 1, none⟩ = some (.slice none 0 0) := cell_of_row _ _ 1 _ _ _ rR3_.out
  go_wp2_with fail
  go_at_call 82
  refine (l14Copy_d _ _ _ xs ys (HSX.out.grow G4_.out) (HSY.out.grow G4_.out) HXL.out HYL.out).mono ?_
  rintro e w1 ⟨z0, z1, rfl, o, g⟩
  have sz_ := g.size
  try simp only [World.size_alloc] at sz_ o
  clear A_0_ A_1_ K_0_ K_1_ K_2_ K_3_ K_4_ K_5_ K_6_ K_7_ R_0_ R_1_
  have rA5_ := Lib.hid (show (w1).heap[W.heap.size]? = some (.cells #[.slice (some ⟨ab, ao, none⟩) 3 c0, .slice (some ⟨bb, bo, none⟩) 3 c1] 54 (0, 0)) from row_held g rA1_.out)
  clear rA1_
  have rK6_ := Lib.hid (show (w1).heap[W.heap.size + 1]? = some (.cells #[.int .i64 p.f0, .int .i64 p.f1, .int .i64 p.f2, .int .i64 p.f3, .int .i64 p.f4, .int .i64 p.f5, .int .i64 p.f6, vp] 29 (0, 0)) from row_held g rK2_.out)
  clear rK2_
  have rR7_ := Lib.hid (show (w1).heap[W.heap.size + 1 + 1]? = some (.cells #[.slice none 0 0, .slice none 0 0] 54 (0, 0)) from row_held g rR3_.out)
  clear rR3_
  have G8_ := Lib.hid (show (W).grownBy (w1) none from gby_trans G4_.out g)
  clear g
  obtain ⟨q0, m0, d0, hv_⟩ := RdL.form (OwU.rd o)
  subst hv_
  obtain ⟨q1, m1, d1, hv_⟩ := RdL.form (OwU.rd (OwU.tail o))
  subst hv_
  unfold vCredits
  have oC9_ := Lib.hid (show OwU (w1) ((W.heap.size + 1 + 1 + 1)) (w1.heap.size) [] [own shI (.slice q0 m0 d0) xs, own shI (.slice q1 m1 d1) ys] from o)
  clear o
  have al_ : (w1).grownBy ((w1).alloc (.cells #[.slice q0 m0 d0, .slice q1 m1 d1] 54)) none := gby_alloc (gby_refl _ _) _
  have rA10_ := Lib.hid (show ((w1.alloc (.cells #[.slice q0 m0 d0, .slice q1 m1 d1] 54))).heap[W.heap.size]? = some (.cells #[.slice (some ⟨ab, ao, none⟩) 3 c0, .slice (some ⟨bb, bo, none⟩) 3 c1] 54 (0, 0)) from row_held al_ rA5_.out)
  clear rA5_
  have rK11_ := Lib.hid (show ((w1.alloc (.cells #[.slice q0 m0 d0, .slice q1 m1 d1] 54))).heap[W.heap.size + 1]? = some (.cells #[.int .i64 p.f0, .int .i64 p.f1, .int .i64 p.f2, .int .i64 p.f3, .int .i64 p.f4, .int .i64 p.f5, .int .i64 p.f6, vp] 29 (0, 0)) from row_held al_ rK6_.out)
  clear rK6_
  have rR12_ := Lib.hid (show ((w1.alloc (.cells #[.slice q0 m0 d0, .slice q1 m1 d1] 54))).heap[W.heap.size + 1 + 1]? = some (.cells #[.slice none 0 0, .slice none 0 0] 54 (0, 0)) from row_held al_ rR7_.out)
  clear rR7_
  have oC13_ := Lib.hid (show OwU ((w1.alloc (.cells #[.slice q0 m0 d0, .slice q1 m1 d1] 54))) ((W.heap.size + 1 + 1 + 1)) (w1.heap.size) [] [own shI (.slice q0 m0 d0) xs, own shI (.slice q1 m1 d1) ys] from OwU.grow oC9_.out al_)
  clear oC9_
  have G14_ := Lib.hid (show (W).grownBy ((w1.alloc (.cells #[.slice q0 m0 d0, .slice q1 m1 d1] 54))) none from gby_trans G8_.out al_)
  have rX15_ := Lib.hid (show ((w1.alloc (.cells #[.slice q0 m0 d0, .slice q1 m1 d1] 54))).heap[w1.heap.size]? = some (.cells #[.slice q0 m0 d0, .slice q1 m1 d1] 54 (0, 0)) from by first | exact heap_alloc_new _ _ | exact heap_pair _ _ _ | exact heap_trip _ _ _ _)
  clear al_
  have A_0_ : ((w1.alloc (.cells #[.slice q0 m0 d0, .slice q1 m1 d1] 54))).cell? ⟨W.heap.size, 0, none⟩ = some (.slice (some ⟨ab, ao, none⟩) 3 c0) := cell_of_row _ _ 0 _ _ _ rA10_.out
  have A_1_ : ((w1.alloc (.cells #[.slice q0 m0 d0, .slice q1 m1 d1] 54))).cell? ⟨W.heap.size, 1, none⟩ = some (.slice (some ⟨bb, bo, none⟩) 3 c1) := cell_of_row _ _ 1 _ _ _ rA10_.out
  have K_0_ : ((w1.alloc (.cells #[.slice q0 m0 d0, .slice q1 m1 d1] 54))).cell? ⟨W.heap.size + 1, 0, none⟩ = some (.int .i64 p.f0) := cell_of_row _ _ 0 _ _ _ rK11_.out
  have K_1_ : ((w1.alloc (.cells #[.slice q0 m0 d0, .slice q1 m1 d1] 54))).cell? ⟨W.heap.size + 1, 1, none⟩ = some (.int .i64 p.f1) := cell_of_row _ _ 1 _ _ _ rK11_.out
  have K_2_ : ((w1.alloc (.cells #[.slice q0 m0 d0, .slice q1 m1 d1] 54))).cell? ⟨W.heap.size + 1, 2, none⟩ = some (.int .i64 p.f2) := cell_of_row _ _ 2 _ _ _ rK11_.out
  have K_3_ : ((w1.alloc (.cells #[.slice q0 m0 d0, .slice q1 m1 d1] 54))).cell? ⟨W.heap.size + 1, 3, none⟩ = some (.int .i64 p.f3) := cell_of_row _ _ 3 _ _ _ rK11_.out
  have K_4_ : ((w1.alloc (.cells #[.slice q0 m0 d0, .slice q1 m1 d1] 54))).cell? ⟨W.heap.size + 1, 4, none⟩ = some (.int .i64 p.f4) := cell_of_row _ _ 4 _ _ _ rK11_.out
  have K_5_ : ((w1.alloc (.cells #[.slice q0 m0 d0, .slice q1 m1 d1] 54))).cell? ⟨W.heap.size + 1, 5, none⟩ = some (.int .i64 p.f5) := cell_of_row _ _ 5 _ _ _ rK11_.out
  have K_6_ : ((w1.alloc (.cells #[.slice q0 m0 d0, .slice q1 m1 d1] 54))).cell? ⟨W.heap.size + 1, 6, none⟩ = some (.int .i64 p.f6) := cell_of_row _ _ 6 _ _ _ rK11_.out
  have K_7_ : ((w1.alloc (.cells #[.slice q0 m0 d0, .slice q1 m1 d1] 54))).cell? ⟨W.heap.size + 1, 7, none⟩ = some (vp) := cell_of_row _ _ 7 _ _ _ rK11_.out
  have R_0_ : ((w1.alloc (.cells #[.slice q0 m0 d0, .slice q1 m1 d1] 54))).cell? ⟨W.heap.size + 1 + 1, 0, none⟩ = some (.slice none 0 0) := cell_of_row _ _ 0 _ _ _ rR12_.out
  have R_1_ : ((w1.alloc (.cells #[.slice q0 m0 d0, .slice q1 m1 d1] 54))).cell? ⟨W.heap.size + 1 + 1, 1, none⟩ = some (.slice none 0 0) := cell_of_row _ _ 1 _ _ _ rR12_.out
  have X_0_ : ((w1.alloc (.cells #[.slice q0 m0 d0, .slice q1 m1 d1] 54))).cell? ⟨w1.heap.size, 0, none⟩ = some (.slice q0 m0 d0) := cell_of_row _ _ 0 _ _ _ rX15_.out
  have X_1_ : ((w1.alloc (.cells #[.slice q0 m0 d0, .slice q1 m1 d1] 54))).cell? ⟨w1.heap.size, 1, none⟩ = some (.slice q1 m1 d1) := cell_of_row _ _ 1 _ _ _ rX15_.out
  go_wp2_with fail
  go_at_call 84
  refine (HCL.out _ _ (HP.out.grow G14_.out)).mono ?_
  rintro e w2 ⟨rfl, g⟩
  have szw2 := g.size
  try simp only [World.size_alloc] at szw2
  try simp only [World.size_setCell] at szw2
  clear A_0_ A_1_ K_0_ K_1_ K_2_ K_3_ K_4_ K_5_ K_6_ K_7_ R_0_ R_1_ X_0_ X_1_
  have rA16_ := Lib.hid (show (w2).heap[W.heap.size]? = some (.cells #[.slice (some ⟨ab, ao, none⟩) 3 c0, .slice (some ⟨bb, bo, none⟩) 3 c1] 54 (0, 0)) from row_held g rA10_.out)
  clear rA10_
  have rK17_ := Lib.hid (show (w2).heap[W.heap.size + 1]? = some (.cells #[.int .i64 p.f0, .int .i64 p.f1, .int .i64 p.f2, .int .i64 p.f3, .int .i64 p.f4, .int .i64 p.f5, .int .i64 p.f6, vp] 29 (0, 0)) from row_held g rK11_.out)
  clear rK11_
  have rR18_ := Lib.hid (show (w2).heap[W.heap.size + 1 + 1]? = some (.cells #[.slice none 0 0, .slice none 0 0] 54 (0, 0)) from row_held g rR12_.out)
  clear rR12_
  have rX19_ := Lib.hid (show (w2).heap[w1.heap.size]? = some (.cells #[.slice q0 m0 d0, .slice q1 m1 d1] 54 (0, 0)) from row_held g rX15_.out)
  clear rX15_
  have oC20_ := Lib.hid (show OwU (w2) ((W.heap.size + 1 + 1 + 1)) (w1.heap.size) [] [own shI (.slice q0 m0 d0) xs, own shI (.slice q1 m1 d1) ys] from OwU.grow oC13_.out g)
  clear oC13_
  have G21_ := Lib.hid (show (W).grownBy (w2) none from gby_trans G14_.out g)
  clear g
  have A_0_ : (w2).cell? ⟨W.heap.size, 0, none⟩ = some (.slice (some ⟨ab, ao, none⟩) 3 c0) := cell_of_row _ _ 0 _ _ _ rA16_.out
  have A_1_ : (w2).cell? ⟨W.heap.size, 1, none⟩ = some (.slice (some ⟨bb, bo, none⟩) 3 c1) := cell_of_row _ _ 1 _ _ _ rA16_.out
  have K_0_ : (w2).cell? ⟨W.heap.size + 1, 0, none⟩ = some (.int .i64 p.f0) := cell_of_row _ _ 0 _ _ _ rK17_.out
  have K_1_ : (w2).cell? ⟨W.heap.size + 1, 1, none⟩ = some (.int .i64 p.f1) := cell_of_row _ _ 1 _ _ _ rK17_.out
  have K_2_ : (w2).cell? ⟨W.heap.size + 1, 2, none⟩ = some (.int .i64 p.f2) := cell_of_row _ _ 2 _ _ _ rK17_.out
  have K_3_ : (w2).cell? ⟨W.heap.size + 1, 3, none⟩ = some (.int .i64 p.f3) := cell_of_row _ _ 3 _ _ _ rK17_.out
  have K_4_ : (w2).cell? ⟨W.heap.size + 1, 4, none⟩ = some (.int .i64 p.f4) := cell_of_row _ _ 4 _ _ _ rK17_.out
  have K_5_ : (w2).cell? ⟨W.heap.size + 1, 5, none⟩ = some (.int .i64 p.f5) := cell_of_row _ _ 5 _ _ _ rK17_.out
  have K_6_ : (w2).cell? ⟨W.heap.size + 1, 6, none⟩ = some (.int .i64 p.f6) := cell_of_row _ _ 6 _ _ _ rK17_.out
  have K_7_ : (w2).cell? ⟨W.heap.size + 1, 7, none⟩ = some (vp) := cell_of_row _ _ 7 _ _ _ rK17_.out
  have R_0_ : (w2).cell? ⟨W.heap.size + 1 + 1, 0, none⟩ = some (.slice none 0 0) := cell_of_row _ _ 0 _ _ _ rR18_.out
  have R_1_ : (w2).cell? ⟨W.heap.size + 1 + 1, 1, none⟩ = some (.slice none 0 0) := cell_of_row _ _ 1 _ _ _ rR18_.out
  have X_0_ : (w2).cell? ⟨w1.heap.size, 0, none⟩ = some (.slice q0 m0 d0) := cell_of_row _ _ 0 _ _ _ rX19_.out
  have X_1_ : (w2).cell? ⟨w1.heap.size, 1, none⟩ = some (.slice q1 m1 d1) := cell_of_row _ _ 1 _ _ _ rX19_.out
  have hk0 : (0 : Int) ≤ (k : Int) := by omega
  have htk : ((k : Int)).toNat = k := by omega
  have hkx : (k : Int) < (xs.length : Int) := by omega
  have hky : (k : Int) < (ys.length : Int) := by omega
  have hk3i : (k : Int) < 3 := by omega
  have kn_ : ¬ (k : Int) < 0 := by omega
  have kn2_ : decide ((k : Int) < 0) = false := decide_eq_false kn_
  have w2_ : IntKind.i64.wrap (y + u) = y + u := IntWalk.i64_in _ (by omega)
  have ax_ := (G21_.out).cell (rdI_cellC HSX.out k (by omega)) (by simp)
  have ay_ := (G21_.out).cell (rdI_cellC HSY.out k (by omega)) (by simp)
  rw [← HX.out] at ax_
  rw [← HY.out] at ay_
  have x30_ : x = 30 := by omega
  have e30_ : (x == 30) = true := by rw [x30_]; rfl
  clear A_0_ A_1_ K_0_ K_1_ K_2_ K_3_ K_4_ K_5_ K_6_ K_7_ R_0_ R_1_ X_0_ X_1_
  have A_0_ : (w2).cell? ⟨W.heap.size, 0, none⟩ = some (.slice (some ⟨ab, ao, none⟩) 3 c0) := cell_of_row _ _ 0 _ _ _ rA16_.out
  have A_1_ : (w2).cell? ⟨W.heap.size, 1, none⟩ = some (.slice (some ⟨bb, bo, none⟩) 3 c1) := cell_of_row _ _ 1 _ _ _ rA16_.out
  have K_0_ : (w2).cell? ⟨W.heap.size + 1, 0, none⟩ = some (.int .i64 p.f0) := cell_of_row _ _ 0 _ _ _ rK17_.out
  have K_1_ : (w2).cell? ⟨W.heap.size + 1, 1, none⟩ = some (.int .i64 p.f1) := cell_of_row _ _ 1 _ _ _ rK17_.out
  have K_2_ : (w2).cell? ⟨W.heap.size + 1, 2, none⟩ = some (.int .i64 p.f2) := cell_of_row _ _ 2 _ _ _ rK17_.out
  have K_3_ : (w2).cell? ⟨W.heap.size + 1, 3, none⟩ = some (.int .i64 p.f3) := cell_of_row _ _ 3 _ _ _ rK17_.out
  have K_4_ : (w2).cell? ⟨W.heap.size + 1, 4, none⟩ = some (.int .i64 p.f4) := cell_of_row _ _ 4 _ _ _ rK17_.out
  have K_5_ : (w2).cell? ⟨W.heap.size + 1, 5, none⟩ = some (.int .i64 p.f5) := cell_of_row _ _ 5 _ _ _ rK17_.out
  have K_6_ : (w2).cell? ⟨W.heap.size + 1, 6, none⟩ = some (.int .i64 p.f6) := cell_of_row _ _ 6 _ _ _ rK17_.out
  have K_7_ : (w2).cell? ⟨W.heap.size + 1, 7, none⟩ = some (vp) := cell_of_row _ _ 7 _ _ _ rK17_.out
  have HG9 := Lib.hid (G21_.out)
  go_wp2_with fail
  refine wp_region_held_drew (S := fun w' => w'.cell? ⟨W.heap.size, 0, none⟩ = some (.slice (some ⟨ab, ao, none⟩) 3 c0) ∧ w'.cell? ⟨W.heap.size, 1, none⟩ = some (.slice (some ⟨bb, bo, none⟩) 3 c1) ∧ w'.cell? ⟨W.heap.size + 1, 0, none⟩ = some (.int .i64 p.f0) ∧ w'.cell? ⟨W.heap.size + 1, 1, none⟩ = some (.int .i64 p.f1) ∧ w'.cell? ⟨W.heap.size + 1, 2, none⟩ = some (.int .i64 p.f2) ∧ w'.cell? ⟨W.heap.size + 1, 3, none⟩ = some (.int .i64 p.f3) ∧ w'.cell? ⟨W.heap.size + 1, 4, none⟩ = some (.int .i64 p.f4) ∧ w'.cell? ⟨W.heap.size + 1, 5, none⟩ = some (.int .i64 p.f5) ∧ w'.cell? ⟨W.heap.size + 1, 6, none⟩ = some (.int .i64 p.f6) ∧ w'.cell? ⟨W.heap.size + 1, 7, none⟩ = some (vp) ∧ w'.cell? ⟨ab, ao + k, none⟩ = some (.int .i64 x) ∧ w'.cell? ⟨bb, bo + k, none⟩ = some (.int .i64 y)) (by kernel_rfl) (by (try dsimp only); exact ⟨A_0_, A_1_, K_0_, K_1_, K_2_, K_3_, K_4_, K_5_, K_6_, K_7_, ax_, ay_⟩) (fun hHeld => ?_)
  refine wpAnyH_take (i := 0) (oi := { dst := some 12, op := Op.load 54 (Operand.tmp 2), type := 54, pos := "l14_credit.go:40", after := #[], guard := none }) (v := ?v0_r3_1) rfl (by kernel_rfl) (by kernel_rfl) (by kernel_rfl) (fun _ _ _ h => h) (Or.inl ⟨by rfl, ?y0_r3_1⟩) (by assumption) ?r0_r3_1
  case y0_r3_1 => (intro w hSw; (try dsimp only at hSw); go_simp; all_goals (with_reducible rfl))
  try simp only [Act.put, List.setIfInBounds_toArray, List.set_cons_zero, List.set_cons_succ]
  refine wpAnyH_ready (rs := [1]) (by kernel_rfl) (by simp) ?_
  refine AllReadyH.cons (o := { dst := some 13, op := Op.call { callee := Callee.value (Operand.func 89), args := #[Operand.tmp 12], argTypes := #[54] }, type := 4, pos := "l14_credit.go:40", after := #[{ on := 0, ground := Ground.data }], guard := none }) rfl (fun K hK => ?_) AllReadyH.nil
  go_simp
  go_at_call 89
  refine (HCD.out _ _ _ (HSX.out.grow (gby_trans HG9.out (gby_drew (gby_refl _ none)))) (HSY.out.grow (gby_trans HG9.out (gby_drew (gby_refl _ none))))).mono ?_
  rintro e wH2_r3 ⟨rfl, gH2_r3⟩
  have m2_A_0_ : wH2_r3.cell? _ = some _ := gH2_r3.cell A_0_ (by simp); have m2_A_1_ : wH2_r3.cell? _ = some _ := gH2_r3.cell A_1_ (by simp); have m2_K_0_ : wH2_r3.cell? _ = some _ := gH2_r3.cell K_0_ (by simp); have m2_K_1_ : wH2_r3.cell? _ = some _ := gH2_r3.cell K_1_ (by simp); have m2_K_2_ : wH2_r3.cell? _ = some _ := gH2_r3.cell K_2_ (by simp); have m2_K_3_ : wH2_r3.cell? _ = some _ := gH2_r3.cell K_3_ (by simp); have m2_K_4_ : wH2_r3.cell? _ = some _ := gH2_r3.cell K_4_ (by simp); have m2_K_5_ : wH2_r3.cell? _ = some _ := gH2_r3.cell K_5_ (by simp); have m2_K_6_ : wH2_r3.cell? _ = some _ := gH2_r3.cell K_6_ (by simp); have m2_K_7_ : wH2_r3.cell? _ = some _ := gH2_r3.cell K_7_ (by simp); have m2_ax_ : wH2_r3.cell? _ = some _ := gH2_r3.cell ax_ (by simp); have m2_ay_ : wH2_r3.cell? _ = some _ := gH2_r3.cell ay_ (by simp)
  go_wp2_with fail
  clear hHeld
  refine hK.out _ _ ?s1_r3_2 (fun hHeld => ?_)
  case s1_r3_2 => exact ⟨m2_A_0_, m2_A_1_, m2_K_0_, m2_K_1_, m2_K_2_, m2_K_3_, m2_K_4_, m2_K_5_, m2_K_6_, m2_K_7_, m2_ax_, m2_ay_⟩
  clear hK K
  try simp only [Act.put, List.setIfInBounds_toArray, List.set_cons_zero, List.set_cons_succ]
  refine wpAnyH_take (i := 2) (oi := { dst := some 14, op := Op.unOp UnOp.not 4 (Operand.tmp 13), type := 4, pos := "l14_credit.go:40", after := #[{ on := 1, ground := Ground.data }], guard := none }) (v := ?v2_r3_3) rfl (by kernel_rfl) (by kernel_rfl) (by kernel_rfl) (fun _ _ _ h => h) (Or.inl ⟨by rfl, ?y2_r3_3⟩) (by assumption) ?r2_r3_3
  case y2_r3_3 => (intro w hSw; (try dsimp only at hSw); go_simp; all_goals (with_reducible rfl))
  try simp only [Act.put, List.setIfInBounds_toArray, List.set_cons_zero, List.set_cons_succ]
  refine wpAnyH_take (i := 3) (oi := { dst := some 15, op := Op.move (Operand.tmp 14), type := 4, pos := "l14_credit.go:40", after := #[{ on := 2, ground := Ground.data }, { on := 1, ground := Ground.chain }], guard := none }) (v := ?v3_r3_4) rfl (by kernel_rfl) (by kernel_rfl) (by kernel_rfl) (fun _ _ _ h => h) (Or.inl ⟨by rfl, ?y3_r3_4⟩) (by assumption) ?r3_r3_4
  case y3_r3_4 => (intro w hSw; (try dsimp only at hSw); go_simp; all_goals (with_reducible rfl))
  try simp only [Act.put, List.setIfInBounds_toArray, List.set_cons_zero, List.set_cons_succ]
  refine wpAnyH_take (i := 4) (oi := { dst := some 16, op := Op.move (Operand.tmp 7), type := 3, pos := "l14_credit.go:40", after := #[{ on := 3, ground := Ground.guard }], guard := some (3, false) }) (v := ?v4_r3_5) rfl (by kernel_rfl) (by kernel_rfl) (by kernel_rfl) (fun _ _ _ h => h) (Or.inl ⟨by rfl, ?y4_r3_5⟩) (by assumption) ?r4_r3_5
  case y4_r3_5 => (intro w hSw; (try dsimp only at hSw); go_simp; all_goals (with_reducible rfl))
  try simp only [Act.put, List.setIfInBounds_toArray, List.set_cons_zero, List.set_cons_succ]
  refine wpAnyH_take (i := 5) (oi := { dst := some 17, op := Op.binOp BinOp.lss 3 (Operand.tmp 16) (Operand.const (Value.int IntKind.i64 0)) 3, type := 4, pos := "l14_credit.go:40", after := #[{ on := 4, ground := Ground.data }, { on := 3, ground := Ground.guard }], guard := some (3, false) }) (v := ?v5_r3_6) rfl (by kernel_rfl) (by kernel_rfl) (by kernel_rfl) (fun _ _ _ h => h) (Or.inl ⟨by rfl, ?y5_r3_6⟩) (by assumption) ?r5_r3_6
  case y5_r3_6 => (intro w hSw; (try dsimp only at hSw); go_simp; all_goals (with_reducible rfl))
  try simp only [Act.put, List.setIfInBounds_toArray, List.set_cons_zero, List.set_cons_succ]
  refine wpAnyH_take (i := 6) (oi := { dst := some 18, op := Op.pick (Operand.tmp 15) (Operand.const (Value.bool true)) (Operand.tmp 17), type := 4, pos := "l14_credit.go:40", after := #[{ on := 3, ground := Ground.data }, { on := 5, ground := Ground.data }], guard := none }) (v := ?v6_r3_7) rfl (by kernel_rfl) (by kernel_rfl) (by kernel_rfl) (fun _ _ _ h => h) (Or.inl ⟨by rfl, ?y6_r3_7⟩) (by assumption) ?r6_r3_7
  case y6_r3_7 => (intro w hSw; (try dsimp only at hSw); go_simp; all_goals (with_reducible rfl))
  try simp only [Act.put, List.setIfInBounds_toArray, List.set_cons_zero, List.set_cons_succ]
  refine wpAnyH_take (i := 7) (oi := { dst := some 19, op := Op.move (Operand.tmp 18), type := 4, pos := "l14_credit.go:40", after := #[{ on := 6, ground := Ground.data }, { on := 3, ground := Ground.chain }], guard := none }) (v := ?v7_r3_8) rfl (by kernel_rfl) (by kernel_rfl) (by kernel_rfl) (fun _ _ _ h => h) (Or.inl ⟨by rfl, ?y7_r3_8⟩) (by assumption) ?r7_r3_8
  case y7_r3_8 => (intro w hSw; (try dsimp only at hSw); go_simp; all_goals (with_reducible rfl))
  try simp only [Act.put, List.setIfInBounds_toArray, List.set_cons_zero, List.set_cons_succ]
  refine wpAnyH_take (i := 8) (oi := { dst := some 20, op := Op.fieldAddr 54 (Operand.tmp 2) 0, type := 0, pos := "l14_credit.go:40", after := #[{ on := 7, ground := Ground.guard }], guard := some (7, false) }) (v := ?v8_r3_9) rfl (by kernel_rfl) (by kernel_rfl) (by kernel_rfl) (fun _ _ _ h => h) (Or.inl ⟨by rfl, ?y8_r3_9⟩) (by assumption) ?r8_r3_9
  case y8_r3_9 => (intro w hSw; (try dsimp only at hSw); go_simp; all_goals (with_reducible rfl))
  try simp only [Act.put, List.setIfInBounds_toArray, List.set_cons_zero, List.set_cons_succ]
  refine wpAnyH_take (i := 9) (oi := { dst := some 21, op := Op.load 27 (Operand.tmp 20), type := 27, pos := "l14_credit.go:40", after := #[{ on := 8, ground := Ground.data }, { on := 7, ground := Ground.guard }], guard := some (7, false) }) (v := ?v9_r3_10) rfl (by kernel_rfl) (by kernel_rfl) (by kernel_rfl) (fun _ _ _ h => h) (Or.inl ⟨by rfl, ?y9_r3_10⟩) (by assumption) ?r9_r3_10
  case y9_r3_10 => (intro w hSw; (try dsimp only at hSw); go_simp; all_goals (with_reducible rfl))
  try simp only [Act.put, List.setIfInBounds_toArray, List.set_cons_zero, List.set_cons_succ]
  refine wpAnyH_take (i := 10) (oi := { dst := some 22, op := Op.move (Operand.tmp 7), type := 3, pos := "l14_credit.go:40", after := #[{ on := 7, ground := Ground.guard }], guard := some (7, false) }) (v := ?v10_r3_11) rfl (by kernel_rfl) (by kernel_rfl) (by kernel_rfl) (fun _ _ _ h => h) (Or.inl ⟨by rfl, ?y10_r3_11⟩) (by assumption) ?r10_r3_11
  case y10_r3_11 => (intro w hSw; (try dsimp only at hSw); go_simp; all_goals (with_reducible rfl))
  try simp only [Act.put, List.setIfInBounds_toArray, List.set_cons_zero, List.set_cons_succ]
  refine wpAnyH_take (i := 11) (oi := { dst := some 23, op := Op.indexAddr 27 (Operand.tmp 21) (Operand.tmp 22), type := 0, pos := "l14_credit.go:40", after := #[{ on := 9, ground := Ground.data }, { on := 10, ground := Ground.data }, { on := 7, ground := Ground.guard }], guard := some (7, false) }) (v := ?v11_r3_12) rfl (by kernel_rfl) (by kernel_rfl) (by kernel_rfl) (fun _ _ _ h => h) (Or.inl ⟨by rfl, ?y11_r3_12⟩) (by assumption) ?r11_r3_12
  case y11_r3_12 => (intro w hSw; (try dsimp only at hSw); go_simp; all_goals (with_reducible rfl))
  try simp only [Act.put, List.setIfInBounds_toArray, List.set_cons_zero, List.set_cons_succ]
  refine wpAnyH_take (i := 12) (oi := { dst := some 24, op := Op.load 3 (Operand.tmp 23), type := 3, pos := "l14_credit.go:40", after := #[{ on := 11, ground := Ground.data }, { on := 7, ground := Ground.guard }], guard := some (7, false) }) (v := ?v12_r3_13) rfl (by kernel_rfl) (by kernel_rfl) (by kernel_rfl) (fun _ _ _ h => h) (Or.inl ⟨by rfl, ?y12_r3_13⟩) (by assumption) ?r12_r3_13
  case y12_r3_13 => (intro w hSw; (try dsimp only at hSw); go_simp; all_goals (with_reducible rfl))
  try simp only [Act.put, List.setIfInBounds_toArray, List.set_cons_zero, List.set_cons_succ]
  refine wpAnyH_take (i := 13) (oi := { dst := some 25, op := Op.binOp BinOp.eql 3 (Operand.tmp 24) (Operand.const (Value.int IntKind.i64 30)) 3, type := 4, pos := "l14_credit.go:40", after := #[{ on := 12, ground := Ground.data }, { on := 7, ground := Ground.guard }], guard := some (7, false) }) (v := ?v13_r3_14) rfl (by kernel_rfl) (by kernel_rfl) (by kernel_rfl) (fun _ _ _ h => h) (Or.inl ⟨by rfl, ?y13_r3_14⟩) (by assumption) ?r13_r3_14
  case y13_r3_14 => (intro w hSw; (try dsimp only at hSw); go_simp; all_goals (with_reducible rfl))
  try simp only [Act.put, List.setIfInBounds_toArray, List.set_cons_zero, List.set_cons_succ]
  refine wpAnyH_take (i := 14) (oi := { dst := some 26, op := Op.pick (Operand.tmp 19) (Operand.const (Value.bool true)) (Operand.tmp 25), type := 4, pos := "l14_credit.go:40", after := #[{ on := 7, ground := Ground.data }, { on := 13, ground := Ground.data }], guard := none }) (v := ?v14_r3_15) rfl (by kernel_rfl) (by kernel_rfl) (by kernel_rfl) (fun _ _ _ h => h) (Or.inl ⟨by rfl, ?y14_r3_15⟩) (by assumption) ?r14_r3_15
  case y14_r3_15 => (intro w hSw; (try dsimp only at hSw); go_simp; all_goals (with_reducible rfl))
  try simp only [Act.put, List.setIfInBounds_toArray, List.set_cons_zero, List.set_cons_succ]
  refine wpAnyH_take (i := 15) (oi := { dst := some 27, op := Op.move (Operand.tmp 26), type := 4, pos := "l14_credit.go:40", after := #[{ on := 14, ground := Ground.data }, { on := 7, ground := Ground.chain }], guard := none }) (v := ?v15_r3_16) rfl (by kernel_rfl) (by kernel_rfl) (by kernel_rfl) (fun _ _ _ h => h) (Or.inl ⟨by rfl, ?y15_r3_16⟩) (by assumption) ?r15_r3_16
  case y15_r3_16 => (intro w hSw; (try dsimp only at hSw); go_simp; all_goals (with_reducible rfl))
  try simp only [Act.put, List.setIfInBounds_toArray, List.set_cons_zero, List.set_cons_succ]
  refine wpAnyH_take (i := 16) (oi := { dst := some 28, op := Op.fieldAddr 54 (Operand.tmp 2) 1, type := 0, pos := "l14_credit.go:40", after := #[{ on := 15, ground := Ground.guard }], guard := some (15, false) }) (v := undef) rfl (by kernel_rfl) (by kernel_rfl) (by kernel_rfl) (fun _ _ _ h => h) (Or.inr ⟨by rfl, rfl⟩) (by assumption) ?r16_r3_17
  try simp only [Act.put, List.setIfInBounds_toArray, List.set_cons_zero, List.set_cons_succ]
  refine wpAnyH_take (i := 17) (oi := { dst := some 29, op := Op.load 27 (Operand.tmp 28), type := 27, pos := "l14_credit.go:40", after := #[{ on := 16, ground := Ground.data }, { on := 15, ground := Ground.guard }], guard := some (15, false) }) (v := undef) rfl (by kernel_rfl) (by kernel_rfl) (by kernel_rfl) (fun _ _ _ h => h) (Or.inr ⟨by rfl, rfl⟩) (by assumption) ?r17_r3_18
  try simp only [Act.put, List.setIfInBounds_toArray, List.set_cons_zero, List.set_cons_succ]
  refine wpAnyH_take (i := 18) (oi := { dst := some 30, op := Op.move (Operand.tmp 7), type := 3, pos := "l14_credit.go:40", after := #[{ on := 15, ground := Ground.guard }], guard := some (15, false) }) (v := undef) rfl (by kernel_rfl) (by kernel_rfl) (by kernel_rfl) (fun _ _ _ h => h) (Or.inr ⟨by rfl, rfl⟩) (by assumption) ?r18_r3_19
  try simp only [Act.put, List.setIfInBounds_toArray, List.set_cons_zero, List.set_cons_succ]
  refine wpAnyH_take (i := 19) (oi := { dst := some 31, op := Op.indexAddr 27 (Operand.tmp 29) (Operand.tmp 30), type := 0, pos := "l14_credit.go:40", after := #[{ on := 17, ground := Ground.data }, { on := 18, ground := Ground.data }, { on := 15, ground := Ground.guard }], guard := some (15, false) }) (v := undef) rfl (by kernel_rfl) (by kernel_rfl) (by kernel_rfl) (fun _ _ _ h => h) (Or.inr ⟨by rfl, rfl⟩) (by assumption) ?r19_r3_20
  try simp only [Act.put, List.setIfInBounds_toArray, List.set_cons_zero, List.set_cons_succ]
  refine wpAnyH_take (i := 20) (oi := { dst := some 32, op := Op.load 3 (Operand.tmp 31), type := 3, pos := "l14_credit.go:40", after := #[{ on := 19, ground := Ground.data }, { on := 15, ground := Ground.guard }], guard := some (15, false) }) (v := undef) rfl (by kernel_rfl) (by kernel_rfl) (by kernel_rfl) (fun _ _ _ h => h) (Or.inr ⟨by rfl, rfl⟩) (by assumption) ?r20_r3_21
  try simp only [Act.put, List.setIfInBounds_toArray, List.set_cons_zero, List.set_cons_succ]
  refine wpAnyH_take (i := 21) (oi := { dst := some 33, op := Op.load 29 (Operand.tmp 3), type := 29, pos := "l14_credit.go:40", after := #[{ on := 15, ground := Ground.guard }], guard := some (15, false) }) (v := undef) rfl (by kernel_rfl) (by kernel_rfl) (by kernel_rfl) (fun _ _ _ h => h) (Or.inr ⟨by rfl, rfl⟩) (by assumption) ?r21_r3_22
  try simp only [Act.put, List.setIfInBounds_toArray, List.set_cons_zero, List.set_cons_succ]
  refine wpAnyH_take (i := 22) (oi := { dst := some 34, op := Op.call { callee := Callee.value (Operand.func 85), args := #[Operand.tmp 33], argTypes := #[29] }, type := 3, pos := "l14_credit.go:40", after := #[{ on := 21, ground := Ground.data }, { on := 15, ground := Ground.chain }, { on := 15, ground := Ground.guard }], guard := some (15, false) }) (v := undef) rfl (by kernel_rfl) (by kernel_rfl) (by kernel_rfl) (fun _ _ _ h => h) (Or.inr ⟨by rfl, rfl⟩) (by assumption) ?r22_r3_23
  try simp only [Act.put, List.setIfInBounds_toArray, List.set_cons_zero, List.set_cons_succ]
  refine wpAnyH_take (i := 23) (oi := { dst := some 35, op := Op.binOp BinOp.add 3 (Operand.tmp 32) (Operand.tmp 34) 3, type := 3, pos := "l14_credit.go:40", after := #[{ on := 20, ground := Ground.data }, { on := 22, ground := Ground.data }, { on := 15, ground := Ground.guard }], guard := some (15, false) }) (v := undef) rfl (by kernel_rfl) (by kernel_rfl) (by kernel_rfl) (fun _ _ _ h => h) (Or.inr ⟨by rfl, rfl⟩) (by assumption) ?r23_r3_24
  try simp only [Act.put, List.setIfInBounds_toArray, List.set_cons_zero, List.set_cons_succ]
  refine wpAnyH_take (i := 24) (oi := { dst := some 36, op := Op.binOp BinOp.gtr 3 (Operand.tmp 35) (Operand.const (Value.int IntKind.i64 30)) 3, type := 4, pos := "l14_credit.go:40", after := #[{ on := 23, ground := Ground.data }, { on := 15, ground := Ground.guard }], guard := some (15, false) }) (v := undef) rfl (by kernel_rfl) (by kernel_rfl) (by kernel_rfl) (fun _ _ _ h => h) (Or.inr ⟨by rfl, rfl⟩) (by assumption) ?r24_r3_25
  try simp only [Act.put, List.setIfInBounds_toArray, List.set_cons_zero, List.set_cons_succ]
  refine wpAnyH_take (i := 25) (oi := { dst := some 37, op := Op.pick (Operand.tmp 27) (Operand.const (Value.bool true)) (Operand.tmp 36), type := 4, pos := "l14_credit.go:40", after := #[{ on := 15, ground := Ground.data }, { on := 24, ground := Ground.data }], guard := none }) (v := ?v25_r3_26) rfl (by kernel_rfl) (by kernel_rfl) (by kernel_rfl) (fun _ _ _ h => h) (Or.inl ⟨by rfl, ?y25_r3_26⟩) (by assumption) ?r25_r3_26
  case y25_r3_26 => (intro w hSw; (try dsimp only at hSw); go_simp; all_goals (with_reducible rfl))
  try simp only [Act.put, List.setIfInBounds_toArray, List.set_cons_zero, List.set_cons_succ]
  refine wpAnyH_done (by kernel_rfl) ?_ _
  have gR_ : (w2).grownBy (wH2_r3) none := (gby_trans (gby_drew (gby_refl _ none)) gH2_r3)
  have szwH2_r3 := gR_.size
  try simp only [World.size_alloc] at szwH2_r3
  clear A_0_ A_1_ K_0_ K_1_ K_2_ K_3_ K_4_ K_5_ K_6_ K_7_
  have rA22_ := Lib.hid (show (wH2_r3).heap[W.heap.size]? = some (.cells #[.slice (some ⟨ab, ao, none⟩) 3 c0, .slice (some ⟨bb, bo, none⟩) 3 c1] 54 (0, 0)) from row_held gR_ rA16_.out)
  clear rA16_
  have rK23_ := Lib.hid (show (wH2_r3).heap[W.heap.size + 1]? = some (.cells #[.int .i64 p.f0, .int .i64 p.f1, .int .i64 p.f2, .int .i64 p.f3, .int .i64 p.f4, .int .i64 p.f5, .int .i64 p.f6, vp] 29 (0, 0)) from row_held gR_ rK17_.out)
  clear rK17_
  have rR24_ := Lib.hid (show (wH2_r3).heap[W.heap.size + 1 + 1]? = some (.cells #[.slice none 0 0, .slice none 0 0] 54 (0, 0)) from row_held gR_ rR18_.out)
  clear rR18_
  have rX25_ := Lib.hid (show (wH2_r3).heap[w1.heap.size]? = some (.cells #[.slice q0 m0 d0, .slice q1 m1 d1] 54 (0, 0)) from row_held gR_ rX19_.out)
  clear rX19_
  have oC26_ := Lib.hid (show OwU (wH2_r3) ((W.heap.size + 1 + 1 + 1)) (w1.heap.size) [] [own shI (.slice q0 m0 d0) xs, own shI (.slice q1 m1 d1) ys] from OwU.grow oC20_.out gR_)
  clear oC20_
  have G27_ := Lib.hid (show (W).grownBy (wH2_r3) none from gby_trans G21_.out gR_)
  clear gR_
  have A_0_ : (wH2_r3).cell? ⟨W.heap.size, 0, none⟩ = some (.slice (some ⟨ab, ao, none⟩) 3 c0) := cell_of_row _ _ 0 _ _ _ rA22_.out
  have A_1_ : (wH2_r3).cell? ⟨W.heap.size, 1, none⟩ = some (.slice (some ⟨bb, bo, none⟩) 3 c1) := cell_of_row _ _ 1 _ _ _ rA22_.out
  have K_0_ : (wH2_r3).cell? ⟨W.heap.size + 1, 0, none⟩ = some (.int .i64 p.f0) := cell_of_row _ _ 0 _ _ _ rK23_.out
  have K_1_ : (wH2_r3).cell? ⟨W.heap.size + 1, 1, none⟩ = some (.int .i64 p.f1) := cell_of_row _ _ 1 _ _ _ rK23_.out
  have K_2_ : (wH2_r3).cell? ⟨W.heap.size + 1, 2, none⟩ = some (.int .i64 p.f2) := cell_of_row _ _ 2 _ _ _ rK23_.out
  have K_3_ : (wH2_r3).cell? ⟨W.heap.size + 1, 3, none⟩ = some (.int .i64 p.f3) := cell_of_row _ _ 3 _ _ _ rK23_.out
  have K_4_ : (wH2_r3).cell? ⟨W.heap.size + 1, 4, none⟩ = some (.int .i64 p.f4) := cell_of_row _ _ 4 _ _ _ rK23_.out
  have K_5_ : (wH2_r3).cell? ⟨W.heap.size + 1, 5, none⟩ = some (.int .i64 p.f5) := cell_of_row _ _ 5 _ _ _ rK23_.out
  have K_6_ : (wH2_r3).cell? ⟨W.heap.size + 1, 6, none⟩ = some (.int .i64 p.f6) := cell_of_row _ _ 6 _ _ _ rK23_.out
  have K_7_ : (wH2_r3).cell? ⟨W.heap.size + 1, 7, none⟩ = some (vp) := cell_of_row _ _ 7 _ _ _ rK23_.out
  have R_0_ : (wH2_r3).cell? ⟨W.heap.size + 1 + 1, 0, none⟩ = some (.slice none 0 0) := cell_of_row _ _ 0 _ _ _ rR24_.out
  have R_1_ : (wH2_r3).cell? ⟨W.heap.size + 1 + 1, 1, none⟩ = some (.slice none 0 0) := cell_of_row _ _ 1 _ _ _ rR24_.out
  have X_0_ : (wH2_r3).cell? ⟨w1.heap.size, 0, none⟩ = some (.slice q0 m0 d0) := cell_of_row _ _ 0 _ _ _ rX25_.out
  have X_1_ : (wH2_r3).cell? ⟨w1.heap.size, 1, none⟩ = some (.slice q1 m1 d1) := cell_of_row _ _ 1 _ _ _ rX25_.out
  clear A_0_ A_1_ K_0_ K_1_ K_2_ K_3_ K_4_ K_5_ K_6_ K_7_ R_0_ R_1_ X_0_ X_1_
  have A_0_ : (wH2_r3).cell? ⟨W.heap.size, 0, none⟩ = some (.slice (some ⟨ab, ao, none⟩) 3 c0) := cell_of_row _ _ 0 _ _ _ rA22_.out
  have A_1_ : (wH2_r3).cell? ⟨W.heap.size, 1, none⟩ = some (.slice (some ⟨bb, bo, none⟩) 3 c1) := cell_of_row _ _ 1 _ _ _ rA22_.out
  have K_0_ : (wH2_r3).cell? ⟨W.heap.size + 1, 0, none⟩ = some (.int .i64 p.f0) := cell_of_row _ _ 0 _ _ _ rK23_.out
  have K_1_ : (wH2_r3).cell? ⟨W.heap.size + 1, 1, none⟩ = some (.int .i64 p.f1) := cell_of_row _ _ 1 _ _ _ rK23_.out
  have K_2_ : (wH2_r3).cell? ⟨W.heap.size + 1, 2, none⟩ = some (.int .i64 p.f2) := cell_of_row _ _ 2 _ _ _ rK23_.out
  have K_3_ : (wH2_r3).cell? ⟨W.heap.size + 1, 3, none⟩ = some (.int .i64 p.f3) := cell_of_row _ _ 3 _ _ _ rK23_.out
  have K_4_ : (wH2_r3).cell? ⟨W.heap.size + 1, 4, none⟩ = some (.int .i64 p.f4) := cell_of_row _ _ 4 _ _ _ rK23_.out
  have K_5_ : (wH2_r3).cell? ⟨W.heap.size + 1, 5, none⟩ = some (.int .i64 p.f5) := cell_of_row _ _ 5 _ _ _ rK23_.out
  have K_6_ : (wH2_r3).cell? ⟨W.heap.size + 1, 6, none⟩ = some (.int .i64 p.f6) := cell_of_row _ _ 6 _ _ _ rK23_.out
  have K_7_ : (wH2_r3).cell? ⟨W.heap.size + 1, 7, none⟩ = some (vp) := cell_of_row _ _ 7 _ _ _ rK23_.out
  have R_0_ : (wH2_r3).cell? ⟨W.heap.size + 1 + 1, 0, none⟩ = some (.slice none 0 0) := cell_of_row _ _ 0 _ _ _ rR24_.out
  have R_1_ : (wH2_r3).cell? ⟨W.heap.size + 1 + 1, 1, none⟩ = some (.slice none 0 0) := cell_of_row _ _ 1 _ _ _ rR24_.out
  have Rf0_ : (wH2_r3).frozen? ⟨W.heap.size + 1 + 1, 0, none⟩ = false := frozen_of_row _ _ 0 _ _ rR24_.out
  have Rf1_ : (wH2_r3).frozen? ⟨W.heap.size + 1 + 1, 1, none⟩ = false := frozen_of_row _ _ 1 _ _ rR24_.out
  have X_0_ : (wH2_r3).cell? ⟨w1.heap.size, 0, none⟩ = some (.slice q0 m0 d0) := cell_of_row _ _ 0 _ _ _ rX25_.out
  have X_1_ : (wH2_r3).cell? ⟨w1.heap.size, 1, none⟩ = some (.slice q1 m1 d1) := cell_of_row _ _ 1 _ _ _ rX25_.out
  have zr_ := Lib.hid (show (((wH2_r3.setCell ⟨W.heap.size + 1 + 1, 0, none⟩ (.slice q0 m0 d0)).setCell ⟨W.heap.size + 1 + 1, 1, none⟩ (.slice q1 m1 d1))).heap[W.heap.size + 1 + 1]? = some (.cells #[.slice q0 m0 d0, .slice q1 m1 d1] 54 (0, 0)) from (heap_setCell_same _ _ 1 _ _ _ (heap_setCell_same _ _ 0 _ _ _ rR24_.out)))
  have z0_ : (((wH2_r3.setCell ⟨W.heap.size + 1 + 1, 0, none⟩ (.slice q0 m0 d0)).setCell ⟨W.heap.size + 1 + 1, 1, none⟩ (.slice q1 m1 d1))).cell? ⟨W.heap.size + 1 + 1, 0, none⟩ = some (.slice q0 m0 d0) := cell_of_row _ _ 0 _ _ _ zr_.out
  have z1_ : (((wH2_r3.setCell ⟨W.heap.size + 1 + 1, 0, none⟩ (.slice q0 m0 d0)).setCell ⟨W.heap.size + 1 + 1, 1, none⟩ (.slice q1 m1 d1))).cell? ⟨W.heap.size + 1 + 1, 1, none⟩ = some (.slice q1 m1 d1) := cell_of_row _ _ 1 _ _ _ zr_.out
  go_wp2
  refine bodyPost_ret (v := .tuple #[.agg #[.slice q0 m0 d0, .slice q1 m1 d1], .bool false]) (by simp [results, go_sem, z0_, z1_]) rfl ⟨_, _, rfl, ?_, ?_⟩
  · exact OwU.wide (lo := W.heap.size + 1 + 1 + 1) (by omega) (by simp only [World.size_setCell]; omega) (OwU.keep (chg_one _ _ _ _) (.inr (by omega)) (OwU.keep (chg_one _ _ _ _) (.inr (by omega)) oC26_.out))
  · exact (gby_setnew (gby_setnew G27_.out _ (by dsimp only; omega) _) _ (by dsimp only; omega) _)

set_option maxRecDepth 8000 in
set_option maxHeartbeats 4000000 in
theorem specReturnCredits_f2 (W : World) (u0 u1 vp : Value) (xs ys : List Int) (p : DPacket) (H0 : RdL shI W u0 xs) (H1 : RdL shI W u1 ys) (Hp : RdL shI W vp p.f7) (h0 : szL shI xs ≤ 1048576) (h1 : szL shI ys ≤ 1048576) (hl : szL shI p.f7 ≤ 1048576) (k : Nat) (u : Int) (hc : clsD p = (k : Int)) (hk3 : k < 3) (hcr : CrdOk xs ys) (hu : untD p = u) (hu0 : 0 ≤ u) (hu9 : u ≤ 1000000) (hw : ¬ xs.getD k 0 + 1 > 30) (hw2 : ys.getD k 0 + u > 30) : Calls Try.prog 41 #[.agg #[u0, u1], (vPacket p.f0 p.f1 p.f2 p.f3 p.f4 p.f5 p.f6 vp)] W (ResIReturnCredits xs ys false W) := by
  have HSX := Lib.hid H0
  have HSY := Lib.hid H1
  have HP := Lib.hid Hp
  have HXL := Lib.hid h0
  have HYL := Lib.hid h1
  have HL := Lib.hid hl
  obtain ⟨za_, c0, rfl, _, zi_⟩ := rdI1_in H0
  obtain ⟨ab, ao, rfl, _⟩ := zi_.resolve_left (by have := hcr.1.1; omega)
  obtain ⟨zb_, c1, rfl, _, zj_⟩ := rdI1_in H1
  obtain ⟨bb, bo, rfl, _⟩ := zj_.resolve_left (by have := hcr.2.1; omega)
  rw [hcr.1.1] at HSX ⊢
  rw [hcr.2.1] at HSY ⊢
  clear H0 H1 Hp h0 h1 hl
  unfold vPacket
  have HCD := Lib.hid (show ∀ (W : World) (z0 z1 : Value), RdL shI W z0 xs → RdL shI W z1 ys → Calls Try.prog 89 #[.agg #[z0, z1]] W (AnsN (.bool true) W) from fun W z0 z1 h0 h1 => specCrD W z0 z1 xs ys h0 h1 HXL.out HYL.out true (by rw [decide_eq_true hcr]))
  have HC := Lib.hid hc
  have HU := Lib.hid hu
  have HCR := Lib.hid hcr
  have hx1 := crd_at hcr hk3
  obtain ⟨x, hx⟩ : ∃ x, x = xs.getD k 0 := ⟨_, rfl⟩
  obtain ⟨y, hy⟩ : ∃ y, y = ys.getD k 0 := ⟨_, rfl⟩
  rw [← hx, ← hy] at hx1
  obtain ⟨hxl, hyl, hx0, hx30, hy0, hy30⟩ := hx1
  have HX := Lib.hid hx
  have HY := Lib.hid hy
  clear hc hu hcr hx hy
  have HCL := Lib.hid (show ∀ (W : World) (v : Value), RdL shI W v p.f7 → Calls Try.prog 84 #[vPacket p.f0 p.f1 p.f2 p.f3 p.f4 p.f5 p.f6 v] W (AnsN (.int .i64 (k : Int)) W) from fun W v H => by have q := specClsD W p v H HL.out; rw [HC.out] at q; exact q)
  have HUN := Lib.hid (show ∀ (W : World) (v : Value), RdL shI W v p.f7 → Calls Try.prog 85 #[vPacket p.f0 p.f1 p.f2 p.f3 p.f4 p.f5 p.f6 v] W (AnsN (.int .i64 u) W) from fun W v H => by have q := specUntD W p v H HL.out (by rw [HC.out]; omega); rw [HU.out] at q; exact q)
  rw [← HX.out] at hw
  rw [← HY.out] at hw2
  go_enter Try.func41, Try.ntmps41
  have rA1_ := Lib.hid (show ((((W.alloc (.cells #[.slice (some ⟨ab, ao, none⟩) 3 c0, .slice (some ⟨bb, bo, none⟩) 3 c1] 54)).alloc (.cells #[.int .i64 p.f0, .int .i64 p.f1, .int .i64 p.f2, .int .i64 p.f3, .int .i64 p.f4, .int .i64 p.f5, .int .i64 p.f6, vp] 29)).alloc (.cells #[.slice none 0 0, .slice none 0 0] 54))).heap[W.heap.size]? = some (.cells #[.slice (some ⟨ab, ao, none⟩) 3 c0, .slice (some ⟨bb, bo, none⟩) 3 c1] 54 (0, 0)) from by rw [heap_alloc_old _ _ (by simp only [World.size_alloc]; omega)]; rw [heap_alloc_old _ _ (by simp only [World.size_alloc]; omega)]; exact heap_alloc_new _ _)
  have rK2_ := Lib.hid (show ((((W.alloc (.cells #[.slice (some ⟨ab, ao, none⟩) 3 c0, .slice (some ⟨bb, bo, none⟩) 3 c1] 54)).alloc (.cells #[.int .i64 p.f0, .int .i64 p.f1, .int .i64 p.f2, .int .i64 p.f3, .int .i64 p.f4, .int .i64 p.f5, .int .i64 p.f6, vp] 29)).alloc (.cells #[.slice none 0 0, .slice none 0 0] 54))).heap[W.heap.size + 1]? = some (.cells #[.int .i64 p.f0, .int .i64 p.f1, .int .i64 p.f2, .int .i64 p.f3, .int .i64 p.f4, .int .i64 p.f5, .int .i64 p.f6, vp] 29 (0, 0)) from by rw [heap_alloc_old _ _ (by simp only [World.size_alloc]; omega)]; exact heap_pair _ _ _)
  have rR3_ := Lib.hid (show ((((W.alloc (.cells #[.slice (some ⟨ab, ao, none⟩) 3 c0, .slice (some ⟨bb, bo, none⟩) 3 c1] 54)).alloc (.cells #[.int .i64 p.f0, .int .i64 p.f1, .int .i64 p.f2, .int .i64 p.f3, .int .i64 p.f4, .int .i64 p.f5, .int .i64 p.f6, vp] 29)).alloc (.cells #[.slice none 0 0, .slice none 0 0] 54))).heap[W.heap.size + 1 + 1]? = some (.cells #[.slice none 0 0, .slice none 0 0] 54 (0, 0)) from by exact heap_trip _ _ _ _)
  have G4_ := Lib.hid (show (W).grownBy ((((W.alloc (.cells #[.slice (some ⟨ab, ao, none⟩) 3 c0, .slice (some ⟨bb, bo, none⟩) 3 c1] 54)).alloc (.cells #[.int .i64 p.f0, .int .i64 p.f1, .int .i64 p.f2, .int .i64 p.f3, .int .i64 p.f4, .int .i64 p.f5, .int .i64 p.f6, vp] 29)).alloc (.cells #[.slice none 0 0, .slice none 0 0] 54))) none from (gby_alloc (gby_alloc (gby_alloc (gby_refl _ _) _) _) _))
  have A_0_ : ((((W.alloc (.cells #[.slice (some ⟨ab, ao, none⟩) 3 c0, .slice (some ⟨bb, bo, none⟩) 3 c1] 54)).alloc (.cells #[.int .i64 p.f0, .int .i64 p.f1, .int .i64 p.f2, .int .i64 p.f3, .int .i64 p.f4, .int .i64 p.f5, .int .i64 p.f6, vp] 29)).alloc (.cells #[.slice none 0 0, .slice none 0 0] 54))).cell? ⟨W.heap.size, 0, none⟩ = some (.slice (some ⟨ab, ao, none⟩) 3 c0) := cell_of_row _ _ 0 _ _ _ rA1_.out
  have A_1_ : ((((W.alloc (.cells #[.slice (some ⟨ab, ao, none⟩) 3 c0, .slice (some ⟨bb, bo, none⟩) 3 c1] 54)).alloc (.cells #[.int .i64 p.f0, .int .i64 p.f1, .int .i64 p.f2, .int .i64 p.f3, .int .i64 p.f4, .int .i64 p.f5, .int .i64 p.f6, vp] 29)).alloc (.cells #[.slice none 0 0, .slice none 0 0] 54))).cell? ⟨W.heap.size, 1, none⟩ = some (.slice (some ⟨bb, bo, none⟩) 3 c1) := cell_of_row _ _ 1 _ _ _ rA1_.out
  have K_0_ : ((((W.alloc (.cells #[.slice (some ⟨ab, ao, none⟩) 3 c0, .slice (some ⟨bb, bo, none⟩) 3 c1] 54)).alloc (.cells #[.int .i64 p.f0, .int .i64 p.f1, .int .i64 p.f2, .int .i64 p.f3, .int .i64 p.f4, .int .i64 p.f5, .int .i64 p.f6, vp] 29)).alloc (.cells #[.slice none 0 0, .slice none 0 0] 54))).cell? ⟨W.heap.size + 1, 0, none⟩ = some (.int .i64 p.f0) := cell_of_row _ _ 0 _ _ _ rK2_.out
  have K_1_ : ((((W.alloc (.cells #[.slice (some ⟨ab, ao, none⟩) 3 c0, .slice (some ⟨bb, bo, none⟩) 3 c1] 54)).alloc (.cells #[.int .i64 p.f0, .int .i64 p.f1, .int .i64 p.f2, .int .i64 p.f3, .int .i64 p.f4, .int .i64 p.f5, .int .i64 p.f6, vp] 29)).alloc (.cells #[.slice none 0 0, .slice none 0 0] 54))).cell? ⟨W.heap.size + 1, 1, none⟩ = some (.int .i64 p.f1) := cell_of_row _ _ 1 _ _ _ rK2_.out
  have K_2_ : ((((W.alloc (.cells #[.slice (some ⟨ab, ao, none⟩) 3 c0, .slice (some ⟨bb, bo, none⟩) 3 c1] 54)).alloc (.cells #[.int .i64 p.f0, .int .i64 p.f1, .int .i64 p.f2, .int .i64 p.f3, .int .i64 p.f4, .int .i64 p.f5, .int .i64 p.f6, vp] 29)).alloc (.cells #[.slice none 0 0, .slice none 0 0] 54))).cell? ⟨W.heap.size + 1, 2, none⟩ = some (.int .i64 p.f2) := cell_of_row _ _ 2 _ _ _ rK2_.out
  have K_3_ : ((((W.alloc (.cells #[.slice (some ⟨ab, ao, none⟩) 3 c0, .slice (some ⟨bb, bo, none⟩) 3 c1] 54)).alloc (.cells #[.int .i64 p.f0, .int .i64 p.f1, .int .i64 p.f2, .int .i64 p.f3, .int .i64 p.f4, .int .i64 p.f5, .int .i64 p.f6, vp] 29)).alloc (.cells #[.slice none 0 0, .slice none 0 0] 54))).cell? ⟨W.heap.size + 1, 3, none⟩ = some (.int .i64 p.f3) := cell_of_row _ _ 3 _ _ _ rK2_.out
  have K_4_ : ((((W.alloc (.cells #[.slice (some ⟨ab, ao, none⟩) 3 c0, .slice (some ⟨bb, bo, none⟩) 3 c1] 54)).alloc (.cells #[.int .i64 p.f0, .int .i64 p.f1, .int .i64 p.f2, .int .i64 p.f3, .int .i64 p.f4, .int .i64 p.f5, .int .i64 p.f6, vp] 29)).alloc (.cells #[.slice none 0 0, .slice none 0 0] 54))).cell? ⟨W.heap.size + 1, 4, none⟩ = some (.int .i64 p.f4) := cell_of_row _ _ 4 _ _ _ rK2_.out
  have K_5_ : ((((W.alloc (.cells #[.slice (some ⟨ab, ao, none⟩) 3 c0, .slice (some ⟨bb, bo, none⟩) 3 c1] 54)).alloc (.cells #[.int .i64 p.f0, .int .i64 p.f1, .int .i64 p.f2, .int .i64 p.f3, .int .i64 p.f4, .int .i64 p.f5, .int .i64 p.f6, vp] 29)).alloc (.cells #[.slice none 0 0, .slice none 0 0] 54))).cell? ⟨W.heap.size + 1, 5, none⟩ = some (.int .i64 p.f5) := cell_of_row _ _ 5 _ _ _ rK2_.out
  have K_6_ : ((((W.alloc (.cells #[.slice (some ⟨ab, ao, none⟩) 3 c0, .slice (some ⟨bb, bo, none⟩) 3 c1] 54)).alloc (.cells #[.int .i64 p.f0, .int .i64 p.f1, .int .i64 p.f2, .int .i64 p.f3, .int .i64 p.f4, .int .i64 p.f5, .int .i64 p.f6, vp] 29)).alloc (.cells #[.slice none 0 0, .slice none 0 0] 54))).cell? ⟨W.heap.size + 1, 6, none⟩ = some (.int .i64 p.f6) := cell_of_row _ _ 6 _ _ _ rK2_.out
  have K_7_ : ((((W.alloc (.cells #[.slice (some ⟨ab, ao, none⟩) 3 c0, .slice (some ⟨bb, bo, none⟩) 3 c1] 54)).alloc (.cells #[.int .i64 p.f0, .int .i64 p.f1, .int .i64 p.f2, .int .i64 p.f3, .int .i64 p.f4, .int .i64 p.f5, .int .i64 p.f6, vp] 29)).alloc (.cells #[.slice none 0 0, .slice none 0 0] 54))).cell? ⟨W.heap.size + 1, 7, none⟩ = some (vp) := cell_of_row _ _ 7 _ _ _ rK2_.out
  have R_0_ : ((((W.alloc (.cells #[.slice (some ⟨ab, ao, none⟩) 3 c0, .slice (some ⟨bb, bo, none⟩) 3 c1] 54)).alloc (.cells #[.int .i64 p.f0, .int .i64 p.f1, .int .i64 p.f2, .int .i64 p.f3, .int .i64 p.f4, .int .i64 p.f5, .int .i64 p.f6, vp] 29)).alloc (.cells #[.slice none 0 0, .slice none 0 0] 54))).cell? ⟨W.heap.size + 1 + 1, 0, none⟩ = some (.slice none 0 0) := cell_of_row _ _ 0 _ _ _ rR3_.out
  have R_1_ : ((((W.alloc (.cells #[.slice (some ⟨ab, ao, none⟩) 3 c0, .slice (some ⟨bb, bo, none⟩) 3 c1] 54)).alloc (.cells #[.int .i64 p.f0, .int .i64 p.f1, .int .i64 p.f2, .int .i64 p.f3, .int .i64 p.f4, .int .i64 p.f5, .int .i64 p.f6, vp] 29)).alloc (.cells #[.slice none 0 0, .slice none 0 0] 54))).cell? ⟨W.heap.size + 1 + 1, 1, none⟩ = some (.slice none 0 0) := cell_of_row _ _ 1 _ _ _ rR3_.out
  go_wp2_with fail
  go_at_call 82
  refine (l14Copy_d _ _ _ xs ys (HSX.out.grow G4_.out) (HSY.out.grow G4_.out) HXL.out HYL.out).mono ?_
  rintro e w1 ⟨z0, z1, rfl, o, g⟩
  have sz_ := g.size
  try simp only [World.size_alloc] at sz_ o
  clear A_0_ A_1_ K_0_ K_1_ K_2_ K_3_ K_4_ K_5_ K_6_ K_7_ R_0_ R_1_
  have rA5_ := Lib.hid (show (w1).heap[W.heap.size]? = some (.cells #[.slice (some ⟨ab, ao, none⟩) 3 c0, .slice (some ⟨bb, bo, none⟩) 3 c1] 54 (0, 0)) from row_held g rA1_.out)
  clear rA1_
  have rK6_ := Lib.hid (show (w1).heap[W.heap.size + 1]? = some (.cells #[.int .i64 p.f0, .int .i64 p.f1, .int .i64 p.f2, .int .i64 p.f3, .int .i64 p.f4, .int .i64 p.f5, .int .i64 p.f6, vp] 29 (0, 0)) from row_held g rK2_.out)
  clear rK2_
  have rR7_ := Lib.hid (show (w1).heap[W.heap.size + 1 + 1]? = some (.cells #[.slice none 0 0, .slice none 0 0] 54 (0, 0)) from row_held g rR3_.out)
  clear rR3_
  have G8_ := Lib.hid (show (W).grownBy (w1) none from gby_trans G4_.out g)
  clear g
  obtain ⟨q0, m0, d0, hv_⟩ := RdL.form (OwU.rd o)
  subst hv_
  obtain ⟨q1, m1, d1, hv_⟩ := RdL.form (OwU.rd (OwU.tail o))
  subst hv_
  unfold vCredits
  have oC9_ := Lib.hid (show OwU (w1) ((W.heap.size + 1 + 1 + 1)) (w1.heap.size) [] [own shI (.slice q0 m0 d0) xs, own shI (.slice q1 m1 d1) ys] from o)
  clear o
  have al_ : (w1).grownBy ((w1).alloc (.cells #[.slice q0 m0 d0, .slice q1 m1 d1] 54)) none := gby_alloc (gby_refl _ _) _
  have rA10_ := Lib.hid (show ((w1.alloc (.cells #[.slice q0 m0 d0, .slice q1 m1 d1] 54))).heap[W.heap.size]? = some (.cells #[.slice (some ⟨ab, ao, none⟩) 3 c0, .slice (some ⟨bb, bo, none⟩) 3 c1] 54 (0, 0)) from row_held al_ rA5_.out)
  clear rA5_
  have rK11_ := Lib.hid (show ((w1.alloc (.cells #[.slice q0 m0 d0, .slice q1 m1 d1] 54))).heap[W.heap.size + 1]? = some (.cells #[.int .i64 p.f0, .int .i64 p.f1, .int .i64 p.f2, .int .i64 p.f3, .int .i64 p.f4, .int .i64 p.f5, .int .i64 p.f6, vp] 29 (0, 0)) from row_held al_ rK6_.out)
  clear rK6_
  have rR12_ := Lib.hid (show ((w1.alloc (.cells #[.slice q0 m0 d0, .slice q1 m1 d1] 54))).heap[W.heap.size + 1 + 1]? = some (.cells #[.slice none 0 0, .slice none 0 0] 54 (0, 0)) from row_held al_ rR7_.out)
  clear rR7_
  have oC13_ := Lib.hid (show OwU ((w1.alloc (.cells #[.slice q0 m0 d0, .slice q1 m1 d1] 54))) ((W.heap.size + 1 + 1 + 1)) (w1.heap.size) [] [own shI (.slice q0 m0 d0) xs, own shI (.slice q1 m1 d1) ys] from OwU.grow oC9_.out al_)
  clear oC9_
  have G14_ := Lib.hid (show (W).grownBy ((w1.alloc (.cells #[.slice q0 m0 d0, .slice q1 m1 d1] 54))) none from gby_trans G8_.out al_)
  have rX15_ := Lib.hid (show ((w1.alloc (.cells #[.slice q0 m0 d0, .slice q1 m1 d1] 54))).heap[w1.heap.size]? = some (.cells #[.slice q0 m0 d0, .slice q1 m1 d1] 54 (0, 0)) from by first | exact heap_alloc_new _ _ | exact heap_pair _ _ _ | exact heap_trip _ _ _ _)
  clear al_
  have A_0_ : ((w1.alloc (.cells #[.slice q0 m0 d0, .slice q1 m1 d1] 54))).cell? ⟨W.heap.size, 0, none⟩ = some (.slice (some ⟨ab, ao, none⟩) 3 c0) := cell_of_row _ _ 0 _ _ _ rA10_.out
  have A_1_ : ((w1.alloc (.cells #[.slice q0 m0 d0, .slice q1 m1 d1] 54))).cell? ⟨W.heap.size, 1, none⟩ = some (.slice (some ⟨bb, bo, none⟩) 3 c1) := cell_of_row _ _ 1 _ _ _ rA10_.out
  have K_0_ : ((w1.alloc (.cells #[.slice q0 m0 d0, .slice q1 m1 d1] 54))).cell? ⟨W.heap.size + 1, 0, none⟩ = some (.int .i64 p.f0) := cell_of_row _ _ 0 _ _ _ rK11_.out
  have K_1_ : ((w1.alloc (.cells #[.slice q0 m0 d0, .slice q1 m1 d1] 54))).cell? ⟨W.heap.size + 1, 1, none⟩ = some (.int .i64 p.f1) := cell_of_row _ _ 1 _ _ _ rK11_.out
  have K_2_ : ((w1.alloc (.cells #[.slice q0 m0 d0, .slice q1 m1 d1] 54))).cell? ⟨W.heap.size + 1, 2, none⟩ = some (.int .i64 p.f2) := cell_of_row _ _ 2 _ _ _ rK11_.out
  have K_3_ : ((w1.alloc (.cells #[.slice q0 m0 d0, .slice q1 m1 d1] 54))).cell? ⟨W.heap.size + 1, 3, none⟩ = some (.int .i64 p.f3) := cell_of_row _ _ 3 _ _ _ rK11_.out
  have K_4_ : ((w1.alloc (.cells #[.slice q0 m0 d0, .slice q1 m1 d1] 54))).cell? ⟨W.heap.size + 1, 4, none⟩ = some (.int .i64 p.f4) := cell_of_row _ _ 4 _ _ _ rK11_.out
  have K_5_ : ((w1.alloc (.cells #[.slice q0 m0 d0, .slice q1 m1 d1] 54))).cell? ⟨W.heap.size + 1, 5, none⟩ = some (.int .i64 p.f5) := cell_of_row _ _ 5 _ _ _ rK11_.out
  have K_6_ : ((w1.alloc (.cells #[.slice q0 m0 d0, .slice q1 m1 d1] 54))).cell? ⟨W.heap.size + 1, 6, none⟩ = some (.int .i64 p.f6) := cell_of_row _ _ 6 _ _ _ rK11_.out
  have K_7_ : ((w1.alloc (.cells #[.slice q0 m0 d0, .slice q1 m1 d1] 54))).cell? ⟨W.heap.size + 1, 7, none⟩ = some (vp) := cell_of_row _ _ 7 _ _ _ rK11_.out
  have R_0_ : ((w1.alloc (.cells #[.slice q0 m0 d0, .slice q1 m1 d1] 54))).cell? ⟨W.heap.size + 1 + 1, 0, none⟩ = some (.slice none 0 0) := cell_of_row _ _ 0 _ _ _ rR12_.out
  have R_1_ : ((w1.alloc (.cells #[.slice q0 m0 d0, .slice q1 m1 d1] 54))).cell? ⟨W.heap.size + 1 + 1, 1, none⟩ = some (.slice none 0 0) := cell_of_row _ _ 1 _ _ _ rR12_.out
  have X_0_ : ((w1.alloc (.cells #[.slice q0 m0 d0, .slice q1 m1 d1] 54))).cell? ⟨w1.heap.size, 0, none⟩ = some (.slice q0 m0 d0) := cell_of_row _ _ 0 _ _ _ rX15_.out
  have X_1_ : ((w1.alloc (.cells #[.slice q0 m0 d0, .slice q1 m1 d1] 54))).cell? ⟨w1.heap.size, 1, none⟩ = some (.slice q1 m1 d1) := cell_of_row _ _ 1 _ _ _ rX15_.out
  go_wp2_with fail
  go_at_call 84
  refine (HCL.out _ _ (HP.out.grow G14_.out)).mono ?_
  rintro e w2 ⟨rfl, g⟩
  have szw2 := g.size
  try simp only [World.size_alloc] at szw2
  try simp only [World.size_setCell] at szw2
  clear A_0_ A_1_ K_0_ K_1_ K_2_ K_3_ K_4_ K_5_ K_6_ K_7_ R_0_ R_1_ X_0_ X_1_
  have rA16_ := Lib.hid (show (w2).heap[W.heap.size]? = some (.cells #[.slice (some ⟨ab, ao, none⟩) 3 c0, .slice (some ⟨bb, bo, none⟩) 3 c1] 54 (0, 0)) from row_held g rA10_.out)
  clear rA10_
  have rK17_ := Lib.hid (show (w2).heap[W.heap.size + 1]? = some (.cells #[.int .i64 p.f0, .int .i64 p.f1, .int .i64 p.f2, .int .i64 p.f3, .int .i64 p.f4, .int .i64 p.f5, .int .i64 p.f6, vp] 29 (0, 0)) from row_held g rK11_.out)
  clear rK11_
  have rR18_ := Lib.hid (show (w2).heap[W.heap.size + 1 + 1]? = some (.cells #[.slice none 0 0, .slice none 0 0] 54 (0, 0)) from row_held g rR12_.out)
  clear rR12_
  have rX19_ := Lib.hid (show (w2).heap[w1.heap.size]? = some (.cells #[.slice q0 m0 d0, .slice q1 m1 d1] 54 (0, 0)) from row_held g rX15_.out)
  clear rX15_
  have oC20_ := Lib.hid (show OwU (w2) ((W.heap.size + 1 + 1 + 1)) (w1.heap.size) [] [own shI (.slice q0 m0 d0) xs, own shI (.slice q1 m1 d1) ys] from OwU.grow oC13_.out g)
  clear oC13_
  have G21_ := Lib.hid (show (W).grownBy (w2) none from gby_trans G14_.out g)
  clear g
  have A_0_ : (w2).cell? ⟨W.heap.size, 0, none⟩ = some (.slice (some ⟨ab, ao, none⟩) 3 c0) := cell_of_row _ _ 0 _ _ _ rA16_.out
  have A_1_ : (w2).cell? ⟨W.heap.size, 1, none⟩ = some (.slice (some ⟨bb, bo, none⟩) 3 c1) := cell_of_row _ _ 1 _ _ _ rA16_.out
  have K_0_ : (w2).cell? ⟨W.heap.size + 1, 0, none⟩ = some (.int .i64 p.f0) := cell_of_row _ _ 0 _ _ _ rK17_.out
  have K_1_ : (w2).cell? ⟨W.heap.size + 1, 1, none⟩ = some (.int .i64 p.f1) := cell_of_row _ _ 1 _ _ _ rK17_.out
  have K_2_ : (w2).cell? ⟨W.heap.size + 1, 2, none⟩ = some (.int .i64 p.f2) := cell_of_row _ _ 2 _ _ _ rK17_.out
  have K_3_ : (w2).cell? ⟨W.heap.size + 1, 3, none⟩ = some (.int .i64 p.f3) := cell_of_row _ _ 3 _ _ _ rK17_.out
  have K_4_ : (w2).cell? ⟨W.heap.size + 1, 4, none⟩ = some (.int .i64 p.f4) := cell_of_row _ _ 4 _ _ _ rK17_.out
  have K_5_ : (w2).cell? ⟨W.heap.size + 1, 5, none⟩ = some (.int .i64 p.f5) := cell_of_row _ _ 5 _ _ _ rK17_.out
  have K_6_ : (w2).cell? ⟨W.heap.size + 1, 6, none⟩ = some (.int .i64 p.f6) := cell_of_row _ _ 6 _ _ _ rK17_.out
  have K_7_ : (w2).cell? ⟨W.heap.size + 1, 7, none⟩ = some (vp) := cell_of_row _ _ 7 _ _ _ rK17_.out
  have R_0_ : (w2).cell? ⟨W.heap.size + 1 + 1, 0, none⟩ = some (.slice none 0 0) := cell_of_row _ _ 0 _ _ _ rR18_.out
  have R_1_ : (w2).cell? ⟨W.heap.size + 1 + 1, 1, none⟩ = some (.slice none 0 0) := cell_of_row _ _ 1 _ _ _ rR18_.out
  have X_0_ : (w2).cell? ⟨w1.heap.size, 0, none⟩ = some (.slice q0 m0 d0) := cell_of_row _ _ 0 _ _ _ rX19_.out
  have X_1_ : (w2).cell? ⟨w1.heap.size, 1, none⟩ = some (.slice q1 m1 d1) := cell_of_row _ _ 1 _ _ _ rX19_.out
  have hk0 : (0 : Int) ≤ (k : Int) := by omega
  have htk : ((k : Int)).toNat = k := by omega
  have hkx : (k : Int) < (xs.length : Int) := by omega
  have hky : (k : Int) < (ys.length : Int) := by omega
  have hk3i : (k : Int) < 3 := by omega
  have kn_ : ¬ (k : Int) < 0 := by omega
  have kn2_ : decide ((k : Int) < 0) = false := decide_eq_false kn_
  have w2_ : IntKind.i64.wrap (y + u) = y + u := IntWalk.i64_in _ (by omega)
  have ax_ := (G21_.out).cell (rdI_cellC HSX.out k (by omega)) (by simp)
  have ay_ := (G21_.out).cell (rdI_cellC HSY.out k (by omega)) (by simp)
  rw [← HX.out] at ax_
  rw [← HY.out] at ay_
  have e30_ : (x == 30) = false := beq_eq_false_iff_ne.2 (by omega)
  have g30_ : (30 : Int) < y + u := by omega
  have g31_ : decide (y + u > 30) = true := decide_eq_true g30_
  have g32_ : decide ((30 : Int) < y + u) = true := decide_eq_true g30_
  clear A_0_ A_1_ K_0_ K_1_ K_2_ K_3_ K_4_ K_5_ K_6_ K_7_ R_0_ R_1_ X_0_ X_1_
  have A_0_ : (w2).cell? ⟨W.heap.size, 0, none⟩ = some (.slice (some ⟨ab, ao, none⟩) 3 c0) := cell_of_row _ _ 0 _ _ _ rA16_.out
  have A_1_ : (w2).cell? ⟨W.heap.size, 1, none⟩ = some (.slice (some ⟨bb, bo, none⟩) 3 c1) := cell_of_row _ _ 1 _ _ _ rA16_.out
  have K_0_ : (w2).cell? ⟨W.heap.size + 1, 0, none⟩ = some (.int .i64 p.f0) := cell_of_row _ _ 0 _ _ _ rK17_.out
  have K_1_ : (w2).cell? ⟨W.heap.size + 1, 1, none⟩ = some (.int .i64 p.f1) := cell_of_row _ _ 1 _ _ _ rK17_.out
  have K_2_ : (w2).cell? ⟨W.heap.size + 1, 2, none⟩ = some (.int .i64 p.f2) := cell_of_row _ _ 2 _ _ _ rK17_.out
  have K_3_ : (w2).cell? ⟨W.heap.size + 1, 3, none⟩ = some (.int .i64 p.f3) := cell_of_row _ _ 3 _ _ _ rK17_.out
  have K_4_ : (w2).cell? ⟨W.heap.size + 1, 4, none⟩ = some (.int .i64 p.f4) := cell_of_row _ _ 4 _ _ _ rK17_.out
  have K_5_ : (w2).cell? ⟨W.heap.size + 1, 5, none⟩ = some (.int .i64 p.f5) := cell_of_row _ _ 5 _ _ _ rK17_.out
  have K_6_ : (w2).cell? ⟨W.heap.size + 1, 6, none⟩ = some (.int .i64 p.f6) := cell_of_row _ _ 6 _ _ _ rK17_.out
  have K_7_ : (w2).cell? ⟨W.heap.size + 1, 7, none⟩ = some (vp) := cell_of_row _ _ 7 _ _ _ rK17_.out
  have HG9 := Lib.hid (G21_.out)
  go_wp2_with fail
  refine wp_region_held_drew (S := fun w' => w'.cell? ⟨W.heap.size, 0, none⟩ = some (.slice (some ⟨ab, ao, none⟩) 3 c0) ∧ w'.cell? ⟨W.heap.size, 1, none⟩ = some (.slice (some ⟨bb, bo, none⟩) 3 c1) ∧ w'.cell? ⟨W.heap.size + 1, 0, none⟩ = some (.int .i64 p.f0) ∧ w'.cell? ⟨W.heap.size + 1, 1, none⟩ = some (.int .i64 p.f1) ∧ w'.cell? ⟨W.heap.size + 1, 2, none⟩ = some (.int .i64 p.f2) ∧ w'.cell? ⟨W.heap.size + 1, 3, none⟩ = some (.int .i64 p.f3) ∧ w'.cell? ⟨W.heap.size + 1, 4, none⟩ = some (.int .i64 p.f4) ∧ w'.cell? ⟨W.heap.size + 1, 5, none⟩ = some (.int .i64 p.f5) ∧ w'.cell? ⟨W.heap.size + 1, 6, none⟩ = some (.int .i64 p.f6) ∧ w'.cell? ⟨W.heap.size + 1, 7, none⟩ = some (vp) ∧ w'.cell? ⟨ab, ao + k, none⟩ = some (.int .i64 x) ∧ w'.cell? ⟨bb, bo + k, none⟩ = some (.int .i64 y)) (by kernel_rfl) (by (try dsimp only); exact ⟨A_0_, A_1_, K_0_, K_1_, K_2_, K_3_, K_4_, K_5_, K_6_, K_7_, ax_, ay_⟩) (fun hHeld => ?_)
  refine wpAnyH_take (i := 0) (oi := { dst := some 12, op := Op.load 54 (Operand.tmp 2), type := 54, pos := "l14_credit.go:40", after := #[], guard := none }) (v := ?v0_r4_1) rfl (by kernel_rfl) (by kernel_rfl) (by kernel_rfl) (fun _ _ _ h => h) (Or.inl ⟨by rfl, ?y0_r4_1⟩) (by assumption) ?r0_r4_1
  case y0_r4_1 => (intro w hSw; (try dsimp only at hSw); go_simp; all_goals (with_reducible rfl))
  try simp only [Act.put, List.setIfInBounds_toArray, List.set_cons_zero, List.set_cons_succ]
  refine wpAnyH_ready (rs := [1]) (by kernel_rfl) (by simp) ?_
  refine AllReadyH.cons (o := { dst := some 13, op := Op.call { callee := Callee.value (Operand.func 89), args := #[Operand.tmp 12], argTypes := #[54] }, type := 4, pos := "l14_credit.go:40", after := #[{ on := 0, ground := Ground.data }], guard := none }) rfl (fun K hK => ?_) AllReadyH.nil
  go_simp
  go_at_call 89
  refine (HCD.out _ _ _ (HSX.out.grow (gby_trans HG9.out (gby_drew (gby_refl _ none)))) (HSY.out.grow (gby_trans HG9.out (gby_drew (gby_refl _ none))))).mono ?_
  rintro e wH2_r4 ⟨rfl, gH2_r4⟩
  have m2_A_0_ : wH2_r4.cell? _ = some _ := gH2_r4.cell A_0_ (by simp); have m2_A_1_ : wH2_r4.cell? _ = some _ := gH2_r4.cell A_1_ (by simp); have m2_K_0_ : wH2_r4.cell? _ = some _ := gH2_r4.cell K_0_ (by simp); have m2_K_1_ : wH2_r4.cell? _ = some _ := gH2_r4.cell K_1_ (by simp); have m2_K_2_ : wH2_r4.cell? _ = some _ := gH2_r4.cell K_2_ (by simp); have m2_K_3_ : wH2_r4.cell? _ = some _ := gH2_r4.cell K_3_ (by simp); have m2_K_4_ : wH2_r4.cell? _ = some _ := gH2_r4.cell K_4_ (by simp); have m2_K_5_ : wH2_r4.cell? _ = some _ := gH2_r4.cell K_5_ (by simp); have m2_K_6_ : wH2_r4.cell? _ = some _ := gH2_r4.cell K_6_ (by simp); have m2_K_7_ : wH2_r4.cell? _ = some _ := gH2_r4.cell K_7_ (by simp); have m2_ax_ : wH2_r4.cell? _ = some _ := gH2_r4.cell ax_ (by simp); have m2_ay_ : wH2_r4.cell? _ = some _ := gH2_r4.cell ay_ (by simp)
  go_wp2_with fail
  clear hHeld
  refine hK.out _ _ ?s1_r4_2 (fun hHeld => ?_)
  case s1_r4_2 => exact ⟨m2_A_0_, m2_A_1_, m2_K_0_, m2_K_1_, m2_K_2_, m2_K_3_, m2_K_4_, m2_K_5_, m2_K_6_, m2_K_7_, m2_ax_, m2_ay_⟩
  clear hK K
  try simp only [Act.put, List.setIfInBounds_toArray, List.set_cons_zero, List.set_cons_succ]
  refine wpAnyH_take (i := 2) (oi := { dst := some 14, op := Op.unOp UnOp.not 4 (Operand.tmp 13), type := 4, pos := "l14_credit.go:40", after := #[{ on := 1, ground := Ground.data }], guard := none }) (v := ?v2_r4_3) rfl (by kernel_rfl) (by kernel_rfl) (by kernel_rfl) (fun _ _ _ h => h) (Or.inl ⟨by rfl, ?y2_r4_3⟩) (by assumption) ?r2_r4_3
  case y2_r4_3 => (intro w hSw; (try dsimp only at hSw); go_simp; all_goals (with_reducible rfl))
  try simp only [Act.put, List.setIfInBounds_toArray, List.set_cons_zero, List.set_cons_succ]
  refine wpAnyH_take (i := 3) (oi := { dst := some 15, op := Op.move (Operand.tmp 14), type := 4, pos := "l14_credit.go:40", after := #[{ on := 2, ground := Ground.data }, { on := 1, ground := Ground.chain }], guard := none }) (v := ?v3_r4_4) rfl (by kernel_rfl) (by kernel_rfl) (by kernel_rfl) (fun _ _ _ h => h) (Or.inl ⟨by rfl, ?y3_r4_4⟩) (by assumption) ?r3_r4_4
  case y3_r4_4 => (intro w hSw; (try dsimp only at hSw); go_simp; all_goals (with_reducible rfl))
  try simp only [Act.put, List.setIfInBounds_toArray, List.set_cons_zero, List.set_cons_succ]
  refine wpAnyH_take (i := 4) (oi := { dst := some 16, op := Op.move (Operand.tmp 7), type := 3, pos := "l14_credit.go:40", after := #[{ on := 3, ground := Ground.guard }], guard := some (3, false) }) (v := ?v4_r4_5) rfl (by kernel_rfl) (by kernel_rfl) (by kernel_rfl) (fun _ _ _ h => h) (Or.inl ⟨by rfl, ?y4_r4_5⟩) (by assumption) ?r4_r4_5
  case y4_r4_5 => (intro w hSw; (try dsimp only at hSw); go_simp; all_goals (with_reducible rfl))
  try simp only [Act.put, List.setIfInBounds_toArray, List.set_cons_zero, List.set_cons_succ]
  refine wpAnyH_take (i := 5) (oi := { dst := some 17, op := Op.binOp BinOp.lss 3 (Operand.tmp 16) (Operand.const (Value.int IntKind.i64 0)) 3, type := 4, pos := "l14_credit.go:40", after := #[{ on := 4, ground := Ground.data }, { on := 3, ground := Ground.guard }], guard := some (3, false) }) (v := ?v5_r4_6) rfl (by kernel_rfl) (by kernel_rfl) (by kernel_rfl) (fun _ _ _ h => h) (Or.inl ⟨by rfl, ?y5_r4_6⟩) (by assumption) ?r5_r4_6
  case y5_r4_6 => (intro w hSw; (try dsimp only at hSw); go_simp; all_goals (with_reducible rfl))
  try simp only [Act.put, List.setIfInBounds_toArray, List.set_cons_zero, List.set_cons_succ]
  refine wpAnyH_take (i := 6) (oi := { dst := some 18, op := Op.pick (Operand.tmp 15) (Operand.const (Value.bool true)) (Operand.tmp 17), type := 4, pos := "l14_credit.go:40", after := #[{ on := 3, ground := Ground.data }, { on := 5, ground := Ground.data }], guard := none }) (v := ?v6_r4_7) rfl (by kernel_rfl) (by kernel_rfl) (by kernel_rfl) (fun _ _ _ h => h) (Or.inl ⟨by rfl, ?y6_r4_7⟩) (by assumption) ?r6_r4_7
  case y6_r4_7 => (intro w hSw; (try dsimp only at hSw); go_simp; all_goals (with_reducible rfl))
  try simp only [Act.put, List.setIfInBounds_toArray, List.set_cons_zero, List.set_cons_succ]
  refine wpAnyH_take (i := 7) (oi := { dst := some 19, op := Op.move (Operand.tmp 18), type := 4, pos := "l14_credit.go:40", after := #[{ on := 6, ground := Ground.data }, { on := 3, ground := Ground.chain }], guard := none }) (v := ?v7_r4_8) rfl (by kernel_rfl) (by kernel_rfl) (by kernel_rfl) (fun _ _ _ h => h) (Or.inl ⟨by rfl, ?y7_r4_8⟩) (by assumption) ?r7_r4_8
  case y7_r4_8 => (intro w hSw; (try dsimp only at hSw); go_simp; all_goals (with_reducible rfl))
  try simp only [Act.put, List.setIfInBounds_toArray, List.set_cons_zero, List.set_cons_succ]
  refine wpAnyH_take (i := 8) (oi := { dst := some 20, op := Op.fieldAddr 54 (Operand.tmp 2) 0, type := 0, pos := "l14_credit.go:40", after := #[{ on := 7, ground := Ground.guard }], guard := some (7, false) }) (v := ?v8_r4_9) rfl (by kernel_rfl) (by kernel_rfl) (by kernel_rfl) (fun _ _ _ h => h) (Or.inl ⟨by rfl, ?y8_r4_9⟩) (by assumption) ?r8_r4_9
  case y8_r4_9 => (intro w hSw; (try dsimp only at hSw); go_simp; all_goals (with_reducible rfl))
  try simp only [Act.put, List.setIfInBounds_toArray, List.set_cons_zero, List.set_cons_succ]
  refine wpAnyH_take (i := 9) (oi := { dst := some 21, op := Op.load 27 (Operand.tmp 20), type := 27, pos := "l14_credit.go:40", after := #[{ on := 8, ground := Ground.data }, { on := 7, ground := Ground.guard }], guard := some (7, false) }) (v := ?v9_r4_10) rfl (by kernel_rfl) (by kernel_rfl) (by kernel_rfl) (fun _ _ _ h => h) (Or.inl ⟨by rfl, ?y9_r4_10⟩) (by assumption) ?r9_r4_10
  case y9_r4_10 => (intro w hSw; (try dsimp only at hSw); go_simp; all_goals (with_reducible rfl))
  try simp only [Act.put, List.setIfInBounds_toArray, List.set_cons_zero, List.set_cons_succ]
  refine wpAnyH_take (i := 10) (oi := { dst := some 22, op := Op.move (Operand.tmp 7), type := 3, pos := "l14_credit.go:40", after := #[{ on := 7, ground := Ground.guard }], guard := some (7, false) }) (v := ?v10_r4_11) rfl (by kernel_rfl) (by kernel_rfl) (by kernel_rfl) (fun _ _ _ h => h) (Or.inl ⟨by rfl, ?y10_r4_11⟩) (by assumption) ?r10_r4_11
  case y10_r4_11 => (intro w hSw; (try dsimp only at hSw); go_simp; all_goals (with_reducible rfl))
  try simp only [Act.put, List.setIfInBounds_toArray, List.set_cons_zero, List.set_cons_succ]
  refine wpAnyH_take (i := 11) (oi := { dst := some 23, op := Op.indexAddr 27 (Operand.tmp 21) (Operand.tmp 22), type := 0, pos := "l14_credit.go:40", after := #[{ on := 9, ground := Ground.data }, { on := 10, ground := Ground.data }, { on := 7, ground := Ground.guard }], guard := some (7, false) }) (v := ?v11_r4_12) rfl (by kernel_rfl) (by kernel_rfl) (by kernel_rfl) (fun _ _ _ h => h) (Or.inl ⟨by rfl, ?y11_r4_12⟩) (by assumption) ?r11_r4_12
  case y11_r4_12 => (intro w hSw; (try dsimp only at hSw); go_simp; all_goals (with_reducible rfl))
  try simp only [Act.put, List.setIfInBounds_toArray, List.set_cons_zero, List.set_cons_succ]
  refine wpAnyH_take (i := 12) (oi := { dst := some 24, op := Op.load 3 (Operand.tmp 23), type := 3, pos := "l14_credit.go:40", after := #[{ on := 11, ground := Ground.data }, { on := 7, ground := Ground.guard }], guard := some (7, false) }) (v := ?v12_r4_13) rfl (by kernel_rfl) (by kernel_rfl) (by kernel_rfl) (fun _ _ _ h => h) (Or.inl ⟨by rfl, ?y12_r4_13⟩) (by assumption) ?r12_r4_13
  case y12_r4_13 => (intro w hSw; (try dsimp only at hSw); go_simp; all_goals (with_reducible rfl))
  try simp only [Act.put, List.setIfInBounds_toArray, List.set_cons_zero, List.set_cons_succ]
  refine wpAnyH_take (i := 13) (oi := { dst := some 25, op := Op.binOp BinOp.eql 3 (Operand.tmp 24) (Operand.const (Value.int IntKind.i64 30)) 3, type := 4, pos := "l14_credit.go:40", after := #[{ on := 12, ground := Ground.data }, { on := 7, ground := Ground.guard }], guard := some (7, false) }) (v := ?v13_r4_14) rfl (by kernel_rfl) (by kernel_rfl) (by kernel_rfl) (fun _ _ _ h => h) (Or.inl ⟨by rfl, ?y13_r4_14⟩) (by assumption) ?r13_r4_14
  case y13_r4_14 => (intro w hSw; (try dsimp only at hSw); go_simp; all_goals (with_reducible rfl))
  try simp only [Act.put, List.setIfInBounds_toArray, List.set_cons_zero, List.set_cons_succ]
  refine wpAnyH_take (i := 14) (oi := { dst := some 26, op := Op.pick (Operand.tmp 19) (Operand.const (Value.bool true)) (Operand.tmp 25), type := 4, pos := "l14_credit.go:40", after := #[{ on := 7, ground := Ground.data }, { on := 13, ground := Ground.data }], guard := none }) (v := ?v14_r4_15) rfl (by kernel_rfl) (by kernel_rfl) (by kernel_rfl) (fun _ _ _ h => h) (Or.inl ⟨by rfl, ?y14_r4_15⟩) (by assumption) ?r14_r4_15
  case y14_r4_15 => (intro w hSw; (try dsimp only at hSw); go_simp; all_goals (with_reducible rfl))
  try simp only [Act.put, List.setIfInBounds_toArray, List.set_cons_zero, List.set_cons_succ]
  refine wpAnyH_take (i := 15) (oi := { dst := some 27, op := Op.move (Operand.tmp 26), type := 4, pos := "l14_credit.go:40", after := #[{ on := 14, ground := Ground.data }, { on := 7, ground := Ground.chain }], guard := none }) (v := ?v15_r4_16) rfl (by kernel_rfl) (by kernel_rfl) (by kernel_rfl) (fun _ _ _ h => h) (Or.inl ⟨by rfl, ?y15_r4_16⟩) (by assumption) ?r15_r4_16
  case y15_r4_16 => (intro w hSw; (try dsimp only at hSw); go_simp; all_goals (with_reducible rfl))
  try simp only [Act.put, List.setIfInBounds_toArray, List.set_cons_zero, List.set_cons_succ]
  refine wpAnyH_take (i := 16) (oi := { dst := some 28, op := Op.fieldAddr 54 (Operand.tmp 2) 1, type := 0, pos := "l14_credit.go:40", after := #[{ on := 15, ground := Ground.guard }], guard := some (15, false) }) (v := ?v16_r4_17) rfl (by kernel_rfl) (by kernel_rfl) (by kernel_rfl) (fun _ _ _ h => h) (Or.inl ⟨by rfl, ?y16_r4_17⟩) (by assumption) ?r16_r4_17
  case y16_r4_17 => (intro w hSw; (try dsimp only at hSw); go_simp; all_goals (with_reducible rfl))
  try simp only [Act.put, List.setIfInBounds_toArray, List.set_cons_zero, List.set_cons_succ]
  refine wpAnyH_take (i := 17) (oi := { dst := some 29, op := Op.load 27 (Operand.tmp 28), type := 27, pos := "l14_credit.go:40", after := #[{ on := 16, ground := Ground.data }, { on := 15, ground := Ground.guard }], guard := some (15, false) }) (v := ?v17_r4_18) rfl (by kernel_rfl) (by kernel_rfl) (by kernel_rfl) (fun _ _ _ h => h) (Or.inl ⟨by rfl, ?y17_r4_18⟩) (by assumption) ?r17_r4_18
  case y17_r4_18 => (intro w hSw; (try dsimp only at hSw); go_simp; all_goals (with_reducible rfl))
  try simp only [Act.put, List.setIfInBounds_toArray, List.set_cons_zero, List.set_cons_succ]
  refine wpAnyH_take (i := 18) (oi := { dst := some 30, op := Op.move (Operand.tmp 7), type := 3, pos := "l14_credit.go:40", after := #[{ on := 15, ground := Ground.guard }], guard := some (15, false) }) (v := ?v18_r4_19) rfl (by kernel_rfl) (by kernel_rfl) (by kernel_rfl) (fun _ _ _ h => h) (Or.inl ⟨by rfl, ?y18_r4_19⟩) (by assumption) ?r18_r4_19
  case y18_r4_19 => (intro w hSw; (try dsimp only at hSw); go_simp; all_goals (with_reducible rfl))
  try simp only [Act.put, List.setIfInBounds_toArray, List.set_cons_zero, List.set_cons_succ]
  refine wpAnyH_take (i := 19) (oi := { dst := some 31, op := Op.indexAddr 27 (Operand.tmp 29) (Operand.tmp 30), type := 0, pos := "l14_credit.go:40", after := #[{ on := 17, ground := Ground.data }, { on := 18, ground := Ground.data }, { on := 15, ground := Ground.guard }], guard := some (15, false) }) (v := ?v19_r4_20) rfl (by kernel_rfl) (by kernel_rfl) (by kernel_rfl) (fun _ _ _ h => h) (Or.inl ⟨by rfl, ?y19_r4_20⟩) (by assumption) ?r19_r4_20
  case y19_r4_20 => (intro w hSw; (try dsimp only at hSw); go_simp; all_goals (with_reducible rfl))
  try simp only [Act.put, List.setIfInBounds_toArray, List.set_cons_zero, List.set_cons_succ]
  refine wpAnyH_take (i := 20) (oi := { dst := some 32, op := Op.load 3 (Operand.tmp 31), type := 3, pos := "l14_credit.go:40", after := #[{ on := 19, ground := Ground.data }, { on := 15, ground := Ground.guard }], guard := some (15, false) }) (v := ?v20_r4_21) rfl (by kernel_rfl) (by kernel_rfl) (by kernel_rfl) (fun _ _ _ h => h) (Or.inl ⟨by rfl, ?y20_r4_21⟩) (by assumption) ?r20_r4_21
  case y20_r4_21 => (intro w hSw; (try dsimp only at hSw); go_simp; all_goals (with_reducible rfl))
  try simp only [Act.put, List.setIfInBounds_toArray, List.set_cons_zero, List.set_cons_succ]
  refine wpAnyH_take (i := 21) (oi := { dst := some 33, op := Op.load 29 (Operand.tmp 3), type := 29, pos := "l14_credit.go:40", after := #[{ on := 15, ground := Ground.guard }], guard := some (15, false) }) (v := ?v21_r4_22) rfl (by kernel_rfl) (by kernel_rfl) (by kernel_rfl) (fun _ _ _ h => h) (Or.inl ⟨by rfl, ?y21_r4_22⟩) (by assumption) ?r21_r4_22
  case y21_r4_22 => (intro w hSw; (try dsimp only at hSw); go_simp; all_goals (with_reducible rfl))
  try simp only [Act.put, List.setIfInBounds_toArray, List.set_cons_zero, List.set_cons_succ]
  refine wpAnyH_ready (rs := [22]) (by kernel_rfl) (by simp) ?_
  refine AllReadyH.cons (o := { dst := some 34, op := Op.call { callee := Callee.value (Operand.func 85), args := #[Operand.tmp 33], argTypes := #[29] }, type := 3, pos := "l14_credit.go:40", after := #[{ on := 21, ground := Ground.data }, { on := 15, ground := Ground.chain }, { on := 15, ground := Ground.guard }], guard := some (15, false) }) rfl (fun K hK => ?_) AllReadyH.nil
  go_simp
  go_at_call 85
  refine (HUN.out _ _ (HP.out.grow (gby_trans HG9.out (gby_trans (gby_drew (gby_refl _ none)) gH2_r4)))).mono ?_
  rintro e wH23_r4 ⟨rfl, gH23_r4⟩
  have m23_A_0_ : wH23_r4.cell? _ = some _ := gH23_r4.cell m2_A_0_ (by simp); have m23_A_1_ : wH23_r4.cell? _ = some _ := gH23_r4.cell m2_A_1_ (by simp); have m23_K_0_ : wH23_r4.cell? _ = some _ := gH23_r4.cell m2_K_0_ (by simp); have m23_K_1_ : wH23_r4.cell? _ = some _ := gH23_r4.cell m2_K_1_ (by simp); have m23_K_2_ : wH23_r4.cell? _ = some _ := gH23_r4.cell m2_K_2_ (by simp); have m23_K_3_ : wH23_r4.cell? _ = some _ := gH23_r4.cell m2_K_3_ (by simp); have m23_K_4_ : wH23_r4.cell? _ = some _ := gH23_r4.cell m2_K_4_ (by simp); have m23_K_5_ : wH23_r4.cell? _ = some _ := gH23_r4.cell m2_K_5_ (by simp); have m23_K_6_ : wH23_r4.cell? _ = some _ := gH23_r4.cell m2_K_6_ (by simp); have m23_K_7_ : wH23_r4.cell? _ = some _ := gH23_r4.cell m2_K_7_ (by simp); have m23_ax_ : wH23_r4.cell? _ = some _ := gH23_r4.cell m2_ax_ (by simp); have m23_ay_ : wH23_r4.cell? _ = some _ := gH23_r4.cell m2_ay_ (by simp)
  go_wp2_with fail
  clear hHeld
  refine hK.out _ _ ?s22_r4_23 (fun hHeld => ?_)
  case s22_r4_23 => exact ⟨m23_A_0_, m23_A_1_, m23_K_0_, m23_K_1_, m23_K_2_, m23_K_3_, m23_K_4_, m23_K_5_, m23_K_6_, m23_K_7_, m23_ax_, m23_ay_⟩
  clear hK K
  try simp only [Act.put, List.setIfInBounds_toArray, List.set_cons_zero, List.set_cons_succ]
  refine wpAnyH_take (i := 23) (oi := { dst := some 35, op := Op.binOp BinOp.add 3 (Operand.tmp 32) (Operand.tmp 34) 3, type := 3, pos := "l14_credit.go:40", after := #[{ on := 20, ground := Ground.data }, { on := 22, ground := Ground.data }, { on := 15, ground := Ground.guard }], guard := some (15, false) }) (v := ?v23_r4_24) rfl (by kernel_rfl) (by kernel_rfl) (by kernel_rfl) (fun _ _ _ h => h) (Or.inl ⟨by rfl, ?y23_r4_24⟩) (by assumption) ?r23_r4_24
  case y23_r4_24 => (intro w hSw; (try dsimp only at hSw); go_simp; all_goals (with_reducible rfl))
  try simp only [Act.put, List.setIfInBounds_toArray, List.set_cons_zero, List.set_cons_succ]
  refine wpAnyH_take (i := 24) (oi := { dst := some 36, op := Op.binOp BinOp.gtr 3 (Operand.tmp 35) (Operand.const (Value.int IntKind.i64 30)) 3, type := 4, pos := "l14_credit.go:40", after := #[{ on := 23, ground := Ground.data }, { on := 15, ground := Ground.guard }], guard := some (15, false) }) (v := ?v24_r4_25) rfl (by kernel_rfl) (by kernel_rfl) (by kernel_rfl) (fun _ _ _ h => h) (Or.inl ⟨by rfl, ?y24_r4_25⟩) (by assumption) ?r24_r4_25
  case y24_r4_25 => (intro w hSw; (try dsimp only at hSw); go_simp; all_goals (with_reducible rfl))
  try simp only [Act.put, List.setIfInBounds_toArray, List.set_cons_zero, List.set_cons_succ]
  refine wpAnyH_take (i := 25) (oi := { dst := some 37, op := Op.pick (Operand.tmp 27) (Operand.const (Value.bool true)) (Operand.tmp 36), type := 4, pos := "l14_credit.go:40", after := #[{ on := 15, ground := Ground.data }, { on := 24, ground := Ground.data }], guard := none }) (v := ?v25_r4_26) rfl (by kernel_rfl) (by kernel_rfl) (by kernel_rfl) (fun _ _ _ h => h) (Or.inl ⟨by rfl, ?y25_r4_26⟩) (by assumption) ?r25_r4_26
  case y25_r4_26 => (intro w hSw; (try dsimp only at hSw); go_simp; all_goals (with_reducible rfl))
  try simp only [Act.put, List.setIfInBounds_toArray, List.set_cons_zero, List.set_cons_succ]
  refine wpAnyH_done (by kernel_rfl) ?_ _
  have gR_ : (w2).grownBy (wH23_r4) none := (gby_trans (gby_trans (gby_drew (gby_refl _ none)) gH2_r4) gH23_r4)
  have szwH23_r4 := gR_.size
  try simp only [World.size_alloc] at szwH23_r4
  clear A_0_ A_1_ K_0_ K_1_ K_2_ K_3_ K_4_ K_5_ K_6_ K_7_
  have rA22_ := Lib.hid (show (wH23_r4).heap[W.heap.size]? = some (.cells #[.slice (some ⟨ab, ao, none⟩) 3 c0, .slice (some ⟨bb, bo, none⟩) 3 c1] 54 (0, 0)) from row_held gR_ rA16_.out)
  clear rA16_
  have rK23_ := Lib.hid (show (wH23_r4).heap[W.heap.size + 1]? = some (.cells #[.int .i64 p.f0, .int .i64 p.f1, .int .i64 p.f2, .int .i64 p.f3, .int .i64 p.f4, .int .i64 p.f5, .int .i64 p.f6, vp] 29 (0, 0)) from row_held gR_ rK17_.out)
  clear rK17_
  have rR24_ := Lib.hid (show (wH23_r4).heap[W.heap.size + 1 + 1]? = some (.cells #[.slice none 0 0, .slice none 0 0] 54 (0, 0)) from row_held gR_ rR18_.out)
  clear rR18_
  have rX25_ := Lib.hid (show (wH23_r4).heap[w1.heap.size]? = some (.cells #[.slice q0 m0 d0, .slice q1 m1 d1] 54 (0, 0)) from row_held gR_ rX19_.out)
  clear rX19_
  have oC26_ := Lib.hid (show OwU (wH23_r4) ((W.heap.size + 1 + 1 + 1)) (w1.heap.size) [] [own shI (.slice q0 m0 d0) xs, own shI (.slice q1 m1 d1) ys] from OwU.grow oC20_.out gR_)
  clear oC20_
  have G27_ := Lib.hid (show (W).grownBy (wH23_r4) none from gby_trans G21_.out gR_)
  clear gR_
  have A_0_ : (wH23_r4).cell? ⟨W.heap.size, 0, none⟩ = some (.slice (some ⟨ab, ao, none⟩) 3 c0) := cell_of_row _ _ 0 _ _ _ rA22_.out
  have A_1_ : (wH23_r4).cell? ⟨W.heap.size, 1, none⟩ = some (.slice (some ⟨bb, bo, none⟩) 3 c1) := cell_of_row _ _ 1 _ _ _ rA22_.out
  have K_0_ : (wH23_r4).cell? ⟨W.heap.size + 1, 0, none⟩ = some (.int .i64 p.f0) := cell_of_row _ _ 0 _ _ _ rK23_.out
  have K_1_ : (wH23_r4).cell? ⟨W.heap.size + 1, 1, none⟩ = some (.int .i64 p.f1) := cell_of_row _ _ 1 _ _ _ rK23_.out
  have K_2_ : (wH23_r4).cell? ⟨W.heap.size + 1, 2, none⟩ = some (.int .i64 p.f2) := cell_of_row _ _ 2 _ _ _ rK23_.out
  have K_3_ : (wH23_r4).cell? ⟨W.heap.size + 1, 3, none⟩ = some (.int .i64 p.f3) := cell_of_row _ _ 3 _ _ _ rK23_.out
  have K_4_ : (wH23_r4).cell? ⟨W.heap.size + 1, 4, none⟩ = some (.int .i64 p.f4) := cell_of_row _ _ 4 _ _ _ rK23_.out
  have K_5_ : (wH23_r4).cell? ⟨W.heap.size + 1, 5, none⟩ = some (.int .i64 p.f5) := cell_of_row _ _ 5 _ _ _ rK23_.out
  have K_6_ : (wH23_r4).cell? ⟨W.heap.size + 1, 6, none⟩ = some (.int .i64 p.f6) := cell_of_row _ _ 6 _ _ _ rK23_.out
  have K_7_ : (wH23_r4).cell? ⟨W.heap.size + 1, 7, none⟩ = some (vp) := cell_of_row _ _ 7 _ _ _ rK23_.out
  have R_0_ : (wH23_r4).cell? ⟨W.heap.size + 1 + 1, 0, none⟩ = some (.slice none 0 0) := cell_of_row _ _ 0 _ _ _ rR24_.out
  have R_1_ : (wH23_r4).cell? ⟨W.heap.size + 1 + 1, 1, none⟩ = some (.slice none 0 0) := cell_of_row _ _ 1 _ _ _ rR24_.out
  have X_0_ : (wH23_r4).cell? ⟨w1.heap.size, 0, none⟩ = some (.slice q0 m0 d0) := cell_of_row _ _ 0 _ _ _ rX25_.out
  have X_1_ : (wH23_r4).cell? ⟨w1.heap.size, 1, none⟩ = some (.slice q1 m1 d1) := cell_of_row _ _ 1 _ _ _ rX25_.out
  clear A_0_ A_1_ K_0_ K_1_ K_2_ K_3_ K_4_ K_5_ K_6_ K_7_ R_0_ R_1_ X_0_ X_1_
  have A_0_ : (wH23_r4).cell? ⟨W.heap.size, 0, none⟩ = some (.slice (some ⟨ab, ao, none⟩) 3 c0) := cell_of_row _ _ 0 _ _ _ rA22_.out
  have A_1_ : (wH23_r4).cell? ⟨W.heap.size, 1, none⟩ = some (.slice (some ⟨bb, bo, none⟩) 3 c1) := cell_of_row _ _ 1 _ _ _ rA22_.out
  have K_0_ : (wH23_r4).cell? ⟨W.heap.size + 1, 0, none⟩ = some (.int .i64 p.f0) := cell_of_row _ _ 0 _ _ _ rK23_.out
  have K_1_ : (wH23_r4).cell? ⟨W.heap.size + 1, 1, none⟩ = some (.int .i64 p.f1) := cell_of_row _ _ 1 _ _ _ rK23_.out
  have K_2_ : (wH23_r4).cell? ⟨W.heap.size + 1, 2, none⟩ = some (.int .i64 p.f2) := cell_of_row _ _ 2 _ _ _ rK23_.out
  have K_3_ : (wH23_r4).cell? ⟨W.heap.size + 1, 3, none⟩ = some (.int .i64 p.f3) := cell_of_row _ _ 3 _ _ _ rK23_.out
  have K_4_ : (wH23_r4).cell? ⟨W.heap.size + 1, 4, none⟩ = some (.int .i64 p.f4) := cell_of_row _ _ 4 _ _ _ rK23_.out
  have K_5_ : (wH23_r4).cell? ⟨W.heap.size + 1, 5, none⟩ = some (.int .i64 p.f5) := cell_of_row _ _ 5 _ _ _ rK23_.out
  have K_6_ : (wH23_r4).cell? ⟨W.heap.size + 1, 6, none⟩ = some (.int .i64 p.f6) := cell_of_row _ _ 6 _ _ _ rK23_.out
  have K_7_ : (wH23_r4).cell? ⟨W.heap.size + 1, 7, none⟩ = some (vp) := cell_of_row _ _ 7 _ _ _ rK23_.out
  have R_0_ : (wH23_r4).cell? ⟨W.heap.size + 1 + 1, 0, none⟩ = some (.slice none 0 0) := cell_of_row _ _ 0 _ _ _ rR24_.out
  have R_1_ : (wH23_r4).cell? ⟨W.heap.size + 1 + 1, 1, none⟩ = some (.slice none 0 0) := cell_of_row _ _ 1 _ _ _ rR24_.out
  have Rf0_ : (wH23_r4).frozen? ⟨W.heap.size + 1 + 1, 0, none⟩ = false := frozen_of_row _ _ 0 _ _ rR24_.out
  have Rf1_ : (wH23_r4).frozen? ⟨W.heap.size + 1 + 1, 1, none⟩ = false := frozen_of_row _ _ 1 _ _ rR24_.out
  have X_0_ : (wH23_r4).cell? ⟨w1.heap.size, 0, none⟩ = some (.slice q0 m0 d0) := cell_of_row _ _ 0 _ _ _ rX25_.out
  have X_1_ : (wH23_r4).cell? ⟨w1.heap.size, 1, none⟩ = some (.slice q1 m1 d1) := cell_of_row _ _ 1 _ _ _ rX25_.out
  have zr_ := Lib.hid (show (((wH23_r4.setCell ⟨W.heap.size + 1 + 1, 0, none⟩ (.slice q0 m0 d0)).setCell ⟨W.heap.size + 1 + 1, 1, none⟩ (.slice q1 m1 d1))).heap[W.heap.size + 1 + 1]? = some (.cells #[.slice q0 m0 d0, .slice q1 m1 d1] 54 (0, 0)) from (heap_setCell_same _ _ 1 _ _ _ (heap_setCell_same _ _ 0 _ _ _ rR24_.out)))
  have z0_ : (((wH23_r4.setCell ⟨W.heap.size + 1 + 1, 0, none⟩ (.slice q0 m0 d0)).setCell ⟨W.heap.size + 1 + 1, 1, none⟩ (.slice q1 m1 d1))).cell? ⟨W.heap.size + 1 + 1, 0, none⟩ = some (.slice q0 m0 d0) := cell_of_row _ _ 0 _ _ _ zr_.out
  have z1_ : (((wH23_r4.setCell ⟨W.heap.size + 1 + 1, 0, none⟩ (.slice q0 m0 d0)).setCell ⟨W.heap.size + 1 + 1, 1, none⟩ (.slice q1 m1 d1))).cell? ⟨W.heap.size + 1 + 1, 1, none⟩ = some (.slice q1 m1 d1) := cell_of_row _ _ 1 _ _ _ zr_.out
  go_wp2
  refine bodyPost_ret (v := .tuple #[.agg #[.slice q0 m0 d0, .slice q1 m1 d1], .bool false]) (by simp [results, go_sem, z0_, z1_]) rfl ⟨_, _, rfl, ?_, ?_⟩
  · exact OwU.wide (lo := W.heap.size + 1 + 1 + 1) (by omega) (by simp only [World.size_setCell]; omega) (OwU.keep (chg_one _ _ _ _) (.inr (by omega)) (OwU.keep (chg_one _ _ _ _) (.inr (by omega)) oC26_.out))
  · exact (gby_setnew (gby_setnew G27_.out _ (by dsimp only; omega) _) _ (by dsimp only; omega) _)

set_option maxRecDepth 8000 in
set_option maxHeartbeats 4000000 in
theorem specReturnCredits_yes (W : World) (u0 u1 vp : Value) (xs ys : List Int) (p : DPacket) (H0 : RdL shI W u0 xs) (H1 : RdL shI W u1 ys) (Hp : RdL shI W vp p.f7) (h0 : szL shI xs ≤ 1048576) (h1 : szL shI ys ≤ 1048576) (hl : szL shI p.f7 ≤ 1048576) (k : Nat) (u : Int) (hc : clsD p = (k : Int)) (hk3 : k < 3) (hcr : CrdOk xs ys) (hu : untD p = u) (hu0 : 0 ≤ u) (hu9 : u ≤ 1000000) (hw : ¬ xs.getD k 0 + 1 > 30) (hw2 : ¬ ys.getD k 0 + u > 30) : Calls Try.prog 41 #[.agg #[u0, u1], (vPacket p.f0 p.f1 p.f2 p.f3 p.f4 p.f5 p.f6 vp)] W (ResIReturnCredits (xs.set k (xs.getD k 0 + 1)) (ys.set k (ys.getD k 0 + u)) true W) := by
  have HSX := Lib.hid H0
  have HSY := Lib.hid H1
  have HP := Lib.hid Hp
  have HXL := Lib.hid h0
  have HYL := Lib.hid h1
  have HL := Lib.hid hl
  obtain ⟨za_, c0, rfl, _, zi_⟩ := rdI1_in H0
  obtain ⟨ab, ao, rfl, _⟩ := zi_.resolve_left (by have := hcr.1.1; omega)
  obtain ⟨zb_, c1, rfl, _, zj_⟩ := rdI1_in H1
  obtain ⟨bb, bo, rfl, _⟩ := zj_.resolve_left (by have := hcr.2.1; omega)
  rw [hcr.1.1] at HSX ⊢
  rw [hcr.2.1] at HSY ⊢
  clear H0 H1 Hp h0 h1 hl
  unfold vPacket
  have HCD := Lib.hid (show ∀ (W : World) (z0 z1 : Value), RdL shI W z0 xs → RdL shI W z1 ys → Calls Try.prog 89 #[.agg #[z0, z1]] W (AnsN (.bool true) W) from fun W z0 z1 h0 h1 => specCrD W z0 z1 xs ys h0 h1 HXL.out HYL.out true (by rw [decide_eq_true hcr]))
  have HC := Lib.hid hc
  have HU := Lib.hid hu
  have HCR := Lib.hid hcr
  have hx1 := crd_at hcr hk3
  obtain ⟨x, hx⟩ : ∃ x, x = xs.getD k 0 := ⟨_, rfl⟩
  obtain ⟨y, hy⟩ : ∃ y, y = ys.getD k 0 := ⟨_, rfl⟩
  rw [← hx, ← hy] at hx1
  obtain ⟨hxl, hyl, hx0, hx30, hy0, hy30⟩ := hx1
  have HX := Lib.hid hx
  have HY := Lib.hid hy
  clear hc hu hcr hx hy
  have HCL := Lib.hid (show ∀ (W : World) (v : Value), RdL shI W v p.f7 → Calls Try.prog 84 #[vPacket p.f0 p.f1 p.f2 p.f3 p.f4 p.f5 p.f6 v] W (AnsN (.int .i64 (k : Int)) W) from fun W v H => by have q := specClsD W p v H HL.out; rw [HC.out] at q; exact q)
  have HUN := Lib.hid (show ∀ (W : World) (v : Value), RdL shI W v p.f7 → Calls Try.prog 85 #[vPacket p.f0 p.f1 p.f2 p.f3 p.f4 p.f5 p.f6 v] W (AnsN (.int .i64 u) W) from fun W v H => by have q := specUntD W p v H HL.out (by rw [HC.out]; omega); rw [HU.out] at q; exact q)
  rw [← HX.out] at hw
  rw [← HY.out] at hw2
  rw [← HX.out, ← HY.out]
  go_enter Try.func41, Try.ntmps41
  have rA1_ := Lib.hid (show ((((W.alloc (.cells #[.slice (some ⟨ab, ao, none⟩) 3 c0, .slice (some ⟨bb, bo, none⟩) 3 c1] 54)).alloc (.cells #[.int .i64 p.f0, .int .i64 p.f1, .int .i64 p.f2, .int .i64 p.f3, .int .i64 p.f4, .int .i64 p.f5, .int .i64 p.f6, vp] 29)).alloc (.cells #[.slice none 0 0, .slice none 0 0] 54))).heap[W.heap.size]? = some (.cells #[.slice (some ⟨ab, ao, none⟩) 3 c0, .slice (some ⟨bb, bo, none⟩) 3 c1] 54 (0, 0)) from by rw [heap_alloc_old _ _ (by simp only [World.size_alloc]; omega)]; rw [heap_alloc_old _ _ (by simp only [World.size_alloc]; omega)]; exact heap_alloc_new _ _)
  have rK2_ := Lib.hid (show ((((W.alloc (.cells #[.slice (some ⟨ab, ao, none⟩) 3 c0, .slice (some ⟨bb, bo, none⟩) 3 c1] 54)).alloc (.cells #[.int .i64 p.f0, .int .i64 p.f1, .int .i64 p.f2, .int .i64 p.f3, .int .i64 p.f4, .int .i64 p.f5, .int .i64 p.f6, vp] 29)).alloc (.cells #[.slice none 0 0, .slice none 0 0] 54))).heap[W.heap.size + 1]? = some (.cells #[.int .i64 p.f0, .int .i64 p.f1, .int .i64 p.f2, .int .i64 p.f3, .int .i64 p.f4, .int .i64 p.f5, .int .i64 p.f6, vp] 29 (0, 0)) from by rw [heap_alloc_old _ _ (by simp only [World.size_alloc]; omega)]; exact heap_pair _ _ _)
  have rR3_ := Lib.hid (show ((((W.alloc (.cells #[.slice (some ⟨ab, ao, none⟩) 3 c0, .slice (some ⟨bb, bo, none⟩) 3 c1] 54)).alloc (.cells #[.int .i64 p.f0, .int .i64 p.f1, .int .i64 p.f2, .int .i64 p.f3, .int .i64 p.f4, .int .i64 p.f5, .int .i64 p.f6, vp] 29)).alloc (.cells #[.slice none 0 0, .slice none 0 0] 54))).heap[W.heap.size + 1 + 1]? = some (.cells #[.slice none 0 0, .slice none 0 0] 54 (0, 0)) from by exact heap_trip _ _ _ _)
  have G4_ := Lib.hid (show (W).grownBy ((((W.alloc (.cells #[.slice (some ⟨ab, ao, none⟩) 3 c0, .slice (some ⟨bb, bo, none⟩) 3 c1] 54)).alloc (.cells #[.int .i64 p.f0, .int .i64 p.f1, .int .i64 p.f2, .int .i64 p.f3, .int .i64 p.f4, .int .i64 p.f5, .int .i64 p.f6, vp] 29)).alloc (.cells #[.slice none 0 0, .slice none 0 0] 54))) none from (gby_alloc (gby_alloc (gby_alloc (gby_refl _ _) _) _) _))
  have A_0_ : ((((W.alloc (.cells #[.slice (some ⟨ab, ao, none⟩) 3 c0, .slice (some ⟨bb, bo, none⟩) 3 c1] 54)).alloc (.cells #[.int .i64 p.f0, .int .i64 p.f1, .int .i64 p.f2, .int .i64 p.f3, .int .i64 p.f4, .int .i64 p.f5, .int .i64 p.f6, vp] 29)).alloc (.cells #[.slice none 0 0, .slice none 0 0] 54))).cell? ⟨W.heap.size, 0, none⟩ = some (.slice (some ⟨ab, ao, none⟩) 3 c0) := cell_of_row _ _ 0 _ _ _ rA1_.out
  have A_1_ : ((((W.alloc (.cells #[.slice (some ⟨ab, ao, none⟩) 3 c0, .slice (some ⟨bb, bo, none⟩) 3 c1] 54)).alloc (.cells #[.int .i64 p.f0, .int .i64 p.f1, .int .i64 p.f2, .int .i64 p.f3, .int .i64 p.f4, .int .i64 p.f5, .int .i64 p.f6, vp] 29)).alloc (.cells #[.slice none 0 0, .slice none 0 0] 54))).cell? ⟨W.heap.size, 1, none⟩ = some (.slice (some ⟨bb, bo, none⟩) 3 c1) := cell_of_row _ _ 1 _ _ _ rA1_.out
  have K_0_ : ((((W.alloc (.cells #[.slice (some ⟨ab, ao, none⟩) 3 c0, .slice (some ⟨bb, bo, none⟩) 3 c1] 54)).alloc (.cells #[.int .i64 p.f0, .int .i64 p.f1, .int .i64 p.f2, .int .i64 p.f3, .int .i64 p.f4, .int .i64 p.f5, .int .i64 p.f6, vp] 29)).alloc (.cells #[.slice none 0 0, .slice none 0 0] 54))).cell? ⟨W.heap.size + 1, 0, none⟩ = some (.int .i64 p.f0) := cell_of_row _ _ 0 _ _ _ rK2_.out
  have K_1_ : ((((W.alloc (.cells #[.slice (some ⟨ab, ao, none⟩) 3 c0, .slice (some ⟨bb, bo, none⟩) 3 c1] 54)).alloc (.cells #[.int .i64 p.f0, .int .i64 p.f1, .int .i64 p.f2, .int .i64 p.f3, .int .i64 p.f4, .int .i64 p.f5, .int .i64 p.f6, vp] 29)).alloc (.cells #[.slice none 0 0, .slice none 0 0] 54))).cell? ⟨W.heap.size + 1, 1, none⟩ = some (.int .i64 p.f1) := cell_of_row _ _ 1 _ _ _ rK2_.out
  have K_2_ : ((((W.alloc (.cells #[.slice (some ⟨ab, ao, none⟩) 3 c0, .slice (some ⟨bb, bo, none⟩) 3 c1] 54)).alloc (.cells #[.int .i64 p.f0, .int .i64 p.f1, .int .i64 p.f2, .int .i64 p.f3, .int .i64 p.f4, .int .i64 p.f5, .int .i64 p.f6, vp] 29)).alloc (.cells #[.slice none 0 0, .slice none 0 0] 54))).cell? ⟨W.heap.size + 1, 2, none⟩ = some (.int .i64 p.f2) := cell_of_row _ _ 2 _ _ _ rK2_.out
  have K_3_ : ((((W.alloc (.cells #[.slice (some ⟨ab, ao, none⟩) 3 c0, .slice (some ⟨bb, bo, none⟩) 3 c1] 54)).alloc (.cells #[.int .i64 p.f0, .int .i64 p.f1, .int .i64 p.f2, .int .i64 p.f3, .int .i64 p.f4, .int .i64 p.f5, .int .i64 p.f6, vp] 29)).alloc (.cells #[.slice none 0 0, .slice none 0 0] 54))).cell? ⟨W.heap.size + 1, 3, none⟩ = some (.int .i64 p.f3) := cell_of_row _ _ 3 _ _ _ rK2_.out
  have K_4_ : ((((W.alloc (.cells #[.slice (some ⟨ab, ao, none⟩) 3 c0, .slice (some ⟨bb, bo, none⟩) 3 c1] 54)).alloc (.cells #[.int .i64 p.f0, .int .i64 p.f1, .int .i64 p.f2, .int .i64 p.f3, .int .i64 p.f4, .int .i64 p.f5, .int .i64 p.f6, vp] 29)).alloc (.cells #[.slice none 0 0, .slice none 0 0] 54))).cell? ⟨W.heap.size + 1, 4, none⟩ = some (.int .i64 p.f4) := cell_of_row _ _ 4 _ _ _ rK2_.out
  have K_5_ : ((((W.alloc (.cells #[.slice (some ⟨ab, ao, none⟩) 3 c0, .slice (some ⟨bb, bo, none⟩) 3 c1] 54)).alloc (.cells #[.int .i64 p.f0, .int .i64 p.f1, .int .i64 p.f2, .int .i64 p.f3, .int .i64 p.f4, .int .i64 p.f5, .int .i64 p.f6, vp] 29)).alloc (.cells #[.slice none 0 0, .slice none 0 0] 54))).cell? ⟨W.heap.size + 1, 5, none⟩ = some (.int .i64 p.f5) := cell_of_row _ _ 5 _ _ _ rK2_.out
  have K_6_ : ((((W.alloc (.cells #[.slice (some ⟨ab, ao, none⟩) 3 c0, .slice (some ⟨bb, bo, none⟩) 3 c1] 54)).alloc (.cells #[.int .i64 p.f0, .int .i64 p.f1, .int .i64 p.f2, .int .i64 p.f3, .int .i64 p.f4, .int .i64 p.f5, .int .i64 p.f6, vp] 29)).alloc (.cells #[.slice none 0 0, .slice none 0 0] 54))).cell? ⟨W.heap.size + 1, 6, none⟩ = some (.int .i64 p.f6) := cell_of_row _ _ 6 _ _ _ rK2_.out
  have K_7_ : ((((W.alloc (.cells #[.slice (some ⟨ab, ao, none⟩) 3 c0, .slice (some ⟨bb, bo, none⟩) 3 c1] 54)).alloc (.cells #[.int .i64 p.f0, .int .i64 p.f1, .int .i64 p.f2, .int .i64 p.f3, .int .i64 p.f4, .int .i64 p.f5, .int .i64 p.f6, vp] 29)).alloc (.cells #[.slice none 0 0, .slice none 0 0] 54))).cell? ⟨W.heap.size + 1, 7, none⟩ = some (vp) := cell_of_row _ _ 7 _ _ _ rK2_.out
  have R_0_ : ((((W.alloc (.cells #[.slice (some ⟨ab, ao, none⟩) 3 c0, .slice (some ⟨bb, bo, none⟩) 3 c1] 54)).alloc (.cells #[.int .i64 p.f0, .int .i64 p.f1, .int .i64 p.f2, .int .i64 p.f3, .int .i64 p.f4, .int .i64 p.f5, .int .i64 p.f6, vp] 29)).alloc (.cells #[.slice none 0 0, .slice none 0 0] 54))).cell? ⟨W.heap.size + 1 + 1, 0, none⟩ = some (.slice none 0 0) := cell_of_row _ _ 0 _ _ _ rR3_.out
  have R_1_ : ((((W.alloc (.cells #[.slice (some ⟨ab, ao, none⟩) 3 c0, .slice (some ⟨bb, bo, none⟩) 3 c1] 54)).alloc (.cells #[.int .i64 p.f0, .int .i64 p.f1, .int .i64 p.f2, .int .i64 p.f3, .int .i64 p.f4, .int .i64 p.f5, .int .i64 p.f6, vp] 29)).alloc (.cells #[.slice none 0 0, .slice none 0 0] 54))).cell? ⟨W.heap.size + 1 + 1, 1, none⟩ = some (.slice none 0 0) := cell_of_row _ _ 1 _ _ _ rR3_.out
  go_wp2_with fail
  go_at_call 82
  refine (l14Copy_d _ _ _ xs ys (HSX.out.grow G4_.out) (HSY.out.grow G4_.out) HXL.out HYL.out).mono ?_
  rintro e w1 ⟨z0, z1, rfl, o, g⟩
  have sz_ := g.size
  try simp only [World.size_alloc] at sz_ o
  clear A_0_ A_1_ K_0_ K_1_ K_2_ K_3_ K_4_ K_5_ K_6_ K_7_ R_0_ R_1_
  have rA5_ := Lib.hid (show (w1).heap[W.heap.size]? = some (.cells #[.slice (some ⟨ab, ao, none⟩) 3 c0, .slice (some ⟨bb, bo, none⟩) 3 c1] 54 (0, 0)) from row_held g rA1_.out)
  clear rA1_
  have rK6_ := Lib.hid (show (w1).heap[W.heap.size + 1]? = some (.cells #[.int .i64 p.f0, .int .i64 p.f1, .int .i64 p.f2, .int .i64 p.f3, .int .i64 p.f4, .int .i64 p.f5, .int .i64 p.f6, vp] 29 (0, 0)) from row_held g rK2_.out)
  clear rK2_
  have rR7_ := Lib.hid (show (w1).heap[W.heap.size + 1 + 1]? = some (.cells #[.slice none 0 0, .slice none 0 0] 54 (0, 0)) from row_held g rR3_.out)
  clear rR3_
  have G8_ := Lib.hid (show (W).grownBy (w1) none from gby_trans G4_.out g)
  clear g
  obtain ⟨q0, m0, d0, hv_⟩ := RdL.form (OwU.rd o)
  subst hv_
  obtain ⟨q1, m1, d1, hv_⟩ := RdL.form (OwU.rd (OwU.tail o))
  subst hv_
  unfold vCredits
  have oC9_ := Lib.hid (show OwU (w1) ((W.heap.size + 1 + 1 + 1)) (w1.heap.size) [] [own shI (.slice q0 m0 d0) xs, own shI (.slice q1 m1 d1) ys] from o)
  clear o
  have al_ : (w1).grownBy ((w1).alloc (.cells #[.slice q0 m0 d0, .slice q1 m1 d1] 54)) none := gby_alloc (gby_refl _ _) _
  have rA10_ := Lib.hid (show ((w1.alloc (.cells #[.slice q0 m0 d0, .slice q1 m1 d1] 54))).heap[W.heap.size]? = some (.cells #[.slice (some ⟨ab, ao, none⟩) 3 c0, .slice (some ⟨bb, bo, none⟩) 3 c1] 54 (0, 0)) from row_held al_ rA5_.out)
  clear rA5_
  have rK11_ := Lib.hid (show ((w1.alloc (.cells #[.slice q0 m0 d0, .slice q1 m1 d1] 54))).heap[W.heap.size + 1]? = some (.cells #[.int .i64 p.f0, .int .i64 p.f1, .int .i64 p.f2, .int .i64 p.f3, .int .i64 p.f4, .int .i64 p.f5, .int .i64 p.f6, vp] 29 (0, 0)) from row_held al_ rK6_.out)
  clear rK6_
  have rR12_ := Lib.hid (show ((w1.alloc (.cells #[.slice q0 m0 d0, .slice q1 m1 d1] 54))).heap[W.heap.size + 1 + 1]? = some (.cells #[.slice none 0 0, .slice none 0 0] 54 (0, 0)) from row_held al_ rR7_.out)
  clear rR7_
  have oC13_ := Lib.hid (show OwU ((w1.alloc (.cells #[.slice q0 m0 d0, .slice q1 m1 d1] 54))) ((W.heap.size + 1 + 1 + 1)) (w1.heap.size) [] [own shI (.slice q0 m0 d0) xs, own shI (.slice q1 m1 d1) ys] from OwU.grow oC9_.out al_)
  clear oC9_
  have G14_ := Lib.hid (show (W).grownBy ((w1.alloc (.cells #[.slice q0 m0 d0, .slice q1 m1 d1] 54))) none from gby_trans G8_.out al_)
  have rX15_ := Lib.hid (show ((w1.alloc (.cells #[.slice q0 m0 d0, .slice q1 m1 d1] 54))).heap[w1.heap.size]? = some (.cells #[.slice q0 m0 d0, .slice q1 m1 d1] 54 (0, 0)) from by first | exact heap_alloc_new _ _ | exact heap_pair _ _ _ | exact heap_trip _ _ _ _)
  clear al_
  have A_0_ : ((w1.alloc (.cells #[.slice q0 m0 d0, .slice q1 m1 d1] 54))).cell? ⟨W.heap.size, 0, none⟩ = some (.slice (some ⟨ab, ao, none⟩) 3 c0) := cell_of_row _ _ 0 _ _ _ rA10_.out
  have A_1_ : ((w1.alloc (.cells #[.slice q0 m0 d0, .slice q1 m1 d1] 54))).cell? ⟨W.heap.size, 1, none⟩ = some (.slice (some ⟨bb, bo, none⟩) 3 c1) := cell_of_row _ _ 1 _ _ _ rA10_.out
  have K_0_ : ((w1.alloc (.cells #[.slice q0 m0 d0, .slice q1 m1 d1] 54))).cell? ⟨W.heap.size + 1, 0, none⟩ = some (.int .i64 p.f0) := cell_of_row _ _ 0 _ _ _ rK11_.out
  have K_1_ : ((w1.alloc (.cells #[.slice q0 m0 d0, .slice q1 m1 d1] 54))).cell? ⟨W.heap.size + 1, 1, none⟩ = some (.int .i64 p.f1) := cell_of_row _ _ 1 _ _ _ rK11_.out
  have K_2_ : ((w1.alloc (.cells #[.slice q0 m0 d0, .slice q1 m1 d1] 54))).cell? ⟨W.heap.size + 1, 2, none⟩ = some (.int .i64 p.f2) := cell_of_row _ _ 2 _ _ _ rK11_.out
  have K_3_ : ((w1.alloc (.cells #[.slice q0 m0 d0, .slice q1 m1 d1] 54))).cell? ⟨W.heap.size + 1, 3, none⟩ = some (.int .i64 p.f3) := cell_of_row _ _ 3 _ _ _ rK11_.out
  have K_4_ : ((w1.alloc (.cells #[.slice q0 m0 d0, .slice q1 m1 d1] 54))).cell? ⟨W.heap.size + 1, 4, none⟩ = some (.int .i64 p.f4) := cell_of_row _ _ 4 _ _ _ rK11_.out
  have K_5_ : ((w1.alloc (.cells #[.slice q0 m0 d0, .slice q1 m1 d1] 54))).cell? ⟨W.heap.size + 1, 5, none⟩ = some (.int .i64 p.f5) := cell_of_row _ _ 5 _ _ _ rK11_.out
  have K_6_ : ((w1.alloc (.cells #[.slice q0 m0 d0, .slice q1 m1 d1] 54))).cell? ⟨W.heap.size + 1, 6, none⟩ = some (.int .i64 p.f6) := cell_of_row _ _ 6 _ _ _ rK11_.out
  have K_7_ : ((w1.alloc (.cells #[.slice q0 m0 d0, .slice q1 m1 d1] 54))).cell? ⟨W.heap.size + 1, 7, none⟩ = some (vp) := cell_of_row _ _ 7 _ _ _ rK11_.out
  have R_0_ : ((w1.alloc (.cells #[.slice q0 m0 d0, .slice q1 m1 d1] 54))).cell? ⟨W.heap.size + 1 + 1, 0, none⟩ = some (.slice none 0 0) := cell_of_row _ _ 0 _ _ _ rR12_.out
  have R_1_ : ((w1.alloc (.cells #[.slice q0 m0 d0, .slice q1 m1 d1] 54))).cell? ⟨W.heap.size + 1 + 1, 1, none⟩ = some (.slice none 0 0) := cell_of_row _ _ 1 _ _ _ rR12_.out
  have X_0_ : ((w1.alloc (.cells #[.slice q0 m0 d0, .slice q1 m1 d1] 54))).cell? ⟨w1.heap.size, 0, none⟩ = some (.slice q0 m0 d0) := cell_of_row _ _ 0 _ _ _ rX15_.out
  have X_1_ : ((w1.alloc (.cells #[.slice q0 m0 d0, .slice q1 m1 d1] 54))).cell? ⟨w1.heap.size, 1, none⟩ = some (.slice q1 m1 d1) := cell_of_row _ _ 1 _ _ _ rX15_.out
  go_wp2_with fail
  go_at_call 84
  refine (HCL.out _ _ (HP.out.grow G14_.out)).mono ?_
  rintro e w2 ⟨rfl, g⟩
  have szw2 := g.size
  try simp only [World.size_alloc] at szw2
  try simp only [World.size_setCell] at szw2
  clear A_0_ A_1_ K_0_ K_1_ K_2_ K_3_ K_4_ K_5_ K_6_ K_7_ R_0_ R_1_ X_0_ X_1_
  have rA16_ := Lib.hid (show (w2).heap[W.heap.size]? = some (.cells #[.slice (some ⟨ab, ao, none⟩) 3 c0, .slice (some ⟨bb, bo, none⟩) 3 c1] 54 (0, 0)) from row_held g rA10_.out)
  clear rA10_
  have rK17_ := Lib.hid (show (w2).heap[W.heap.size + 1]? = some (.cells #[.int .i64 p.f0, .int .i64 p.f1, .int .i64 p.f2, .int .i64 p.f3, .int .i64 p.f4, .int .i64 p.f5, .int .i64 p.f6, vp] 29 (0, 0)) from row_held g rK11_.out)
  clear rK11_
  have rR18_ := Lib.hid (show (w2).heap[W.heap.size + 1 + 1]? = some (.cells #[.slice none 0 0, .slice none 0 0] 54 (0, 0)) from row_held g rR12_.out)
  clear rR12_
  have rX19_ := Lib.hid (show (w2).heap[w1.heap.size]? = some (.cells #[.slice q0 m0 d0, .slice q1 m1 d1] 54 (0, 0)) from row_held g rX15_.out)
  clear rX15_
  have oC20_ := Lib.hid (show OwU (w2) ((W.heap.size + 1 + 1 + 1)) (w1.heap.size) [] [own shI (.slice q0 m0 d0) xs, own shI (.slice q1 m1 d1) ys] from OwU.grow oC13_.out g)
  clear oC13_
  have G21_ := Lib.hid (show (W).grownBy (w2) none from gby_trans G14_.out g)
  clear g
  have A_0_ : (w2).cell? ⟨W.heap.size, 0, none⟩ = some (.slice (some ⟨ab, ao, none⟩) 3 c0) := cell_of_row _ _ 0 _ _ _ rA16_.out
  have A_1_ : (w2).cell? ⟨W.heap.size, 1, none⟩ = some (.slice (some ⟨bb, bo, none⟩) 3 c1) := cell_of_row _ _ 1 _ _ _ rA16_.out
  have K_0_ : (w2).cell? ⟨W.heap.size + 1, 0, none⟩ = some (.int .i64 p.f0) := cell_of_row _ _ 0 _ _ _ rK17_.out
  have K_1_ : (w2).cell? ⟨W.heap.size + 1, 1, none⟩ = some (.int .i64 p.f1) := cell_of_row _ _ 1 _ _ _ rK17_.out
  have K_2_ : (w2).cell? ⟨W.heap.size + 1, 2, none⟩ = some (.int .i64 p.f2) := cell_of_row _ _ 2 _ _ _ rK17_.out
  have K_3_ : (w2).cell? ⟨W.heap.size + 1, 3, none⟩ = some (.int .i64 p.f3) := cell_of_row _ _ 3 _ _ _ rK17_.out
  have K_4_ : (w2).cell? ⟨W.heap.size + 1, 4, none⟩ = some (.int .i64 p.f4) := cell_of_row _ _ 4 _ _ _ rK17_.out
  have K_5_ : (w2).cell? ⟨W.heap.size + 1, 5, none⟩ = some (.int .i64 p.f5) := cell_of_row _ _ 5 _ _ _ rK17_.out
  have K_6_ : (w2).cell? ⟨W.heap.size + 1, 6, none⟩ = some (.int .i64 p.f6) := cell_of_row _ _ 6 _ _ _ rK17_.out
  have K_7_ : (w2).cell? ⟨W.heap.size + 1, 7, none⟩ = some (vp) := cell_of_row _ _ 7 _ _ _ rK17_.out
  have R_0_ : (w2).cell? ⟨W.heap.size + 1 + 1, 0, none⟩ = some (.slice none 0 0) := cell_of_row _ _ 0 _ _ _ rR18_.out
  have R_1_ : (w2).cell? ⟨W.heap.size + 1 + 1, 1, none⟩ = some (.slice none 0 0) := cell_of_row _ _ 1 _ _ _ rR18_.out
  have X_0_ : (w2).cell? ⟨w1.heap.size, 0, none⟩ = some (.slice q0 m0 d0) := cell_of_row _ _ 0 _ _ _ rX19_.out
  have X_1_ : (w2).cell? ⟨w1.heap.size, 1, none⟩ = some (.slice q1 m1 d1) := cell_of_row _ _ 1 _ _ _ rX19_.out
  have hk0 : (0 : Int) ≤ (k : Int) := by omega
  have htk : ((k : Int)).toNat = k := by omega
  have hkx : (k : Int) < (xs.length : Int) := by omega
  have hky : (k : Int) < (ys.length : Int) := by omega
  have hk3i : (k : Int) < 3 := by omega
  have kn_ : ¬ (k : Int) < 0 := by omega
  have kn2_ : decide ((k : Int) < 0) = false := decide_eq_false kn_
  have w2_ : IntKind.i64.wrap (y + u) = y + u := IntWalk.i64_in _ (by omega)
  have ax_ := (G21_.out).cell (rdI_cellC HSX.out k (by omega)) (by simp)
  have ay_ := (G21_.out).cell (rdI_cellC HSY.out k (by omega)) (by simp)
  rw [← HX.out] at ax_
  rw [← HY.out] at ay_
  have e30_ : (x == 30) = false := beq_eq_false_iff_ne.2 (by omega)
  have g30_ : ¬ (30 : Int) < y + u := by omega
  have g31_ : decide (y + u > 30) = false := decide_eq_false g30_
  have g32_ : decide ((30 : Int) < y + u) = false := decide_eq_false g30_
  clear A_0_ A_1_ K_0_ K_1_ K_2_ K_3_ K_4_ K_5_ K_6_ K_7_ R_0_ R_1_ X_0_ X_1_
  have A_0_ : (w2).cell? ⟨W.heap.size, 0, none⟩ = some (.slice (some ⟨ab, ao, none⟩) 3 c0) := cell_of_row _ _ 0 _ _ _ rA16_.out
  have A_1_ : (w2).cell? ⟨W.heap.size, 1, none⟩ = some (.slice (some ⟨bb, bo, none⟩) 3 c1) := cell_of_row _ _ 1 _ _ _ rA16_.out
  have K_0_ : (w2).cell? ⟨W.heap.size + 1, 0, none⟩ = some (.int .i64 p.f0) := cell_of_row _ _ 0 _ _ _ rK17_.out
  have K_1_ : (w2).cell? ⟨W.heap.size + 1, 1, none⟩ = some (.int .i64 p.f1) := cell_of_row _ _ 1 _ _ _ rK17_.out
  have K_2_ : (w2).cell? ⟨W.heap.size + 1, 2, none⟩ = some (.int .i64 p.f2) := cell_of_row _ _ 2 _ _ _ rK17_.out
  have K_3_ : (w2).cell? ⟨W.heap.size + 1, 3, none⟩ = some (.int .i64 p.f3) := cell_of_row _ _ 3 _ _ _ rK17_.out
  have K_4_ : (w2).cell? ⟨W.heap.size + 1, 4, none⟩ = some (.int .i64 p.f4) := cell_of_row _ _ 4 _ _ _ rK17_.out
  have K_5_ : (w2).cell? ⟨W.heap.size + 1, 5, none⟩ = some (.int .i64 p.f5) := cell_of_row _ _ 5 _ _ _ rK17_.out
  have K_6_ : (w2).cell? ⟨W.heap.size + 1, 6, none⟩ = some (.int .i64 p.f6) := cell_of_row _ _ 6 _ _ _ rK17_.out
  have K_7_ : (w2).cell? ⟨W.heap.size + 1, 7, none⟩ = some (vp) := cell_of_row _ _ 7 _ _ _ rK17_.out
  have HG9 := Lib.hid (G21_.out)
  go_wp2_with fail
  refine wp_region_held_drew (S := fun w' => w'.cell? ⟨W.heap.size, 0, none⟩ = some (.slice (some ⟨ab, ao, none⟩) 3 c0) ∧ w'.cell? ⟨W.heap.size, 1, none⟩ = some (.slice (some ⟨bb, bo, none⟩) 3 c1) ∧ w'.cell? ⟨W.heap.size + 1, 0, none⟩ = some (.int .i64 p.f0) ∧ w'.cell? ⟨W.heap.size + 1, 1, none⟩ = some (.int .i64 p.f1) ∧ w'.cell? ⟨W.heap.size + 1, 2, none⟩ = some (.int .i64 p.f2) ∧ w'.cell? ⟨W.heap.size + 1, 3, none⟩ = some (.int .i64 p.f3) ∧ w'.cell? ⟨W.heap.size + 1, 4, none⟩ = some (.int .i64 p.f4) ∧ w'.cell? ⟨W.heap.size + 1, 5, none⟩ = some (.int .i64 p.f5) ∧ w'.cell? ⟨W.heap.size + 1, 6, none⟩ = some (.int .i64 p.f6) ∧ w'.cell? ⟨W.heap.size + 1, 7, none⟩ = some (vp) ∧ w'.cell? ⟨ab, ao + k, none⟩ = some (.int .i64 x) ∧ w'.cell? ⟨bb, bo + k, none⟩ = some (.int .i64 y)) (by kernel_rfl) (by (try dsimp only); exact ⟨A_0_, A_1_, K_0_, K_1_, K_2_, K_3_, K_4_, K_5_, K_6_, K_7_, ax_, ay_⟩) (fun hHeld => ?_)
  refine wpAnyH_take (i := 0) (oi := { dst := some 12, op := Op.load 54 (Operand.tmp 2), type := 54, pos := "l14_credit.go:40", after := #[], guard := none }) (v := ?v0_r5_1) rfl (by kernel_rfl) (by kernel_rfl) (by kernel_rfl) (fun _ _ _ h => h) (Or.inl ⟨by rfl, ?y0_r5_1⟩) (by assumption) ?r0_r5_1
  case y0_r5_1 => (intro w hSw; (try dsimp only at hSw); go_simp; all_goals (with_reducible rfl))
  try simp only [Act.put, List.setIfInBounds_toArray, List.set_cons_zero, List.set_cons_succ]
  refine wpAnyH_ready (rs := [1]) (by kernel_rfl) (by simp) ?_
  refine AllReadyH.cons (o := { dst := some 13, op := Op.call { callee := Callee.value (Operand.func 89), args := #[Operand.tmp 12], argTypes := #[54] }, type := 4, pos := "l14_credit.go:40", after := #[{ on := 0, ground := Ground.data }], guard := none }) rfl (fun K hK => ?_) AllReadyH.nil
  go_simp
  go_at_call 89
  refine (HCD.out _ _ _ (HSX.out.grow (gby_trans HG9.out (gby_drew (gby_refl _ none)))) (HSY.out.grow (gby_trans HG9.out (gby_drew (gby_refl _ none))))).mono ?_
  rintro e wH2_r5 ⟨rfl, gH2_r5⟩
  have m2_A_0_ : wH2_r5.cell? _ = some _ := gH2_r5.cell A_0_ (by simp); have m2_A_1_ : wH2_r5.cell? _ = some _ := gH2_r5.cell A_1_ (by simp); have m2_K_0_ : wH2_r5.cell? _ = some _ := gH2_r5.cell K_0_ (by simp); have m2_K_1_ : wH2_r5.cell? _ = some _ := gH2_r5.cell K_1_ (by simp); have m2_K_2_ : wH2_r5.cell? _ = some _ := gH2_r5.cell K_2_ (by simp); have m2_K_3_ : wH2_r5.cell? _ = some _ := gH2_r5.cell K_3_ (by simp); have m2_K_4_ : wH2_r5.cell? _ = some _ := gH2_r5.cell K_4_ (by simp); have m2_K_5_ : wH2_r5.cell? _ = some _ := gH2_r5.cell K_5_ (by simp); have m2_K_6_ : wH2_r5.cell? _ = some _ := gH2_r5.cell K_6_ (by simp); have m2_K_7_ : wH2_r5.cell? _ = some _ := gH2_r5.cell K_7_ (by simp); have m2_ax_ : wH2_r5.cell? _ = some _ := gH2_r5.cell ax_ (by simp); have m2_ay_ : wH2_r5.cell? _ = some _ := gH2_r5.cell ay_ (by simp)
  go_wp2_with fail
  clear hHeld
  refine hK.out _ _ ?s1_r5_2 (fun hHeld => ?_)
  case s1_r5_2 => exact ⟨m2_A_0_, m2_A_1_, m2_K_0_, m2_K_1_, m2_K_2_, m2_K_3_, m2_K_4_, m2_K_5_, m2_K_6_, m2_K_7_, m2_ax_, m2_ay_⟩
  clear hK K
  try simp only [Act.put, List.setIfInBounds_toArray, List.set_cons_zero, List.set_cons_succ]
  refine wpAnyH_take (i := 2) (oi := { dst := some 14, op := Op.unOp UnOp.not 4 (Operand.tmp 13), type := 4, pos := "l14_credit.go:40", after := #[{ on := 1, ground := Ground.data }], guard := none }) (v := ?v2_r5_3) rfl (by kernel_rfl) (by kernel_rfl) (by kernel_rfl) (fun _ _ _ h => h) (Or.inl ⟨by rfl, ?y2_r5_3⟩) (by assumption) ?r2_r5_3
  case y2_r5_3 => (intro w hSw; (try dsimp only at hSw); go_simp; all_goals (with_reducible rfl))
  try simp only [Act.put, List.setIfInBounds_toArray, List.set_cons_zero, List.set_cons_succ]
  refine wpAnyH_take (i := 3) (oi := { dst := some 15, op := Op.move (Operand.tmp 14), type := 4, pos := "l14_credit.go:40", after := #[{ on := 2, ground := Ground.data }, { on := 1, ground := Ground.chain }], guard := none }) (v := ?v3_r5_4) rfl (by kernel_rfl) (by kernel_rfl) (by kernel_rfl) (fun _ _ _ h => h) (Or.inl ⟨by rfl, ?y3_r5_4⟩) (by assumption) ?r3_r5_4
  case y3_r5_4 => (intro w hSw; (try dsimp only at hSw); go_simp; all_goals (with_reducible rfl))
  try simp only [Act.put, List.setIfInBounds_toArray, List.set_cons_zero, List.set_cons_succ]
  refine wpAnyH_take (i := 4) (oi := { dst := some 16, op := Op.move (Operand.tmp 7), type := 3, pos := "l14_credit.go:40", after := #[{ on := 3, ground := Ground.guard }], guard := some (3, false) }) (v := ?v4_r5_5) rfl (by kernel_rfl) (by kernel_rfl) (by kernel_rfl) (fun _ _ _ h => h) (Or.inl ⟨by rfl, ?y4_r5_5⟩) (by assumption) ?r4_r5_5
  case y4_r5_5 => (intro w hSw; (try dsimp only at hSw); go_simp; all_goals (with_reducible rfl))
  try simp only [Act.put, List.setIfInBounds_toArray, List.set_cons_zero, List.set_cons_succ]
  refine wpAnyH_take (i := 5) (oi := { dst := some 17, op := Op.binOp BinOp.lss 3 (Operand.tmp 16) (Operand.const (Value.int IntKind.i64 0)) 3, type := 4, pos := "l14_credit.go:40", after := #[{ on := 4, ground := Ground.data }, { on := 3, ground := Ground.guard }], guard := some (3, false) }) (v := ?v5_r5_6) rfl (by kernel_rfl) (by kernel_rfl) (by kernel_rfl) (fun _ _ _ h => h) (Or.inl ⟨by rfl, ?y5_r5_6⟩) (by assumption) ?r5_r5_6
  case y5_r5_6 => (intro w hSw; (try dsimp only at hSw); go_simp; all_goals (with_reducible rfl))
  try simp only [Act.put, List.setIfInBounds_toArray, List.set_cons_zero, List.set_cons_succ]
  refine wpAnyH_take (i := 6) (oi := { dst := some 18, op := Op.pick (Operand.tmp 15) (Operand.const (Value.bool true)) (Operand.tmp 17), type := 4, pos := "l14_credit.go:40", after := #[{ on := 3, ground := Ground.data }, { on := 5, ground := Ground.data }], guard := none }) (v := ?v6_r5_7) rfl (by kernel_rfl) (by kernel_rfl) (by kernel_rfl) (fun _ _ _ h => h) (Or.inl ⟨by rfl, ?y6_r5_7⟩) (by assumption) ?r6_r5_7
  case y6_r5_7 => (intro w hSw; (try dsimp only at hSw); go_simp; all_goals (with_reducible rfl))
  try simp only [Act.put, List.setIfInBounds_toArray, List.set_cons_zero, List.set_cons_succ]
  refine wpAnyH_take (i := 7) (oi := { dst := some 19, op := Op.move (Operand.tmp 18), type := 4, pos := "l14_credit.go:40", after := #[{ on := 6, ground := Ground.data }, { on := 3, ground := Ground.chain }], guard := none }) (v := ?v7_r5_8) rfl (by kernel_rfl) (by kernel_rfl) (by kernel_rfl) (fun _ _ _ h => h) (Or.inl ⟨by rfl, ?y7_r5_8⟩) (by assumption) ?r7_r5_8
  case y7_r5_8 => (intro w hSw; (try dsimp only at hSw); go_simp; all_goals (with_reducible rfl))
  try simp only [Act.put, List.setIfInBounds_toArray, List.set_cons_zero, List.set_cons_succ]
  refine wpAnyH_take (i := 8) (oi := { dst := some 20, op := Op.fieldAddr 54 (Operand.tmp 2) 0, type := 0, pos := "l14_credit.go:40", after := #[{ on := 7, ground := Ground.guard }], guard := some (7, false) }) (v := ?v8_r5_9) rfl (by kernel_rfl) (by kernel_rfl) (by kernel_rfl) (fun _ _ _ h => h) (Or.inl ⟨by rfl, ?y8_r5_9⟩) (by assumption) ?r8_r5_9
  case y8_r5_9 => (intro w hSw; (try dsimp only at hSw); go_simp; all_goals (with_reducible rfl))
  try simp only [Act.put, List.setIfInBounds_toArray, List.set_cons_zero, List.set_cons_succ]
  refine wpAnyH_take (i := 9) (oi := { dst := some 21, op := Op.load 27 (Operand.tmp 20), type := 27, pos := "l14_credit.go:40", after := #[{ on := 8, ground := Ground.data }, { on := 7, ground := Ground.guard }], guard := some (7, false) }) (v := ?v9_r5_10) rfl (by kernel_rfl) (by kernel_rfl) (by kernel_rfl) (fun _ _ _ h => h) (Or.inl ⟨by rfl, ?y9_r5_10⟩) (by assumption) ?r9_r5_10
  case y9_r5_10 => (intro w hSw; (try dsimp only at hSw); go_simp; all_goals (with_reducible rfl))
  try simp only [Act.put, List.setIfInBounds_toArray, List.set_cons_zero, List.set_cons_succ]
  refine wpAnyH_take (i := 10) (oi := { dst := some 22, op := Op.move (Operand.tmp 7), type := 3, pos := "l14_credit.go:40", after := #[{ on := 7, ground := Ground.guard }], guard := some (7, false) }) (v := ?v10_r5_11) rfl (by kernel_rfl) (by kernel_rfl) (by kernel_rfl) (fun _ _ _ h => h) (Or.inl ⟨by rfl, ?y10_r5_11⟩) (by assumption) ?r10_r5_11
  case y10_r5_11 => (intro w hSw; (try dsimp only at hSw); go_simp; all_goals (with_reducible rfl))
  try simp only [Act.put, List.setIfInBounds_toArray, List.set_cons_zero, List.set_cons_succ]
  refine wpAnyH_take (i := 11) (oi := { dst := some 23, op := Op.indexAddr 27 (Operand.tmp 21) (Operand.tmp 22), type := 0, pos := "l14_credit.go:40", after := #[{ on := 9, ground := Ground.data }, { on := 10, ground := Ground.data }, { on := 7, ground := Ground.guard }], guard := some (7, false) }) (v := ?v11_r5_12) rfl (by kernel_rfl) (by kernel_rfl) (by kernel_rfl) (fun _ _ _ h => h) (Or.inl ⟨by rfl, ?y11_r5_12⟩) (by assumption) ?r11_r5_12
  case y11_r5_12 => (intro w hSw; (try dsimp only at hSw); go_simp; all_goals (with_reducible rfl))
  try simp only [Act.put, List.setIfInBounds_toArray, List.set_cons_zero, List.set_cons_succ]
  refine wpAnyH_take (i := 12) (oi := { dst := some 24, op := Op.load 3 (Operand.tmp 23), type := 3, pos := "l14_credit.go:40", after := #[{ on := 11, ground := Ground.data }, { on := 7, ground := Ground.guard }], guard := some (7, false) }) (v := ?v12_r5_13) rfl (by kernel_rfl) (by kernel_rfl) (by kernel_rfl) (fun _ _ _ h => h) (Or.inl ⟨by rfl, ?y12_r5_13⟩) (by assumption) ?r12_r5_13
  case y12_r5_13 => (intro w hSw; (try dsimp only at hSw); go_simp; all_goals (with_reducible rfl))
  try simp only [Act.put, List.setIfInBounds_toArray, List.set_cons_zero, List.set_cons_succ]
  refine wpAnyH_take (i := 13) (oi := { dst := some 25, op := Op.binOp BinOp.eql 3 (Operand.tmp 24) (Operand.const (Value.int IntKind.i64 30)) 3, type := 4, pos := "l14_credit.go:40", after := #[{ on := 12, ground := Ground.data }, { on := 7, ground := Ground.guard }], guard := some (7, false) }) (v := ?v13_r5_14) rfl (by kernel_rfl) (by kernel_rfl) (by kernel_rfl) (fun _ _ _ h => h) (Or.inl ⟨by rfl, ?y13_r5_14⟩) (by assumption) ?r13_r5_14
  case y13_r5_14 => (intro w hSw; (try dsimp only at hSw); go_simp; all_goals (with_reducible rfl))
  try simp only [Act.put, List.setIfInBounds_toArray, List.set_cons_zero, List.set_cons_succ]
  refine wpAnyH_take (i := 14) (oi := { dst := some 26, op := Op.pick (Operand.tmp 19) (Operand.const (Value.bool true)) (Operand.tmp 25), type := 4, pos := "l14_credit.go:40", after := #[{ on := 7, ground := Ground.data }, { on := 13, ground := Ground.data }], guard := none }) (v := ?v14_r5_15) rfl (by kernel_rfl) (by kernel_rfl) (by kernel_rfl) (fun _ _ _ h => h) (Or.inl ⟨by rfl, ?y14_r5_15⟩) (by assumption) ?r14_r5_15
  case y14_r5_15 => (intro w hSw; (try dsimp only at hSw); go_simp; all_goals (with_reducible rfl))
  try simp only [Act.put, List.setIfInBounds_toArray, List.set_cons_zero, List.set_cons_succ]
  refine wpAnyH_take (i := 15) (oi := { dst := some 27, op := Op.move (Operand.tmp 26), type := 4, pos := "l14_credit.go:40", after := #[{ on := 14, ground := Ground.data }, { on := 7, ground := Ground.chain }], guard := none }) (v := ?v15_r5_16) rfl (by kernel_rfl) (by kernel_rfl) (by kernel_rfl) (fun _ _ _ h => h) (Or.inl ⟨by rfl, ?y15_r5_16⟩) (by assumption) ?r15_r5_16
  case y15_r5_16 => (intro w hSw; (try dsimp only at hSw); go_simp; all_goals (with_reducible rfl))
  try simp only [Act.put, List.setIfInBounds_toArray, List.set_cons_zero, List.set_cons_succ]
  refine wpAnyH_take (i := 16) (oi := { dst := some 28, op := Op.fieldAddr 54 (Operand.tmp 2) 1, type := 0, pos := "l14_credit.go:40", after := #[{ on := 15, ground := Ground.guard }], guard := some (15, false) }) (v := ?v16_r5_17) rfl (by kernel_rfl) (by kernel_rfl) (by kernel_rfl) (fun _ _ _ h => h) (Or.inl ⟨by rfl, ?y16_r5_17⟩) (by assumption) ?r16_r5_17
  case y16_r5_17 => (intro w hSw; (try dsimp only at hSw); go_simp; all_goals (with_reducible rfl))
  try simp only [Act.put, List.setIfInBounds_toArray, List.set_cons_zero, List.set_cons_succ]
  refine wpAnyH_take (i := 17) (oi := { dst := some 29, op := Op.load 27 (Operand.tmp 28), type := 27, pos := "l14_credit.go:40", after := #[{ on := 16, ground := Ground.data }, { on := 15, ground := Ground.guard }], guard := some (15, false) }) (v := ?v17_r5_18) rfl (by kernel_rfl) (by kernel_rfl) (by kernel_rfl) (fun _ _ _ h => h) (Or.inl ⟨by rfl, ?y17_r5_18⟩) (by assumption) ?r17_r5_18
  case y17_r5_18 => (intro w hSw; (try dsimp only at hSw); go_simp; all_goals (with_reducible rfl))
  try simp only [Act.put, List.setIfInBounds_toArray, List.set_cons_zero, List.set_cons_succ]
  refine wpAnyH_take (i := 18) (oi := { dst := some 30, op := Op.move (Operand.tmp 7), type := 3, pos := "l14_credit.go:40", after := #[{ on := 15, ground := Ground.guard }], guard := some (15, false) }) (v := ?v18_r5_19) rfl (by kernel_rfl) (by kernel_rfl) (by kernel_rfl) (fun _ _ _ h => h) (Or.inl ⟨by rfl, ?y18_r5_19⟩) (by assumption) ?r18_r5_19
  case y18_r5_19 => (intro w hSw; (try dsimp only at hSw); go_simp; all_goals (with_reducible rfl))
  try simp only [Act.put, List.setIfInBounds_toArray, List.set_cons_zero, List.set_cons_succ]
  refine wpAnyH_take (i := 19) (oi := { dst := some 31, op := Op.indexAddr 27 (Operand.tmp 29) (Operand.tmp 30), type := 0, pos := "l14_credit.go:40", after := #[{ on := 17, ground := Ground.data }, { on := 18, ground := Ground.data }, { on := 15, ground := Ground.guard }], guard := some (15, false) }) (v := ?v19_r5_20) rfl (by kernel_rfl) (by kernel_rfl) (by kernel_rfl) (fun _ _ _ h => h) (Or.inl ⟨by rfl, ?y19_r5_20⟩) (by assumption) ?r19_r5_20
  case y19_r5_20 => (intro w hSw; (try dsimp only at hSw); go_simp; all_goals (with_reducible rfl))
  try simp only [Act.put, List.setIfInBounds_toArray, List.set_cons_zero, List.set_cons_succ]
  refine wpAnyH_take (i := 20) (oi := { dst := some 32, op := Op.load 3 (Operand.tmp 31), type := 3, pos := "l14_credit.go:40", after := #[{ on := 19, ground := Ground.data }, { on := 15, ground := Ground.guard }], guard := some (15, false) }) (v := ?v20_r5_21) rfl (by kernel_rfl) (by kernel_rfl) (by kernel_rfl) (fun _ _ _ h => h) (Or.inl ⟨by rfl, ?y20_r5_21⟩) (by assumption) ?r20_r5_21
  case y20_r5_21 => (intro w hSw; (try dsimp only at hSw); go_simp; all_goals (with_reducible rfl))
  try simp only [Act.put, List.setIfInBounds_toArray, List.set_cons_zero, List.set_cons_succ]
  refine wpAnyH_take (i := 21) (oi := { dst := some 33, op := Op.load 29 (Operand.tmp 3), type := 29, pos := "l14_credit.go:40", after := #[{ on := 15, ground := Ground.guard }], guard := some (15, false) }) (v := ?v21_r5_22) rfl (by kernel_rfl) (by kernel_rfl) (by kernel_rfl) (fun _ _ _ h => h) (Or.inl ⟨by rfl, ?y21_r5_22⟩) (by assumption) ?r21_r5_22
  case y21_r5_22 => (intro w hSw; (try dsimp only at hSw); go_simp; all_goals (with_reducible rfl))
  try simp only [Act.put, List.setIfInBounds_toArray, List.set_cons_zero, List.set_cons_succ]
  refine wpAnyH_ready (rs := [22]) (by kernel_rfl) (by simp) ?_
  refine AllReadyH.cons (o := { dst := some 34, op := Op.call { callee := Callee.value (Operand.func 85), args := #[Operand.tmp 33], argTypes := #[29] }, type := 3, pos := "l14_credit.go:40", after := #[{ on := 21, ground := Ground.data }, { on := 15, ground := Ground.chain }, { on := 15, ground := Ground.guard }], guard := some (15, false) }) rfl (fun K hK => ?_) AllReadyH.nil
  go_simp
  go_at_call 85
  refine (HUN.out _ _ (HP.out.grow (gby_trans HG9.out (gby_trans (gby_drew (gby_refl _ none)) gH2_r5)))).mono ?_
  rintro e wH23_r5 ⟨rfl, gH23_r5⟩
  have m23_A_0_ : wH23_r5.cell? _ = some _ := gH23_r5.cell m2_A_0_ (by simp); have m23_A_1_ : wH23_r5.cell? _ = some _ := gH23_r5.cell m2_A_1_ (by simp); have m23_K_0_ : wH23_r5.cell? _ = some _ := gH23_r5.cell m2_K_0_ (by simp); have m23_K_1_ : wH23_r5.cell? _ = some _ := gH23_r5.cell m2_K_1_ (by simp); have m23_K_2_ : wH23_r5.cell? _ = some _ := gH23_r5.cell m2_K_2_ (by simp); have m23_K_3_ : wH23_r5.cell? _ = some _ := gH23_r5.cell m2_K_3_ (by simp); have m23_K_4_ : wH23_r5.cell? _ = some _ := gH23_r5.cell m2_K_4_ (by simp); have m23_K_5_ : wH23_r5.cell? _ = some _ := gH23_r5.cell m2_K_5_ (by simp); have m23_K_6_ : wH23_r5.cell? _ = some _ := gH23_r5.cell m2_K_6_ (by simp); have m23_K_7_ : wH23_r5.cell? _ = some _ := gH23_r5.cell m2_K_7_ (by simp); have m23_ax_ : wH23_r5.cell? _ = some _ := gH23_r5.cell m2_ax_ (by simp); have m23_ay_ : wH23_r5.cell? _ = some _ := gH23_r5.cell m2_ay_ (by simp)
  go_wp2_with fail
  clear hHeld
  refine hK.out _ _ ?s22_r5_23 (fun hHeld => ?_)
  case s22_r5_23 => exact ⟨m23_A_0_, m23_A_1_, m23_K_0_, m23_K_1_, m23_K_2_, m23_K_3_, m23_K_4_, m23_K_5_, m23_K_6_, m23_K_7_, m23_ax_, m23_ay_⟩
  clear hK K
  try simp only [Act.put, List.setIfInBounds_toArray, List.set_cons_zero, List.set_cons_succ]
  refine wpAnyH_take (i := 23) (oi := { dst := some 35, op := Op.binOp BinOp.add 3 (Operand.tmp 32) (Operand.tmp 34) 3, type := 3, pos := "l14_credit.go:40", after := #[{ on := 20, ground := Ground.data }, { on := 22, ground := Ground.data }, { on := 15, ground := Ground.guard }], guard := some (15, false) }) (v := ?v23_r5_24) rfl (by kernel_rfl) (by kernel_rfl) (by kernel_rfl) (fun _ _ _ h => h) (Or.inl ⟨by rfl, ?y23_r5_24⟩) (by assumption) ?r23_r5_24
  case y23_r5_24 => (intro w hSw; (try dsimp only at hSw); go_simp; all_goals (with_reducible rfl))
  try simp only [Act.put, List.setIfInBounds_toArray, List.set_cons_zero, List.set_cons_succ]
  refine wpAnyH_take (i := 24) (oi := { dst := some 36, op := Op.binOp BinOp.gtr 3 (Operand.tmp 35) (Operand.const (Value.int IntKind.i64 30)) 3, type := 4, pos := "l14_credit.go:40", after := #[{ on := 23, ground := Ground.data }, { on := 15, ground := Ground.guard }], guard := some (15, false) }) (v := ?v24_r5_25) rfl (by kernel_rfl) (by kernel_rfl) (by kernel_rfl) (fun _ _ _ h => h) (Or.inl ⟨by rfl, ?y24_r5_25⟩) (by assumption) ?r24_r5_25
  case y24_r5_25 => (intro w hSw; (try dsimp only at hSw); go_simp; all_goals (with_reducible rfl))
  try simp only [Act.put, List.setIfInBounds_toArray, List.set_cons_zero, List.set_cons_succ]
  refine wpAnyH_take (i := 25) (oi := { dst := some 37, op := Op.pick (Operand.tmp 27) (Operand.const (Value.bool true)) (Operand.tmp 36), type := 4, pos := "l14_credit.go:40", after := #[{ on := 15, ground := Ground.data }, { on := 24, ground := Ground.data }], guard := none }) (v := ?v25_r5_26) rfl (by kernel_rfl) (by kernel_rfl) (by kernel_rfl) (fun _ _ _ h => h) (Or.inl ⟨by rfl, ?y25_r5_26⟩) (by assumption) ?r25_r5_26
  case y25_r5_26 => (intro w hSw; (try dsimp only at hSw); go_simp; all_goals (with_reducible rfl))
  try simp only [Act.put, List.setIfInBounds_toArray, List.set_cons_zero, List.set_cons_succ]
  refine wpAnyH_done (by kernel_rfl) ?_ _
  have gR_ : (w2).grownBy (wH23_r5) none := (gby_trans (gby_trans (gby_drew (gby_refl _ none)) gH2_r5) gH23_r5)
  have szwH23_r5 := gR_.size
  try simp only [World.size_alloc] at szwH23_r5
  clear A_0_ A_1_ K_0_ K_1_ K_2_ K_3_ K_4_ K_5_ K_6_ K_7_
  have rA22_ := Lib.hid (show (wH23_r5).heap[W.heap.size]? = some (.cells #[.slice (some ⟨ab, ao, none⟩) 3 c0, .slice (some ⟨bb, bo, none⟩) 3 c1] 54 (0, 0)) from row_held gR_ rA16_.out)
  clear rA16_
  have rK23_ := Lib.hid (show (wH23_r5).heap[W.heap.size + 1]? = some (.cells #[.int .i64 p.f0, .int .i64 p.f1, .int .i64 p.f2, .int .i64 p.f3, .int .i64 p.f4, .int .i64 p.f5, .int .i64 p.f6, vp] 29 (0, 0)) from row_held gR_ rK17_.out)
  clear rK17_
  have rR24_ := Lib.hid (show (wH23_r5).heap[W.heap.size + 1 + 1]? = some (.cells #[.slice none 0 0, .slice none 0 0] 54 (0, 0)) from row_held gR_ rR18_.out)
  clear rR18_
  have rX25_ := Lib.hid (show (wH23_r5).heap[w1.heap.size]? = some (.cells #[.slice q0 m0 d0, .slice q1 m1 d1] 54 (0, 0)) from row_held gR_ rX19_.out)
  clear rX19_
  have oC26_ := Lib.hid (show OwU (wH23_r5) ((W.heap.size + 1 + 1 + 1)) (w1.heap.size) [] [own shI (.slice q0 m0 d0) xs, own shI (.slice q1 m1 d1) ys] from OwU.grow oC20_.out gR_)
  clear oC20_
  have G27_ := Lib.hid (show (W).grownBy (wH23_r5) none from gby_trans G21_.out gR_)
  clear gR_
  obtain ⟨b0, o0, e0_, hv0, l0, h0, ce0, fr0, st0⟩ := cset1 oC26_.out k (by omega)
  obtain ⟨b1, o1, e1_, hv1, l1, h1, _, _, _⟩ := cset2 oC26_.out k (by omega)
  injection hv0 with v0a v0b v0c
  injection hv1 with v1a v1b v1c
  have v0d := v0b.trans hxl
  have v1d := v1b.trans hyl
  subst v0a v0c v1a v1c
  clear v0b v1b
  subst v0d v1d
  rw [← HX.out] at ce0
  have hk0 : (0 : Int) ≤ (k : Int) := by omega
  have htk : ((k : Int)).toNat = k := by omega
  have hkx : (k : Int) < (xs.length : Int) := by omega
  have hky : (k : Int) < (ys.length : Int) := by omega
  have hk3i : (k : Int) < 3 := by omega
  have w1_ : IntKind.i64.wrap (x + 1) = x + 1 := IntWalk.i64_in _ (by omega)
  have w2_ : IntKind.i64.wrap (y + u) = y + u := IntWalk.i64_in _ (by omega)
  have HS0 := Lib.hid (st0 (x + 1))
  clear st0
  have n0a_ : ¬ w1.heap.size = b0 := by omega
  have n0b_ : ¬ b0 = w1.heap.size := by omega
  have n1a_ : ¬ w1.heap.size = b1 := by omega
  have n1b_ : ¬ b1 = w1.heap.size := by omega
  have n2a_ : ¬ W.heap.size + 1 = b0 := by omega
  have n2b_ : ¬ b0 = W.heap.size + 1 := by omega
  have n3a_ : ¬ W.heap.size + 1 = b1 := by omega
  have n3b_ : ¬ b1 = W.heap.size + 1 := by omega
  have n4a_ : ¬ W.heap.size + 1 + 1 = b0 := by omega
  have n4b_ : ¬ b0 = W.heap.size + 1 + 1 := by omega
  have n5a_ : ¬ W.heap.size + 1 + 1 = b1 := by omega
  have n5b_ : ¬ b1 = W.heap.size + 1 + 1 := by omega
  have nXR : ¬ w1.heap.size = W.heap.size + 1 + 1 := by omega
  have nRX : ¬ W.heap.size + 1 + 1 = w1.heap.size := by omega
  have X_0_ : (wH23_r5).cell? ⟨w1.heap.size, 0, none⟩ = some (.slice (some ⟨b0, o0, none⟩) 3 d0) := cell_of_row _ _ 0 _ _ _ rX25_.out
  have X_1_ : (wH23_r5).cell? ⟨w1.heap.size, 1, none⟩ = some (.slice (some ⟨b1, o1, none⟩) 3 d1) := cell_of_row _ _ 1 _ _ _ rX25_.out
  go_wp2_with fail
  go_still_tail 10, (by kernel_rfl)
  change wpList _ _ _ _ _ (wH23_r5).drew
  have gd_ : (wH23_r5).grownBy (wH23_r5).drew none := gby_drew (gby_refl _ _)
  have cd_ : (wH23_r5).drew.cell? ⟨b0, o0 + k, none⟩ = some (.int .i64 x) := ce0
  have fd_ : (wH23_r5).drew.frozen? ⟨b0, o0 + k, none⟩ = false := fr0
  have HS0d := Lib.hid (show OwU ((wH23_r5).drew.setCell ⟨b0, o0 + k, none⟩ (.int .i64 (x + 1))) (W.heap.size + 1 + 1 + 1) (w1.heap.size) [] [own shI (.slice (some ⟨b0, o0, none⟩) 3 d0) (xs.set k (x + 1)), own shI (.slice (some ⟨b1, o1, none⟩) 3 d1) ys] from HS0.out)
  clear ce0 fr0 HS0
  generalize (wH23_r5).drew = wd1 at gd_ cd_ fd_ HS0d ⊢
  have szwd1 := gd_.size
  try simp only [World.size_setCell, World.size_alloc] at szwd1
  have rA28_ := Lib.hid (show (wd1).heap[W.heap.size]? = some (.cells #[.slice (some ⟨ab, ao, none⟩) 3 c0, .slice (some ⟨bb, bo, none⟩) 3 c1] 54 (0, 0)) from row_held gd_ rA22_.out)
  clear rA22_
  have rK29_ := Lib.hid (show (wd1).heap[W.heap.size + 1]? = some (.cells #[.int .i64 p.f0, .int .i64 p.f1, .int .i64 p.f2, .int .i64 p.f3, .int .i64 p.f4, .int .i64 p.f5, .int .i64 p.f6, vp] 29 (0, 0)) from row_held gd_ rK23_.out)
  clear rK23_
  have rR30_ := Lib.hid (show (wd1).heap[W.heap.size + 1 + 1]? = some (.cells #[.slice none 0 0, .slice none 0 0] 54 (0, 0)) from row_held gd_ rR24_.out)
  clear rR24_
  have rX31_ := Lib.hid (show (wd1).heap[w1.heap.size]? = some (.cells #[.slice (some ⟨b0, o0, none⟩) 3 d0, .slice (some ⟨b1, o1, none⟩) 3 d1] 54 (0, 0)) from row_held gd_ rX25_.out)
  clear rX25_
  have G32_ := Lib.hid (show (W).grownBy (wd1) none from gby_trans G27_.out gd_)
  clear gd_
  have X_0_ : (wd1).cell? ⟨w1.heap.size, 0, none⟩ = some (.slice (some ⟨b0, o0, none⟩) 3 d0) := cell_of_row _ _ 0 _ _ _ rX31_.out
  have X_1_ : (wd1).cell? ⟨w1.heap.size, 1, none⟩ = some (.slice (some ⟨b1, o1, none⟩) 3 d1) := cell_of_row _ _ 1 _ _ _ rX31_.out
  go_wp2_with fail
  clear X_0_ X_1_
  clear cd_ fd_
  have sz9_ : ((wd1.setCell ⟨b0, o0 + k, none⟩ (.int .i64 (x + 1)))).heap.size = wd1.heap.size := by simp only [World.size_setCell]
  have RX_ := Lib.hid (show ((wd1.setCell ⟨b0, o0 + k, none⟩ (.int .i64 (x + 1)))).heap[w1.heap.size]? = some (.cells #[.slice (some ⟨b0, o0, none⟩) 3 d0, .slice (some ⟨b1, o1, none⟩) 3 d1] 54 (0, 0)) from set_far rX31_.out (by dsimp only; omega))
  have RK_ := Lib.hid (show ((wd1.setCell ⟨b0, o0 + k, none⟩ (.int .i64 (x + 1)))).heap[W.heap.size + 1]? = some (.cells #[.int .i64 p.f0, .int .i64 p.f1, .int .i64 p.f2, .int .i64 p.f3, .int .i64 p.f4, .int .i64 p.f5, .int .i64 p.f6, vp] 29 (0, 0)) from set_far rK29_.out (by dsimp only; omega))
  have RR_ := Lib.hid (show ((wd1.setCell ⟨b0, o0 + k, none⟩ (.int .i64 (x + 1)))).heap[W.heap.size + 1 + 1]? = some (.cells #[.slice none 0 0, .slice none 0 0] 54 (0, 0)) from set_far rR30_.out (by dsimp only; omega))
  have GW_ := Lib.hid (show W.grownBy ((wd1.setCell ⟨b0, o0 + k, none⟩ (.int .i64 (x + 1)))) none from gby_setnew G32_.out _ (by dsimp only; omega) _)
  generalize (wd1.setCell ⟨b0, o0 + k, none⟩ (.int .i64 (x + 1))) = w9 at HS0d sz9_ RX_ RK_ RR_ GW_ ⊢
  obtain ⟨b2, o2, c2, hv2, l2, h2, ce1, fr1, st1⟩ := cset2 HS0d.out k (by omega)
  injection hv2 with q1_ q2_ q3_
  injection q1_ with q1_
  injection q1_ with q4_ q5_ _
  subst q4_ q5_
  clear q2_ q3_ st1
  rw [← HY.out] at ce1
  have hb1w : b1 < w9.heap.size := World.block_lt_of_cell? _ _ ce1
  have hRK := RK_.out
  have hRX := RX_.out
  have k0_ : w9.cell? ⟨W.heap.size + 1, 0, none⟩ = some (.int .i64 p.f0) := cell_of_row _ _ 0 _ _ _ hRK
  have k1_ : w9.cell? ⟨W.heap.size + 1, 1, none⟩ = some (.int .i64 p.f1) := cell_of_row _ _ 1 _ _ _ hRK
  have k2_ : w9.cell? ⟨W.heap.size + 1, 2, none⟩ = some (.int .i64 p.f2) := cell_of_row _ _ 2 _ _ _ hRK
  have k3_ : w9.cell? ⟨W.heap.size + 1, 3, none⟩ = some (.int .i64 p.f3) := cell_of_row _ _ 3 _ _ _ hRK
  have k4_ : w9.cell? ⟨W.heap.size + 1, 4, none⟩ = some (.int .i64 p.f4) := cell_of_row _ _ 4 _ _ _ hRK
  have k5_ : w9.cell? ⟨W.heap.size + 1, 5, none⟩ = some (.int .i64 p.f5) := cell_of_row _ _ 5 _ _ _ hRK
  have k6_ : w9.cell? ⟨W.heap.size + 1, 6, none⟩ = some (.int .i64 p.f6) := cell_of_row _ _ 6 _ _ _ hRK
  have k7_ : w9.cell? ⟨W.heap.size + 1, 7, none⟩ = some (vp) := cell_of_row _ _ 7 _ _ _ hRK
  have x0_ : w9.cell? ⟨w1.heap.size, 0, none⟩ = some (.slice (some ⟨b0, o0, none⟩) 3 d0) := cell_of_row _ _ 0 _ _ _ hRX
  have x1_ : w9.cell? ⟨w1.heap.size, 1, none⟩ = some (.slice (some ⟨b1, o1, none⟩) 3 d1) := cell_of_row _ _ 1 _ _ _ hRX
  clear hRK hRX
  have HP9 := Lib.hid (HP.out.grow (gby_drew GW_.out))
  go_wp2_with fail
  apply wp_at (R := fun w' => ∃ wA : World, w' = wA.setCell ⟨b1, o1 + k, none⟩ (.int .i64 (y + u)) ∧ w9.grownBy wA none)
  case hreg =>
    go_region_law (first
      | (go_simp; go_at_call 85; refine (HUN.out _ _ HP9.out).mono ?_; rintro e wA ⟨rfl, gA⟩; have a0_ : wA.cell? ⟨w1.heap.size, 0, none⟩ = some (.slice (some ⟨b0, o0, none⟩) 3 d0) := (gby_trans (gby_drew (gby_refl w9 none)) gA).cell x0_ (by simp); have a1_ : wA.cell? ⟨w1.heap.size, 1, none⟩ = some (.slice (some ⟨b1, o1, none⟩) 3 d1) := (gby_trans (gby_drew (gby_refl w9 none)) gA).cell x1_ (by simp); have ae_ : wA.cell? ⟨b1, o1 + k, none⟩ = some (.int .i64 y) := (gby_trans (gby_drew (gby_refl w9 none)) gA).cell ce1 (by simp); have af_ : wA.frozen? ⟨b1, o1 + k, none⟩ = false := ((gby_trans (gby_drew (gby_refl w9 none)) gA).frozen_far ⟨b1, o1 + k, none⟩ hb1w (by simp)).trans fr1; have HGA := Lib.hid (gby_trans (gby_drew (gby_refl w9 none)) gA))
      | fail)
    all_goals exact ⟨rfl, wA, rfl, HGA.out⟩
  rintro w' ⟨wA, rfl, hga_⟩
  have HGA := Lib.hid hga_
  clear hga_
  obtain ⟨b3, o3, c3, hv3, l3, h3, _, _, st3⟩ := cset2 (HS0d.out.grow HGA.out) k (by omega)
  injection hv3 with q1_ q2_ q3_
  injection q1_ with q1_
  injection q1_ with q4_ q5_ _
  subst q4_ q5_
  clear q2_ q3_
  have HS1 := Lib.hid (st3 (y + u))
  clear st3
  have szA_ := HGA.out.size
  have RXA := Lib.hid (show ((wA.setCell ⟨b1, o1 + k, none⟩ (.int .i64 (y + u)))).heap[w1.heap.size]? = some (.cells #[.slice (some ⟨b0, o0, none⟩) 3 d0, .slice (some ⟨b1, o1, none⟩) 3 d1] 54 (0, 0)) from set_far (row_held HGA.out RX_.out) (by dsimp only; omega))
  have RRA := Lib.hid (show ((wA.setCell ⟨b1, o1 + k, none⟩ (.int .i64 (y + u)))).heap[W.heap.size + 1 + 1]? = some (.cells #[.slice none 0 0, .slice none 0 0] 54 (0, 0)) from set_far (row_held HGA.out RR_.out) (by dsimp only; omega))
  have GWA := Lib.hid (show W.grownBy ((wA.setCell ⟨b1, o1 + k, none⟩ (.int .i64 (y + u)))) none from gby_setnew (gby_trans GW_.out HGA.out) _ (by dsimp only; omega) _)
  have szB_ : ((wA.setCell ⟨b1, o1 + k, none⟩ (.int .i64 (y + u)))).heap.size = wA.heap.size := by simp only [World.size_setCell]
  generalize (wA.setCell ⟨b1, o1 + k, none⟩ (.int .i64 (y + u))) = wF at HS1 RXA RRA GWA szB_ ⊢
  have G33_ := Lib.hid (show (W).grownBy (wF) none from GWA.out)
  have X_0_ : (wF).cell? ⟨w1.heap.size, 0, none⟩ = some (.slice (some ⟨b0, o0, none⟩) 3 d0) := cell_of_row _ _ 0 _ _ _ RXA.out
  have X_1_ : (wF).cell? ⟨w1.heap.size, 1, none⟩ = some (.slice (some ⟨b1, o1, none⟩) 3 d1) := cell_of_row _ _ 1 _ _ _ RXA.out
  have R_0_ : (wF).cell? ⟨W.heap.size + 1 + 1, 0, none⟩ = some (.slice none 0 0) := cell_of_row _ _ 0 _ _ _ RRA.out
  have R_1_ : (wF).cell? ⟨W.heap.size + 1 + 1, 1, none⟩ = some (.slice none 0 0) := cell_of_row _ _ 1 _ _ _ RRA.out
  clear X_0_ X_1_ R_0_ R_1_
  have X_0_ : (wF).cell? ⟨w1.heap.size, 0, none⟩ = some (.slice (some ⟨b0, o0, none⟩) 3 d0) := cell_of_row _ _ 0 _ _ _ RXA.out
  have X_1_ : (wF).cell? ⟨w1.heap.size, 1, none⟩ = some (.slice (some ⟨b1, o1, none⟩) 3 d1) := cell_of_row _ _ 1 _ _ _ RXA.out
  have R_0_ : (wF).cell? ⟨W.heap.size + 1 + 1, 0, none⟩ = some (.slice none 0 0) := cell_of_row _ _ 0 _ _ _ RRA.out
  have R_1_ : (wF).cell? ⟨W.heap.size + 1 + 1, 1, none⟩ = some (.slice none 0 0) := cell_of_row _ _ 1 _ _ _ RRA.out
  have Rf0_ : (wF).frozen? ⟨W.heap.size + 1 + 1, 0, none⟩ = false := frozen_of_row _ _ 0 _ _ RRA.out
  have Rf1_ : (wF).frozen? ⟨W.heap.size + 1 + 1, 1, none⟩ = false := frozen_of_row _ _ 1 _ _ RRA.out
  have zr_ := Lib.hid (show (((wF.setCell ⟨W.heap.size + 1 + 1, 0, none⟩ (.slice (some ⟨b0, o0, none⟩) 3 d0)).setCell ⟨W.heap.size + 1 + 1, 1, none⟩ (.slice (some ⟨b1, o1, none⟩) 3 d1))).heap[W.heap.size + 1 + 1]? = some (.cells #[.slice (some ⟨b0, o0, none⟩) 3 d0, .slice (some ⟨b1, o1, none⟩) 3 d1] 54 (0, 0)) from (heap_setCell_same _ _ 1 _ _ _ (heap_setCell_same _ _ 0 _ _ _ RRA.out)))
  have z0_ : (((wF.setCell ⟨W.heap.size + 1 + 1, 0, none⟩ (.slice (some ⟨b0, o0, none⟩) 3 d0)).setCell ⟨W.heap.size + 1 + 1, 1, none⟩ (.slice (some ⟨b1, o1, none⟩) 3 d1))).cell? ⟨W.heap.size + 1 + 1, 0, none⟩ = some (.slice (some ⟨b0, o0, none⟩) 3 d0) := cell_of_row _ _ 0 _ _ _ zr_.out
  have z1_ : (((wF.setCell ⟨W.heap.size + 1 + 1, 0, none⟩ (.slice (some ⟨b0, o0, none⟩) 3 d0)).setCell ⟨W.heap.size + 1 + 1, 1, none⟩ (.slice (some ⟨b1, o1, none⟩) 3 d1))).cell? ⟨W.heap.size + 1 + 1, 1, none⟩ = some (.slice (some ⟨b1, o1, none⟩) 3 d1) := cell_of_row _ _ 1 _ _ _ zr_.out
  go_wp2
  refine bodyPost_ret (v := .tuple #[.agg #[.slice (some ⟨b0, o0, none⟩) 3 d0, .slice (some ⟨b1, o1, none⟩) 3 d1], .bool true]) (by simp [results, go_sem, z0_, z1_]) rfl ⟨_, _, rfl, ?_, ?_⟩
  · exact OwU.wide (lo := W.heap.size + 1 + 1 + 1) (by omega) (by simp only [World.size_setCell]; omega) (OwU.keep (chg_one _ _ _ _) (.inr (by omega)) (OwU.keep (chg_one _ _ _ _) (.inr (by omega)) HS1.out))
  · exact (gby_setnew (gby_setnew G33_.out _ (by dsimp only; omega) _) _ (by dsimp only; omega) _)

end Go.Proofs.Ytgagbhkidponnac
