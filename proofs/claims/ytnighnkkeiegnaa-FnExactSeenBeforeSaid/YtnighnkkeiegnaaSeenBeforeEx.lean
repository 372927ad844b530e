/-
  The walk of FnExactSeenBefore: at every argument the program answers as its model and writes nothing that was there, and its answer owns its memory.
-/
import Derived.Test.YtnighnkkeiegnaaQPacket
import Derived.Test.YtnighnkkeiegnaaQSPacket
import Derived.Test.YtnighnkkeiegnaaRSeenBefore
import Derived.WalkKit
import Derived.Deep.RegionHeld3
import Derived.Below
namespace Go.Proofs.Ytnighnkkeiegnaa
open Go Go.RowKit

set_option maxRecDepth 8000 in
set_option maxHeartbeats 16000000 in
theorem walk_exactSeenBefore_of (both : ∀ (xs0 : List DPacket) (i1_0 : Int) (i1_1 : Int) (i1_2 : Int) (i1_3 : Int) (i1_4 : Int) (i1_5 : Int) (i1_6 : Int) (xs1_7 : List Int), szL shPacket xs0 ≤ 1048576 → szL shI xs1_7 ≤ 1048576 → ∃ (xsr0 : List DPacket), szL shPacket xsr0 ≤ 1048576 ∧ (∀ (W : World), ∀ u0 u1_7, RdL shPacket W u0 xs0 → RdL shI W u1_7 xs1_7 → Calls Try.prog 54 #[u0, .agg #[.int .i64 i1_0, .int .i64 i1_1, .int .i64 i1_2, .int .i64 i1_3, .int .i64 i1_4, .int .i64 i1_5, .int .i64 i1_6, u1_7]] W (ResSSeenBefore xsr0 W)) ∧ ∀ (W : World), ∀ u0 u1_7, RdL shPacket W u0 xs0 → RdL shI W u1_7 xs1_7 → Calls Try.prog 55 #[u0, .agg #[.int .i64 i1_0, .int .i64 i1_1, .int .i64 i1_2, .int .i64 i1_3, .int .i64 i1_4, .int .i64 i1_5, .int .i64 i1_6, u1_7]] W (ResISeenBefore xsr0 W))
    (W : World) (a0 : Value) (xs0 : List DPacket) (i1_0 : Int) (i1_1 : Int) (i1_2 : Int) (i1_3 : Int) (i1_4 : Int) (i1_5 : Int) (i1_6 : Int) (a1_7 : Value) (xs1_7 : List Int) (H0 : RdL shPacket W a0 xs0) (H1_7 : RdL shI W a1_7 xs1_7) :
    Calls Try.prog 13 #[a0, .agg #[.int .i64 i1_0, .int .i64 i1_1, .int .i64 i1_2, .int .i64 i1_3, .int .i64 i1_4, .int .i64 i1_5, .int .i64 i1_6, a1_7]] W fun e w' => e = .returned (.bool true) ∧ Below W.heap.size W w' := by
  have HI0 := Lib.hid H0
  have hmx0 := H0.max
  clear H0
  have HI1_7 := Lib.hid H1_7
  have hmx1_7 := H1_7.max
  clear H1_7
  by_cases hs0 : (1048576 : Int) < (((szL shPacket xs0) : Nat) : Int)
  · have hneg : (-1 : Int) < 0 := by omega
    go_enter Try.func13, Try.ntmps13
    have rA11_ := Lib.hid (show ((W.alloc (.cells #[.int .i64 i1_0, .int .i64 i1_1, .int .i64 i1_2, .int .i64 i1_3, .int .i64 i1_4, .int .i64 i1_5, .int .i64 i1_6, a1_7] 57))).heap[W.heap.size]? = some (.cells #[.int .i64 i1_0, .int .i64 i1_1, .int .i64 i1_2, .int .i64 i1_3, .int .i64 i1_4, .int .i64 i1_5, .int .i64 i1_6, a1_7] 57 (0, 0)) from by exact heap_alloc_new _ _)
    have G2_ := Lib.hid (show (W).grownBy ((W.alloc (.cells #[.int .i64 i1_0, .int .i64 i1_1, .int .i64 i1_2, .int .i64 i1_3, .int .i64 i1_4, .int .i64 i1_5, .int .i64 i1_6, a1_7] 57))) none from (gby_alloc (gby_refl _ _) _))
    have A1_0_ : ((W.alloc (.cells #[.int .i64 i1_0, .int .i64 i1_1, .int .i64 i1_2, .int .i64 i1_3, .int .i64 i1_4, .int .i64 i1_5, .int .i64 i1_6, a1_7] 57))).cell? ⟨W.heap.size, 0, none⟩ = some (.int .i64 i1_0) := cell_of_row _ _ 0 _ _ _ rA11_.out
    have A1_1_ : ((W.alloc (.cells #[.int .i64 i1_0, .int .i64 i1_1, .int .i64 i1_2, .int .i64 i1_3, .int .i64 i1_4, .int .i64 i1_5, .int .i64 i1_6, a1_7] 57))).cell? ⟨W.heap.size, 1, none⟩ = some (.int .i64 i1_1) := cell_of_row _ _ 1 _ _ _ rA11_.out
    have A1_2_ : ((W.alloc (.cells #[.int .i64 i1_0, .int .i64 i1_1, .int .i64 i1_2, .int .i64 i1_3, .int .i64 i1_4, .int .i64 i1_5, .int .i64 i1_6, a1_7] 57))).cell? ⟨W.heap.size, 2, none⟩ = some (.int .i64 i1_2) := cell_of_row _ _ 2 _ _ _ rA11_.out
    have A1_3_ : ((W.alloc (.cells #[.int .i64 i1_0, .int .i64 i1_1, .int .i64 i1_2, .int .i64 i1_3, .int .i64 i1_4, .int .i64 i1_5, .int .i64 i1_6, a1_7] 57))).cell? ⟨W.heap.size, 3, none⟩ = some (.int .i64 i1_3) := cell_of_row _ _ 3 _ _ _ rA11_.out
    have A1_4_ : ((W.alloc (.cells #[.int .i64 i1_0, .int .i64 i1_1, .int .i64 i1_2, .int .i64 i1_3, .int .i64 i1_4, .int .i64 i1_5, .int .i64 i1_6, a1_7] 57))).cell? ⟨W.heap.size, 4, none⟩ = some (.int .i64 i1_4) := cell_of_row _ _ 4 _ _ _ rA11_.out
    have A1_5_ : ((W.alloc (.cells #[.int .i64 i1_0, .int .i64 i1_1, .int .i64 i1_2, .int .i64 i1_3, .int .i64 i1_4, .int .i64 i1_5, .int .i64 i1_6, a1_7] 57))).cell? ⟨W.heap.size, 5, none⟩ = some (.int .i64 i1_5) := cell_of_row _ _ 5 _ _ _ rA11_.out
    have A1_6_ : ((W.alloc (.cells #[.int .i64 i1_0, .int .i64 i1_1, .int .i64 i1_2, .int .i64 i1_3, .int .i64 i1_4, .int .i64 i1_5, .int .i64 i1_6, a1_7] 57))).cell? ⟨W.heap.size, 6, none⟩ = some (.int .i64 i1_6) := cell_of_row _ _ 6 _ _ _ rA11_.out
    have A1_7_ : ((W.alloc (.cells #[.int .i64 i1_0, .int .i64 i1_1, .int .i64 i1_2, .int .i64 i1_3, .int .i64 i1_4, .int .i64 i1_5, .int .i64 i1_6, a1_7] 57))).cell? ⟨W.heap.size, 7, none⟩ = some (a1_7) := cell_of_row _ _ 7 _ _ _ rA11_.out
    go_wp2_with fail
    go_at_call 21
    refine (szPacketS_d _ 1048576 a0 xs0 (HI0.out.grow G2_.out) (by omega) (by omega)).mono ?_
    rintro e w1 ⟨he, g⟩
    rw [show lessN 1048576 (szL shPacket xs0) = -1 from if_pos hs0] at he
    subst he
    clear A1_0_ A1_1_ A1_2_ A1_3_ A1_4_ A1_5_ A1_6_ A1_7_
    have rA13_ := Lib.hid (show (w1).heap[W.heap.size]? = some (.cells #[.int .i64 i1_0, .int .i64 i1_1, .int .i64 i1_2, .int .i64 i1_3, .int .i64 i1_4, .int .i64 i1_5, .int .i64 i1_6, a1_7] 57 (0, 0)) from row_held g rA11_.out)
    clear rA11_
    have G4_ := Lib.hid (show (W).grownBy (w1) none from gby_trans G2_.out g)
    clear g
    go_wp2
    go_ret
    exact ⟨rfl, gby_below G4_.out⟩
  obtain ⟨rr0, hr0⟩ : ∃ r, r = lessN 1048576 (szL shPacket xs0) := ⟨_, rfl⟩
  have hrr0 : rr0 = (1048576 : Int) - (((szL shPacket xs0) : Nat) : Int) := hr0.trans (if_neg hs0)
  have hn0 : ¬ rr0 < 0 := by omega
  have hu0 : rr0 ≤ 1048576 := by omega
  by_cases hs1 : rr0 < (((szL shI xs1_7) : Nat) : Int)
  · have hneg : (-1 : Int) < 0 := by omega
    have HR0 := Lib.hid hr0
    clear hr0 hrr0
    go_enter Try.func13, Try.ntmps13
    have rA11_ := Lib.hid (show ((W.alloc (.cells #[.int .i64 i1_0, .int .i64 i1_1, .int .i64 i1_2, .int .i64 i1_3, .int .i64 i1_4, .int .i64 i1_5, .int .i64 i1_6, a1_7] 57))).heap[W.heap.size]? = some (.cells #[.int .i64 i1_0, .int .i64 i1_1, .int .i64 i1_2, .int .i64 i1_3, .int .i64 i1_4, .int .i64 i1_5, .int .i64 i1_6, a1_7] 57 (0, 0)) from by exact heap_alloc_new _ _)
    have G2_ := Lib.hid (show (W).grownBy ((W.alloc (.cells #[.int .i64 i1_0, .int .i64 i1_1, .int .i64 i1_2, .int .i64 i1_3, .int .i64 i1_4, .int .i64 i1_5, .int .i64 i1_6, a1_7] 57))) none from (gby_alloc (gby_refl _ _) _))
    have A1_0_ : ((W.alloc (.cells #[.int .i64 i1_0, .int .i64 i1_1, .int .i64 i1_2, .int .i64 i1_3, .int .i64 i1_4, .int .i64 i1_5, .int .i64 i1_6, a1_7] 57))).cell? ⟨W.heap.size, 0, none⟩ = some (.int .i64 i1_0) := cell_of_row _ _ 0 _ _ _ rA11_.out
    have A1_1_ : ((W.alloc (.cells #[.int .i64 i1_0, .int .i64 i1_1, .int .i64 i1_2, .int .i64 i1_3, .int .i64 i1_4, .int .i64 i1_5, .int .i64 i1_6, a1_7] 57))).cell? ⟨W.heap.size, 1, none⟩ = some (.int .i64 i1_1) := cell_of_row _ _ 1 _ _ _ rA11_.out
    have A1_2_ : ((W.alloc (.cells #[.int .i64 i1_0, .int .i64 i1_1, .int .i64 i1_2, .int .i64 i1_3, .int .i64 i1_4, .int .i64 i1_5, .int .i64 i1_6, a1_7] 57))).cell? ⟨W.heap.size, 2, none⟩ = some (.int .i64 i1_2) := cell_of_row _ _ 2 _ _ _ rA11_.out
    have A1_3_ : ((W.alloc (.cells #[.int .i64 i1_0, .int .i64 i1_1, .int .i64 i1_2, .int .i64 i1_3, .int .i64 i1_4, .int .i64 i1_5, .int .i64 i1_6, a1_7] 57))).cell? ⟨W.heap.size, 3, none⟩ = some (.int .i64 i1_3) := cell_of_row _ _ 3 _ _ _ rA11_.out
    have A1_4_ : ((W.alloc (.cells #[.int .i64 i1_0, .int .i64 i1_1, .int .i64 i1_2, .int .i64 i1_3, .int .i64 i1_4, .int .i64 i1_5, .int .i64 i1_6, a1_7] 57))).cell? ⟨W.heap.size, 4, none⟩ = some (.int .i64 i1_4) := cell_of_row _ _ 4 _ _ _ rA11_.out
    have A1_5_ : ((W.alloc (.cells #[.int .i64 i1_0, .int .i64 i1_1, .int .i64 i1_2, .int .i64 i1_3, .int .i64 i1_4, .int .i64 i1_5, .int .i64 i1_6, a1_7] 57))).cell? ⟨W.heap.size, 5, none⟩ = some (.int .i64 i1_5) := cell_of_row _ _ 5 _ _ _ rA11_.out
    have A1_6_ : ((W.alloc (.cells #[.int .i64 i1_0, .int .i64 i1_1, .int .i64 i1_2, .int .i64 i1_3, .int .i64 i1_4, .int .i64 i1_5, .int .i64 i1_6, a1_7] 57))).cell? ⟨W.heap.size, 6, none⟩ = some (.int .i64 i1_6) := cell_of_row _ _ 6 _ _ _ rA11_.out
    have A1_7_ : ((W.alloc (.cells #[.int .i64 i1_0, .int .i64 i1_1, .int .i64 i1_2, .int .i64 i1_3, .int .i64 i1_4, .int .i64 i1_5, .int .i64 i1_6, a1_7] 57))).cell? ⟨W.heap.size, 7, none⟩ = some (a1_7) := cell_of_row _ _ 7 _ _ _ rA11_.out
    go_wp2_with fail
    go_at_call 21
    refine (szPacketS_d _ 1048576 a0 xs0 (HI0.out.grow G2_.out) (by omega) (by omega)).mono ?_
    rintro e w1 ⟨he, g⟩
    rw [← HR0.out] at he
    subst he
    clear A1_0_ A1_1_ A1_2_ A1_3_ A1_4_ A1_5_ A1_6_ A1_7_
    have rA13_ := Lib.hid (show (w1).heap[W.heap.size]? = some (.cells #[.int .i64 i1_0, .int .i64 i1_1, .int .i64 i1_2, .int .i64 i1_3, .int .i64 i1_4, .int .i64 i1_5, .int .i64 i1_6, a1_7] 57 (0, 0)) from row_held g rA11_.out)
    clear rA11_
    have G4_ := Lib.hid (show (W).grownBy (w1) none from gby_trans G2_.out g)
    clear g
    have A1_0_ : (w1).cell? ⟨W.heap.size, 0, none⟩ = some (.int .i64 i1_0) := cell_of_row _ _ 0 _ _ _ rA13_.out
    have A1_1_ : (w1).cell? ⟨W.heap.size, 1, none⟩ = some (.int .i64 i1_1) := cell_of_row _ _ 1 _ _ _ rA13_.out
    have A1_2_ : (w1).cell? ⟨W.heap.size, 2, none⟩ = some (.int .i64 i1_2) := cell_of_row _ _ 2 _ _ _ rA13_.out
    have A1_3_ : (w1).cell? ⟨W.heap.size, 3, none⟩ = some (.int .i64 i1_3) := cell_of_row _ _ 3 _ _ _ rA13_.out
    have A1_4_ : (w1).cell? ⟨W.heap.size, 4, none⟩ = some (.int .i64 i1_4) := cell_of_row _ _ 4 _ _ _ rA13_.out
    have A1_5_ : (w1).cell? ⟨W.heap.size, 5, none⟩ = some (.int .i64 i1_5) := cell_of_row _ _ 5 _ _ _ rA13_.out
    have A1_6_ : (w1).cell? ⟨W.heap.size, 6, none⟩ = some (.int .i64 i1_6) := cell_of_row _ _ 6 _ _ _ rA13_.out
    have A1_7_ : (w1).cell? ⟨W.heap.size, 7, none⟩ = some (a1_7) := cell_of_row _ _ 7 _ _ _ rA13_.out
    go_wp2_with fail
    go_at_call 37
    refine (szPacket_d _ rr0 i1_0 i1_1 i1_2 i1_3 i1_4 i1_5 i1_6 a1_7 xs1_7 (HI1_7.out.grow G4_.out) (by omega) (by omega)).mono ?_
    rintro e w2 ⟨he, g⟩
    rw [show lessN rr0 (szL shI xs1_7) = -1 from if_pos hs1] at he
    subst he
    clear A1_0_ A1_1_ A1_2_ A1_3_ A1_4_ A1_5_ A1_6_ A1_7_
    have rA15_ := Lib.hid (show (w2).heap[W.heap.size]? = some (.cells #[.int .i64 i1_0, .int .i64 i1_1, .int .i64 i1_2, .int .i64 i1_3, .int .i64 i1_4, .int .i64 i1_5, .int .i64 i1_6, a1_7] 57 (0, 0)) from row_held g rA13_.out)
    clear rA13_
    have G6_ := Lib.hid (show (W).grownBy (w2) none from gby_trans G4_.out g)
    clear g
    go_wp2
    go_ret
    exact ⟨rfl, gby_below G6_.out⟩
  obtain ⟨rr1, hr1⟩ : ∃ r, r = lessN rr0 (szL shI xs1_7) := ⟨_, rfl⟩
  have hrr1 : rr1 = rr0 - (((szL shI xs1_7) : Nat) : Int) := hr1.trans (if_neg hs1)
  have hn1 : ¬ rr1 < 0 := by omega
  have hu1 : rr1 ≤ 1048576 := by omega
  have hl0 : szL shPacket xs0 ≤ 1048576 := by omega
  have hl1_7 : szL shI xs1_7 ≤ 1048576 := by omega
  have HR0 := Lib.hid hr0
  clear hs0 hr0 hrr0
  have HR1 := Lib.hid hr1
  clear hs1 hr1 hrr1
  obtain ⟨xsr0, hLr0, hs_, hi_⟩ := both xs0 i1_0 i1_1 i1_2 i1_3 i1_4 i1_5 i1_6 xs1_7 hl0 hl1_7
  have HS := Lib.hid hs_
  have HM := Lib.hid hi_
  clear hs_ hi_
  try clear both
  have hq0 : ecL shPacket xs0 ≤ 104857600 := Nat.le_trans (ecL_le _ _) (Nat.le_trans (Nat.mul_le_mul_left _ hl0) (Nat.mul_le_mul_right 1048576 (show shPacket.c ≤ 100 by decide)))
  have hq1_7 : ecL shI xs1_7 ≤ 104857600 := Nat.le_trans (ecL_le _ _) (Nat.le_trans (Nat.mul_le_mul_left _ hl1_7) (Nat.mul_le_mul_right 1048576 (show shI.c ≤ 100 by decide)))
  have hqr0 : ecL shPacket xsr0 ≤ 104857600 := Nat.le_trans (ecL_le _ _) (Nat.le_trans (Nat.mul_le_mul_left _ hLr0) (Nat.mul_le_mul_right 1048576 (show shPacket.c ≤ 100 by decide)))
  go_enter Try.func13, Try.ntmps13
  have rA11_ := Lib.hid (show ((W.alloc (.cells #[.int .i64 i1_0, .int .i64 i1_1, .int .i64 i1_2, .int .i64 i1_3, .int .i64 i1_4, .int .i64 i1_5, .int .i64 i1_6, a1_7] 57))).heap[W.heap.size]? = some (.cells #[.int .i64 i1_0, .int .i64 i1_1, .int .i64 i1_2, .int .i64 i1_3, .int .i64 i1_4, .int .i64 i1_5, .int .i64 i1_6, a1_7] 57 (0, 0)) from by exact heap_alloc_new _ _)
  have G2_ := Lib.hid (show (W).grownBy ((W.alloc (.cells #[.int .i64 i1_0, .int .i64 i1_1, .int .i64 i1_2, .int .i64 i1_3, .int .i64 i1_4, .int .i64 i1_5, .int .i64 i1_6, a1_7] 57))) none from (gby_alloc (gby_refl _ _) _))
  have A1_0_ : ((W.alloc (.cells #[.int .i64 i1_0, .int .i64 i1_1, .int .i64 i1_2, .int .i64 i1_3, .int .i64 i1_4, .int .i64 i1_5, .int .i64 i1_6, a1_7] 57))).cell? ⟨W.heap.size, 0, none⟩ = some (.int .i64 i1_0) := cell_of_row _ _ 0 _ _ _ rA11_.out
  have A1_1_ : ((W.alloc (.cells #[.int .i64 i1_0, .int .i64 i1_1, .int .i64 i1_2, .int .i64 i1_3, .int .i64 i1_4, .int .i64 i1_5, .int .i64 i1_6, a1_7] 57))).cell? ⟨W.heap.size, 1, none⟩ = some (.int .i64 i1_1) := cell_of_row _ _ 1 _ _ _ rA11_.out
  have A1_2_ : ((W.alloc (.cells #[.int .i64 i1_0, .int .i64 i1_1, .int .i64 i1_2, .int .i64 i1_3, .int .i64 i1_4, .int .i64 i1_5, .int .i64 i1_6, a1_7] 57))).cell? ⟨W.heap.size, 2, none⟩ = some (.int .i64 i1_2) := cell_of_row _ _ 2 _ _ _ rA11_.out
  have A1_3_ : ((W.alloc (.cells #[.int .i64 i1_0, .int .i64 i1_1, .int .i64 i1_2, .int .i64 i1_3, .int .i64 i1_4, .int .i64 i1_5, .int .i64 i1_6, a1_7] 57))).cell? ⟨W.heap.size, 3, none⟩ = some (.int .i64 i1_3) := cell_of_row _ _ 3 _ _ _ rA11_.out
  have A1_4_ : ((W.alloc (.cells #[.int .i64 i1_0, .int .i64 i1_1, .int .i64 i1_2, .int .i64 i1_3, .int .i64 i1_4, .int .i64 i1_5, .int .i64 i1_6, a1_7] 57))).cell? ⟨W.heap.size, 4, none⟩ = some (.int .i64 i1_4) := cell_of_row _ _ 4 _ _ _ rA11_.out
  have A1_5_ : ((W.alloc (.cells #[.int .i64 i1_0, .int .i64 i1_1, .int .i64 i1_2, .int .i64 i1_3, .int .i64 i1_4, .int .i64 i1_5, .int .i64 i1_6, a1_7] 57))).cell? ⟨W.heap.size, 5, none⟩ = some (.int .i64 i1_5) := cell_of_row _ _ 5 _ _ _ rA11_.out
  have A1_6_ : ((W.alloc (.cells #[.int .i64 i1_0, .int .i64 i1_1, .int .i64 i1_2, .int .i64 i1_3, .int .i64 i1_4, .int .i64 i1_5, .int .i64 i1_6, a1_7] 57))).cell? ⟨W.heap.size, 6, none⟩ = some (.int .i64 i1_6) := cell_of_row _ _ 6 _ _ _ rA11_.out
  have A1_7_ : ((W.alloc (.cells #[.int .i64 i1_0, .int .i64 i1_1, .int .i64 i1_2, .int .i64 i1_3, .int .i64 i1_4, .int .i64 i1_5, .int .i64 i1_6, a1_7] 57))).cell? ⟨W.heap.size, 7, none⟩ = some (a1_7) := cell_of_row _ _ 7 _ _ _ rA11_.out
  go_wp2_with fail
  go_at_call 21
  refine (szPacketS_d _ 1048576 a0 xs0 (HI0.out.grow G2_.out) (by omega) (by omega)).mono ?_
  rintro e w1 ⟨he, g⟩
  rw [← HR0.out] at he
  subst he
  have zs1 := World.grownBy.size g
  try simp only [World.size_alloc] at zs1
  clear A1_0_ A1_1_ A1_2_ A1_3_ A1_4_ A1_5_ A1_6_ A1_7_
  have rA13_ := Lib.hid (show (w1).heap[W.heap.size]? = some (.cells #[.int .i64 i1_0, .int .i64 i1_1, .int .i64 i1_2, .int .i64 i1_3, .int .i64 i1_4, .int .i64 i1_5, .int .i64 i1_6, a1_7] 57 (0, 0)) from row_held g rA11_.out)
  clear rA11_
  have G4_ := Lib.hid (show (W).grownBy (w1) none from gby_trans G2_.out g)
  clear g
  have A1_0_ : (w1).cell? ⟨W.heap.size, 0, none⟩ = some (.int .i64 i1_0) := cell_of_row _ _ 0 _ _ _ rA13_.out
  have A1_1_ : (w1).cell? ⟨W.heap.size, 1, none⟩ = some (.int .i64 i1_1) := cell_of_row _ _ 1 _ _ _ rA13_.out
  have A1_2_ : (w1).cell? ⟨W.heap.size, 2, none⟩ = some (.int .i64 i1_2) := cell_of_row _ _ 2 _ _ _ rA13_.out
  have A1_3_ : (w1).cell? ⟨W.heap.size, 3, none⟩ = some (.int .i64 i1_3) := cell_of_row _ _ 3 _ _ _ rA13_.out
  have A1_4_ : (w1).cell? ⟨W.heap.size, 4, none⟩ = some (.int .i64 i1_4) := cell_of_row _ _ 4 _ _ _ rA13_.out
  have A1_5_ : (w1).cell? ⟨W.heap.size, 5, none⟩ = some (.int .i64 i1_5) := cell_of_row _ _ 5 _ _ _ rA13_.out
  have A1_6_ : (w1).cell? ⟨W.heap.size, 6, none⟩ = some (.int .i64 i1_6) := cell_of_row _ _ 6 _ _ _ rA13_.out
  have A1_7_ : (w1).cell? ⟨W.heap.size, 7, none⟩ = some (a1_7) := cell_of_row _ _ 7 _ _ _ rA13_.out
  go_wp2_with fail
  go_at_call 37
  refine (szPacket_d _ rr0 i1_0 i1_1 i1_2 i1_3 i1_4 i1_5 i1_6 a1_7 xs1_7 (HI1_7.out.grow G4_.out) (by omega) (by omega)).mono ?_
  rintro e w2 ⟨he, g⟩
  rw [← HR1.out] at he
  subst he
  have zs2 := World.grownBy.size g
  try simp only [World.size_alloc] at zs2
  clear A1_0_ A1_1_ A1_2_ A1_3_ A1_4_ A1_5_ A1_6_ A1_7_
  have rA15_ := Lib.hid (show (w2).heap[W.heap.size]? = some (.cells #[.int .i64 i1_0, .int .i64 i1_1, .int .i64 i1_2, .int .i64 i1_3, .int .i64 i1_4, .int .i64 i1_5, .int .i64 i1_6, a1_7] 57 (0, 0)) from row_held g rA13_.out)
  clear rA13_
  have G6_ := Lib.hid (show (W).grownBy (w2) none from gby_trans G4_.out g)
  clear g
  have A1_0_ : (w2).cell? ⟨W.heap.size, 0, none⟩ = some (.int .i64 i1_0) := cell_of_row _ _ 0 _ _ _ rA15_.out
  have A1_1_ : (w2).cell? ⟨W.heap.size, 1, none⟩ = some (.int .i64 i1_1) := cell_of_row _ _ 1 _ _ _ rA15_.out
  have A1_2_ : (w2).cell? ⟨W.heap.size, 2, none⟩ = some (.int .i64 i1_2) := cell_of_row _ _ 2 _ _ _ rA15_.out
  have A1_3_ : (w2).cell? ⟨W.heap.size, 3, none⟩ = some (.int .i64 i1_3) := cell_of_row _ _ 3 _ _ _ rA15_.out
  have A1_4_ : (w2).cell? ⟨W.heap.size, 4, none⟩ = some (.int .i64 i1_4) := cell_of_row _ _ 4 _ _ _ rA15_.out
  have A1_5_ : (w2).cell? ⟨W.heap.size, 5, none⟩ = some (.int .i64 i1_5) := cell_of_row _ _ 5 _ _ _ rA15_.out
  have A1_6_ : (w2).cell? ⟨W.heap.size, 6, none⟩ = some (.int .i64 i1_6) := cell_of_row _ _ 6 _ _ _ rA15_.out
  have A1_7_ : (w2).cell? ⟨W.heap.size, 7, none⟩ = some (a1_7) := cell_of_row _ _ 7 _ _ _ rA15_.out
  go_wp2_with fail
  go_region_held3 (fun w' => w'.cell? ⟨W.heap.size, 0, none⟩ = some (.int .i64 i1_0) ∧ w'.cell? ⟨W.heap.size, 1, none⟩ = some (.int .i64 i1_1) ∧ w'.cell? ⟨W.heap.size, 2, none⟩ = some (.int .i64 i1_2) ∧ w'.cell? ⟨W.heap.size, 3, none⟩ = some (.int .i64 i1_3) ∧ w'.cell? ⟨W.heap.size, 4, none⟩ = some (.int .i64 i1_4) ∧ w'.cell? ⟨W.heap.size, 5, none⟩ = some (.int .i64 i1_5) ∧ w'.cell? ⟨W.heap.size, 6, none⟩ = some (.int .i64 i1_6) ∧ w'.cell? ⟨W.heap.size, 7, none⟩ = some (a1_7))
    (first
      | exact ⟨A1_0_, A1_1_, A1_2_, A1_3_, A1_4_, A1_5_, A1_6_, A1_7_⟩
      | with_reducible exact ⟨(World.grownBy.cell (gby_drew (gby_refl _ none)) A1_0_ (by simp)), (World.grownBy.cell (gby_drew (gby_refl _ none)) A1_1_ (by simp)), (World.grownBy.cell (gby_drew (gby_refl _ none)) A1_2_ (by simp)), (World.grownBy.cell (gby_drew (gby_refl _ none)) A1_3_ (by simp)), (World.grownBy.cell (gby_drew (gby_refl _ none)) A1_4_ (by simp)), (World.grownBy.cell (gby_drew (gby_refl _ none)) A1_5_ (by simp)), (World.grownBy.cell (gby_drew (gby_refl _ none)) A1_6_ (by simp)), (World.grownBy.cell (gby_drew (gby_refl _ none)) A1_7_ (by simp))⟩
      | with_reducible exact ⟨(World.grownBy.cell (gby_trans (gby_drew (gby_refl _ none)) gA0) A1_0_ (by simp)), (World.grownBy.cell (gby_trans (gby_drew (gby_refl _ none)) gA0) A1_1_ (by simp)), (World.grownBy.cell (gby_trans (gby_drew (gby_refl _ none)) gA0) A1_2_ (by simp)), (World.grownBy.cell (gby_trans (gby_drew (gby_refl _ none)) gA0) A1_3_ (by simp)), (World.grownBy.cell (gby_trans (gby_drew (gby_refl _ none)) gA0) A1_4_ (by simp)), (World.grownBy.cell (gby_trans (gby_drew (gby_refl _ none)) gA0) A1_5_ (by simp)), (World.grownBy.cell (gby_trans (gby_drew (gby_refl _ none)) gA0) A1_6_ (by simp)), (World.grownBy.cell (gby_trans (gby_drew (gby_refl _ none)) gA0) A1_7_ (by simp))⟩
      | with_reducible exact ⟨(World.grownBy.cell (gby_trans (gby_trans (gby_drew (gby_refl _ none)) gA0) gA1) A1_0_ (by simp)), (World.grownBy.cell (gby_trans (gby_trans (gby_drew (gby_refl _ none)) gA0) gA1) A1_1_ (by simp)), (World.grownBy.cell (gby_trans (gby_trans (gby_drew (gby_refl _ none)) gA0) gA1) A1_2_ (by simp)), (World.grownBy.cell (gby_trans (gby_trans (gby_drew (gby_refl _ none)) gA0) gA1) A1_3_ (by simp)), (World.grownBy.cell (gby_trans (gby_trans (gby_drew (gby_refl _ none)) gA0) gA1) A1_4_ (by simp)), (World.grownBy.cell (gby_trans (gby_trans (gby_drew (gby_refl _ none)) gA0) gA1) A1_5_ (by simp)), (World.grownBy.cell (gby_trans (gby_trans (gby_drew (gby_refl _ none)) gA0) gA1) A1_6_ (by simp)), (World.grownBy.cell (gby_trans (gby_trans (gby_drew (gby_refl _ none)) gA0) gA1) A1_7_ (by simp))⟩
      | with_reducible exact ⟨(World.grownBy.cell (gby_trans (gby_trans (gby_trans (gby_drew (gby_refl _ none)) gA0) gA1) gS) A1_0_ (by simp)), (World.grownBy.cell (gby_trans (gby_trans (gby_trans (gby_drew (gby_refl _ none)) gA0) gA1) gS) A1_1_ (by simp)), (World.grownBy.cell (gby_trans (gby_trans (gby_trans (gby_drew (gby_refl _ none)) gA0) gA1) gS) A1_2_ (by simp)), (World.grownBy.cell (gby_trans (gby_trans (gby_trans (gby_drew (gby_refl _ none)) gA0) gA1) gS) A1_3_ (by simp)), (World.grownBy.cell (gby_trans (gby_trans (gby_trans (gby_drew (gby_refl _ none)) gA0) gA1) gS) A1_4_ (by simp)), (World.grownBy.cell (gby_trans (gby_trans (gby_trans (gby_drew (gby_refl _ none)) gA0) gA1) gS) A1_5_ (by simp)), (World.grownBy.cell (gby_trans (gby_trans (gby_trans (gby_drew (gby_refl _ none)) gA0) gA1) gS) A1_6_ (by simp)), (World.grownBy.cell (gby_trans (gby_trans (gby_trans (gby_drew (gby_refl _ none)) gA0) gA1) gS) A1_7_ (by simp))⟩
      | exact ⟨(World.grownBy.cell (gby_drew (gby_refl _ none)) A1_0_ (by simp)), (World.grownBy.cell (gby_drew (gby_refl _ none)) A1_1_ (by simp)), (World.grownBy.cell (gby_drew (gby_refl _ none)) A1_2_ (by simp)), (World.grownBy.cell (gby_drew (gby_refl _ none)) A1_3_ (by simp)), (World.grownBy.cell (gby_drew (gby_refl _ none)) A1_4_ (by simp)), (World.grownBy.cell (gby_drew (gby_refl _ none)) A1_5_ (by simp)), (World.grownBy.cell (gby_drew (gby_refl _ none)) A1_6_ (by simp)), (World.grownBy.cell (gby_drew (gby_refl _ none)) A1_7_ (by simp))⟩
      | exact ⟨(World.grownBy.cell (gby_trans (gby_drew (gby_refl _ none)) gA0) A1_0_ (by simp)), (World.grownBy.cell (gby_trans (gby_drew (gby_refl _ none)) gA0) A1_1_ (by simp)), (World.grownBy.cell (gby_trans (gby_drew (gby_refl _ none)) gA0) A1_2_ (by simp)), (World.grownBy.cell (gby_trans (gby_drew (gby_refl _ none)) gA0) A1_3_ (by simp)), (World.grownBy.cell (gby_trans (gby_drew (gby_refl _ none)) gA0) A1_4_ (by simp)), (World.grownBy.cell (gby_trans (gby_drew (gby_refl _ none)) gA0) A1_5_ (by simp)), (World.grownBy.cell (gby_trans (gby_drew (gby_refl _ none)) gA0) A1_6_ (by simp)), (World.grownBy.cell (gby_trans (gby_drew (gby_refl _ none)) gA0) A1_7_ (by simp))⟩
      | exact ⟨(World.grownBy.cell (gby_trans (gby_trans (gby_drew (gby_refl _ none)) gA0) gA1) A1_0_ (by simp)), (World.grownBy.cell (gby_trans (gby_trans (gby_drew (gby_refl _ none)) gA0) gA1) A1_1_ (by simp)), (World.grownBy.cell (gby_trans (gby_trans (gby_drew (gby_refl _ none)) gA0) gA1) A1_2_ (by simp)), (World.grownBy.cell (gby_trans (gby_trans (gby_drew (gby_refl _ none)) gA0) gA1) A1_3_ (by simp)), (World.grownBy.cell (gby_trans (gby_trans (gby_drew (gby_refl _ none)) gA0) gA1) A1_4_ (by simp)), (World.grownBy.cell (gby_trans (gby_trans (gby_drew (gby_refl _ none)) gA0) gA1) A1_5_ (by simp)), (World.grownBy.cell (gby_trans (gby_trans (gby_drew (gby_refl _ none)) gA0) gA1) A1_6_ (by simp)), (World.grownBy.cell (gby_trans (gby_trans (gby_drew (gby_refl _ none)) gA0) gA1) A1_7_ (by simp))⟩
      | exact ⟨(World.grownBy.cell (gby_trans (gby_trans (gby_trans (gby_drew (gby_refl _ none)) gA0) gA1) gS) A1_0_ (by simp)), (World.grownBy.cell (gby_trans (gby_trans (gby_trans (gby_drew (gby_refl _ none)) gA0) gA1) gS) A1_1_ (by simp)), (World.grownBy.cell (gby_trans (gby_trans (gby_trans (gby_drew (gby_refl _ none)) gA0) gA1) gS) A1_2_ (by simp)), (World.grownBy.cell (gby_trans (gby_trans (gby_trans (gby_drew (gby_refl _ none)) gA0) gA1) gS) A1_3_ (by simp)), (World.grownBy.cell (gby_trans (gby_trans (gby_trans (gby_drew (gby_refl _ none)) gA0) gA1) gS) A1_4_ (by simp)), (World.grownBy.cell (gby_trans (gby_trans (gby_trans (gby_drew (gby_refl _ none)) gA0) gA1) gS) A1_5_ (by simp)), (World.grownBy.cell (gby_trans (gby_trans (gby_trans (gby_drew (gby_refl _ none)) gA0) gA1) gS) A1_6_ (by simp)), (World.grownBy.cell (gby_trans (gby_trans (gby_trans (gby_drew (gby_refl _ none)) gA0) gA1) gS) A1_7_ (by simp))⟩
      | fail)
    (first
      | (go_at_call_of 23 a0; refine (toPacketS_d _ a0 xs0 (HI0.out.grow (gby_drew G6_.out)) hl0).mono ?_; rintro e wA0 ⟨t10, rfl, oR0, gA0⟩; have sA0 := gA0.size; (try simp only [World.size_alloc] at sA0); obtain ⟨t10p, t10n, t10c, hv_⟩ := RdL.form (OwL.rd oR0); subst hv_)
      | (go_at_call_of 39 (Value.agg #[.int .i64 i1_0, .int .i64 i1_1, .int .i64 i1_2, .int .i64 i1_3, .int .i64 i1_4, .int .i64 i1_5, .int .i64 i1_6, a1_7]); refine (toPacket_d _ i1_0 i1_1 i1_2 i1_3 i1_4 i1_5 i1_6 a1_7 xs1_7 (HI1_7.out.grow (gby_trans (gby_drew G6_.out) gA0)) hl1_7).mono ?_; rintro e wA1 ⟨t21_7, rfl, oR1, gA1⟩; have sA1 := gA1.size; (try simp only [World.size_alloc] at sA1); obtain ⟨t21_7p, t21_7n, t21_7c, hv_⟩ := RdL.form (OwU.rd oR1); subst hv_; try unfold vPacket)
      | (go_at_call 54; refine (HS.out _ (.slice t10p t10n t10c) (.slice t21_7p t21_7n t21_7c) (RdL.grow (OwL.rd oR0) (gby_trans (gby_refl _ none) gA1)) (RdL.grow (OwU.rd oR1) (gby_refl _ none))).mono ?_; rintro e wS ⟨wr0, rfl, or0, gS⟩; have sS := gS.size; (try simp only [World.size_alloc] at sS); obtain ⟨wr0p, wr0n, wr0c, hv_⟩ := RdL.form (or0); subst hv_; skip)
      | fail)
  clear A1_0_ A1_1_ A1_2_ A1_3_ A1_4_ A1_5_ A1_6_ A1_7_
  all_goals
    have g : (w2).grownBy wS none := (gby_trans (gby_trans (gby_trans (gby_drew (gby_refl _ none)) gA0) gA1) gS)
    clear gA0 gA1 gS oR0 oR1
    have sz_ := g.size
    try simp only [World.size_alloc] at sz_
    have zs3 := World.grownBy.size g
    try simp only [World.size_alloc] at zs3
    have rA17_ := Lib.hid (show (wS).heap[W.heap.size]? = some (.cells #[.int .i64 i1_0, .int .i64 i1_1, .int .i64 i1_2, .int .i64 i1_3, .int .i64 i1_4, .int .i64 i1_5, .int .i64 i1_6, a1_7] 57 (0, 0)) from row_held g rA15_.out)
    clear rA15_
    have G8_ := Lib.hid (show (W).grownBy (wS) none from gby_trans G6_.out g)
    clear g
    have szwS := sz_
    clear sz_
    have rd9_ := Lib.hid or0
    clear or0
    have qG10_ := Lib.hid (gby_refl wS none)
    go_wp2_with fail
    go_at_call 23
    refine (toPacketS_d _ a0 xs0 (HI0.out.grow G8_.out) hl0).mono ?_
    rintro e w4 ⟨x00, rfl, o, g⟩
    have sz_ := g.size
    try simp only [World.size_alloc] at sz_
    try simp only [World.size_alloc] at o
    have zs4 := World.grownBy.size g
    try simp only [World.size_alloc] at zs4
    have rA111_ := Lib.hid (show (w4).heap[W.heap.size]? = some (.cells #[.int .i64 i1_0, .int .i64 i1_1, .int .i64 i1_2, .int .i64 i1_3, .int .i64 i1_4, .int .i64 i1_5, .int .i64 i1_6, a1_7] 57 (0, 0)) from row_held g rA17_.out)
    clear rA17_
    have G12_ := Lib.hid (show (W).grownBy (w4) none from gby_trans G8_.out g)
    have qw13_ := Lib.hid (show (wS).grownBy (w4) none from gby_trans qG10_.out g)
    clear qG10_
    clear g
    have szw4 := sz_
    clear sz_
    obtain ⟨x00p, x00n, x00c, hv_⟩ := RdL.form (OwL.rd o)
    subst hv_
    have ox014_ := Lib.hid (show OwU (w4) (wS.heap.size) (w4.heap.size) [] [own shPacket (.slice x00p x00n x00c) xs0] from OwU.one o)
    clear o
    have A1_0_ : (w4).cell? ⟨W.heap.size, 0, none⟩ = some (.int .i64 i1_0) := cell_of_row _ _ 0 _ _ _ rA111_.out
    have A1_1_ : (w4).cell? ⟨W.heap.size, 1, none⟩ = some (.int .i64 i1_1) := cell_of_row _ _ 1 _ _ _ rA111_.out
    have A1_2_ : (w4).cell? ⟨W.heap.size, 2, none⟩ = some (.int .i64 i1_2) := cell_of_row _ _ 2 _ _ _ rA111_.out
    have A1_3_ : (w4).cell? ⟨W.heap.size, 3, none⟩ = some (.int .i64 i1_3) := cell_of_row _ _ 3 _ _ _ rA111_.out
    have A1_4_ : (w4).cell? ⟨W.heap.size, 4, none⟩ = some (.int .i64 i1_4) := cell_of_row _ _ 4 _ _ _ rA111_.out
    have A1_5_ : (w4).cell? ⟨W.heap.size, 5, none⟩ = some (.int .i64 i1_5) := cell_of_row _ _ 5 _ _ _ rA111_.out
    have A1_6_ : (w4).cell? ⟨W.heap.size, 6, none⟩ = some (.int .i64 i1_6) := cell_of_row _ _ 6 _ _ _ rA111_.out
    have A1_7_ : (w4).cell? ⟨W.heap.size, 7, none⟩ = some (a1_7) := cell_of_row _ _ 7 _ _ _ rA111_.out
    go_wp2_with fail
    go_at_call 39
    refine (toPacket_d _ i1_0 i1_1 i1_2 i1_3 i1_4 i1_5 i1_6 a1_7 xs1_7 (HI1_7.out.grow G12_.out) hl1_7).mono ?_
    rintro e w5 ⟨x11_7, rfl, o, g⟩
    have sz_ := g.size
    try simp only [World.size_alloc] at sz_
    try simp only [World.size_alloc] at o
    have zs5 := World.grownBy.size g
    try simp only [World.size_alloc] at zs5
    clear A1_0_ A1_1_ A1_2_ A1_3_ A1_4_ A1_5_ A1_6_ A1_7_
    have rA115_ := Lib.hid (show (w5).heap[W.heap.size]? = some (.cells #[.int .i64 i1_0, .int .i64 i1_1, .int .i64 i1_2, .int .i64 i1_3, .int .i64 i1_4, .int .i64 i1_5, .int .i64 i1_6, a1_7] 57 (0, 0)) from row_held g rA111_.out)
    clear rA111_
    have ox016_ := Lib.hid (show OwU (w5) (wS.heap.size) (w4.heap.size) [] [own shPacket (.slice x00p x00n x00c) xs0] from OwU.grow ox014_.out g)
    clear ox014_
    have G17_ := Lib.hid (show (W).grownBy (w5) none from gby_trans G12_.out g)
    have qw18_ := Lib.hid (show (wS).grownBy (w5) none from gby_trans qw13_.out g)
    clear qw13_
    clear g
    have szw5 := sz_
    clear sz_
    obtain ⟨x11_7p, x11_7n, x11_7c, hv_⟩ := RdL.form (OwU.rd o)
    subst hv_
    have ox119_ := Lib.hid (show OwU (w5) (w4.heap.size) (w5.heap.size) [] [own shI (.slice x11_7p x11_7n x11_7c) xs1_7] from o)
    clear o
    try unfold vPacket
    have al : (w5).grownBy ((w5).alloc (.cells #[.int .i64 i1_0, .int .i64 i1_1, .int .i64 i1_2, .int .i64 i1_3, .int .i64 i1_4, .int .i64 i1_5, .int .i64 i1_6, (.slice x11_7p x11_7n x11_7c)] 60)) none := gby_alloc (gby_refl _ _) _
    have zs6 := World.grownBy.size al
    try simp only [World.size_alloc] at zs6
    have rA120_ := Lib.hid (show ((w5.alloc (.cells #[.int .i64 i1_0, .int .i64 i1_1, .int .i64 i1_2, .int .i64 i1_3, .int .i64 i1_4, .int .i64 i1_5, .int .i64 i1_6, (.slice x11_7p x11_7n x11_7c)] 60))).heap[W.heap.size]? = some (.cells #[.int .i64 i1_0, .int .i64 i1_1, .int .i64 i1_2, .int .i64 i1_3, .int .i64 i1_4, .int .i64 i1_5, .int .i64 i1_6, a1_7] 57 (0, 0)) from row_held al rA115_.out)
    clear rA115_
    have ox021_ := Lib.hid (show OwU ((w5.alloc (.cells #[.int .i64 i1_0, .int .i64 i1_1, .int .i64 i1_2, .int .i64 i1_3, .int .i64 i1_4, .int .i64 i1_5, .int .i64 i1_6, (.slice x11_7p x11_7n x11_7c)] 60))) (wS.heap.size) (w4.heap.size) [] [own shPacket (.slice x00p x00n x00c) xs0] from OwU.grow ox016_.out al)
    clear ox016_
    have ox122_ := Lib.hid (show OwU ((w5.alloc (.cells #[.int .i64 i1_0, .int .i64 i1_1, .int .i64 i1_2, .int .i64 i1_3, .int .i64 i1_4, .int .i64 i1_5, .int .i64 i1_6, (.slice x11_7p x11_7n x11_7c)] 60))) (w4.heap.size) (w5.heap.size) [] [own shI (.slice x11_7p x11_7n x11_7c) xs1_7] from OwU.grow ox119_.out al)
    clear ox119_
    have G23_ := Lib.hid (show (W).grownBy ((w5.alloc (.cells #[.int .i64 i1_0, .int .i64 i1_1, .int .i64 i1_2, .int .i64 i1_3, .int .i64 i1_4, .int .i64 i1_5, .int .i64 i1_6, (.slice x11_7p x11_7n x11_7c)] 60))) none from gby_trans G17_.out al)
    have qw24_ := Lib.hid (show (wS).grownBy ((w5.alloc (.cells #[.int .i64 i1_0, .int .i64 i1_1, .int .i64 i1_2, .int .i64 i1_3, .int .i64 i1_4, .int .i64 i1_5, .int .i64 i1_6, (.slice x11_7p x11_7n x11_7c)] 60))) none from gby_trans qw18_.out al)
    clear qw18_
    have rBx125_ := Lib.hid (show ((w5.alloc (.cells #[.int .i64 i1_0, .int .i64 i1_1, .int .i64 i1_2, .int .i64 i1_3, .int .i64 i1_4, .int .i64 i1_5, .int .i64 i1_6, (.slice x11_7p x11_7n x11_7c)] 60))).heap[w5.heap.size]? = some (.cells #[.int .i64 i1_0, .int .i64 i1_1, .int .i64 i1_2, .int .i64 i1_3, .int .i64 i1_4, .int .i64 i1_5, .int .i64 i1_6, (.slice x11_7p x11_7n x11_7c)] 60 (0, 0)) from by first | exact heap_alloc_new _ _ | exact heap_pair _ _ _ | exact heap_trip _ _ _ _)
    clear al
    have Bx1_0_ : ((w5.alloc (.cells #[.int .i64 i1_0, .int .i64 i1_1, .int .i64 i1_2, .int .i64 i1_3, .int .i64 i1_4, .int .i64 i1_5, .int .i64 i1_6, (.slice x11_7p x11_7n x11_7c)] 60))).cell? ⟨w5.heap.size, 0, none⟩ = some (.int .i64 i1_0) := cell_of_row _ _ 0 _ _ _ rBx125_.out
    have Bx1_1_ : ((w5.alloc (.cells #[.int .i64 i1_0, .int .i64 i1_1, .int .i64 i1_2, .int .i64 i1_3, .int .i64 i1_4, .int .i64 i1_5, .int .i64 i1_6, (.slice x11_7p x11_7n x11_7c)] 60))).cell? ⟨w5.heap.size, 1, none⟩ = some (.int .i64 i1_1) := cell_of_row _ _ 1 _ _ _ rBx125_.out
    have Bx1_2_ : ((w5.alloc (.cells #[.int .i64 i1_0, .int .i64 i1_1, .int .i64 i1_2, .int .i64 i1_3, .int .i64 i1_4, .int .i64 i1_5, .int .i64 i1_6, (.slice x11_7p x11_7n x11_7c)] 60))).cell? ⟨w5.heap.size, 2, none⟩ = some (.int .i64 i1_2) := cell_of_row _ _ 2 _ _ _ rBx125_.out
    have Bx1_3_ : ((w5.alloc (.cells #[.int .i64 i1_0, .int .i64 i1_1, .int .i64 i1_2, .int .i64 i1_3, .int .i64 i1_4, .int .i64 i1_5, .int .i64 i1_6, (.slice x11_7p x11_7n x11_7c)] 60))).cell? ⟨w5.heap.size, 3, none⟩ = some (.int .i64 i1_3) := cell_of_row _ _ 3 _ _ _ rBx125_.out
    have Bx1_4_ : ((w5.alloc (.cells #[.int .i64 i1_0, .int .i64 i1_1, .int .i64 i1_2, .int .i64 i1_3, .int .i64 i1_4, .int .i64 i1_5, .int .i64 i1_6, (.slice x11_7p x11_7n x11_7c)] 60))).cell? ⟨w5.heap.size, 4, none⟩ = some (.int .i64 i1_4) := cell_of_row _ _ 4 _ _ _ rBx125_.out
    have Bx1_5_ : ((w5.alloc (.cells #[.int .i64 i1_0, .int .i64 i1_1, .int .i64 i1_2, .int .i64 i1_3, .int .i64 i1_4, .int .i64 i1_5, .int .i64 i1_6, (.slice x11_7p x11_7n x11_7c)] 60))).cell? ⟨w5.heap.size, 5, none⟩ = some (.int .i64 i1_5) := cell_of_row _ _ 5 _ _ _ rBx125_.out
    have Bx1_6_ : ((w5.alloc (.cells #[.int .i64 i1_0, .int .i64 i1_1, .int .i64 i1_2, .int .i64 i1_3, .int .i64 i1_4, .int .i64 i1_5, .int .i64 i1_6, (.slice x11_7p x11_7n x11_7c)] 60))).cell? ⟨w5.heap.size, 6, none⟩ = some (.int .i64 i1_6) := cell_of_row _ _ 6 _ _ _ rBx125_.out
    have Bx1_7_ : ((w5.alloc (.cells #[.int .i64 i1_0, .int .i64 i1_1, .int .i64 i1_2, .int .i64 i1_3, .int .i64 i1_4, .int .i64 i1_5, .int .i64 i1_6, (.slice x11_7p x11_7n x11_7c)] 60))).cell? ⟨w5.heap.size, 7, none⟩ = some ((.slice x11_7p x11_7n x11_7c)) := cell_of_row _ _ 7 _ _ _ rBx125_.out
    go_wp2_with fail
    go_at_call 55
    refine (HM.out _ (.slice x00p x00n x00c) (.slice x11_7p x11_7n x11_7c) (OwU.rd ox021_.out) (OwU.rd ox122_.out)).mono ?_
    rintro e w6 ⟨gr0, rfl, o, g⟩
    have sz_ := g.size
    try simp only [World.size_alloc] at sz_
    try simp only [World.size_alloc] at o
    have zs7 := World.grownBy.size g
    try simp only [World.size_alloc] at zs7
    clear Bx1_0_ Bx1_1_ Bx1_2_ Bx1_3_ Bx1_4_ Bx1_5_ Bx1_6_ Bx1_7_
    have rA126_ := Lib.hid (show (w6).heap[W.heap.size]? = some (.cells #[.int .i64 i1_0, .int .i64 i1_1, .int .i64 i1_2, .int .i64 i1_3, .int .i64 i1_4, .int .i64 i1_5, .int .i64 i1_6, a1_7] 57 (0, 0)) from row_held g rA120_.out)
    clear rA120_
    have rBx127_ := Lib.hid (show (w6).heap[w5.heap.size]? = some (.cells #[.int .i64 i1_0, .int .i64 i1_1, .int .i64 i1_2, .int .i64 i1_3, .int .i64 i1_4, .int .i64 i1_5, .int .i64 i1_6, (.slice x11_7p x11_7n x11_7c)] 60 (0, 0)) from row_held g rBx125_.out)
    clear rBx125_
    have ox028_ := Lib.hid (show OwU (w6) (wS.heap.size) (w4.heap.size) [] [own shPacket (.slice x00p x00n x00c) xs0] from OwU.grow ox021_.out g)
    clear ox021_
    have ox129_ := Lib.hid (show OwU (w6) (w4.heap.size) (w5.heap.size) [] [own shI (.slice x11_7p x11_7n x11_7c) xs1_7] from OwU.grow ox122_.out g)
    clear ox122_
    have G30_ := Lib.hid (show (W).grownBy (w6) none from gby_trans G23_.out g)
    have qw31_ := Lib.hid (show (wS).grownBy (w6) none from gby_trans qw24_.out g)
    clear qw24_
    clear g
    have szw6 := sz_
    clear sz_
    obtain ⟨gr0p, gr0n, gr0c, hv_⟩ := RdL.form (OwU.rd o)
    subst hv_
    have og32_ := Lib.hid (show OwU (w6) (w5.heap.size + 1) (w6.heap.size) [] [own shPacket (.slice gr0p gr0n gr0c) xsr0] from o)
    clear o
    go_wp2_with fail
    go_at_call 26
    refine (eqPacketS_d _ (.slice gr0p gr0n gr0c) (.slice wr0p wr0n wr0c) xsr0 (OwU.rd og32_.out) (RdL.grow rd9_.out qw31_.out) hLr0).mono ?_
    rintro e w7 ⟨rfl, g⟩
    have zs8 := World.grownBy.size g
    try simp only [World.size_alloc] at zs8
    have rA133_ := Lib.hid (show (w7).heap[W.heap.size]? = some (.cells #[.int .i64 i1_0, .int .i64 i1_1, .int .i64 i1_2, .int .i64 i1_3, .int .i64 i1_4, .int .i64 i1_5, .int .i64 i1_6, a1_7] 57 (0, 0)) from row_held g rA126_.out)
    clear rA126_
    have rBx134_ := Lib.hid (show (w7).heap[w5.heap.size]? = some (.cells #[.int .i64 i1_0, .int .i64 i1_1, .int .i64 i1_2, .int .i64 i1_3, .int .i64 i1_4, .int .i64 i1_5, .int .i64 i1_6, (.slice x11_7p x11_7n x11_7c)] 60 (0, 0)) from row_held g rBx127_.out)
    clear rBx127_
    have ox035_ := Lib.hid (show OwU (w7) (wS.heap.size) (w4.heap.size) [] [own shPacket (.slice x00p x00n x00c) xs0] from OwU.grow ox028_.out g)
    clear ox028_
    have ox136_ := Lib.hid (show OwU (w7) (w4.heap.size) (w5.heap.size) [] [own shI (.slice x11_7p x11_7n x11_7c) xs1_7] from OwU.grow ox129_.out g)
    clear ox129_
    have og37_ := Lib.hid (show OwU (w7) (w5.heap.size + 1) (w6.heap.size) [] [own shPacket (.slice gr0p gr0n gr0c) xsr0] from OwU.grow og32_.out g)
    clear og32_
    have G38_ := Lib.hid (show (W).grownBy (w7) none from gby_trans G30_.out g)
    have qw39_ := Lib.hid (show (wS).grownBy (w7) none from gby_trans qw31_.out g)
    clear qw31_
    clear g
    go_wp2_with fail
    go_at_call 23
    refine (toPacketS_d _ a0 xs0 (HI0.out.grow G38_.out) hl0).mono ?_
    rintro e w8 ⟨t30, rfl, o, g⟩
    have sz_ := g.size
    try simp only [World.size_alloc] at sz_
    try simp only [World.size_alloc] at o
    have zs9 := World.grownBy.size g
    try simp only [World.size_alloc] at zs9
    have rA140_ := Lib.hid (show (w8).heap[W.heap.size]? = some (.cells #[.int .i64 i1_0, .int .i64 i1_1, .int .i64 i1_2, .int .i64 i1_3, .int .i64 i1_4, .int .i64 i1_5, .int .i64 i1_6, a1_7] 57 (0, 0)) from row_held g rA133_.out)
    clear rA133_
    have rBx141_ := Lib.hid (show (w8).heap[w5.heap.size]? = some (.cells #[.int .i64 i1_0, .int .i64 i1_1, .int .i64 i1_2, .int .i64 i1_3, .int .i64 i1_4, .int .i64 i1_5, .int .i64 i1_6, (.slice x11_7p x11_7n x11_7c)] 60 (0, 0)) from row_held g rBx134_.out)
    clear rBx134_
    have ox042_ := Lib.hid (show OwU (w8) (wS.heap.size) (w4.heap.size) [] [own shPacket (.slice x00p x00n x00c) xs0] from OwU.grow ox035_.out g)
    clear ox035_
    have ox143_ := Lib.hid (show OwU (w8) (w4.heap.size) (w5.heap.size) [] [own shI (.slice x11_7p x11_7n x11_7c) xs1_7] from OwU.grow ox136_.out g)
    clear ox136_
    have og44_ := Lib.hid (show OwU (w8) (w5.heap.size + 1) (w6.heap.size) [] [own shPacket (.slice gr0p gr0n gr0c) xsr0] from OwU.grow og37_.out g)
    clear og37_
    have G45_ := Lib.hid (show (W).grownBy (w8) none from gby_trans G38_.out g)
    have qw46_ := Lib.hid (show (wS).grownBy (w8) none from gby_trans qw39_.out g)
    clear qw39_
    clear g
    have szw8 := sz_
    clear sz_
    obtain ⟨t30p, t30n, t30c, hv_⟩ := RdL.form (OwL.rd o)
    subst hv_
    have oT347_ := Lib.hid (show OwU (w8) (w7.heap.size) (w8.heap.size) [] [own shPacket (.slice t30p t30n t30c) xs0] from OwU.one o)
    clear o
    go_wp2_with fail
    go_at_call 26
    refine (eqPacketS_d _ (.slice x00p x00n x00c) (.slice t30p t30n t30c) xs0 (OwU.rd ox042_.out) (OwU.rd oT347_.out) hl0).mono ?_
    rintro e w9 ⟨rfl, g⟩
    have zs10 := World.grownBy.size g
    try simp only [World.size_alloc] at zs10
    have rA148_ := Lib.hid (show (w9).heap[W.heap.size]? = some (.cells #[.int .i64 i1_0, .int .i64 i1_1, .int .i64 i1_2, .int .i64 i1_3, .int .i64 i1_4, .int .i64 i1_5, .int .i64 i1_6, a1_7] 57 (0, 0)) from row_held g rA140_.out)
    clear rA140_
    have rBx149_ := Lib.hid (show (w9).heap[w5.heap.size]? = some (.cells #[.int .i64 i1_0, .int .i64 i1_1, .int .i64 i1_2, .int .i64 i1_3, .int .i64 i1_4, .int .i64 i1_5, .int .i64 i1_6, (.slice x11_7p x11_7n x11_7c)] 60 (0, 0)) from row_held g rBx141_.out)
    clear rBx141_
    have ox050_ := Lib.hid (show OwU (w9) (wS.heap.size) (w4.heap.size) [] [own shPacket (.slice x00p x00n x00c) xs0] from OwU.grow ox042_.out g)
    clear ox042_
    have ox151_ := Lib.hid (show OwU (w9) (w4.heap.size) (w5.heap.size) [] [own shI (.slice x11_7p x11_7n x11_7c) xs1_7] from OwU.grow ox143_.out g)
    clear ox143_
    have og52_ := Lib.hid (show OwU (w9) (w5.heap.size + 1) (w6.heap.size) [] [own shPacket (.slice gr0p gr0n gr0c) xsr0] from OwU.grow og44_.out g)
    clear og44_
    have oT353_ := Lib.hid (show OwU (w9) (w7.heap.size) (w8.heap.size) [] [own shPacket (.slice t30p t30n t30c) xs0] from OwU.grow oT347_.out g)
    clear oT347_
    have G54_ := Lib.hid (show (W).grownBy (w9) none from gby_trans G45_.out g)
    have qw55_ := Lib.hid (show (wS).grownBy (w9) none from gby_trans qw46_.out g)
    clear qw46_
    clear g
    clear oT353_
    have A1_0_ : (w9).cell? ⟨W.heap.size, 0, none⟩ = some (.int .i64 i1_0) := cell_of_row _ _ 0 _ _ _ rA148_.out
    have A1_1_ : (w9).cell? ⟨W.heap.size, 1, none⟩ = some (.int .i64 i1_1) := cell_of_row _ _ 1 _ _ _ rA148_.out
    have A1_2_ : (w9).cell? ⟨W.heap.size, 2, none⟩ = some (.int .i64 i1_2) := cell_of_row _ _ 2 _ _ _ rA148_.out
    have A1_3_ : (w9).cell? ⟨W.heap.size, 3, none⟩ = some (.int .i64 i1_3) := cell_of_row _ _ 3 _ _ _ rA148_.out
    have A1_4_ : (w9).cell? ⟨W.heap.size, 4, none⟩ = some (.int .i64 i1_4) := cell_of_row _ _ 4 _ _ _ rA148_.out
    have A1_5_ : (w9).cell? ⟨W.heap.size, 5, none⟩ = some (.int .i64 i1_5) := cell_of_row _ _ 5 _ _ _ rA148_.out
    have A1_6_ : (w9).cell? ⟨W.heap.size, 6, none⟩ = some (.int .i64 i1_6) := cell_of_row _ _ 6 _ _ _ rA148_.out
    have A1_7_ : (w9).cell? ⟨W.heap.size, 7, none⟩ = some (a1_7) := cell_of_row _ _ 7 _ _ _ rA148_.out
    have Bx1_0_ : (w9).cell? ⟨w5.heap.size, 0, none⟩ = some (.int .i64 i1_0) := cell_of_row _ _ 0 _ _ _ rBx149_.out
    have Bx1_1_ : (w9).cell? ⟨w5.heap.size, 1, none⟩ = some (.int .i64 i1_1) := cell_of_row _ _ 1 _ _ _ rBx149_.out
    have Bx1_2_ : (w9).cell? ⟨w5.heap.size, 2, none⟩ = some (.int .i64 i1_2) := cell_of_row _ _ 2 _ _ _ rBx149_.out
    have Bx1_3_ : (w9).cell? ⟨w5.heap.size, 3, none⟩ = some (.int .i64 i1_3) := cell_of_row _ _ 3 _ _ _ rBx149_.out
    have Bx1_4_ : (w9).cell? ⟨w5.heap.size, 4, none⟩ = some (.int .i64 i1_4) := cell_of_row _ _ 4 _ _ _ rBx149_.out
    have Bx1_5_ : (w9).cell? ⟨w5.heap.size, 5, none⟩ = some (.int .i64 i1_5) := cell_of_row _ _ 5 _ _ _ rBx149_.out
    have Bx1_6_ : (w9).cell? ⟨w5.heap.size, 6, none⟩ = some (.int .i64 i1_6) := cell_of_row _ _ 6 _ _ _ rBx149_.out
    have Bx1_7_ : (w9).cell? ⟨w5.heap.size, 7, none⟩ = some ((.slice x11_7p x11_7n x11_7c)) := cell_of_row _ _ 7 _ _ _ rBx149_.out
    go_wp2_with fail
    go_region_held3 (fun w' => w'.cell? ⟨W.heap.size, 0, none⟩ = some (.int .i64 i1_0) ∧ w'.cell? ⟨W.heap.size, 1, none⟩ = some (.int .i64 i1_1) ∧ w'.cell? ⟨W.heap.size, 2, none⟩ = some (.int .i64 i1_2) ∧ w'.cell? ⟨W.heap.size, 3, none⟩ = some (.int .i64 i1_3) ∧ w'.cell? ⟨W.heap.size, 4, none⟩ = some (.int .i64 i1_4) ∧ w'.cell? ⟨W.heap.size, 5, none⟩ = some (.int .i64 i1_5) ∧ w'.cell? ⟨W.heap.size, 6, none⟩ = some (.int .i64 i1_6) ∧ w'.cell? ⟨W.heap.size, 7, none⟩ = some (a1_7) ∧ w'.cell? ⟨w5.heap.size, 0, none⟩ = some (.int .i64 i1_0) ∧ w'.cell? ⟨w5.heap.size, 1, none⟩ = some (.int .i64 i1_1) ∧ w'.cell? ⟨w5.heap.size, 2, none⟩ = some (.int .i64 i1_2) ∧ w'.cell? ⟨w5.heap.size, 3, none⟩ = some (.int .i64 i1_3) ∧ w'.cell? ⟨w5.heap.size, 4, none⟩ = some (.int .i64 i1_4) ∧ w'.cell? ⟨w5.heap.size, 5, none⟩ = some (.int .i64 i1_5) ∧ w'.cell? ⟨w5.heap.size, 6, none⟩ = some (.int .i64 i1_6) ∧ w'.cell? ⟨w5.heap.size, 7, none⟩ = some ((.slice x11_7p x11_7n x11_7c)))
      (first
        | exact ⟨A1_0_, A1_1_, A1_2_, A1_3_, A1_4_, A1_5_, A1_6_, A1_7_, Bx1_0_, Bx1_1_, Bx1_2_, Bx1_3_, Bx1_4_, Bx1_5_, Bx1_6_, Bx1_7_⟩
        | exact ⟨(gT.cell A1_0_ (by simp)), (gT.cell A1_1_ (by simp)), (gT.cell A1_2_ (by simp)), (gT.cell A1_3_ (by simp)), (gT.cell A1_4_ (by simp)), (gT.cell A1_5_ (by simp)), (gT.cell A1_6_ (by simp)), (gT.cell A1_7_ (by simp)), (gT.cell Bx1_0_ (by simp)), (gT.cell Bx1_1_ (by simp)), (gT.cell Bx1_2_ (by simp)), (gT.cell Bx1_3_ (by simp)), (gT.cell Bx1_4_ (by simp)), (gT.cell Bx1_5_ (by simp)), (gT.cell Bx1_6_ (by simp)), (gT.cell Bx1_7_ (by simp))⟩
        | exact ⟨(gE.cell (gT.cell A1_0_ (by simp)) (by simp)), (gE.cell (gT.cell A1_1_ (by simp)) (by simp)), (gE.cell (gT.cell A1_2_ (by simp)) (by simp)), (gE.cell (gT.cell A1_3_ (by simp)) (by simp)), (gE.cell (gT.cell A1_4_ (by simp)) (by simp)), (gE.cell (gT.cell A1_5_ (by simp)) (by simp)), (gE.cell (gT.cell A1_6_ (by simp)) (by simp)), (gE.cell (gT.cell A1_7_ (by simp)) (by simp)), (gE.cell (gT.cell Bx1_0_ (by simp)) (by simp)), (gE.cell (gT.cell Bx1_1_ (by simp)) (by simp)), (gE.cell (gT.cell Bx1_2_ (by simp)) (by simp)), (gE.cell (gT.cell Bx1_3_ (by simp)) (by simp)), (gE.cell (gT.cell Bx1_4_ (by simp)) (by simp)), (gE.cell (gT.cell Bx1_5_ (by simp)) (by simp)), (gE.cell (gT.cell Bx1_6_ (by simp)) (by simp)), (gE.cell (gT.cell Bx1_7_ (by simp)) (by simp))⟩)
      (first
        | (go_at_call 39; refine (toPacket_d _ i1_0 i1_1 i1_2 i1_3 i1_4 i1_5 i1_6 a1_7 xs1_7 (HI1_7.out.grow (gby_drew G54_.out)) hl1_7).mono ?_; rintro e wT1 ⟨t41_7, rfl, oT, gT⟩; obtain ⟨t41_7p, t41_7n, t41_7c, hv_⟩ := RdL.form ((OwU.rd oT)); subst hv_; try unfold vPacket)
        | (go_at_call 41; refine (eqPacket_d _ i1_0 i1_1 i1_2 i1_3 i1_4 i1_5 i1_6 (.slice x11_7p x11_7n x11_7c) (.slice t41_7p t41_7n t41_7c) xs1_7 (RdL.grow (RdL.grow (OwU.rd ox151_.out) (gby_drew (gby_refl _ _))) gT) (OwU.rd oT) hl1_7).mono ?_; rintro e wE1 ⟨rfl, gE⟩))
    all_goals
      have g : (w9).grownBy wE1 none := gby_trans (gby_trans (gby_drew (gby_refl _ _)) gT) gE
      clear gT gE oT
      clear A1_0_ A1_1_ A1_2_ A1_3_ A1_4_ A1_5_ A1_6_ A1_7_ Bx1_0_ Bx1_1_ Bx1_2_ Bx1_3_ Bx1_4_ Bx1_5_ Bx1_6_ Bx1_7_
      have zs11 := World.grownBy.size g
      try simp only [World.size_alloc] at zs11
      have rA156_ := Lib.hid (show (wE1).heap[W.heap.size]? = some (.cells #[.int .i64 i1_0, .int .i64 i1_1, .int .i64 i1_2, .int .i64 i1_3, .int .i64 i1_4, .int .i64 i1_5, .int .i64 i1_6, a1_7] 57 (0, 0)) from row_held g rA148_.out)
      clear rA148_
      have rBx157_ := Lib.hid (show (wE1).heap[w5.heap.size]? = some (.cells #[.int .i64 i1_0, .int .i64 i1_1, .int .i64 i1_2, .int .i64 i1_3, .int .i64 i1_4, .int .i64 i1_5, .int .i64 i1_6, (.slice x11_7p x11_7n x11_7c)] 60 (0, 0)) from row_held g rBx149_.out)
      clear rBx149_
      have ox058_ := Lib.hid (show OwU (wE1) (wS.heap.size) (w4.heap.size) [] [own shPacket (.slice x00p x00n x00c) xs0] from OwU.grow ox050_.out g)
      clear ox050_
      have ox159_ := Lib.hid (show OwU (wE1) (w4.heap.size) (w5.heap.size) [] [own shI (.slice x11_7p x11_7n x11_7c) xs1_7] from OwU.grow ox151_.out g)
      clear ox151_
      have og60_ := Lib.hid (show OwU (wE1) (w5.heap.size + 1) (w6.heap.size) [] [own shPacket (.slice gr0p gr0n gr0c) xsr0] from OwU.grow og52_.out g)
      clear og52_
      have G61_ := Lib.hid (show (W).grownBy (wE1) none from gby_trans G54_.out g)
      have qw62_ := Lib.hid (show (wS).grownBy (wE1) none from gby_trans qw55_.out g)
      clear qw55_
      clear g
      obtain ⟨lo_, hi_, l_, u_, _, oo, ff⟩ := OwU.focus (pre := []) (p := own shPacket (.slice x00p x00n x00c) xs0) (post := []) ox058_.out
      have FF := Lib.hid ff
      clear ff
      go_wp2_with fail
      go_at_call 56
      refine (markPacketS_d _ lo_ hi_ (1) (.slice x00p x00n x00c) xs0 oo hl0 (by omega)).mono ?_
      rintro e w10 ⟨rfl, o, c⟩
      have o_ := c
      have c' := chg_wide c (lo' := wS.heap.size) (hi' := w4.heap.size) l_ u_
      clear c
      have c := c'
      clear c'
      have szw10 := c.size
      try simp only [World.size_alloc] at szw10
      have rA163_ := Lib.hid (show (w10).heap[W.heap.size]? = some (.cells #[.int .i64 i1_0, .int .i64 i1_1, .int .i64 i1_2, .int .i64 i1_3, .int .i64 i1_4, .int .i64 i1_5, .int .i64 i1_6, a1_7] 57 (0, 0)) from Chg.keep c rA156_.out (by omega))
      clear rA156_
      have rBx164_ := Lib.hid (show (w10).heap[w5.heap.size]? = some (.cells #[.int .i64 i1_0, .int .i64 i1_1, .int .i64 i1_2, .int .i64 i1_3, .int .i64 i1_4, .int .i64 i1_5, .int .i64 i1_6, (.slice x11_7p x11_7n x11_7c)] 60 (0, 0)) from Chg.keep c rBx157_.out (by omega))
      clear rBx157_
      have ox165_ := Lib.hid (show OwU (w10) (w4.heap.size) (w5.heap.size) [] [own shI (.slice x11_7p x11_7n x11_7c) xs1_7] from OwU.keep c (by omega) ox159_.out)
      clear ox159_
      have og66_ := Lib.hid (show OwU (w10) (w5.heap.size + 1) (w6.heap.size) [] [own shPacket (.slice gr0p gr0n gr0c) xsr0] from OwU.keep c (by omega) og60_.out)
      clear og60_
      have G67_ := Lib.hid (show (W).grownBy (w10) none from gby_chg G61_.out c (by omega))
      have qw68_ := Lib.hid (show (wS).grownBy (w10) none from gby_chg qw62_.out c (by omega))
      clear qw62_
      have ox069_ := Lib.hid (show OwU (w10) (wS.heap.size) (w4.heap.size) [] [own shPacket (.slice x00p x00n x00c) (emL shPacket (1) xs0)] from FF.out _ (own shPacket (.slice x00p x00n x00c) (emL shPacket (1) xs0)) o_ o)
      clear ox058_ o c oo FF o_
      have Bx1_0_ : (w10).cell? ⟨w5.heap.size, 0, none⟩ = some (.int .i64 i1_0) := cell_of_row _ _ 0 _ _ _ rBx164_.out
      have Bx1_1_ : (w10).cell? ⟨w5.heap.size, 1, none⟩ = some (.int .i64 i1_1) := cell_of_row _ _ 1 _ _ _ rBx164_.out
      have Bx1_2_ : (w10).cell? ⟨w5.heap.size, 2, none⟩ = some (.int .i64 i1_2) := cell_of_row _ _ 2 _ _ _ rBx164_.out
      have Bx1_3_ : (w10).cell? ⟨w5.heap.size, 3, none⟩ = some (.int .i64 i1_3) := cell_of_row _ _ 3 _ _ _ rBx164_.out
      have Bx1_4_ : (w10).cell? ⟨w5.heap.size, 4, none⟩ = some (.int .i64 i1_4) := cell_of_row _ _ 4 _ _ _ rBx164_.out
      have Bx1_5_ : (w10).cell? ⟨w5.heap.size, 5, none⟩ = some (.int .i64 i1_5) := cell_of_row _ _ 5 _ _ _ rBx164_.out
      have Bx1_6_ : (w10).cell? ⟨w5.heap.size, 6, none⟩ = some (.int .i64 i1_6) := cell_of_row _ _ 6 _ _ _ rBx164_.out
      have Bx1_7_ : (w10).cell? ⟨w5.heap.size, 7, none⟩ = some ((.slice x11_7p x11_7n x11_7c)) := cell_of_row _ _ 7 _ _ _ rBx164_.out
      go_wp2_with fail
      go_at_call 42
      refine (markPacket_d _ (w4.heap.size) (w5.heap.size) (1 + ecL shPacket xs0) i1_0 i1_1 i1_2 i1_3 i1_4 i1_5 i1_6 (.slice x11_7p x11_7n x11_7c) xs1_7 [] [] ox165_.out (by first | omega | (simp only [World.size_alloc]; omega)) hl1_7 (by omega)).mono ?_
      rintro e w11 ⟨rfl, o, c⟩
      clear Bx1_0_ Bx1_1_ Bx1_2_ Bx1_3_ Bx1_4_ Bx1_5_ Bx1_6_ Bx1_7_
      have szw11 := c.size
      try simp only [World.size_alloc] at szw11
      have rA170_ := Lib.hid (show (w11).heap[W.heap.size]? = some (.cells #[.int .i64 i1_0, .int .i64 i1_1, .int .i64 i1_2, .int .i64 i1_3, .int .i64 i1_4, .int .i64 i1_5, .int .i64 i1_6, a1_7] 57 (0, 0)) from Chg.keep c rA163_.out (by omega))
      clear rA163_
      have rBx171_ := Lib.hid (show (w11).heap[w5.heap.size]? = some (.cells #[.int .i64 i1_0, .int .i64 i1_1, .int .i64 i1_2, .int .i64 i1_3, .int .i64 i1_4, .int .i64 i1_5, .int .i64 i1_6, (.slice x11_7p x11_7n x11_7c)] 60 (0, 0)) from Chg.keep c rBx164_.out (by omega))
      clear rBx164_
      have ox072_ := Lib.hid (show OwU (w11) (wS.heap.size) (w4.heap.size) [] [own shPacket (.slice x00p x00n x00c) (emL shPacket (1) xs0)] from OwU.keep c (by omega) ox069_.out)
      clear ox069_
      have og73_ := Lib.hid (show OwU (w11) (w5.heap.size + 1) (w6.heap.size) [] [own shPacket (.slice gr0p gr0n gr0c) xsr0] from OwU.keep c (by omega) og66_.out)
      clear og66_
      have G74_ := Lib.hid (show (W).grownBy (w11) none from gby_chg G67_.out c (by omega))
      have qw75_ := Lib.hid (show (wS).grownBy (w11) none from gby_chg qw68_.out c (by omega))
      clear qw68_
      have ox176_ := Lib.hid (show OwU (w11) (w4.heap.size) (w5.heap.size) [] [own shI (.slice x11_7p x11_7n x11_7c) (emL shI (1 + ecL shPacket xs0) xs1_7)] from o)
      clear ox165_ o c
      go_wp2_with fail
      go_at_call 26
      refine (eqPacketS_d _ (.slice gr0p gr0n gr0c) (.slice wr0p wr0n wr0c) xsr0 (OwU.rd og73_.out) (RdL.grow rd9_.out qw75_.out) hLr0).mono ?_
      rintro e w12 ⟨rfl, g⟩
      have zs12 := World.grownBy.size g
      try simp only [World.size_alloc] at zs12
      have rA177_ := Lib.hid (show (w12).heap[W.heap.size]? = some (.cells #[.int .i64 i1_0, .int .i64 i1_1, .int .i64 i1_2, .int .i64 i1_3, .int .i64 i1_4, .int .i64 i1_5, .int .i64 i1_6, a1_7] 57 (0, 0)) from row_held g rA170_.out)
      clear rA170_
      have rBx178_ := Lib.hid (show (w12).heap[w5.heap.size]? = some (.cells #[.int .i64 i1_0, .int .i64 i1_1, .int .i64 i1_2, .int .i64 i1_3, .int .i64 i1_4, .int .i64 i1_5, .int .i64 i1_6, (.slice x11_7p x11_7n x11_7c)] 60 (0, 0)) from row_held g rBx171_.out)
      clear rBx171_
      have ox079_ := Lib.hid (show OwU (w12) (wS.heap.size) (w4.heap.size) [] [own shPacket (.slice x00p x00n x00c) (emL shPacket (1) xs0)] from OwU.grow ox072_.out g)
      clear ox072_
      have ox180_ := Lib.hid (show OwU (w12) (w4.heap.size) (w5.heap.size) [] [own shI (.slice x11_7p x11_7n x11_7c) (emL shI (1 + ecL shPacket xs0) xs1_7)] from OwU.grow ox176_.out g)
      clear ox176_
      have og81_ := Lib.hid (show OwU (w12) (w5.heap.size + 1) (w6.heap.size) [] [own shPacket (.slice gr0p gr0n gr0c) xsr0] from OwU.grow og73_.out g)
      clear og73_
      have G82_ := Lib.hid (show (W).grownBy (w12) none from gby_trans G74_.out g)
      have qw83_ := Lib.hid (show (wS).grownBy (w12) none from gby_trans qw75_.out g)
      clear qw75_
      clear g
      obtain ⟨lo_, hi_, l_, u_, _, oo, ff⟩ := OwU.focus (pre := []) (p := own shPacket (.slice gr0p gr0n gr0c) xsr0) (post := []) og81_.out
      have FF := Lib.hid ff
      clear ff
      go_wp2_with fail
      go_at_call 56
      refine (markPacketS_d _ lo_ hi_ (1) (.slice gr0p gr0n gr0c) xsr0 oo hLr0 (by omega)).mono ?_
      rintro e w13 ⟨rfl, o, c⟩
      have o_ := c
      have c' := chg_wide c (lo' := w5.heap.size + 1) (hi' := w6.heap.size) l_ u_
      clear c
      have c := c'
      clear c'
      have szw13 := c.size
      try simp only [World.size_alloc] at szw13
      have rA184_ := Lib.hid (show (w13).heap[W.heap.size]? = some (.cells #[.int .i64 i1_0, .int .i64 i1_1, .int .i64 i1_2, .int .i64 i1_3, .int .i64 i1_4, .int .i64 i1_5, .int .i64 i1_6, a1_7] 57 (0, 0)) from Chg.keep c rA177_.out (by omega))
      clear rA177_
      have rBx185_ := Lib.hid (show (w13).heap[w5.heap.size]? = some (.cells #[.int .i64 i1_0, .int .i64 i1_1, .int .i64 i1_2, .int .i64 i1_3, .int .i64 i1_4, .int .i64 i1_5, .int .i64 i1_6, (.slice x11_7p x11_7n x11_7c)] 60 (0, 0)) from Chg.keep c rBx178_.out (by omega))
      clear rBx178_
      have ox086_ := Lib.hid (show OwU (w13) (wS.heap.size) (w4.heap.size) [] [own shPacket (.slice x00p x00n x00c) (emL shPacket (1) xs0)] from OwU.keep c (by omega) ox079_.out)
      clear ox079_
      have ox187_ := Lib.hid (show OwU (w13) (w4.heap.size) (w5.heap.size) [] [own shI (.slice x11_7p x11_7n x11_7c) (emL shI (1 + ecL shPacket xs0) xs1_7)] from OwU.keep c (by omega) ox180_.out)
      clear ox180_
      have G88_ := Lib.hid (show (W).grownBy (w13) none from gby_chg G82_.out c (by omega))
      have qw89_ := Lib.hid (show (wS).grownBy (w13) none from gby_chg qw83_.out c (by omega))
      clear qw83_
      have og90_ := Lib.hid (show OwU (w13) (w5.heap.size + 1) (w6.heap.size) [] [own shPacket (.slice gr0p gr0n gr0c) (emL shPacket (1) xsr0)] from FF.out _ (own shPacket (.slice gr0p gr0n gr0c) (emL shPacket (1) xsr0)) o_ o)
      clear og81_ o c oo FF o_
      go_wp2_with fail
      go_at_call 57
      refine (heldPacketS_d _ (1) (.slice gr0p gr0n gr0c) xsr0 (OwU.rd og90_.out) hLr0 (by omega)).mono ?_
      rintro e w14 ⟨rfl, g⟩
      have zs13 := World.grownBy.size g
      try simp only [World.size_alloc] at zs13
      have rA191_ := Lib.hid (show (w14).heap[W.heap.size]? = some (.cells #[.int .i64 i1_0, .int .i64 i1_1, .int .i64 i1_2, .int .i64 i1_3, .int .i64 i1_4, .int .i64 i1_5, .int .i64 i1_6, a1_7] 57 (0, 0)) from row_held g rA184_.out)
      clear rA184_
      have rBx192_ := Lib.hid (show (w14).heap[w5.heap.size]? = some (.cells #[.int .i64 i1_0, .int .i64 i1_1, .int .i64 i1_2, .int .i64 i1_3, .int .i64 i1_4, .int .i64 i1_5, .int .i64 i1_6, (.slice x11_7p x11_7n x11_7c)] 60 (0, 0)) from row_held g rBx185_.out)
      clear rBx185_
      have ox093_ := Lib.hid (show OwU (w14) (wS.heap.size) (w4.heap.size) [] [own shPacket (.slice x00p x00n x00c) (emL shPacket (1) xs0)] from OwU.grow ox086_.out g)
      clear ox086_
      have ox194_ := Lib.hid (show OwU (w14) (w4.heap.size) (w5.heap.size) [] [own shI (.slice x11_7p x11_7n x11_7c) (emL shI (1 + ecL shPacket xs0) xs1_7)] from OwU.grow ox187_.out g)
      clear ox187_
      have og95_ := Lib.hid (show OwU (w14) (w5.heap.size + 1) (w6.heap.size) [] [own shPacket (.slice gr0p gr0n gr0c) (emL shPacket (1) xsr0)] from OwU.grow og90_.out g)
      clear og90_
      have G96_ := Lib.hid (show (W).grownBy (w14) none from gby_trans G88_.out g)
      have qw97_ := Lib.hid (show (wS).grownBy (w14) none from gby_trans qw89_.out g)
      clear qw89_
      clear g
      have ng14 : ¬ (((1 + ecL shPacket xsr0 : Nat) : Int) < 0) := by omega
      have A1_0_ : (w14).cell? ⟨W.heap.size, 0, none⟩ = some (.int .i64 i1_0) := cell_of_row _ _ 0 _ _ _ rA191_.out
      have A1_1_ : (w14).cell? ⟨W.heap.size, 1, none⟩ = some (.int .i64 i1_1) := cell_of_row _ _ 1 _ _ _ rA191_.out
      have A1_2_ : (w14).cell? ⟨W.heap.size, 2, none⟩ = some (.int .i64 i1_2) := cell_of_row _ _ 2 _ _ _ rA191_.out
      have A1_3_ : (w14).cell? ⟨W.heap.size, 3, none⟩ = some (.int .i64 i1_3) := cell_of_row _ _ 3 _ _ _ rA191_.out
      have A1_4_ : (w14).cell? ⟨W.heap.size, 4, none⟩ = some (.int .i64 i1_4) := cell_of_row _ _ 4 _ _ _ rA191_.out
      have A1_5_ : (w14).cell? ⟨W.heap.size, 5, none⟩ = some (.int .i64 i1_5) := cell_of_row _ _ 5 _ _ _ rA191_.out
      have A1_6_ : (w14).cell? ⟨W.heap.size, 6, none⟩ = some (.int .i64 i1_6) := cell_of_row _ _ 6 _ _ _ rA191_.out
      have A1_7_ : (w14).cell? ⟨W.heap.size, 7, none⟩ = some (a1_7) := cell_of_row _ _ 7 _ _ _ rA191_.out
      go_wp2_with fail
      go_region_held3 (fun w' => w'.cell? ⟨W.heap.size, 0, none⟩ = some (.int .i64 i1_0) ∧ w'.cell? ⟨W.heap.size, 1, none⟩ = some (.int .i64 i1_1) ∧ w'.cell? ⟨W.heap.size, 2, none⟩ = some (.int .i64 i1_2) ∧ w'.cell? ⟨W.heap.size, 3, none⟩ = some (.int .i64 i1_3) ∧ w'.cell? ⟨W.heap.size, 4, none⟩ = some (.int .i64 i1_4) ∧ w'.cell? ⟨W.heap.size, 5, none⟩ = some (.int .i64 i1_5) ∧ w'.cell? ⟨W.heap.size, 6, none⟩ = some (.int .i64 i1_6) ∧ w'.cell? ⟨W.heap.size, 7, none⟩ = some (a1_7))
        (first
          | exact ⟨A1_0_, A1_1_, A1_2_, A1_3_, A1_4_, A1_5_, A1_6_, A1_7_⟩
          | with_reducible exact ⟨(World.grownBy.cell (gby_drew (gby_refl _ none)) A1_0_ (by simp)), (World.grownBy.cell (gby_drew (gby_refl _ none)) A1_1_ (by simp)), (World.grownBy.cell (gby_drew (gby_refl _ none)) A1_2_ (by simp)), (World.grownBy.cell (gby_drew (gby_refl _ none)) A1_3_ (by simp)), (World.grownBy.cell (gby_drew (gby_refl _ none)) A1_4_ (by simp)), (World.grownBy.cell (gby_drew (gby_refl _ none)) A1_5_ (by simp)), (World.grownBy.cell (gby_drew (gby_refl _ none)) A1_6_ (by simp)), (World.grownBy.cell (gby_drew (gby_refl _ none)) A1_7_ (by simp))⟩
          | with_reducible exact ⟨(World.grownBy.cell (gby_trans (gby_drew (gby_refl _ none)) gA0) A1_0_ (by simp)), (World.grownBy.cell (gby_trans (gby_drew (gby_refl _ none)) gA0) A1_1_ (by simp)), (World.grownBy.cell (gby_trans (gby_drew (gby_refl _ none)) gA0) A1_2_ (by simp)), (World.grownBy.cell (gby_trans (gby_drew (gby_refl _ none)) gA0) A1_3_ (by simp)), (World.grownBy.cell (gby_trans (gby_drew (gby_refl _ none)) gA0) A1_4_ (by simp)), (World.grownBy.cell (gby_trans (gby_drew (gby_refl _ none)) gA0) A1_5_ (by simp)), (World.grownBy.cell (gby_trans (gby_drew (gby_refl _ none)) gA0) A1_6_ (by simp)), (World.grownBy.cell (gby_trans (gby_drew (gby_refl _ none)) gA0) A1_7_ (by simp))⟩
          | with_reducible exact ⟨(World.grownBy.cell (gby_trans (gby_trans (gby_drew (gby_refl _ none)) gA0) gA1) A1_0_ (by simp)), (World.grownBy.cell (gby_trans (gby_trans (gby_drew (gby_refl _ none)) gA0) gA1) A1_1_ (by simp)), (World.grownBy.cell (gby_trans (gby_trans (gby_drew (gby_refl _ none)) gA0) gA1) A1_2_ (by simp)), (World.grownBy.cell (gby_trans (gby_trans (gby_drew (gby_refl _ none)) gA0) gA1) A1_3_ (by simp)), (World.grownBy.cell (gby_trans (gby_trans (gby_drew (gby_refl _ none)) gA0) gA1) A1_4_ (by simp)), (World.grownBy.cell (gby_trans (gby_trans (gby_drew (gby_refl _ none)) gA0) gA1) A1_5_ (by simp)), (World.grownBy.cell (gby_trans (gby_trans (gby_drew (gby_refl _ none)) gA0) gA1) A1_6_ (by simp)), (World.grownBy.cell (gby_trans (gby_trans (gby_drew (gby_refl _ none)) gA0) gA1) A1_7_ (by simp))⟩
          | with_reducible exact ⟨(World.grownBy.cell (gby_trans (gby_trans (gby_trans (gby_drew (gby_refl _ none)) gA0) gA1) gS) A1_0_ (by simp)), (World.grownBy.cell (gby_trans (gby_trans (gby_trans (gby_drew (gby_refl _ none)) gA0) gA1) gS) A1_1_ (by simp)), (World.grownBy.cell (gby_trans (gby_trans (gby_trans (gby_drew (gby_refl _ none)) gA0) gA1) gS) A1_2_ (by simp)), (World.grownBy.cell (gby_trans (gby_trans (gby_trans (gby_drew (gby_refl _ none)) gA0) gA1) gS) A1_3_ (by simp)), (World.grownBy.cell (gby_trans (gby_trans (gby_trans (gby_drew (gby_refl _ none)) gA0) gA1) gS) A1_4_ (by simp)), (World.grownBy.cell (gby_trans (gby_trans (gby_trans (gby_drew (gby_refl _ none)) gA0) gA1) gS) A1_5_ (by simp)), (World.grownBy.cell (gby_trans (gby_trans (gby_trans (gby_drew (gby_refl _ none)) gA0) gA1) gS) A1_6_ (by simp)), (World.grownBy.cell (gby_trans (gby_trans (gby_trans (gby_drew (gby_refl _ none)) gA0) gA1) gS) A1_7_ (by simp))⟩
          | exact ⟨(World.grownBy.cell (gby_drew (gby_refl _ none)) A1_0_ (by simp)), (World.grownBy.cell (gby_drew (gby_refl _ none)) A1_1_ (by simp)), (World.grownBy.cell (gby_drew (gby_refl _ none)) A1_2_ (by simp)), (World.grownBy.cell (gby_drew (gby_refl _ none)) A1_3_ (by simp)), (World.grownBy.cell (gby_drew (gby_refl _ none)) A1_4_ (by simp)), (World.grownBy.cell (gby_drew (gby_refl _ none)) A1_5_ (by simp)), (World.grownBy.cell (gby_drew (gby_refl _ none)) A1_6_ (by simp)), (World.grownBy.cell (gby_drew (gby_refl _ none)) A1_7_ (by simp))⟩
          | exact ⟨(World.grownBy.cell (gby_trans (gby_drew (gby_refl _ none)) gA0) A1_0_ (by simp)), (World.grownBy.cell (gby_trans (gby_drew (gby_refl _ none)) gA0) A1_1_ (by simp)), (World.grownBy.cell (gby_trans (gby_drew (gby_refl _ none)) gA0) A1_2_ (by simp)), (World.grownBy.cell (gby_trans (gby_drew (gby_refl _ none)) gA0) A1_3_ (by simp)), (World.grownBy.cell (gby_trans (gby_drew (gby_refl _ none)) gA0) A1_4_ (by simp)), (World.grownBy.cell (gby_trans (gby_drew (gby_refl _ none)) gA0) A1_5_ (by simp)), (World.grownBy.cell (gby_trans (gby_drew (gby_refl _ none)) gA0) A1_6_ (by simp)), (World.grownBy.cell (gby_trans (gby_drew (gby_refl _ none)) gA0) A1_7_ (by simp))⟩
          | exact ⟨(World.grownBy.cell (gby_trans (gby_trans (gby_drew (gby_refl _ none)) gA0) gA1) A1_0_ (by simp)), (World.grownBy.cell (gby_trans (gby_trans (gby_drew (gby_refl _ none)) gA0) gA1) A1_1_ (by simp)), (World.grownBy.cell (gby_trans (gby_trans (gby_drew (gby_refl _ none)) gA0) gA1) A1_2_ (by simp)), (World.grownBy.cell (gby_trans (gby_trans (gby_drew (gby_refl _ none)) gA0) gA1) A1_3_ (by simp)), (World.grownBy.cell (gby_trans (gby_trans (gby_drew (gby_refl _ none)) gA0) gA1) A1_4_ (by simp)), (World.grownBy.cell (gby_trans (gby_trans (gby_drew (gby_refl _ none)) gA0) gA1) A1_5_ (by simp)), (World.grownBy.cell (gby_trans (gby_trans (gby_drew (gby_refl _ none)) gA0) gA1) A1_6_ (by simp)), (World.grownBy.cell (gby_trans (gby_trans (gby_drew (gby_refl _ none)) gA0) gA1) A1_7_ (by simp))⟩
          | exact ⟨(World.grownBy.cell (gby_trans (gby_trans (gby_trans (gby_drew (gby_refl _ none)) gA0) gA1) gS) A1_0_ (by simp)), (World.grownBy.cell (gby_trans (gby_trans (gby_trans (gby_drew (gby_refl _ none)) gA0) gA1) gS) A1_1_ (by simp)), (World.grownBy.cell (gby_trans (gby_trans (gby_trans (gby_drew (gby_refl _ none)) gA0) gA1) gS) A1_2_ (by simp)), (World.grownBy.cell (gby_trans (gby_trans (gby_trans (gby_drew (gby_refl _ none)) gA0) gA1) gS) A1_3_ (by simp)), (World.grownBy.cell (gby_trans (gby_trans (gby_trans (gby_drew (gby_refl _ none)) gA0) gA1) gS) A1_4_ (by simp)), (World.grownBy.cell (gby_trans (gby_trans (gby_trans (gby_drew (gby_refl _ none)) gA0) gA1) gS) A1_5_ (by simp)), (World.grownBy.cell (gby_trans (gby_trans (gby_trans (gby_drew (gby_refl _ none)) gA0) gA1) gS) A1_6_ (by simp)), (World.grownBy.cell (gby_trans (gby_trans (gby_trans (gby_drew (gby_refl _ none)) gA0) gA1) gS) A1_7_ (by simp))⟩
          | fail)
        (first
          | (go_at_call_of 23 a0; refine (toPacketS_d _ a0 xs0 (HI0.out.grow (gby_drew G96_.out)) hl0).mono ?_; rintro e wA0q2 ⟨t50, rfl, oR0, gA0⟩; have sA0 := gA0.size; (try simp only [World.size_alloc] at sA0); obtain ⟨t50p, t50n, t50c, hv_⟩ := RdL.form (OwL.rd oR0); subst hv_)
          | (go_at_call_of 39 (Value.agg #[.int .i64 i1_0, .int .i64 i1_1, .int .i64 i1_2, .int .i64 i1_3, .int .i64 i1_4, .int .i64 i1_5, .int .i64 i1_6, a1_7]); refine (toPacket_d _ i1_0 i1_1 i1_2 i1_3 i1_4 i1_5 i1_6 a1_7 xs1_7 (HI1_7.out.grow (gby_trans (gby_drew G96_.out) gA0)) hl1_7).mono ?_; rintro e wA1q2 ⟨t61_7, rfl, oR1, gA1⟩; have sA1 := gA1.size; (try simp only [World.size_alloc] at sA1); obtain ⟨t61_7p, t61_7n, t61_7c, hv_⟩ := RdL.form (OwU.rd oR1); subst hv_; try unfold vPacket)
          | (go_at_call 55; refine (HM.out _ (.slice t50p t50n t50c) (.slice t61_7p t61_7n t61_7c) (RdL.grow (OwL.rd oR0) (gby_trans (gby_refl _ none) gA1)) (RdL.grow (OwU.rd oR1) (gby_refl _ none))).mono ?_; rintro e wSq2 ⟨hr0, rfl, o, gS⟩; have sS := gS.size; (try simp only [World.size_alloc] at sS); obtain ⟨hr0p, hr0n, hr0c, hv_⟩ := RdL.form (OwU.rd o); subst hv_; skip)
          | fail)
      clear A1_0_ A1_1_ A1_2_ A1_3_ A1_4_ A1_5_ A1_6_ A1_7_
      all_goals
        have g : (w14).grownBy wSq2 none := (gby_trans (gby_trans (gby_trans (gby_drew (gby_refl _ none)) gA0) gA1) gS)
        clear gA0 gA1 gS oR0 oR1
        have sz_ := g.size
        try simp only [World.size_alloc] at sz_
        try simp only [World.size_alloc] at o
        have zs14 := World.grownBy.size g
        try simp only [World.size_alloc] at zs14
        have rA198_ := Lib.hid (show (wSq2).heap[W.heap.size]? = some (.cells #[.int .i64 i1_0, .int .i64 i1_1, .int .i64 i1_2, .int .i64 i1_3, .int .i64 i1_4, .int .i64 i1_5, .int .i64 i1_6, a1_7] 57 (0, 0)) from row_held g rA191_.out)
        clear rA191_
        have rBx199_ := Lib.hid (show (wSq2).heap[w5.heap.size]? = some (.cells #[.int .i64 i1_0, .int .i64 i1_1, .int .i64 i1_2, .int .i64 i1_3, .int .i64 i1_4, .int .i64 i1_5, .int .i64 i1_6, (.slice x11_7p x11_7n x11_7c)] 60 (0, 0)) from row_held g rBx192_.out)
        clear rBx192_
        have ox0100_ := Lib.hid (show OwU (wSq2) (wS.heap.size) (w4.heap.size) [] [own shPacket (.slice x00p x00n x00c) (emL shPacket (1) xs0)] from OwU.grow ox093_.out g)
        clear ox093_
        have ox1101_ := Lib.hid (show OwU (wSq2) (w4.heap.size) (w5.heap.size) [] [own shI (.slice x11_7p x11_7n x11_7c) (emL shI (1 + ecL shPacket xs0) xs1_7)] from OwU.grow ox194_.out g)
        clear ox194_
        have og102_ := Lib.hid (show OwU (wSq2) (w5.heap.size + 1) (w6.heap.size) [] [own shPacket (.slice gr0p gr0n gr0c) (emL shPacket (1) xsr0)] from OwU.grow og95_.out g)
        clear og95_
        have G103_ := Lib.hid (show (W).grownBy (wSq2) none from gby_trans G96_.out g)
        have qw104_ := Lib.hid (show (wS).grownBy (wSq2) none from gby_trans qw97_.out g)
        clear qw97_
        clear g
        have szwSq2 := sz_
        clear sz_
        have oh105_ := Lib.hid (show OwU (wSq2) (wA1q2.heap.size) (wSq2.heap.size) [] [own shPacket (.slice hr0p hr0n hr0c) xsr0] from o)
        clear o
        go_wp2_with fail
        go_at_call 26
        refine (eqPacketS_d _ (.slice hr0p hr0n hr0c) (.slice wr0p wr0n wr0c) xsr0 (OwU.rd oh105_.out) (RdL.grow rd9_.out qw104_.out) hLr0).mono ?_
        rintro e w16 ⟨rfl, g⟩
        have zs15 := World.grownBy.size g
        try simp only [World.size_alloc] at zs15
        have rA1106_ := Lib.hid (show (w16).heap[W.heap.size]? = some (.cells #[.int .i64 i1_0, .int .i64 i1_1, .int .i64 i1_2, .int .i64 i1_3, .int .i64 i1_4, .int .i64 i1_5, .int .i64 i1_6, a1_7] 57 (0, 0)) from row_held g rA198_.out)
        clear rA198_
        have rBx1107_ := Lib.hid (show (w16).heap[w5.heap.size]? = some (.cells #[.int .i64 i1_0, .int .i64 i1_1, .int .i64 i1_2, .int .i64 i1_3, .int .i64 i1_4, .int .i64 i1_5, .int .i64 i1_6, (.slice x11_7p x11_7n x11_7c)] 60 (0, 0)) from row_held g rBx199_.out)
        clear rBx199_
        have ox0108_ := Lib.hid (show OwU (w16) (wS.heap.size) (w4.heap.size) [] [own shPacket (.slice x00p x00n x00c) (emL shPacket (1) xs0)] from OwU.grow ox0100_.out g)
        clear ox0100_
        have ox1109_ := Lib.hid (show OwU (w16) (w4.heap.size) (w5.heap.size) [] [own shI (.slice x11_7p x11_7n x11_7c) (emL shI (1 + ecL shPacket xs0) xs1_7)] from OwU.grow ox1101_.out g)
        clear ox1101_
        have og110_ := Lib.hid (show OwU (w16) (w5.heap.size + 1) (w6.heap.size) [] [own shPacket (.slice gr0p gr0n gr0c) (emL shPacket (1) xsr0)] from OwU.grow og102_.out g)
        clear og102_
        have oh111_ := Lib.hid (show OwU (w16) (wA1q2.heap.size) (wSq2.heap.size) [] [own shPacket (.slice hr0p hr0n hr0c) xsr0] from OwU.grow oh105_.out g)
        clear oh105_
        have G112_ := Lib.hid (show (W).grownBy (w16) none from gby_trans G103_.out g)
        have qw113_ := Lib.hid (show (wS).grownBy (w16) none from gby_trans qw104_.out g)
        clear qw104_
        clear g
        go_wp2_with fail
        go_at_call 57
        refine (heldPacketS_d _ (1) (.slice gr0p gr0n gr0c) xsr0 (OwU.rd og110_.out) hLr0 (by omega)).mono ?_
        rintro e w17 ⟨rfl, g⟩
        have zs16 := World.grownBy.size g
        try simp only [World.size_alloc] at zs16
        have rA1114_ := Lib.hid (show (w17).heap[W.heap.size]? = some (.cells #[.int .i64 i1_0, .int .i64 i1_1, .int .i64 i1_2, .int .i64 i1_3, .int .i64 i1_4, .int .i64 i1_5, .int .i64 i1_6, a1_7] 57 (0, 0)) from row_held g rA1106_.out)
        clear rA1106_
        have rBx1115_ := Lib.hid (show (w17).heap[w5.heap.size]? = some (.cells #[.int .i64 i1_0, .int .i64 i1_1, .int .i64 i1_2, .int .i64 i1_3, .int .i64 i1_4, .int .i64 i1_5, .int .i64 i1_6, (.slice x11_7p x11_7n x11_7c)] 60 (0, 0)) from row_held g rBx1107_.out)
        clear rBx1107_
        have ox0116_ := Lib.hid (show OwU (w17) (wS.heap.size) (w4.heap.size) [] [own shPacket (.slice x00p x00n x00c) (emL shPacket (1) xs0)] from OwU.grow ox0108_.out g)
        clear ox0108_
        have ox1117_ := Lib.hid (show OwU (w17) (w4.heap.size) (w5.heap.size) [] [own shI (.slice x11_7p x11_7n x11_7c) (emL shI (1 + ecL shPacket xs0) xs1_7)] from OwU.grow ox1109_.out g)
        clear ox1109_
        have og118_ := Lib.hid (show OwU (w17) (w5.heap.size + 1) (w6.heap.size) [] [own shPacket (.slice gr0p gr0n gr0c) (emL shPacket (1) xsr0)] from OwU.grow og110_.out g)
        clear og110_
        have oh119_ := Lib.hid (show OwU (w17) (wA1q2.heap.size) (wSq2.heap.size) [] [own shPacket (.slice hr0p hr0n hr0c) xsr0] from OwU.grow oh111_.out g)
        clear oh111_
        have G120_ := Lib.hid (show (W).grownBy (w17) none from gby_trans G112_.out g)
        have qw121_ := Lib.hid (show (wS).grownBy (w17) none from gby_trans qw113_.out g)
        clear qw113_
        clear g
        have ng17 : ¬ (((1 + ecL shPacket xsr0 : Nat) : Int) < 0) := by omega
        go_wp2
        go_ret
        exact ⟨rfl, gby_below G120_.out⟩

end Go.Proofs.Ytnighnkkeiegnaa
