/-
  The walk of FnExactSameFabric: at every argument the program answers as its model and writes nothing that was there.
-/
import Derived.Test.YtnighnkkeiegnabQFabric
import Derived.Test.YtnighnkkeiegnabRSameFabric
import Derived.WalkKit
import Derived.Deep.RegionHeld3
import Derived.Below
namespace Go.Proofs.Ytnighnkkeiegnab
open Go Go.RowKit

set_option maxRecDepth 8000 in
set_option maxHeartbeats 16000000 in
theorem walk_exactSameFabric_of (both : ∀ (xs0_0 : List DNode) (xs0_1 : List Int) (xs0_2 : List DBar) (xs0_3 : List (List Int)) (xs0_4 : List Bool) (xs1_0 : List DNode) (xs1_1 : List Int) (xs1_2 : List DBar) (xs1_3 : List (List Int)) (xs1_4 : List Bool), szL shNode xs0_0 ≤ 1048576 → szL shI xs0_1 ≤ 1048576 → szL shBar xs0_2 ≤ 1048576 → szL (shL shI) xs0_3 ≤ 1048576 → szL shB xs0_4 ≤ 1048576 → szL shNode xs1_0 ≤ 1048576 → szL shI xs1_1 ≤ 1048576 → szL shBar xs1_2 ≤ 1048576 → szL (shL shI) xs1_3 ≤ 1048576 → szL shB xs1_4 ≤ 1048576 → ∃ (br0 : Bool), (∀ (W : World), ∀ u0_0 u0_1 u0_2 u0_3 u0_4 u1_0 u1_1 u1_2 u1_3 u1_4, RdL shNode W u0_0 xs0_0 → RdL shI W u0_1 xs0_1 → RdL shBar W u0_2 xs0_2 → RdL (shL shI) W u0_3 xs0_3 → RdL shB W u0_4 xs0_4 → RdL shNode W u1_0 xs1_0 → RdL shI W u1_1 xs1_1 → RdL shBar W u1_2 xs1_2 → RdL (shL shI) W u1_3 xs1_3 → RdL shB W u1_4 xs1_4 → Calls Try.prog 11 #[.agg #[u0_0, u0_1, u0_2, u0_3, u0_4], .agg #[u1_0, u1_1, u1_2, u1_3, u1_4]] W (ResSSameFabric br0 W)) ∧ ∀ (W : World), ∀ u0_0 u0_1 u0_2 u0_3 u0_4 u1_0 u1_1 u1_2 u1_3 u1_4, RdL shNode W u0_0 xs0_0 → RdL shI W u0_1 xs0_1 → RdL shBar W u0_2 xs0_2 → RdL (shL shI) W u0_3 xs0_3 → RdL shB W u0_4 xs0_4 → RdL shNode W u1_0 xs1_0 → RdL shI W u1_1 xs1_1 → RdL shBar W u1_2 xs1_2 → RdL (shL shI) W u1_3 xs1_3 → RdL shB W u1_4 xs1_4 → Calls Try.prog 13 #[.agg #[u0_0, u0_1, u0_2, u0_3, u0_4], .agg #[u1_0, u1_1, u1_2, u1_3, u1_4]] W (ResISameFabric br0 W))
    (W : World) (a0_0 : Value) (xs0_0 : List DNode) (a0_1 : Value) (xs0_1 : List Int) (a0_2 : Value) (xs0_2 : List DBar) (a0_3 : Value) (xs0_3 : List (List Int)) (a0_4 : Value) (xs0_4 : List Bool) (a1_0 : Value) (xs1_0 : List DNode) (a1_1 : Value) (xs1_1 : List Int) (a1_2 : Value) (xs1_2 : List DBar) (a1_3 : Value) (xs1_3 : List (List Int)) (a1_4 : Value) (xs1_4 : List Bool) (H0_0 : RdL shNode W a0_0 xs0_0) (H0_1 : RdL shI W a0_1 xs0_1) (H0_2 : RdL shBar W a0_2 xs0_2) (H0_3 : RdL (shL shI) W a0_3 xs0_3) (H0_4 : RdL shB W a0_4 xs0_4) (H1_0 : RdL shNode W a1_0 xs1_0) (H1_1 : RdL shI W a1_1 xs1_1) (H1_2 : RdL shBar W a1_2 xs1_2) (H1_3 : RdL (shL shI) W a1_3 xs1_3) (H1_4 : RdL shB W a1_4 xs1_4) :
    Calls Try.prog 3 #[.agg #[a0_0, a0_1, a0_2, a0_3, a0_4], .agg #[a1_0, a1_1, a1_2, a1_3, a1_4]] W fun e w' => e = .returned (.bool true) ∧ Below W.heap.size W w' := by
  have HI0_0 := Lib.hid H0_0
  have hmx0_0 := H0_0.max
  clear H0_0
  have HI0_1 := Lib.hid H0_1
  have hmx0_1 := H0_1.max
  clear H0_1
  have HI0_2 := Lib.hid H0_2
  have hmx0_2 := H0_2.max
  clear H0_2
  have HI0_3 := Lib.hid H0_3
  have hmx0_3 := H0_3.max
  clear H0_3
  have HI0_4 := Lib.hid H0_4
  have hmx0_4 := H0_4.max
  clear H0_4
  have HI1_0 := Lib.hid H1_0
  have hmx1_0 := H1_0.max
  clear H1_0
  have HI1_1 := Lib.hid H1_1
  have hmx1_1 := H1_1.max
  clear H1_1
  have HI1_2 := Lib.hid H1_2
  have hmx1_2 := H1_2.max
  clear H1_2
  have HI1_3 := Lib.hid H1_3
  have hmx1_3 := H1_3.max
  clear H1_3
  have HI1_4 := Lib.hid H1_4
  have hmx1_4 := H1_4.max
  clear H1_4
  by_cases hs0 : (1048576 : Int) < (((szL shNode xs0_0 + szL shI xs0_1 + szL shBar xs0_2 + szL (shL shI) xs0_3 + szL shB xs0_4) : Nat) : Int)
  · have hneg : (-1 : Int) < 0 := by omega
    go_enter Try.func3, Try.ntmps3
    have rA01_ := Lib.hid (show (((W.alloc (.cells #[a0_0, a0_1, a0_2, a0_3, a0_4] 30)).alloc (.cells #[a1_0, a1_1, a1_2, a1_3, a1_4] 30))).heap[W.heap.size]? = some (.cells #[a0_0, a0_1, a0_2, a0_3, a0_4] 30 (0, 0)) from by rw [heap_alloc_old _ _ (by simp only [World.size_alloc]; omega)]; exact heap_alloc_new _ _)
    have rA12_ := Lib.hid (show (((W.alloc (.cells #[a0_0, a0_1, a0_2, a0_3, a0_4] 30)).alloc (.cells #[a1_0, a1_1, a1_2, a1_3, a1_4] 30))).heap[W.heap.size + 1]? = some (.cells #[a1_0, a1_1, a1_2, a1_3, a1_4] 30 (0, 0)) from by exact heap_pair _ _ _)
    have G3_ := Lib.hid (show (W).grownBy (((W.alloc (.cells #[a0_0, a0_1, a0_2, a0_3, a0_4] 30)).alloc (.cells #[a1_0, a1_1, a1_2, a1_3, a1_4] 30))) none from (gby_alloc (gby_alloc (gby_refl _ _) _) _))
    have A0_0_ : (((W.alloc (.cells #[a0_0, a0_1, a0_2, a0_3, a0_4] 30)).alloc (.cells #[a1_0, a1_1, a1_2, a1_3, a1_4] 30))).cell? ⟨W.heap.size, 0, none⟩ = some (a0_0) := cell_of_row _ _ 0 _ _ _ rA01_.out
    have A0_1_ : (((W.alloc (.cells #[a0_0, a0_1, a0_2, a0_3, a0_4] 30)).alloc (.cells #[a1_0, a1_1, a1_2, a1_3, a1_4] 30))).cell? ⟨W.heap.size, 1, none⟩ = some (a0_1) := cell_of_row _ _ 1 _ _ _ rA01_.out
    have A0_2_ : (((W.alloc (.cells #[a0_0, a0_1, a0_2, a0_3, a0_4] 30)).alloc (.cells #[a1_0, a1_1, a1_2, a1_3, a1_4] 30))).cell? ⟨W.heap.size, 2, none⟩ = some (a0_2) := cell_of_row _ _ 2 _ _ _ rA01_.out
    have A0_3_ : (((W.alloc (.cells #[a0_0, a0_1, a0_2, a0_3, a0_4] 30)).alloc (.cells #[a1_0, a1_1, a1_2, a1_3, a1_4] 30))).cell? ⟨W.heap.size, 3, none⟩ = some (a0_3) := cell_of_row _ _ 3 _ _ _ rA01_.out
    have A0_4_ : (((W.alloc (.cells #[a0_0, a0_1, a0_2, a0_3, a0_4] 30)).alloc (.cells #[a1_0, a1_1, a1_2, a1_3, a1_4] 30))).cell? ⟨W.heap.size, 4, none⟩ = some (a0_4) := cell_of_row _ _ 4 _ _ _ rA01_.out
    have A1_0_ : (((W.alloc (.cells #[a0_0, a0_1, a0_2, a0_3, a0_4] 30)).alloc (.cells #[a1_0, a1_1, a1_2, a1_3, a1_4] 30))).cell? ⟨W.heap.size + 1, 0, none⟩ = some (a1_0) := cell_of_row _ _ 0 _ _ _ rA12_.out
    have A1_1_ : (((W.alloc (.cells #[a0_0, a0_1, a0_2, a0_3, a0_4] 30)).alloc (.cells #[a1_0, a1_1, a1_2, a1_3, a1_4] 30))).cell? ⟨W.heap.size + 1, 1, none⟩ = some (a1_1) := cell_of_row _ _ 1 _ _ _ rA12_.out
    have A1_2_ : (((W.alloc (.cells #[a0_0, a0_1, a0_2, a0_3, a0_4] 30)).alloc (.cells #[a1_0, a1_1, a1_2, a1_3, a1_4] 30))).cell? ⟨W.heap.size + 1, 2, none⟩ = some (a1_2) := cell_of_row _ _ 2 _ _ _ rA12_.out
    have A1_3_ : (((W.alloc (.cells #[a0_0, a0_1, a0_2, a0_3, a0_4] 30)).alloc (.cells #[a1_0, a1_1, a1_2, a1_3, a1_4] 30))).cell? ⟨W.heap.size + 1, 3, none⟩ = some (a1_3) := cell_of_row _ _ 3 _ _ _ rA12_.out
    have A1_4_ : (((W.alloc (.cells #[a0_0, a0_1, a0_2, a0_3, a0_4] 30)).alloc (.cells #[a1_0, a1_1, a1_2, a1_3, a1_4] 30))).cell? ⟨W.heap.size + 1, 4, none⟩ = some (a1_4) := cell_of_row _ _ 4 _ _ _ rA12_.out
    go_wp2_with fail
    go_at_call 10
    refine (szFabric_d _ 1048576 a0_0 a0_1 a0_2 a0_3 a0_4 xs0_0 xs0_1 xs0_2 xs0_3 xs0_4 (HI0_0.out.grow G3_.out) (HI0_1.out.grow G3_.out) (HI0_2.out.grow G3_.out) (HI0_3.out.grow G3_.out) (HI0_4.out.grow G3_.out) (by omega) (by omega)).mono ?_
    rintro e w1 ⟨he, g⟩
    rw [show lessN 1048576 (szL shNode xs0_0 + szL shI xs0_1 + szL shBar xs0_2 + szL (shL shI) xs0_3 + szL shB xs0_4) = -1 from if_pos hs0] at he
    subst he
    clear A0_0_ A0_1_ A0_2_ A0_3_ A0_4_ A1_0_ A1_1_ A1_2_ A1_3_ A1_4_
    have rA04_ := Lib.hid (show (w1).heap[W.heap.size]? = some (.cells #[a0_0, a0_1, a0_2, a0_3, a0_4] 30 (0, 0)) from row_held g rA01_.out)
    clear rA01_
    have rA15_ := Lib.hid (show (w1).heap[W.heap.size + 1]? = some (.cells #[a1_0, a1_1, a1_2, a1_3, a1_4] 30 (0, 0)) from row_held g rA12_.out)
    clear rA12_
    have G6_ := Lib.hid (show (W).grownBy (w1) none from gby_trans G3_.out g)
    clear g
    go_wp2
    go_ret
    exact ⟨rfl, gby_below G6_.out⟩
  obtain ⟨rr0, hr0⟩ : ∃ r, r = lessN 1048576 (szL shNode xs0_0 + szL shI xs0_1 + szL shBar xs0_2 + szL (shL shI) xs0_3 + szL shB xs0_4) := ⟨_, rfl⟩
  have hrr0 : rr0 = (1048576 : Int) - (((szL shNode xs0_0 + szL shI xs0_1 + szL shBar xs0_2 + szL (shL shI) xs0_3 + szL shB xs0_4) : Nat) : Int) := hr0.trans (if_neg hs0)
  have hn0 : ¬ rr0 < 0 := by omega
  have hu0 : rr0 ≤ 1048576 := by omega
  by_cases hs1 : rr0 < (((szL shNode xs1_0 + szL shI xs1_1 + szL shBar xs1_2 + szL (shL shI) xs1_3 + szL shB xs1_4) : Nat) : Int)
  · have hneg : (-1 : Int) < 0 := by omega
    have HR0 := Lib.hid hr0
    clear hr0 hrr0
    go_enter Try.func3, Try.ntmps3
    have rA01_ := Lib.hid (show (((W.alloc (.cells #[a0_0, a0_1, a0_2, a0_3, a0_4] 30)).alloc (.cells #[a1_0, a1_1, a1_2, a1_3, a1_4] 30))).heap[W.heap.size]? = some (.cells #[a0_0, a0_1, a0_2, a0_3, a0_4] 30 (0, 0)) from by rw [heap_alloc_old _ _ (by simp only [World.size_alloc]; omega)]; exact heap_alloc_new _ _)
    have rA12_ := Lib.hid (show (((W.alloc (.cells #[a0_0, a0_1, a0_2, a0_3, a0_4] 30)).alloc (.cells #[a1_0, a1_1, a1_2, a1_3, a1_4] 30))).heap[W.heap.size + 1]? = some (.cells #[a1_0, a1_1, a1_2, a1_3, a1_4] 30 (0, 0)) from by exact heap_pair _ _ _)
    have G3_ := Lib.hid (show (W).grownBy (((W.alloc (.cells #[a0_0, a0_1, a0_2, a0_3, a0_4] 30)).alloc (.cells #[a1_0, a1_1, a1_2, a1_3, a1_4] 30))) none from (gby_alloc (gby_alloc (gby_refl _ _) _) _))
    have A0_0_ : (((W.alloc (.cells #[a0_0, a0_1, a0_2, a0_3, a0_4] 30)).alloc (.cells #[a1_0, a1_1, a1_2, a1_3, a1_4] 30))).cell? ⟨W.heap.size, 0, none⟩ = some (a0_0) := cell_of_row _ _ 0 _ _ _ rA01_.out
    have A0_1_ : (((W.alloc (.cells #[a0_0, a0_1, a0_2, a0_3, a0_4] 30)).alloc (.cells #[a1_0, a1_1, a1_2, a1_3, a1_4] 30))).cell? ⟨W.heap.size, 1, none⟩ = some (a0_1) := cell_of_row _ _ 1 _ _ _ rA01_.out
    have A0_2_ : (((W.alloc (.cells #[a0_0, a0_1, a0_2, a0_3, a0_4] 30)).alloc (.cells #[a1_0, a1_1, a1_2, a1_3, a1_4] 30))).cell? ⟨W.heap.size, 2, none⟩ = some (a0_2) := cell_of_row _ _ 2 _ _ _ rA01_.out
    have A0_3_ : (((W.alloc (.cells #[a0_0, a0_1, a0_2, a0_3, a0_4] 30)).alloc (.cells #[a1_0, a1_1, a1_2, a1_3, a1_4] 30))).cell? ⟨W.heap.size, 3, none⟩ = some (a0_3) := cell_of_row _ _ 3 _ _ _ rA01_.out
    have A0_4_ : (((W.alloc (.cells #[a0_0, a0_1, a0_2, a0_3, a0_4] 30)).alloc (.cells #[a1_0, a1_1, a1_2, a1_3, a1_4] 30))).cell? ⟨W.heap.size, 4, none⟩ = some (a0_4) := cell_of_row _ _ 4 _ _ _ rA01_.out
    have A1_0_ : (((W.alloc (.cells #[a0_0, a0_1, a0_2, a0_3, a0_4] 30)).alloc (.cells #[a1_0, a1_1, a1_2, a1_3, a1_4] 30))).cell? ⟨W.heap.size + 1, 0, none⟩ = some (a1_0) := cell_of_row _ _ 0 _ _ _ rA12_.out
    have A1_1_ : (((W.alloc (.cells #[a0_0, a0_1, a0_2, a0_3, a0_4] 30)).alloc (.cells #[a1_0, a1_1, a1_2, a1_3, a1_4] 30))).cell? ⟨W.heap.size + 1, 1, none⟩ = some (a1_1) := cell_of_row _ _ 1 _ _ _ rA12_.out
    have A1_2_ : (((W.alloc (.cells #[a0_0, a0_1, a0_2, a0_3, a0_4] 30)).alloc (.cells #[a1_0, a1_1, a1_2, a1_3, a1_4] 30))).cell? ⟨W.heap.size + 1, 2, none⟩ = some (a1_2) := cell_of_row _ _ 2 _ _ _ rA12_.out
    have A1_3_ : (((W.alloc (.cells #[a0_0, a0_1, a0_2, a0_3, a0_4] 30)).alloc (.cells #[a1_0, a1_1, a1_2, a1_3, a1_4] 30))).cell? ⟨W.heap.size + 1, 3, none⟩ = some (a1_3) := cell_of_row _ _ 3 _ _ _ rA12_.out
    have A1_4_ : (((W.alloc (.cells #[a0_0, a0_1, a0_2, a0_3, a0_4] 30)).alloc (.cells #[a1_0, a1_1, a1_2, a1_3, a1_4] 30))).cell? ⟨W.heap.size + 1, 4, none⟩ = some (a1_4) := cell_of_row _ _ 4 _ _ _ rA12_.out
    go_wp2_with fail
    go_at_call 10
    refine (szFabric_d _ 1048576 a0_0 a0_1 a0_2 a0_3 a0_4 xs0_0 xs0_1 xs0_2 xs0_3 xs0_4 (HI0_0.out.grow G3_.out) (HI0_1.out.grow G3_.out) (HI0_2.out.grow G3_.out) (HI0_3.out.grow G3_.out) (HI0_4.out.grow G3_.out) (by omega) (by omega)).mono ?_
    rintro e w1 ⟨he, g⟩
    rw [← HR0.out] at he
    subst he
    clear A0_0_ A0_1_ A0_2_ A0_3_ A0_4_ A1_0_ A1_1_ A1_2_ A1_3_ A1_4_
    have rA04_ := Lib.hid (show (w1).heap[W.heap.size]? = some (.cells #[a0_0, a0_1, a0_2, a0_3, a0_4] 30 (0, 0)) from row_held g rA01_.out)
    clear rA01_
    have rA15_ := Lib.hid (show (w1).heap[W.heap.size + 1]? = some (.cells #[a1_0, a1_1, a1_2, a1_3, a1_4] 30 (0, 0)) from row_held g rA12_.out)
    clear rA12_
    have G6_ := Lib.hid (show (W).grownBy (w1) none from gby_trans G3_.out g)
    clear g
    have A0_0_ : (w1).cell? ⟨W.heap.size, 0, none⟩ = some (a0_0) := cell_of_row _ _ 0 _ _ _ rA04_.out
    have A0_1_ : (w1).cell? ⟨W.heap.size, 1, none⟩ = some (a0_1) := cell_of_row _ _ 1 _ _ _ rA04_.out
    have A0_2_ : (w1).cell? ⟨W.heap.size, 2, none⟩ = some (a0_2) := cell_of_row _ _ 2 _ _ _ rA04_.out
    have A0_3_ : (w1).cell? ⟨W.heap.size, 3, none⟩ = some (a0_3) := cell_of_row _ _ 3 _ _ _ rA04_.out
    have A0_4_ : (w1).cell? ⟨W.heap.size, 4, none⟩ = some (a0_4) := cell_of_row _ _ 4 _ _ _ rA04_.out
    have A1_0_ : (w1).cell? ⟨W.heap.size + 1, 0, none⟩ = some (a1_0) := cell_of_row _ _ 0 _ _ _ rA15_.out
    have A1_1_ : (w1).cell? ⟨W.heap.size + 1, 1, none⟩ = some (a1_1) := cell_of_row _ _ 1 _ _ _ rA15_.out
    have A1_2_ : (w1).cell? ⟨W.heap.size + 1, 2, none⟩ = some (a1_2) := cell_of_row _ _ 2 _ _ _ rA15_.out
    have A1_3_ : (w1).cell? ⟨W.heap.size + 1, 3, none⟩ = some (a1_3) := cell_of_row _ _ 3 _ _ _ rA15_.out
    have A1_4_ : (w1).cell? ⟨W.heap.size + 1, 4, none⟩ = some (a1_4) := cell_of_row _ _ 4 _ _ _ rA15_.out
    go_wp2_with fail
    go_at_call 10
    refine (szFabric_d _ rr0 a1_0 a1_1 a1_2 a1_3 a1_4 xs1_0 xs1_1 xs1_2 xs1_3 xs1_4 (HI1_0.out.grow G6_.out) (HI1_1.out.grow G6_.out) (HI1_2.out.grow G6_.out) (HI1_3.out.grow G6_.out) (HI1_4.out.grow G6_.out) (by omega) (by omega)).mono ?_
    rintro e w2 ⟨he, g⟩
    rw [show lessN rr0 (szL shNode xs1_0 + szL shI xs1_1 + szL shBar xs1_2 + szL (shL shI) xs1_3 + szL shB xs1_4) = -1 from if_pos hs1] at he
    subst he
    clear A0_0_ A0_1_ A0_2_ A0_3_ A0_4_ A1_0_ A1_1_ A1_2_ A1_3_ A1_4_
    have rA07_ := Lib.hid (show (w2).heap[W.heap.size]? = some (.cells #[a0_0, a0_1, a0_2, a0_3, a0_4] 30 (0, 0)) from row_held g rA04_.out)
    clear rA04_
    have rA18_ := Lib.hid (show (w2).heap[W.heap.size + 1]? = some (.cells #[a1_0, a1_1, a1_2, a1_3, a1_4] 30 (0, 0)) from row_held g rA15_.out)
    clear rA15_
    have G9_ := Lib.hid (show (W).grownBy (w2) none from gby_trans G6_.out g)
    clear g
    go_wp2
    go_ret
    exact ⟨rfl, gby_below G9_.out⟩
  obtain ⟨rr1, hr1⟩ : ∃ r, r = lessN rr0 (szL shNode xs1_0 + szL shI xs1_1 + szL shBar xs1_2 + szL (shL shI) xs1_3 + szL shB xs1_4) := ⟨_, rfl⟩
  have hrr1 : rr1 = rr0 - (((szL shNode xs1_0 + szL shI xs1_1 + szL shBar xs1_2 + szL (shL shI) xs1_3 + szL shB xs1_4) : Nat) : Int) := hr1.trans (if_neg hs1)
  have hn1 : ¬ rr1 < 0 := by omega
  have hu1 : rr1 ≤ 1048576 := by omega
  have hl0_0 : szL shNode xs0_0 ≤ 1048576 := by omega
  have hl0_1 : szL shI xs0_1 ≤ 1048576 := by omega
  have hl0_2 : szL shBar xs0_2 ≤ 1048576 := by omega
  have hl0_3 : szL (shL shI) xs0_3 ≤ 1048576 := by omega
  have hl0_4 : szL shB xs0_4 ≤ 1048576 := by omega
  have hl1_0 : szL shNode xs1_0 ≤ 1048576 := by omega
  have hl1_1 : szL shI xs1_1 ≤ 1048576 := by omega
  have hl1_2 : szL shBar xs1_2 ≤ 1048576 := by omega
  have hl1_3 : szL (shL shI) xs1_3 ≤ 1048576 := by omega
  have hl1_4 : szL shB xs1_4 ≤ 1048576 := by omega
  have HR0 := Lib.hid hr0
  clear hs0 hr0 hrr0
  have HR1 := Lib.hid hr1
  clear hs1 hr1 hrr1
  obtain ⟨br0, hs_, hi_⟩ := both xs0_0 xs0_1 xs0_2 xs0_3 xs0_4 xs1_0 xs1_1 xs1_2 xs1_3 xs1_4 hl0_0 hl0_1 hl0_2 hl0_3 hl0_4 hl1_0 hl1_1 hl1_2 hl1_3 hl1_4
  have HS := Lib.hid hs_
  have HM := Lib.hid hi_
  clear hs_ hi_
  try clear both
  have hb_br0 : (br0 != br0) = false := by simp
  go_enter Try.func3, Try.ntmps3
  have rA01_ := Lib.hid (show (((W.alloc (.cells #[a0_0, a0_1, a0_2, a0_3, a0_4] 30)).alloc (.cells #[a1_0, a1_1, a1_2, a1_3, a1_4] 30))).heap[W.heap.size]? = some (.cells #[a0_0, a0_1, a0_2, a0_3, a0_4] 30 (0, 0)) from by rw [heap_alloc_old _ _ (by simp only [World.size_alloc]; omega)]; exact heap_alloc_new _ _)
  have rA12_ := Lib.hid (show (((W.alloc (.cells #[a0_0, a0_1, a0_2, a0_3, a0_4] 30)).alloc (.cells #[a1_0, a1_1, a1_2, a1_3, a1_4] 30))).heap[W.heap.size + 1]? = some (.cells #[a1_0, a1_1, a1_2, a1_3, a1_4] 30 (0, 0)) from by exact heap_pair _ _ _)
  have G3_ := Lib.hid (show (W).grownBy (((W.alloc (.cells #[a0_0, a0_1, a0_2, a0_3, a0_4] 30)).alloc (.cells #[a1_0, a1_1, a1_2, a1_3, a1_4] 30))) none from (gby_alloc (gby_alloc (gby_refl _ _) _) _))
  have A0_0_ : (((W.alloc (.cells #[a0_0, a0_1, a0_2, a0_3, a0_4] 30)).alloc (.cells #[a1_0, a1_1, a1_2, a1_3, a1_4] 30))).cell? ⟨W.heap.size, 0, none⟩ = some (a0_0) := cell_of_row _ _ 0 _ _ _ rA01_.out
  have A0_1_ : (((W.alloc (.cells #[a0_0, a0_1, a0_2, a0_3, a0_4] 30)).alloc (.cells #[a1_0, a1_1, a1_2, a1_3, a1_4] 30))).cell? ⟨W.heap.size, 1, none⟩ = some (a0_1) := cell_of_row _ _ 1 _ _ _ rA01_.out
  have A0_2_ : (((W.alloc (.cells #[a0_0, a0_1, a0_2, a0_3, a0_4] 30)).alloc (.cells #[a1_0, a1_1, a1_2, a1_3, a1_4] 30))).cell? ⟨W.heap.size, 2, none⟩ = some (a0_2) := cell_of_row _ _ 2 _ _ _ rA01_.out
  have A0_3_ : (((W.alloc (.cells #[a0_0, a0_1, a0_2, a0_3, a0_4] 30)).alloc (.cells #[a1_0, a1_1, a1_2, a1_3, a1_4] 30))).cell? ⟨W.heap.size, 3, none⟩ = some (a0_3) := cell_of_row _ _ 3 _ _ _ rA01_.out
  have A0_4_ : (((W.alloc (.cells #[a0_0, a0_1, a0_2, a0_3, a0_4] 30)).alloc (.cells #[a1_0, a1_1, a1_2, a1_3, a1_4] 30))).cell? ⟨W.heap.size, 4, none⟩ = some (a0_4) := cell_of_row _ _ 4 _ _ _ rA01_.out
  have A1_0_ : (((W.alloc (.cells #[a0_0, a0_1, a0_2, a0_3, a0_4] 30)).alloc (.cells #[a1_0, a1_1, a1_2, a1_3, a1_4] 30))).cell? ⟨W.heap.size + 1, 0, none⟩ = some (a1_0) := cell_of_row _ _ 0 _ _ _ rA12_.out
  have A1_1_ : (((W.alloc (.cells #[a0_0, a0_1, a0_2, a0_3, a0_4] 30)).alloc (.cells #[a1_0, a1_1, a1_2, a1_3, a1_4] 30))).cell? ⟨W.heap.size + 1, 1, none⟩ = some (a1_1) := cell_of_row _ _ 1 _ _ _ rA12_.out
  have A1_2_ : (((W.alloc (.cells #[a0_0, a0_1, a0_2, a0_3, a0_4] 30)).alloc (.cells #[a1_0, a1_1, a1_2, a1_3, a1_4] 30))).cell? ⟨W.heap.size + 1, 2, none⟩ = some (a1_2) := cell_of_row _ _ 2 _ _ _ rA12_.out
  have A1_3_ : (((W.alloc (.cells #[a0_0, a0_1, a0_2, a0_3, a0_4] 30)).alloc (.cells #[a1_0, a1_1, a1_2, a1_3, a1_4] 30))).cell? ⟨W.heap.size + 1, 3, none⟩ = some (a1_3) := cell_of_row _ _ 3 _ _ _ rA12_.out
  have A1_4_ : (((W.alloc (.cells #[a0_0, a0_1, a0_2, a0_3, a0_4] 30)).alloc (.cells #[a1_0, a1_1, a1_2, a1_3, a1_4] 30))).cell? ⟨W.heap.size + 1, 4, none⟩ = some (a1_4) := cell_of_row _ _ 4 _ _ _ rA12_.out
  go_wp2_with fail
  go_at_call 10
  refine (szFabric_d _ 1048576 a0_0 a0_1 a0_2 a0_3 a0_4 xs0_0 xs0_1 xs0_2 xs0_3 xs0_4 (HI0_0.out.grow G3_.out) (HI0_1.out.grow G3_.out) (HI0_2.out.grow G3_.out) (HI0_3.out.grow G3_.out) (HI0_4.out.grow G3_.out) (by omega) (by omega)).mono ?_
  rintro e w1 ⟨he, g⟩
  rw [← HR0.out] at he
  subst he
  have zs1 := World.grownBy.size g
  try simp only [World.size_alloc] at zs1
  clear A0_0_ A0_1_ A0_2_ A0_3_ A0_4_ A1_0_ A1_1_ A1_2_ A1_3_ A1_4_
  have rA04_ := Lib.hid (show (w1).heap[W.heap.size]? = some (.cells #[a0_0, a0_1, a0_2, a0_3, a0_4] 30 (0, 0)) from row_held g rA01_.out)
  clear rA01_
  have rA15_ := Lib.hid (show (w1).heap[W.heap.size + 1]? = some (.cells #[a1_0, a1_1, a1_2, a1_3, a1_4] 30 (0, 0)) from row_held g rA12_.out)
  clear rA12_
  have G6_ := Lib.hid (show (W).grownBy (w1) none from gby_trans G3_.out g)
  clear g
  have A0_0_ : (w1).cell? ⟨W.heap.size, 0, none⟩ = some (a0_0) := cell_of_row _ _ 0 _ _ _ rA04_.out
  have A0_1_ : (w1).cell? ⟨W.heap.size, 1, none⟩ = some (a0_1) := cell_of_row _ _ 1 _ _ _ rA04_.out
  have A0_2_ : (w1).cell? ⟨W.heap.size, 2, none⟩ = some (a0_2) := cell_of_row _ _ 2 _ _ _ rA04_.out
  have A0_3_ : (w1).cell? ⟨W.heap.size, 3, none⟩ = some (a0_3) := cell_of_row _ _ 3 _ _ _ rA04_.out
  have A0_4_ : (w1).cell? ⟨W.heap.size, 4, none⟩ = some (a0_4) := cell_of_row _ _ 4 _ _ _ rA04_.out
  have A1_0_ : (w1).cell? ⟨W.heap.size + 1, 0, none⟩ = some (a1_0) := cell_of_row _ _ 0 _ _ _ rA15_.out
  have A1_1_ : (w1).cell? ⟨W.heap.size + 1, 1, none⟩ = some (a1_1) := cell_of_row _ _ 1 _ _ _ rA15_.out
  have A1_2_ : (w1).cell? ⟨W.heap.size + 1, 2, none⟩ = some (a1_2) := cell_of_row _ _ 2 _ _ _ rA15_.out
  have A1_3_ : (w1).cell? ⟨W.heap.size + 1, 3, none⟩ = some (a1_3) := cell_of_row _ _ 3 _ _ _ rA15_.out
  have A1_4_ : (w1).cell? ⟨W.heap.size + 1, 4, none⟩ = some (a1_4) := cell_of_row _ _ 4 _ _ _ rA15_.out
  go_wp2_with fail
  go_at_call 10
  refine (szFabric_d _ rr0 a1_0 a1_1 a1_2 a1_3 a1_4 xs1_0 xs1_1 xs1_2 xs1_3 xs1_4 (HI1_0.out.grow G6_.out) (HI1_1.out.grow G6_.out) (HI1_2.out.grow G6_.out) (HI1_3.out.grow G6_.out) (HI1_4.out.grow G6_.out) (by omega) (by omega)).mono ?_
  rintro e w2 ⟨he, g⟩
  rw [← HR1.out] at he
  subst he
  have zs2 := World.grownBy.size g
  try simp only [World.size_alloc] at zs2
  clear A0_0_ A0_1_ A0_2_ A0_3_ A0_4_ A1_0_ A1_1_ A1_2_ A1_3_ A1_4_
  have rA07_ := Lib.hid (show (w2).heap[W.heap.size]? = some (.cells #[a0_0, a0_1, a0_2, a0_3, a0_4] 30 (0, 0)) from row_held g rA04_.out)
  clear rA04_
  have rA18_ := Lib.hid (show (w2).heap[W.heap.size + 1]? = some (.cells #[a1_0, a1_1, a1_2, a1_3, a1_4] 30 (0, 0)) from row_held g rA15_.out)
  clear rA15_
  have G9_ := Lib.hid (show (W).grownBy (w2) none from gby_trans G6_.out g)
  clear g
  have A0_0_ : (w2).cell? ⟨W.heap.size, 0, none⟩ = some (a0_0) := cell_of_row _ _ 0 _ _ _ rA07_.out
  have A0_1_ : (w2).cell? ⟨W.heap.size, 1, none⟩ = some (a0_1) := cell_of_row _ _ 1 _ _ _ rA07_.out
  have A0_2_ : (w2).cell? ⟨W.heap.size, 2, none⟩ = some (a0_2) := cell_of_row _ _ 2 _ _ _ rA07_.out
  have A0_3_ : (w2).cell? ⟨W.heap.size, 3, none⟩ = some (a0_3) := cell_of_row _ _ 3 _ _ _ rA07_.out
  have A0_4_ : (w2).cell? ⟨W.heap.size, 4, none⟩ = some (a0_4) := cell_of_row _ _ 4 _ _ _ rA07_.out
  have A1_0_ : (w2).cell? ⟨W.heap.size + 1, 0, none⟩ = some (a1_0) := cell_of_row _ _ 0 _ _ _ rA18_.out
  have A1_1_ : (w2).cell? ⟨W.heap.size + 1, 1, none⟩ = some (a1_1) := cell_of_row _ _ 1 _ _ _ rA18_.out
  have A1_2_ : (w2).cell? ⟨W.heap.size + 1, 2, none⟩ = some (a1_2) := cell_of_row _ _ 2 _ _ _ rA18_.out
  have A1_3_ : (w2).cell? ⟨W.heap.size + 1, 3, none⟩ = some (a1_3) := cell_of_row _ _ 3 _ _ _ rA18_.out
  have A1_4_ : (w2).cell? ⟨W.heap.size + 1, 4, none⟩ = some (a1_4) := cell_of_row _ _ 4 _ _ _ rA18_.out
  go_wp2_with fail
  go_region_held3 (fun w' => w'.cell? ⟨W.heap.size, 0, none⟩ = some (a0_0) ∧ w'.cell? ⟨W.heap.size, 1, none⟩ = some (a0_1) ∧ w'.cell? ⟨W.heap.size, 2, none⟩ = some (a0_2) ∧ w'.cell? ⟨W.heap.size, 3, none⟩ = some (a0_3) ∧ w'.cell? ⟨W.heap.size, 4, none⟩ = some (a0_4) ∧ w'.cell? ⟨W.heap.size + 1, 0, none⟩ = some (a1_0) ∧ w'.cell? ⟨W.heap.size + 1, 1, none⟩ = some (a1_1) ∧ w'.cell? ⟨W.heap.size + 1, 2, none⟩ = some (a1_2) ∧ w'.cell? ⟨W.heap.size + 1, 3, none⟩ = some (a1_3) ∧ w'.cell? ⟨W.heap.size + 1, 4, none⟩ = some (a1_4))
    (first
      | exact ⟨A0_0_, A0_1_, A0_2_, A0_3_, A0_4_, A1_0_, A1_1_, A1_2_, A1_3_, A1_4_⟩
      | with_reducible exact ⟨(World.grownBy.cell (gby_drew (gby_refl _ none)) A0_0_ (by simp)), (World.grownBy.cell (gby_drew (gby_refl _ none)) A0_1_ (by simp)), (World.grownBy.cell (gby_drew (gby_refl _ none)) A0_2_ (by simp)), (World.grownBy.cell (gby_drew (gby_refl _ none)) A0_3_ (by simp)), (World.grownBy.cell (gby_drew (gby_refl _ none)) A0_4_ (by simp)), (World.grownBy.cell (gby_drew (gby_refl _ none)) A1_0_ (by simp)), (World.grownBy.cell (gby_drew (gby_refl _ none)) A1_1_ (by simp)), (World.grownBy.cell (gby_drew (gby_refl _ none)) A1_2_ (by simp)), (World.grownBy.cell (gby_drew (gby_refl _ none)) A1_3_ (by simp)), (World.grownBy.cell (gby_drew (gby_refl _ none)) A1_4_ (by simp))⟩
      | with_reducible exact ⟨(World.grownBy.cell (gby_trans (gby_drew (gby_refl _ none)) gA0) A0_0_ (by simp)), (World.grownBy.cell (gby_trans (gby_drew (gby_refl _ none)) gA0) A0_1_ (by simp)), (World.grownBy.cell (gby_trans (gby_drew (gby_refl _ none)) gA0) A0_2_ (by simp)), (World.grownBy.cell (gby_trans (gby_drew (gby_refl _ none)) gA0) A0_3_ (by simp)), (World.grownBy.cell (gby_trans (gby_drew (gby_refl _ none)) gA0) A0_4_ (by simp)), (World.grownBy.cell (gby_trans (gby_drew (gby_refl _ none)) gA0) A1_0_ (by simp)), (World.grownBy.cell (gby_trans (gby_drew (gby_refl _ none)) gA0) A1_1_ (by simp)), (World.grownBy.cell (gby_trans (gby_drew (gby_refl _ none)) gA0) A1_2_ (by simp)), (World.grownBy.cell (gby_trans (gby_drew (gby_refl _ none)) gA0) A1_3_ (by simp)), (World.grownBy.cell (gby_trans (gby_drew (gby_refl _ none)) gA0) A1_4_ (by simp))⟩
      | with_reducible exact ⟨(World.grownBy.cell (gby_trans (gby_trans (gby_drew (gby_refl _ none)) gA0) gA1) A0_0_ (by simp)), (World.grownBy.cell (gby_trans (gby_trans (gby_drew (gby_refl _ none)) gA0) gA1) A0_1_ (by simp)), (World.grownBy.cell (gby_trans (gby_trans (gby_drew (gby_refl _ none)) gA0) gA1) A0_2_ (by simp)), (World.grownBy.cell (gby_trans (gby_trans (gby_drew (gby_refl _ none)) gA0) gA1) A0_3_ (by simp)), (World.grownBy.cell (gby_trans (gby_trans (gby_drew (gby_refl _ none)) gA0) gA1) A0_4_ (by simp)), (World.grownBy.cell (gby_trans (gby_trans (gby_drew (gby_refl _ none)) gA0) gA1) A1_0_ (by simp)), (World.grownBy.cell (gby_trans (gby_trans (gby_drew (gby_refl _ none)) gA0) gA1) A1_1_ (by simp)), (World.grownBy.cell (gby_trans (gby_trans (gby_drew (gby_refl _ none)) gA0) gA1) A1_2_ (by simp)), (World.grownBy.cell (gby_trans (gby_trans (gby_drew (gby_refl _ none)) gA0) gA1) A1_3_ (by simp)), (World.grownBy.cell (gby_trans (gby_trans (gby_drew (gby_refl _ none)) gA0) gA1) A1_4_ (by simp))⟩
      | with_reducible exact ⟨(World.grownBy.cell (gby_trans (gby_trans (gby_trans (gby_drew (gby_refl _ none)) gA0) gA1) gS) A0_0_ (by simp)), (World.grownBy.cell (gby_trans (gby_trans (gby_trans (gby_drew (gby_refl _ none)) gA0) gA1) gS) A0_1_ (by simp)), (World.grownBy.cell (gby_trans (gby_trans (gby_trans (gby_drew (gby_refl _ none)) gA0) gA1) gS) A0_2_ (by simp)), (World.grownBy.cell (gby_trans (gby_trans (gby_trans (gby_drew (gby_refl _ none)) gA0) gA1) gS) A0_3_ (by simp)), (World.grownBy.cell (gby_trans (gby_trans (gby_trans (gby_drew (gby_refl _ none)) gA0) gA1) gS) A0_4_ (by simp)), (World.grownBy.cell (gby_trans (gby_trans (gby_trans (gby_drew (gby_refl _ none)) gA0) gA1) gS) A1_0_ (by simp)), (World.grownBy.cell (gby_trans (gby_trans (gby_trans (gby_drew (gby_refl _ none)) gA0) gA1) gS) A1_1_ (by simp)), (World.grownBy.cell (gby_trans (gby_trans (gby_trans (gby_drew (gby_refl _ none)) gA0) gA1) gS) A1_2_ (by simp)), (World.grownBy.cell (gby_trans (gby_trans (gby_trans (gby_drew (gby_refl _ none)) gA0) gA1) gS) A1_3_ (by simp)), (World.grownBy.cell (gby_trans (gby_trans (gby_trans (gby_drew (gby_refl _ none)) gA0) gA1) gS) A1_4_ (by simp))⟩
      | exact ⟨(World.grownBy.cell (gby_drew (gby_refl _ none)) A0_0_ (by simp)), (World.grownBy.cell (gby_drew (gby_refl _ none)) A0_1_ (by simp)), (World.grownBy.cell (gby_drew (gby_refl _ none)) A0_2_ (by simp)), (World.grownBy.cell (gby_drew (gby_refl _ none)) A0_3_ (by simp)), (World.grownBy.cell (gby_drew (gby_refl _ none)) A0_4_ (by simp)), (World.grownBy.cell (gby_drew (gby_refl _ none)) A1_0_ (by simp)), (World.grownBy.cell (gby_drew (gby_refl _ none)) A1_1_ (by simp)), (World.grownBy.cell (gby_drew (gby_refl _ none)) A1_2_ (by simp)), (World.grownBy.cell (gby_drew (gby_refl _ none)) A1_3_ (by simp)), (World.grownBy.cell (gby_drew (gby_refl _ none)) A1_4_ (by simp))⟩
      | exact ⟨(World.grownBy.cell (gby_trans (gby_drew (gby_refl _ none)) gA0) A0_0_ (by simp)), (World.grownBy.cell (gby_trans (gby_drew (gby_refl _ none)) gA0) A0_1_ (by simp)), (World.grownBy.cell (gby_trans (gby_drew (gby_refl _ none)) gA0) A0_2_ (by simp)), (World.grownBy.cell (gby_trans (gby_drew (gby_refl _ none)) gA0) A0_3_ (by simp)), (World.grownBy.cell (gby_trans (gby_drew (gby_refl _ none)) gA0) A0_4_ (by simp)), (World.grownBy.cell (gby_trans (gby_drew (gby_refl _ none)) gA0) A1_0_ (by simp)), (World.grownBy.cell (gby_trans (gby_drew (gby_refl _ none)) gA0) A1_1_ (by simp)), (World.grownBy.cell (gby_trans (gby_drew (gby_refl _ none)) gA0) A1_2_ (by simp)), (World.grownBy.cell (gby_trans (gby_drew (gby_refl _ none)) gA0) A1_3_ (by simp)), (World.grownBy.cell (gby_trans (gby_drew (gby_refl _ none)) gA0) A1_4_ (by simp))⟩
      | exact ⟨(World.grownBy.cell (gby_trans (gby_trans (gby_drew (gby_refl _ none)) gA0) gA1) A0_0_ (by simp)), (World.grownBy.cell (gby_trans (gby_trans (gby_drew (gby_refl _ none)) gA0) gA1) A0_1_ (by simp)), (World.grownBy.cell (gby_trans (gby_trans (gby_drew (gby_refl _ none)) gA0) gA1) A0_2_ (by simp)), (World.grownBy.cell (gby_trans (gby_trans (gby_drew (gby_refl _ none)) gA0) gA1) A0_3_ (by simp)), (World.grownBy.cell (gby_trans (gby_trans (gby_drew (gby_refl _ none)) gA0) gA1) A0_4_ (by simp)), (World.grownBy.cell (gby_trans (gby_trans (gby_drew (gby_refl _ none)) gA0) gA1) A1_0_ (by simp)), (World.grownBy.cell (gby_trans (gby_trans (gby_drew (gby_refl _ none)) gA0) gA1) A1_1_ (by simp)), (World.grownBy.cell (gby_trans (gby_trans (gby_drew (gby_refl _ none)) gA0) gA1) A1_2_ (by simp)), (World.grownBy.cell (gby_trans (gby_trans (gby_drew (gby_refl _ none)) gA0) gA1) A1_3_ (by simp)), (World.grownBy.cell (gby_trans (gby_trans (gby_drew (gby_refl _ none)) gA0) gA1) A1_4_ (by simp))⟩
      | exact ⟨(World.grownBy.cell (gby_trans (gby_trans (gby_trans (gby_drew (gby_refl _ none)) gA0) gA1) gS) A0_0_ (by simp)), (World.grownBy.cell (gby_trans (gby_trans (gby_trans (gby_drew (gby_refl _ none)) gA0) gA1) gS) A0_1_ (by simp)), (World.grownBy.cell (gby_trans (gby_trans (gby_trans (gby_drew (gby_refl _ none)) gA0) gA1) gS) A0_2_ (by simp)), (World.grownBy.cell (gby_trans (gby_trans (gby_trans (gby_drew (gby_refl _ none)) gA0) gA1) gS) A0_3_ (by simp)), (World.grownBy.cell (gby_trans (gby_trans (gby_trans (gby_drew (gby_refl _ none)) gA0) gA1) gS) A0_4_ (by simp)), (World.grownBy.cell (gby_trans (gby_trans (gby_trans (gby_drew (gby_refl _ none)) gA0) gA1) gS) A1_0_ (by simp)), (World.grownBy.cell (gby_trans (gby_trans (gby_trans (gby_drew (gby_refl _ none)) gA0) gA1) gS) A1_1_ (by simp)), (World.grownBy.cell (gby_trans (gby_trans (gby_trans (gby_drew (gby_refl _ none)) gA0) gA1) gS) A1_2_ (by simp)), (World.grownBy.cell (gby_trans (gby_trans (gby_trans (gby_drew (gby_refl _ none)) gA0) gA1) gS) A1_3_ (by simp)), (World.grownBy.cell (gby_trans (gby_trans (gby_trans (gby_drew (gby_refl _ none)) gA0) gA1) gS) A1_4_ (by simp))⟩
      | fail)
    (first
      | (go_at_call_of 12 (Value.agg #[a0_0, a0_1, a0_2, a0_3, a0_4]); refine (toFabric_d _ a0_0 a0_1 a0_2 a0_3 a0_4 xs0_0 xs0_1 xs0_2 xs0_3 xs0_4 (HI0_0.out.grow (gby_drew G9_.out)) hl0_0 (HI0_1.out.grow (gby_drew G9_.out)) hl0_1 (HI0_2.out.grow (gby_drew G9_.out)) hl0_2 (HI0_3.out.grow (gby_drew G9_.out)) hl0_3 (HI0_4.out.grow (gby_drew G9_.out)) hl0_4).mono ?_; rintro e wA0 ⟨t10_0, t10_1, t10_2, t10_3, t10_4, rfl, oR0, gA0⟩; have sA0 := gA0.size; (try simp only [World.size_alloc] at sA0); obtain ⟨t10_0p, t10_0n, t10_0c, hv_⟩ := RdL.form (OwU.rd oR0); subst hv_; obtain ⟨t10_1p, t10_1n, t10_1c, hv_⟩ := RdL.form (OwU.rd (OwU.tail oR0)); subst hv_; obtain ⟨t10_2p, t10_2n, t10_2c, hv_⟩ := RdL.form (OwU.rd (OwU.tail (OwU.tail oR0))); subst hv_; obtain ⟨t10_3p, t10_3n, t10_3c, hv_⟩ := RdL.form (OwU.rd (OwU.tail (OwU.tail (OwU.tail oR0)))); subst hv_; obtain ⟨t10_4p, t10_4n, t10_4c, hv_⟩ := RdL.form (OwU.rd (OwU.tail (OwU.tail (OwU.tail (OwU.tail oR0))))); subst hv_; try unfold vFabric)
      | (go_at_call_of 12 (Value.agg #[a1_0, a1_1, a1_2, a1_3, a1_4]); refine (toFabric_d _ a1_0 a1_1 a1_2 a1_3 a1_4 xs1_0 xs1_1 xs1_2 xs1_3 xs1_4 (HI1_0.out.grow (gby_trans (gby_drew G9_.out) gA0)) hl1_0 (HI1_1.out.grow (gby_trans (gby_drew G9_.out) gA0)) hl1_1 (HI1_2.out.grow (gby_trans (gby_drew G9_.out) gA0)) hl1_2 (HI1_3.out.grow (gby_trans (gby_drew G9_.out) gA0)) hl1_3 (HI1_4.out.grow (gby_trans (gby_drew G9_.out) gA0)) hl1_4).mono ?_; rintro e wA1 ⟨t21_0, t21_1, t21_2, t21_3, t21_4, rfl, oR1, gA1⟩; have sA1 := gA1.size; (try simp only [World.size_alloc] at sA1); obtain ⟨t21_0p, t21_0n, t21_0c, hv_⟩ := RdL.form (OwU.rd oR1); subst hv_; obtain ⟨t21_1p, t21_1n, t21_1c, hv_⟩ := RdL.form (OwU.rd (OwU.tail oR1)); subst hv_; obtain ⟨t21_2p, t21_2n, t21_2c, hv_⟩ := RdL.form (OwU.rd (OwU.tail (OwU.tail oR1))); subst hv_; obtain ⟨t21_3p, t21_3n, t21_3c, hv_⟩ := RdL.form (OwU.rd (OwU.tail (OwU.tail (OwU.tail oR1)))); subst hv_; obtain ⟨t21_4p, t21_4n, t21_4c, hv_⟩ := RdL.form (OwU.rd (OwU.tail (OwU.tail (OwU.tail (OwU.tail oR1))))); subst hv_; try unfold vFabric)
      | (go_at_call 11; refine (HS.out _ (.slice t10_0p t10_0n t10_0c) (.slice t10_1p t10_1n t10_1c) (.slice t10_2p t10_2n t10_2c) (.slice t10_3p t10_3n t10_3c) (.slice t10_4p t10_4n t10_4c) (.slice t21_0p t21_0n t21_0c) (.slice t21_1p t21_1n t21_1c) (.slice t21_2p t21_2n t21_2c) (.slice t21_3p t21_3n t21_3c) (.slice t21_4p t21_4n t21_4c) (RdL.grow (OwU.rd oR0) (gby_trans (gby_refl _ none) gA1)) (RdL.grow (OwU.rd (OwU.tail oR0)) (gby_trans (gby_refl _ none) gA1)) (RdL.grow (OwU.rd (OwU.tail (OwU.tail oR0))) (gby_trans (gby_refl _ none) gA1)) (RdL.grow (OwU.rd (OwU.tail (OwU.tail (OwU.tail oR0)))) (gby_trans (gby_refl _ none) gA1)) (RdL.grow (OwU.rd (OwU.tail (OwU.tail (OwU.tail (OwU.tail oR0))))) (gby_trans (gby_refl _ none) gA1)) (RdL.grow (OwU.rd oR1) (gby_refl _ none)) (RdL.grow (OwU.rd (OwU.tail oR1)) (gby_refl _ none)) (RdL.grow (OwU.rd (OwU.tail (OwU.tail oR1))) (gby_refl _ none)) (RdL.grow (OwU.rd (OwU.tail (OwU.tail (OwU.tail oR1)))) (gby_refl _ none)) (RdL.grow (OwU.rd (OwU.tail (OwU.tail (OwU.tail (OwU.tail oR1))))) (gby_refl _ none))).mono ?_; rintro e wS ⟨rfl, gS⟩; have sS := gS.size; (try simp only [World.size_alloc] at sS); skip)
      | fail)
  clear A0_0_ A0_1_ A0_2_ A0_3_ A0_4_ A1_0_ A1_1_ A1_2_ A1_3_ A1_4_
  all_goals
    have g : (w2).grownBy wS none := (gby_trans (gby_trans (gby_trans (gby_drew (gby_refl _ none)) gA0) gA1) gS)
    clear gA0 gA1 gS oR0 oR1
    have sz_ := g.size
    try simp only [World.size_alloc] at sz_
    have zs3 := World.grownBy.size g
    try simp only [World.size_alloc] at zs3
    have rA010_ := Lib.hid (show (wS).heap[W.heap.size]? = some (.cells #[a0_0, a0_1, a0_2, a0_3, a0_4] 30 (0, 0)) from row_held g rA07_.out)
    clear rA07_
    have rA111_ := Lib.hid (show (wS).heap[W.heap.size + 1]? = some (.cells #[a1_0, a1_1, a1_2, a1_3, a1_4] 30 (0, 0)) from row_held g rA18_.out)
    clear rA18_
    have G12_ := Lib.hid (show (W).grownBy (wS) none from gby_trans G9_.out g)
    clear g
    have szwS := sz_
    clear sz_
    have A0_0_ : (wS).cell? ⟨W.heap.size, 0, none⟩ = some (a0_0) := cell_of_row _ _ 0 _ _ _ rA010_.out
    have A0_1_ : (wS).cell? ⟨W.heap.size, 1, none⟩ = some (a0_1) := cell_of_row _ _ 1 _ _ _ rA010_.out
    have A0_2_ : (wS).cell? ⟨W.heap.size, 2, none⟩ = some (a0_2) := cell_of_row _ _ 2 _ _ _ rA010_.out
    have A0_3_ : (wS).cell? ⟨W.heap.size, 3, none⟩ = some (a0_3) := cell_of_row _ _ 3 _ _ _ rA010_.out
    have A0_4_ : (wS).cell? ⟨W.heap.size, 4, none⟩ = some (a0_4) := cell_of_row _ _ 4 _ _ _ rA010_.out
    go_wp2_with fail
    go_at_call 12
    refine (toFabric_d _ a0_0 a0_1 a0_2 a0_3 a0_4 xs0_0 xs0_1 xs0_2 xs0_3 xs0_4 (HI0_0.out.grow G12_.out) hl0_0 (HI0_1.out.grow G12_.out) hl0_1 (HI0_2.out.grow G12_.out) hl0_2 (HI0_3.out.grow G12_.out) hl0_3 (HI0_4.out.grow G12_.out) hl0_4).mono ?_
    rintro e w4 ⟨x00_0, x00_1, x00_2, x00_3, x00_4, rfl, o, g⟩
    have sz_ := g.size
    try simp only [World.size_alloc] at sz_
    try simp only [World.size_alloc] at o
    have zs4 := World.grownBy.size g
    try simp only [World.size_alloc] at zs4
    clear A0_0_ A0_1_ A0_2_ A0_3_ A0_4_
    have rA013_ := Lib.hid (show (w4).heap[W.heap.size]? = some (.cells #[a0_0, a0_1, a0_2, a0_3, a0_4] 30 (0, 0)) from row_held g rA010_.out)
    clear rA010_
    have rA114_ := Lib.hid (show (w4).heap[W.heap.size + 1]? = some (.cells #[a1_0, a1_1, a1_2, a1_3, a1_4] 30 (0, 0)) from row_held g rA111_.out)
    clear rA111_
    have G15_ := Lib.hid (show (W).grownBy (w4) none from gby_trans G12_.out g)
    clear g
    have szw4 := sz_
    clear sz_
    obtain ⟨x00_0p, x00_0n, x00_0c, hv_⟩ := RdL.form (OwU.rd o)
    subst hv_
    obtain ⟨x00_1p, x00_1n, x00_1c, hv_⟩ := RdL.form (OwU.rd (OwU.tail o))
    subst hv_
    obtain ⟨x00_2p, x00_2n, x00_2c, hv_⟩ := RdL.form (OwU.rd (OwU.tail (OwU.tail o)))
    subst hv_
    obtain ⟨x00_3p, x00_3n, x00_3c, hv_⟩ := RdL.form (OwU.rd (OwU.tail (OwU.tail (OwU.tail o))))
    subst hv_
    obtain ⟨x00_4p, x00_4n, x00_4c, hv_⟩ := RdL.form (OwU.rd (OwU.tail (OwU.tail (OwU.tail (OwU.tail o)))))
    subst hv_
    have ox016_ := Lib.hid (show OwU (w4) (wS.heap.size) (w4.heap.size) [] [own shNode (.slice x00_0p x00_0n x00_0c) xs0_0, own shI (.slice x00_1p x00_1n x00_1c) xs0_1, own shBar (.slice x00_2p x00_2n x00_2c) xs0_2, own (shL shI) (.slice x00_3p x00_3n x00_3c) xs0_3, own shB (.slice x00_4p x00_4n x00_4c) xs0_4] from o)
    clear o
    try unfold vFabric
    have al : (w4).grownBy ((w4).alloc (.cells #[(.slice x00_0p x00_0n x00_0c), (.slice x00_1p x00_1n x00_1c), (.slice x00_2p x00_2n x00_2c), (.slice x00_3p x00_3n x00_3c), (.slice x00_4p x00_4n x00_4c)] 37)) none := gby_alloc (gby_refl _ _) _
    have zs5 := World.grownBy.size al
    try simp only [World.size_alloc] at zs5
    have rA017_ := Lib.hid (show ((w4.alloc (.cells #[(.slice x00_0p x00_0n x00_0c), (.slice x00_1p x00_1n x00_1c), (.slice x00_2p x00_2n x00_2c), (.slice x00_3p x00_3n x00_3c), (.slice x00_4p x00_4n x00_4c)] 37))).heap[W.heap.size]? = some (.cells #[a0_0, a0_1, a0_2, a0_3, a0_4] 30 (0, 0)) from row_held al rA013_.out)
    clear rA013_
    have rA118_ := Lib.hid (show ((w4.alloc (.cells #[(.slice x00_0p x00_0n x00_0c), (.slice x00_1p x00_1n x00_1c), (.slice x00_2p x00_2n x00_2c), (.slice x00_3p x00_3n x00_3c), (.slice x00_4p x00_4n x00_4c)] 37))).heap[W.heap.size + 1]? = some (.cells #[a1_0, a1_1, a1_2, a1_3, a1_4] 30 (0, 0)) from row_held al rA114_.out)
    clear rA114_
    have ox019_ := Lib.hid (show OwU ((w4.alloc (.cells #[(.slice x00_0p x00_0n x00_0c), (.slice x00_1p x00_1n x00_1c), (.slice x00_2p x00_2n x00_2c), (.slice x00_3p x00_3n x00_3c), (.slice x00_4p x00_4n x00_4c)] 37))) (wS.heap.size) (w4.heap.size) [] [own shNode (.slice x00_0p x00_0n x00_0c) xs0_0, own shI (.slice x00_1p x00_1n x00_1c) xs0_1, own shBar (.slice x00_2p x00_2n x00_2c) xs0_2, own (shL shI) (.slice x00_3p x00_3n x00_3c) xs0_3, own shB (.slice x00_4p x00_4n x00_4c) xs0_4] from OwU.grow ox016_.out al)
    clear ox016_
    have G20_ := Lib.hid (show (W).grownBy ((w4.alloc (.cells #[(.slice x00_0p x00_0n x00_0c), (.slice x00_1p x00_1n x00_1c), (.slice x00_2p x00_2n x00_2c), (.slice x00_3p x00_3n x00_3c), (.slice x00_4p x00_4n x00_4c)] 37))) none from gby_trans G15_.out al)
    have rBx021_ := Lib.hid (show ((w4.alloc (.cells #[(.slice x00_0p x00_0n x00_0c), (.slice x00_1p x00_1n x00_1c), (.slice x00_2p x00_2n x00_2c), (.slice x00_3p x00_3n x00_3c), (.slice x00_4p x00_4n x00_4c)] 37))).heap[w4.heap.size]? = some (.cells #[(.slice x00_0p x00_0n x00_0c), (.slice x00_1p x00_1n x00_1c), (.slice x00_2p x00_2n x00_2c), (.slice x00_3p x00_3n x00_3c), (.slice x00_4p x00_4n x00_4c)] 37 (0, 0)) from by first | exact heap_alloc_new _ _ | exact heap_pair _ _ _ | exact heap_trip _ _ _ _)
    clear al
    have A1_0_ : ((w4.alloc (.cells #[(.slice x00_0p x00_0n x00_0c), (.slice x00_1p x00_1n x00_1c), (.slice x00_2p x00_2n x00_2c), (.slice x00_3p x00_3n x00_3c), (.slice x00_4p x00_4n x00_4c)] 37))).cell? ⟨W.heap.size + 1, 0, none⟩ = some (a1_0) := cell_of_row _ _ 0 _ _ _ rA118_.out
    have A1_1_ : ((w4.alloc (.cells #[(.slice x00_0p x00_0n x00_0c), (.slice x00_1p x00_1n x00_1c), (.slice x00_2p x00_2n x00_2c), (.slice x00_3p x00_3n x00_3c), (.slice x00_4p x00_4n x00_4c)] 37))).cell? ⟨W.heap.size + 1, 1, none⟩ = some (a1_1) := cell_of_row _ _ 1 _ _ _ rA118_.out
    have A1_2_ : ((w4.alloc (.cells #[(.slice x00_0p x00_0n x00_0c), (.slice x00_1p x00_1n x00_1c), (.slice x00_2p x00_2n x00_2c), (.slice x00_3p x00_3n x00_3c), (.slice x00_4p x00_4n x00_4c)] 37))).cell? ⟨W.heap.size + 1, 2, none⟩ = some (a1_2) := cell_of_row _ _ 2 _ _ _ rA118_.out
    have A1_3_ : ((w4.alloc (.cells #[(.slice x00_0p x00_0n x00_0c), (.slice x00_1p x00_1n x00_1c), (.slice x00_2p x00_2n x00_2c), (.slice x00_3p x00_3n x00_3c), (.slice x00_4p x00_4n x00_4c)] 37))).cell? ⟨W.heap.size + 1, 3, none⟩ = some (a1_3) := cell_of_row _ _ 3 _ _ _ rA118_.out
    have A1_4_ : ((w4.alloc (.cells #[(.slice x00_0p x00_0n x00_0c), (.slice x00_1p x00_1n x00_1c), (.slice x00_2p x00_2n x00_2c), (.slice x00_3p x00_3n x00_3c), (.slice x00_4p x00_4n x00_4c)] 37))).cell? ⟨W.heap.size + 1, 4, none⟩ = some (a1_4) := cell_of_row _ _ 4 _ _ _ rA118_.out
    go_wp2_with fail
    go_at_call 12
    refine (toFabric_d _ a1_0 a1_1 a1_2 a1_3 a1_4 xs1_0 xs1_1 xs1_2 xs1_3 xs1_4 (HI1_0.out.grow G20_.out) hl1_0 (HI1_1.out.grow G20_.out) hl1_1 (HI1_2.out.grow G20_.out) hl1_2 (HI1_3.out.grow G20_.out) hl1_3 (HI1_4.out.grow G20_.out) hl1_4).mono ?_
    rintro e w5 ⟨x11_0, x11_1, x11_2, x11_3, x11_4, rfl, o, g⟩
    have sz_ := g.size
    try simp only [World.size_alloc] at sz_
    try simp only [World.size_alloc] at o
    have zs6 := World.grownBy.size g
    try simp only [World.size_alloc] at zs6
    clear A1_0_ A1_1_ A1_2_ A1_3_ A1_4_
    have rA022_ := Lib.hid (show (w5).heap[W.heap.size]? = some (.cells #[a0_0, a0_1, a0_2, a0_3, a0_4] 30 (0, 0)) from row_held g rA017_.out)
    clear rA017_
    have rA123_ := Lib.hid (show (w5).heap[W.heap.size + 1]? = some (.cells #[a1_0, a1_1, a1_2, a1_3, a1_4] 30 (0, 0)) from row_held g rA118_.out)
    clear rA118_
    have rBx024_ := Lib.hid (show (w5).heap[w4.heap.size]? = some (.cells #[(.slice x00_0p x00_0n x00_0c), (.slice x00_1p x00_1n x00_1c), (.slice x00_2p x00_2n x00_2c), (.slice x00_3p x00_3n x00_3c), (.slice x00_4p x00_4n x00_4c)] 37 (0, 0)) from row_held g rBx021_.out)
    clear rBx021_
    have ox025_ := Lib.hid (show OwU (w5) (wS.heap.size) (w4.heap.size) [] [own shNode (.slice x00_0p x00_0n x00_0c) xs0_0, own shI (.slice x00_1p x00_1n x00_1c) xs0_1, own shBar (.slice x00_2p x00_2n x00_2c) xs0_2, own (shL shI) (.slice x00_3p x00_3n x00_3c) xs0_3, own shB (.slice x00_4p x00_4n x00_4c) xs0_4] from OwU.grow ox019_.out g)
    clear ox019_
    have G26_ := Lib.hid (show (W).grownBy (w5) none from gby_trans G20_.out g)
    clear g
    have szw5 := sz_
    clear sz_
    obtain ⟨x11_0p, x11_0n, x11_0c, hv_⟩ := RdL.form (OwU.rd o)
    subst hv_
    obtain ⟨x11_1p, x11_1n, x11_1c, hv_⟩ := RdL.form (OwU.rd (OwU.tail o))
    subst hv_
    obtain ⟨x11_2p, x11_2n, x11_2c, hv_⟩ := RdL.form (OwU.rd (OwU.tail (OwU.tail o)))
    subst hv_
    obtain ⟨x11_3p, x11_3n, x11_3c, hv_⟩ := RdL.form (OwU.rd (OwU.tail (OwU.tail (OwU.tail o))))
    subst hv_
    obtain ⟨x11_4p, x11_4n, x11_4c, hv_⟩ := RdL.form (OwU.rd (OwU.tail (OwU.tail (OwU.tail (OwU.tail o)))))
    subst hv_
    have ox127_ := Lib.hid (show OwU (w5) (w4.heap.size + 1) (w5.heap.size) [] [own shNode (.slice x11_0p x11_0n x11_0c) xs1_0, own shI (.slice x11_1p x11_1n x11_1c) xs1_1, own shBar (.slice x11_2p x11_2n x11_2c) xs1_2, own (shL shI) (.slice x11_3p x11_3n x11_3c) xs1_3, own shB (.slice x11_4p x11_4n x11_4c) xs1_4] from o)
    clear o
    try unfold vFabric
    have al : (w5).grownBy ((w5).alloc (.cells #[(.slice x11_0p x11_0n x11_0c), (.slice x11_1p x11_1n x11_1c), (.slice x11_2p x11_2n x11_2c), (.slice x11_3p x11_3n x11_3c), (.slice x11_4p x11_4n x11_4c)] 37)) none := gby_alloc (gby_refl _ _) _
    have zs7 := World.grownBy.size al
    try simp only [World.size_alloc] at zs7
    have rA028_ := Lib.hid (show ((w5.alloc (.cells #[(.slice x11_0p x11_0n x11_0c), (.slice x11_1p x11_1n x11_1c), (.slice x11_2p x11_2n x11_2c), (.slice x11_3p x11_3n x11_3c), (.slice x11_4p x11_4n x11_4c)] 37))).heap[W.heap.size]? = some (.cells #[a0_0, a0_1, a0_2, a0_3, a0_4] 30 (0, 0)) from row_held al rA022_.out)
    clear rA022_
    have rA129_ := Lib.hid (show ((w5.alloc (.cells #[(.slice x11_0p x11_0n x11_0c), (.slice x11_1p x11_1n x11_1c), (.slice x11_2p x11_2n x11_2c), (.slice x11_3p x11_3n x11_3c), (.slice x11_4p x11_4n x11_4c)] 37))).heap[W.heap.size + 1]? = some (.cells #[a1_0, a1_1, a1_2, a1_3, a1_4] 30 (0, 0)) from row_held al rA123_.out)
    clear rA123_
    have rBx030_ := Lib.hid (show ((w5.alloc (.cells #[(.slice x11_0p x11_0n x11_0c), (.slice x11_1p x11_1n x11_1c), (.slice x11_2p x11_2n x11_2c), (.slice x11_3p x11_3n x11_3c), (.slice x11_4p x11_4n x11_4c)] 37))).heap[w4.heap.size]? = some (.cells #[(.slice x00_0p x00_0n x00_0c), (.slice x00_1p x00_1n x00_1c), (.slice x00_2p x00_2n x00_2c), (.slice x00_3p x00_3n x00_3c), (.slice x00_4p x00_4n x00_4c)] 37 (0, 0)) from row_held al rBx024_.out)
    clear rBx024_
    have ox031_ := Lib.hid (show OwU ((w5.alloc (.cells #[(.slice x11_0p x11_0n x11_0c), (.slice x11_1p x11_1n x11_1c), (.slice x11_2p x11_2n x11_2c), (.slice x11_3p x11_3n x11_3c), (.slice x11_4p x11_4n x11_4c)] 37))) (wS.heap.size) (w4.heap.size) [] [own shNode (.slice x00_0p x00_0n x00_0c) xs0_0, own shI (.slice x00_1p x00_1n x00_1c) xs0_1, own shBar (.slice x00_2p x00_2n x00_2c) xs0_2, own (shL shI) (.slice x00_3p x00_3n x00_3c) xs0_3, own shB (.slice x00_4p x00_4n x00_4c) xs0_4] from OwU.grow ox025_.out al)
    clear ox025_
    have ox132_ := Lib.hid (show OwU ((w5.alloc (.cells #[(.slice x11_0p x11_0n x11_0c), (.slice x11_1p x11_1n x11_1c), (.slice x11_2p x11_2n x11_2c), (.slice x11_3p x11_3n x11_3c), (.slice x11_4p x11_4n x11_4c)] 37))) (w4.heap.size + 1) (w5.heap.size) [] [own shNode (.slice x11_0p x11_0n x11_0c) xs1_0, own shI (.slice x11_1p x11_1n x11_1c) xs1_1, own shBar (.slice x11_2p x11_2n x11_2c) xs1_2, own (shL shI) (.slice x11_3p x11_3n x11_3c) xs1_3, own shB (.slice x11_4p x11_4n x11_4c) xs1_4] from OwU.grow ox127_.out al)
    clear ox127_
    have G33_ := Lib.hid (show (W).grownBy ((w5.alloc (.cells #[(.slice x11_0p x11_0n x11_0c), (.slice x11_1p x11_1n x11_1c), (.slice x11_2p x11_2n x11_2c), (.slice x11_3p x11_3n x11_3c), (.slice x11_4p x11_4n x11_4c)] 37))) none from gby_trans G26_.out al)
    have rBx134_ := Lib.hid (show ((w5.alloc (.cells #[(.slice x11_0p x11_0n x11_0c), (.slice x11_1p x11_1n x11_1c), (.slice x11_2p x11_2n x11_2c), (.slice x11_3p x11_3n x11_3c), (.slice x11_4p x11_4n x11_4c)] 37))).heap[w5.heap.size]? = some (.cells #[(.slice x11_0p x11_0n x11_0c), (.slice x11_1p x11_1n x11_1c), (.slice x11_2p x11_2n x11_2c), (.slice x11_3p x11_3n x11_3c), (.slice x11_4p x11_4n x11_4c)] 37 (0, 0)) from by first | exact heap_alloc_new _ _ | exact heap_pair _ _ _ | exact heap_trip _ _ _ _)
    clear al
    have Bx0_0_ : ((w5.alloc (.cells #[(.slice x11_0p x11_0n x11_0c), (.slice x11_1p x11_1n x11_1c), (.slice x11_2p x11_2n x11_2c), (.slice x11_3p x11_3n x11_3c), (.slice x11_4p x11_4n x11_4c)] 37))).cell? ⟨w4.heap.size, 0, none⟩ = some ((.slice x00_0p x00_0n x00_0c)) := cell_of_row _ _ 0 _ _ _ rBx030_.out
    have Bx0_1_ : ((w5.alloc (.cells #[(.slice x11_0p x11_0n x11_0c), (.slice x11_1p x11_1n x11_1c), (.slice x11_2p x11_2n x11_2c), (.slice x11_3p x11_3n x11_3c), (.slice x11_4p x11_4n x11_4c)] 37))).cell? ⟨w4.heap.size, 1, none⟩ = some ((.slice x00_1p x00_1n x00_1c)) := cell_of_row _ _ 1 _ _ _ rBx030_.out
    have Bx0_2_ : ((w5.alloc (.cells #[(.slice x11_0p x11_0n x11_0c), (.slice x11_1p x11_1n x11_1c), (.slice x11_2p x11_2n x11_2c), (.slice x11_3p x11_3n x11_3c), (.slice x11_4p x11_4n x11_4c)] 37))).cell? ⟨w4.heap.size, 2, none⟩ = some ((.slice x00_2p x00_2n x00_2c)) := cell_of_row _ _ 2 _ _ _ rBx030_.out
    have Bx0_3_ : ((w5.alloc (.cells #[(.slice x11_0p x11_0n x11_0c), (.slice x11_1p x11_1n x11_1c), (.slice x11_2p x11_2n x11_2c), (.slice x11_3p x11_3n x11_3c), (.slice x11_4p x11_4n x11_4c)] 37))).cell? ⟨w4.heap.size, 3, none⟩ = some ((.slice x00_3p x00_3n x00_3c)) := cell_of_row _ _ 3 _ _ _ rBx030_.out
    have Bx0_4_ : ((w5.alloc (.cells #[(.slice x11_0p x11_0n x11_0c), (.slice x11_1p x11_1n x11_1c), (.slice x11_2p x11_2n x11_2c), (.slice x11_3p x11_3n x11_3c), (.slice x11_4p x11_4n x11_4c)] 37))).cell? ⟨w4.heap.size, 4, none⟩ = some ((.slice x00_4p x00_4n x00_4c)) := cell_of_row _ _ 4 _ _ _ rBx030_.out
    have Bx1_0_ : ((w5.alloc (.cells #[(.slice x11_0p x11_0n x11_0c), (.slice x11_1p x11_1n x11_1c), (.slice x11_2p x11_2n x11_2c), (.slice x11_3p x11_3n x11_3c), (.slice x11_4p x11_4n x11_4c)] 37))).cell? ⟨w5.heap.size, 0, none⟩ = some ((.slice x11_0p x11_0n x11_0c)) := cell_of_row _ _ 0 _ _ _ rBx134_.out
    have Bx1_1_ : ((w5.alloc (.cells #[(.slice x11_0p x11_0n x11_0c), (.slice x11_1p x11_1n x11_1c), (.slice x11_2p x11_2n x11_2c), (.slice x11_3p x11_3n x11_3c), (.slice x11_4p x11_4n x11_4c)] 37))).cell? ⟨w5.heap.size, 1, none⟩ = some ((.slice x11_1p x11_1n x11_1c)) := cell_of_row _ _ 1 _ _ _ rBx134_.out
    have Bx1_2_ : ((w5.alloc (.cells #[(.slice x11_0p x11_0n x11_0c), (.slice x11_1p x11_1n x11_1c), (.slice x11_2p x11_2n x11_2c), (.slice x11_3p x11_3n x11_3c), (.slice x11_4p x11_4n x11_4c)] 37))).cell? ⟨w5.heap.size, 2, none⟩ = some ((.slice x11_2p x11_2n x11_2c)) := cell_of_row _ _ 2 _ _ _ rBx134_.out
    have Bx1_3_ : ((w5.alloc (.cells #[(.slice x11_0p x11_0n x11_0c), (.slice x11_1p x11_1n x11_1c), (.slice x11_2p x11_2n x11_2c), (.slice x11_3p x11_3n x11_3c), (.slice x11_4p x11_4n x11_4c)] 37))).cell? ⟨w5.heap.size, 3, none⟩ = some ((.slice x11_3p x11_3n x11_3c)) := cell_of_row _ _ 3 _ _ _ rBx134_.out
    have Bx1_4_ : ((w5.alloc (.cells #[(.slice x11_0p x11_0n x11_0c), (.slice x11_1p x11_1n x11_1c), (.slice x11_2p x11_2n x11_2c), (.slice x11_3p x11_3n x11_3c), (.slice x11_4p x11_4n x11_4c)] 37))).cell? ⟨w5.heap.size, 4, none⟩ = some ((.slice x11_4p x11_4n x11_4c)) := cell_of_row _ _ 4 _ _ _ rBx134_.out
    go_wp2_with fail
    go_at_call 13
    refine (HM.out _ (.slice x00_0p x00_0n x00_0c) (.slice x00_1p x00_1n x00_1c) (.slice x00_2p x00_2n x00_2c) (.slice x00_3p x00_3n x00_3c) (.slice x00_4p x00_4n x00_4c) (.slice x11_0p x11_0n x11_0c) (.slice x11_1p x11_1n x11_1c) (.slice x11_2p x11_2n x11_2c) (.slice x11_3p x11_3n x11_3c) (.slice x11_4p x11_4n x11_4c) (OwU.rd ox031_.out) (OwU.rd (OwU.tail ox031_.out)) (OwU.rd (OwU.tail (OwU.tail ox031_.out))) (OwU.rd (OwU.tail (OwU.tail (OwU.tail ox031_.out)))) (OwU.rd (OwU.tail (OwU.tail (OwU.tail (OwU.tail ox031_.out))))) (OwU.rd ox132_.out) (OwU.rd (OwU.tail ox132_.out)) (OwU.rd (OwU.tail (OwU.tail ox132_.out))) (OwU.rd (OwU.tail (OwU.tail (OwU.tail ox132_.out)))) (OwU.rd (OwU.tail (OwU.tail (OwU.tail (OwU.tail ox132_.out)))))).mono ?_
    rintro e w6 ⟨rfl, g⟩
    have sz_ := g.size
    try simp only [World.size_alloc] at sz_
    have zs8 := World.grownBy.size g
    try simp only [World.size_alloc] at zs8
    clear Bx0_0_ Bx0_1_ Bx0_2_ Bx0_3_ Bx0_4_ Bx1_0_ Bx1_1_ Bx1_2_ Bx1_3_ Bx1_4_
    have rA035_ := Lib.hid (show (w6).heap[W.heap.size]? = some (.cells #[a0_0, a0_1, a0_2, a0_3, a0_4] 30 (0, 0)) from row_held g rA028_.out)
    clear rA028_
    have rA136_ := Lib.hid (show (w6).heap[W.heap.size + 1]? = some (.cells #[a1_0, a1_1, a1_2, a1_3, a1_4] 30 (0, 0)) from row_held g rA129_.out)
    clear rA129_
    have rBx037_ := Lib.hid (show (w6).heap[w4.heap.size]? = some (.cells #[(.slice x00_0p x00_0n x00_0c), (.slice x00_1p x00_1n x00_1c), (.slice x00_2p x00_2n x00_2c), (.slice x00_3p x00_3n x00_3c), (.slice x00_4p x00_4n x00_4c)] 37 (0, 0)) from row_held g rBx030_.out)
    clear rBx030_
    have rBx138_ := Lib.hid (show (w6).heap[w5.heap.size]? = some (.cells #[(.slice x11_0p x11_0n x11_0c), (.slice x11_1p x11_1n x11_1c), (.slice x11_2p x11_2n x11_2c), (.slice x11_3p x11_3n x11_3c), (.slice x11_4p x11_4n x11_4c)] 37 (0, 0)) from row_held g rBx134_.out)
    clear rBx134_
    have ox039_ := Lib.hid (show OwU (w6) (wS.heap.size) (w4.heap.size) [] [own shNode (.slice x00_0p x00_0n x00_0c) xs0_0, own shI (.slice x00_1p x00_1n x00_1c) xs0_1, own shBar (.slice x00_2p x00_2n x00_2c) xs0_2, own (shL shI) (.slice x00_3p x00_3n x00_3c) xs0_3, own shB (.slice x00_4p x00_4n x00_4c) xs0_4] from OwU.grow ox031_.out g)
    clear ox031_
    have ox140_ := Lib.hid (show OwU (w6) (w4.heap.size + 1) (w5.heap.size) [] [own shNode (.slice x11_0p x11_0n x11_0c) xs1_0, own shI (.slice x11_1p x11_1n x11_1c) xs1_1, own shBar (.slice x11_2p x11_2n x11_2c) xs1_2, own (shL shI) (.slice x11_3p x11_3n x11_3c) xs1_3, own shB (.slice x11_4p x11_4n x11_4c) xs1_4] from OwU.grow ox132_.out g)
    clear ox132_
    have G41_ := Lib.hid (show (W).grownBy (w6) none from gby_trans G33_.out g)
    clear g
    have szw6 := sz_
    clear sz_
    have A0_0_ : (w6).cell? ⟨W.heap.size, 0, none⟩ = some (a0_0) := cell_of_row _ _ 0 _ _ _ rA035_.out
    have A0_1_ : (w6).cell? ⟨W.heap.size, 1, none⟩ = some (a0_1) := cell_of_row _ _ 1 _ _ _ rA035_.out
    have A0_2_ : (w6).cell? ⟨W.heap.size, 2, none⟩ = some (a0_2) := cell_of_row _ _ 2 _ _ _ rA035_.out
    have A0_3_ : (w6).cell? ⟨W.heap.size, 3, none⟩ = some (a0_3) := cell_of_row _ _ 3 _ _ _ rA035_.out
    have A0_4_ : (w6).cell? ⟨W.heap.size, 4, none⟩ = some (a0_4) := cell_of_row _ _ 4 _ _ _ rA035_.out
    have Bx0_0_ : (w6).cell? ⟨w4.heap.size, 0, none⟩ = some ((.slice x00_0p x00_0n x00_0c)) := cell_of_row _ _ 0 _ _ _ rBx037_.out
    have Bx0_1_ : (w6).cell? ⟨w4.heap.size, 1, none⟩ = some ((.slice x00_1p x00_1n x00_1c)) := cell_of_row _ _ 1 _ _ _ rBx037_.out
    have Bx0_2_ : (w6).cell? ⟨w4.heap.size, 2, none⟩ = some ((.slice x00_2p x00_2n x00_2c)) := cell_of_row _ _ 2 _ _ _ rBx037_.out
    have Bx0_3_ : (w6).cell? ⟨w4.heap.size, 3, none⟩ = some ((.slice x00_3p x00_3n x00_3c)) := cell_of_row _ _ 3 _ _ _ rBx037_.out
    have Bx0_4_ : (w6).cell? ⟨w4.heap.size, 4, none⟩ = some ((.slice x00_4p x00_4n x00_4c)) := cell_of_row _ _ 4 _ _ _ rBx037_.out
    go_wp2_with fail
    go_region_held3 (fun w' => w'.cell? ⟨W.heap.size, 0, none⟩ = some (a0_0) ∧ w'.cell? ⟨W.heap.size, 1, none⟩ = some (a0_1) ∧ w'.cell? ⟨W.heap.size, 2, none⟩ = some (a0_2) ∧ w'.cell? ⟨W.heap.size, 3, none⟩ = some (a0_3) ∧ w'.cell? ⟨W.heap.size, 4, none⟩ = some (a0_4) ∧ w'.cell? ⟨w4.heap.size, 0, none⟩ = some ((.slice x00_0p x00_0n x00_0c)) ∧ w'.cell? ⟨w4.heap.size, 1, none⟩ = some ((.slice x00_1p x00_1n x00_1c)) ∧ w'.cell? ⟨w4.heap.size, 2, none⟩ = some ((.slice x00_2p x00_2n x00_2c)) ∧ w'.cell? ⟨w4.heap.size, 3, none⟩ = some ((.slice x00_3p x00_3n x00_3c)) ∧ w'.cell? ⟨w4.heap.size, 4, none⟩ = some ((.slice x00_4p x00_4n x00_4c)))
      (first
        | exact ⟨A0_0_, A0_1_, A0_2_, A0_3_, A0_4_, Bx0_0_, Bx0_1_, Bx0_2_, Bx0_3_, Bx0_4_⟩
        | exact ⟨(gT.cell A0_0_ (by simp)), (gT.cell A0_1_ (by simp)), (gT.cell A0_2_ (by simp)), (gT.cell A0_3_ (by simp)), (gT.cell A0_4_ (by simp)), (gT.cell Bx0_0_ (by simp)), (gT.cell Bx0_1_ (by simp)), (gT.cell Bx0_2_ (by simp)), (gT.cell Bx0_3_ (by simp)), (gT.cell Bx0_4_ (by simp))⟩
        | exact ⟨(gE.cell (gT.cell A0_0_ (by simp)) (by simp)), (gE.cell (gT.cell A0_1_ (by simp)) (by simp)), (gE.cell (gT.cell A0_2_ (by simp)) (by simp)), (gE.cell (gT.cell A0_3_ (by simp)) (by simp)), (gE.cell (gT.cell A0_4_ (by simp)) (by simp)), (gE.cell (gT.cell Bx0_0_ (by simp)) (by simp)), (gE.cell (gT.cell Bx0_1_ (by simp)) (by simp)), (gE.cell (gT.cell Bx0_2_ (by simp)) (by simp)), (gE.cell (gT.cell Bx0_3_ (by simp)) (by simp)), (gE.cell (gT.cell Bx0_4_ (by simp)) (by simp))⟩)
      (first
        | (go_at_call 12; refine (toFabric_d _ a0_0 a0_1 a0_2 a0_3 a0_4 xs0_0 xs0_1 xs0_2 xs0_3 xs0_4 (HI0_0.out.grow (gby_drew G41_.out)) hl0_0 (HI0_1.out.grow (gby_drew G41_.out)) hl0_1 (HI0_2.out.grow (gby_drew G41_.out)) hl0_2 (HI0_3.out.grow (gby_drew G41_.out)) hl0_3 (HI0_4.out.grow (gby_drew G41_.out)) hl0_4).mono ?_; rintro e wT1 ⟨t30_0, t30_1, t30_2, t30_3, t30_4, rfl, oT, gT⟩; obtain ⟨t30_0p, t30_0n, t30_0c, hv_⟩ := RdL.form ((OwU.rd oT)); subst hv_; obtain ⟨t30_1p, t30_1n, t30_1c, hv_⟩ := RdL.form ((OwU.rd (OwU.tail oT))); subst hv_; obtain ⟨t30_2p, t30_2n, t30_2c, hv_⟩ := RdL.form ((OwU.rd (OwU.tail (OwU.tail oT)))); subst hv_; obtain ⟨t30_3p, t30_3n, t30_3c, hv_⟩ := RdL.form ((OwU.rd (OwU.tail (OwU.tail (OwU.tail oT))))); subst hv_; obtain ⟨t30_4p, t30_4n, t30_4c, hv_⟩ := RdL.form ((OwU.rd (OwU.tail (OwU.tail (OwU.tail (OwU.tail oT)))))); subst hv_; try unfold vFabric)
        | (go_at_call 14; refine (eqFabric_d _ (.slice x00_0p x00_0n x00_0c) (.slice x00_1p x00_1n x00_1c) (.slice x00_2p x00_2n x00_2c) (.slice x00_3p x00_3n x00_3c) (.slice x00_4p x00_4n x00_4c) (.slice t30_0p t30_0n t30_0c) (.slice t30_1p t30_1n t30_1c) (.slice t30_2p t30_2n t30_2c) (.slice t30_3p t30_3n t30_3c) (.slice t30_4p t30_4n t30_4c) xs0_0 xs0_1 xs0_2 xs0_3 xs0_4 (RdL.grow (RdL.grow (OwU.rd ox039_.out) (gby_drew (gby_refl _ _))) gT) (OwU.rd oT) hl0_0 (RdL.grow (RdL.grow (OwU.rd (OwU.tail ox039_.out)) (gby_drew (gby_refl _ _))) gT) (OwU.rd (OwU.tail oT)) hl0_1 (RdL.grow (RdL.grow (OwU.rd (OwU.tail (OwU.tail ox039_.out))) (gby_drew (gby_refl _ _))) gT) (OwU.rd (OwU.tail (OwU.tail oT))) hl0_2 (RdL.grow (RdL.grow (OwU.rd (OwU.tail (OwU.tail (OwU.tail ox039_.out)))) (gby_drew (gby_refl _ _))) gT) (OwU.rd (OwU.tail (OwU.tail (OwU.tail oT)))) hl0_3 (RdL.grow (RdL.grow (OwU.rd (OwU.tail (OwU.tail (OwU.tail (OwU.tail ox039_.out))))) (gby_drew (gby_refl _ _))) gT) (OwU.rd (OwU.tail (OwU.tail (OwU.tail (OwU.tail oT))))) hl0_4).mono ?_; rintro e wE1 ⟨rfl, gE⟩))
    all_goals
      have g : (w6).grownBy wE1 none := gby_trans (gby_trans (gby_drew (gby_refl _ _)) gT) gE
      clear gT gE oT
      clear A0_0_ A0_1_ A0_2_ A0_3_ A0_4_ Bx0_0_ Bx0_1_ Bx0_2_ Bx0_3_ Bx0_4_
      have zs9 := World.grownBy.size g
      try simp only [World.size_alloc] at zs9
      have rA042_ := Lib.hid (show (wE1).heap[W.heap.size]? = some (.cells #[a0_0, a0_1, a0_2, a0_3, a0_4] 30 (0, 0)) from row_held g rA035_.out)
      clear rA035_
      have rA143_ := Lib.hid (show (wE1).heap[W.heap.size + 1]? = some (.cells #[a1_0, a1_1, a1_2, a1_3, a1_4] 30 (0, 0)) from row_held g rA136_.out)
      clear rA136_
      have rBx044_ := Lib.hid (show (wE1).heap[w4.heap.size]? = some (.cells #[(.slice x00_0p x00_0n x00_0c), (.slice x00_1p x00_1n x00_1c), (.slice x00_2p x00_2n x00_2c), (.slice x00_3p x00_3n x00_3c), (.slice x00_4p x00_4n x00_4c)] 37 (0, 0)) from row_held g rBx037_.out)
      clear rBx037_
      have rBx145_ := Lib.hid (show (wE1).heap[w5.heap.size]? = some (.cells #[(.slice x11_0p x11_0n x11_0c), (.slice x11_1p x11_1n x11_1c), (.slice x11_2p x11_2n x11_2c), (.slice x11_3p x11_3n x11_3c), (.slice x11_4p x11_4n x11_4c)] 37 (0, 0)) from row_held g rBx138_.out)
      clear rBx138_
      have ox046_ := Lib.hid (show OwU (wE1) (wS.heap.size) (w4.heap.size) [] [own shNode (.slice x00_0p x00_0n x00_0c) xs0_0, own shI (.slice x00_1p x00_1n x00_1c) xs0_1, own shBar (.slice x00_2p x00_2n x00_2c) xs0_2, own (shL shI) (.slice x00_3p x00_3n x00_3c) xs0_3, own shB (.slice x00_4p x00_4n x00_4c) xs0_4] from OwU.grow ox039_.out g)
      clear ox039_
      have ox147_ := Lib.hid (show OwU (wE1) (w4.heap.size + 1) (w5.heap.size) [] [own shNode (.slice x11_0p x11_0n x11_0c) xs1_0, own shI (.slice x11_1p x11_1n x11_1c) xs1_1, own shBar (.slice x11_2p x11_2n x11_2c) xs1_2, own (shL shI) (.slice x11_3p x11_3n x11_3c) xs1_3, own shB (.slice x11_4p x11_4n x11_4c) xs1_4] from OwU.grow ox140_.out g)
      clear ox140_
      have G48_ := Lib.hid (show (W).grownBy (wE1) none from gby_trans G41_.out g)
      clear g
      have A1_0_ : (wE1).cell? ⟨W.heap.size + 1, 0, none⟩ = some (a1_0) := cell_of_row _ _ 0 _ _ _ rA143_.out
      have A1_1_ : (wE1).cell? ⟨W.heap.size + 1, 1, none⟩ = some (a1_1) := cell_of_row _ _ 1 _ _ _ rA143_.out
      have A1_2_ : (wE1).cell? ⟨W.heap.size + 1, 2, none⟩ = some (a1_2) := cell_of_row _ _ 2 _ _ _ rA143_.out
      have A1_3_ : (wE1).cell? ⟨W.heap.size + 1, 3, none⟩ = some (a1_3) := cell_of_row _ _ 3 _ _ _ rA143_.out
      have A1_4_ : (wE1).cell? ⟨W.heap.size + 1, 4, none⟩ = some (a1_4) := cell_of_row _ _ 4 _ _ _ rA143_.out
      have Bx1_0_ : (wE1).cell? ⟨w5.heap.size, 0, none⟩ = some ((.slice x11_0p x11_0n x11_0c)) := cell_of_row _ _ 0 _ _ _ rBx145_.out
      have Bx1_1_ : (wE1).cell? ⟨w5.heap.size, 1, none⟩ = some ((.slice x11_1p x11_1n x11_1c)) := cell_of_row _ _ 1 _ _ _ rBx145_.out
      have Bx1_2_ : (wE1).cell? ⟨w5.heap.size, 2, none⟩ = some ((.slice x11_2p x11_2n x11_2c)) := cell_of_row _ _ 2 _ _ _ rBx145_.out
      have Bx1_3_ : (wE1).cell? ⟨w5.heap.size, 3, none⟩ = some ((.slice x11_3p x11_3n x11_3c)) := cell_of_row _ _ 3 _ _ _ rBx145_.out
      have Bx1_4_ : (wE1).cell? ⟨w5.heap.size, 4, none⟩ = some ((.slice x11_4p x11_4n x11_4c)) := cell_of_row _ _ 4 _ _ _ rBx145_.out
      go_wp2_with fail
      go_region_held3 (fun w' => w'.cell? ⟨W.heap.size + 1, 0, none⟩ = some (a1_0) ∧ w'.cell? ⟨W.heap.size + 1, 1, none⟩ = some (a1_1) ∧ w'.cell? ⟨W.heap.size + 1, 2, none⟩ = some (a1_2) ∧ w'.cell? ⟨W.heap.size + 1, 3, none⟩ = some (a1_3) ∧ w'.cell? ⟨W.heap.size + 1, 4, none⟩ = some (a1_4) ∧ w'.cell? ⟨w5.heap.size, 0, none⟩ = some ((.slice x11_0p x11_0n x11_0c)) ∧ w'.cell? ⟨w5.heap.size, 1, none⟩ = some ((.slice x11_1p x11_1n x11_1c)) ∧ w'.cell? ⟨w5.heap.size, 2, none⟩ = some ((.slice x11_2p x11_2n x11_2c)) ∧ w'.cell? ⟨w5.heap.size, 3, none⟩ = some ((.slice x11_3p x11_3n x11_3c)) ∧ w'.cell? ⟨w5.heap.size, 4, none⟩ = some ((.slice x11_4p x11_4n x11_4c)))
        (first
          | exact ⟨A1_0_, A1_1_, A1_2_, A1_3_, A1_4_, Bx1_0_, Bx1_1_, Bx1_2_, Bx1_3_, Bx1_4_⟩
          | exact ⟨(gT.cell A1_0_ (by simp)), (gT.cell A1_1_ (by simp)), (gT.cell A1_2_ (by simp)), (gT.cell A1_3_ (by simp)), (gT.cell A1_4_ (by simp)), (gT.cell Bx1_0_ (by simp)), (gT.cell Bx1_1_ (by simp)), (gT.cell Bx1_2_ (by simp)), (gT.cell Bx1_3_ (by simp)), (gT.cell Bx1_4_ (by simp))⟩
          | exact ⟨(gE.cell (gT.cell A1_0_ (by simp)) (by simp)), (gE.cell (gT.cell A1_1_ (by simp)) (by simp)), (gE.cell (gT.cell A1_2_ (by simp)) (by simp)), (gE.cell (gT.cell A1_3_ (by simp)) (by simp)), (gE.cell (gT.cell A1_4_ (by simp)) (by simp)), (gE.cell (gT.cell Bx1_0_ (by simp)) (by simp)), (gE.cell (gT.cell Bx1_1_ (by simp)) (by simp)), (gE.cell (gT.cell Bx1_2_ (by simp)) (by simp)), (gE.cell (gT.cell Bx1_3_ (by simp)) (by simp)), (gE.cell (gT.cell Bx1_4_ (by simp)) (by simp))⟩)
        (first
          | (go_at_call 12; refine (toFabric_d _ a1_0 a1_1 a1_2 a1_3 a1_4 xs1_0 xs1_1 xs1_2 xs1_3 xs1_4 (HI1_0.out.grow (gby_drew G48_.out)) hl1_0 (HI1_1.out.grow (gby_drew G48_.out)) hl1_1 (HI1_2.out.grow (gby_drew G48_.out)) hl1_2 (HI1_3.out.grow (gby_drew G48_.out)) hl1_3 (HI1_4.out.grow (gby_drew G48_.out)) hl1_4).mono ?_; rintro e wT2 ⟨t41_0, t41_1, t41_2, t41_3, t41_4, rfl, oT, gT⟩; obtain ⟨t41_0p, t41_0n, t41_0c, hv_⟩ := RdL.form ((OwU.rd oT)); subst hv_; obtain ⟨t41_1p, t41_1n, t41_1c, hv_⟩ := RdL.form ((OwU.rd (OwU.tail oT))); subst hv_; obtain ⟨t41_2p, t41_2n, t41_2c, hv_⟩ := RdL.form ((OwU.rd (OwU.tail (OwU.tail oT)))); subst hv_; obtain ⟨t41_3p, t41_3n, t41_3c, hv_⟩ := RdL.form ((OwU.rd (OwU.tail (OwU.tail (OwU.tail oT))))); subst hv_; obtain ⟨t41_4p, t41_4n, t41_4c, hv_⟩ := RdL.form ((OwU.rd (OwU.tail (OwU.tail (OwU.tail (OwU.tail oT)))))); subst hv_; try unfold vFabric)
          | (go_at_call 14; refine (eqFabric_d _ (.slice x11_0p x11_0n x11_0c) (.slice x11_1p x11_1n x11_1c) (.slice x11_2p x11_2n x11_2c) (.slice x11_3p x11_3n x11_3c) (.slice x11_4p x11_4n x11_4c) (.slice t41_0p t41_0n t41_0c) (.slice t41_1p t41_1n t41_1c) (.slice t41_2p t41_2n t41_2c) (.slice t41_3p t41_3n t41_3c) (.slice t41_4p t41_4n t41_4c) xs1_0 xs1_1 xs1_2 xs1_3 xs1_4 (RdL.grow (RdL.grow (OwU.rd ox147_.out) (gby_drew (gby_refl _ _))) gT) (OwU.rd oT) hl1_0 (RdL.grow (RdL.grow (OwU.rd (OwU.tail ox147_.out)) (gby_drew (gby_refl _ _))) gT) (OwU.rd (OwU.tail oT)) hl1_1 (RdL.grow (RdL.grow (OwU.rd (OwU.tail (OwU.tail ox147_.out))) (gby_drew (gby_refl _ _))) gT) (OwU.rd (OwU.tail (OwU.tail oT))) hl1_2 (RdL.grow (RdL.grow (OwU.rd (OwU.tail (OwU.tail (OwU.tail ox147_.out)))) (gby_drew (gby_refl _ _))) gT) (OwU.rd (OwU.tail (OwU.tail (OwU.tail oT)))) hl1_3 (RdL.grow (RdL.grow (OwU.rd (OwU.tail (OwU.tail (OwU.tail (OwU.tail ox147_.out))))) (gby_drew (gby_refl _ _))) gT) (OwU.rd (OwU.tail (OwU.tail (OwU.tail (OwU.tail oT))))) hl1_4).mono ?_; rintro e wE2 ⟨rfl, gE⟩))
      all_goals
        have g : (wE1).grownBy wE2 none := gby_trans (gby_trans (gby_drew (gby_refl _ _)) gT) gE
        clear gT gE oT
        clear A1_0_ A1_1_ A1_2_ A1_3_ A1_4_ Bx1_0_ Bx1_1_ Bx1_2_ Bx1_3_ Bx1_4_
        have zs10 := World.grownBy.size g
        try simp only [World.size_alloc] at zs10
        have rA049_ := Lib.hid (show (wE2).heap[W.heap.size]? = some (.cells #[a0_0, a0_1, a0_2, a0_3, a0_4] 30 (0, 0)) from row_held g rA042_.out)
        clear rA042_
        have rA150_ := Lib.hid (show (wE2).heap[W.heap.size + 1]? = some (.cells #[a1_0, a1_1, a1_2, a1_3, a1_4] 30 (0, 0)) from row_held g rA143_.out)
        clear rA143_
        have rBx051_ := Lib.hid (show (wE2).heap[w4.heap.size]? = some (.cells #[(.slice x00_0p x00_0n x00_0c), (.slice x00_1p x00_1n x00_1c), (.slice x00_2p x00_2n x00_2c), (.slice x00_3p x00_3n x00_3c), (.slice x00_4p x00_4n x00_4c)] 37 (0, 0)) from row_held g rBx044_.out)
        clear rBx044_
        have rBx152_ := Lib.hid (show (wE2).heap[w5.heap.size]? = some (.cells #[(.slice x11_0p x11_0n x11_0c), (.slice x11_1p x11_1n x11_1c), (.slice x11_2p x11_2n x11_2c), (.slice x11_3p x11_3n x11_3c), (.slice x11_4p x11_4n x11_4c)] 37 (0, 0)) from row_held g rBx145_.out)
        clear rBx145_
        have ox053_ := Lib.hid (show OwU (wE2) (wS.heap.size) (w4.heap.size) [] [own shNode (.slice x00_0p x00_0n x00_0c) xs0_0, own shI (.slice x00_1p x00_1n x00_1c) xs0_1, own shBar (.slice x00_2p x00_2n x00_2c) xs0_2, own (shL shI) (.slice x00_3p x00_3n x00_3c) xs0_3, own shB (.slice x00_4p x00_4n x00_4c) xs0_4] from OwU.grow ox046_.out g)
        clear ox046_
        have ox154_ := Lib.hid (show OwU (wE2) (w4.heap.size + 1) (w5.heap.size) [] [own shNode (.slice x11_0p x11_0n x11_0c) xs1_0, own shI (.slice x11_1p x11_1n x11_1c) xs1_1, own shBar (.slice x11_2p x11_2n x11_2c) xs1_2, own (shL shI) (.slice x11_3p x11_3n x11_3c) xs1_3, own shB (.slice x11_4p x11_4n x11_4c) xs1_4] from OwU.grow ox147_.out g)
        clear ox147_
        have G55_ := Lib.hid (show (W).grownBy (wE2) none from gby_trans G48_.out g)
        clear g
        go_wp2
        go_ret
        exact ⟨rfl, gby_below G55_.out⟩

end Go.Proofs.Ytnighnkkeiegnab
