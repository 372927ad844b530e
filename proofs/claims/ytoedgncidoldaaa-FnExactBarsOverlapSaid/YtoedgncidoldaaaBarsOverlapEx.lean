/-
  The walk of FnExactBarsOverlap: at every argument the program answers as its model and writes nothing that was there.
-/
import Derived.Test.YtoedgncidoldaaaQBar
import Derived.Test.YtoedgncidoldaaaRBarsOverlap
import Derived.WalkKit
import Derived.Deep.RegionHeld3
import Derived.Below
namespace Go.Proofs.Ytoedgncidoldaaa
open Go Go.RowKit

set_option maxRecDepth 8000 in
set_option maxHeartbeats 16000000 in
theorem walk_exactBarsOverlap_of (both : ∀ (i0_0 : Int) (i0_1 : Int) (i1_0 : Int) (i1_1 : Int), ∃ (br0 : Bool), (∀ (W : World), Calls Try.prog 31 #[.agg #[.int .i64 i0_0, .int .i64 i0_1], .agg #[.int .i64 i1_0, .int .i64 i1_1]] W (ResSBarsOverlap br0 W)) ∧ ∀ (W : World), Calls Try.prog 32 #[.agg #[.int .i64 i0_0, .int .i64 i0_1], .agg #[.int .i64 i1_0, .int .i64 i1_1]] W (ResIBarsOverlap br0 W))
    (W : World) (i0_0 : Int) (i0_1 : Int) (i1_0 : Int) (i1_1 : Int)  :
    Calls Try.prog 9 #[.agg #[.int .i64 i0_0, .int .i64 i0_1], .agg #[.int .i64 i1_0, .int .i64 i1_1]] W fun e w' => e = .returned (.bool true) ∧ Below W.heap.size W w' := by
  obtain ⟨br0, hs_, hi_⟩ := both i0_0 i0_1 i1_0 i1_1 
  have HS := Lib.hid hs_
  have HM := Lib.hid hi_
  clear hs_ hi_
  try clear both
  have hb_br0 : (br0 != br0) = false := by simp
  go_enter Try.func9, Try.ntmps9
  have rA01_ := Lib.hid (show (((W.alloc (.cells #[.int .i64 i0_0, .int .i64 i0_1] 28)).alloc (.cells #[.int .i64 i1_0, .int .i64 i1_1] 28))).heap[W.heap.size]? = some (.cells #[.int .i64 i0_0, .int .i64 i0_1] 28 (0, 0)) from by rw [heap_alloc_old _ _ (by simp only [World.size_alloc]; omega)]; exact heap_alloc_new _ _)
  have rA12_ := Lib.hid (show (((W.alloc (.cells #[.int .i64 i0_0, .int .i64 i0_1] 28)).alloc (.cells #[.int .i64 i1_0, .int .i64 i1_1] 28))).heap[W.heap.size + 1]? = some (.cells #[.int .i64 i1_0, .int .i64 i1_1] 28 (0, 0)) from by exact heap_pair _ _ _)
  have G3_ := Lib.hid (show (W).grownBy (((W.alloc (.cells #[.int .i64 i0_0, .int .i64 i0_1] 28)).alloc (.cells #[.int .i64 i1_0, .int .i64 i1_1] 28))) none from (gby_alloc (gby_alloc (gby_refl _ _) _) _))
  have A0_0_ : (((W.alloc (.cells #[.int .i64 i0_0, .int .i64 i0_1] 28)).alloc (.cells #[.int .i64 i1_0, .int .i64 i1_1] 28))).cell? ⟨W.heap.size, 0, none⟩ = some (.int .i64 i0_0) := cell_of_row _ _ 0 _ _ _ rA01_.out
  have A0_1_ : (((W.alloc (.cells #[.int .i64 i0_0, .int .i64 i0_1] 28)).alloc (.cells #[.int .i64 i1_0, .int .i64 i1_1] 28))).cell? ⟨W.heap.size, 1, none⟩ = some (.int .i64 i0_1) := cell_of_row _ _ 1 _ _ _ rA01_.out
  have A1_0_ : (((W.alloc (.cells #[.int .i64 i0_0, .int .i64 i0_1] 28)).alloc (.cells #[.int .i64 i1_0, .int .i64 i1_1] 28))).cell? ⟨W.heap.size + 1, 0, none⟩ = some (.int .i64 i1_0) := cell_of_row _ _ 0 _ _ _ rA12_.out
  have A1_1_ : (((W.alloc (.cells #[.int .i64 i0_0, .int .i64 i0_1] 28)).alloc (.cells #[.int .i64 i1_0, .int .i64 i1_1] 28))).cell? ⟨W.heap.size + 1, 1, none⟩ = some (.int .i64 i1_1) := cell_of_row _ _ 1 _ _ _ rA12_.out
  go_wp2_with fail
  go_region_held3 (fun w' => w'.cell? ⟨W.heap.size, 0, none⟩ = some (.int .i64 i0_0) ∧ w'.cell? ⟨W.heap.size, 1, none⟩ = some (.int .i64 i0_1) ∧ w'.cell? ⟨W.heap.size + 1, 0, none⟩ = some (.int .i64 i1_0) ∧ w'.cell? ⟨W.heap.size + 1, 1, none⟩ = some (.int .i64 i1_1))
    (first
      | exact ⟨A0_0_, A0_1_, A1_0_, A1_1_⟩
      | exact ⟨(gA0.cell A0_0_ (by simp)), (gA0.cell A0_1_ (by simp)), (gA0.cell A1_0_ (by simp)), (gA0.cell A1_1_ (by simp))⟩
      | exact ⟨(gA1.cell (gA0.cell A0_0_ (by simp)) (by simp)), (gA1.cell (gA0.cell A0_1_ (by simp)) (by simp)), (gA1.cell (gA0.cell A1_0_ (by simp)) (by simp)), (gA1.cell (gA0.cell A1_1_ (by simp)) (by simp))⟩
      | exact ⟨(gS.cell (gA1.cell (gA0.cell A0_0_ (by simp)) (by simp)) (by simp)), (gS.cell (gA1.cell (gA0.cell A0_1_ (by simp)) (by simp)) (by simp)), (gS.cell (gA1.cell (gA0.cell A1_0_ (by simp)) (by simp)) (by simp)), (gS.cell (gA1.cell (gA0.cell A1_1_ (by simp)) (by simp)) (by simp))⟩)
    (first
      | (go_at_call_of 22 (Value.agg #[.int .i64 i0_0, .int .i64 i0_1]); refine (toBar_d _ i0_0 i0_1  ).mono ?_; rintro e wA0 ⟨rfl, gA0⟩; skip; try unfold vBar)
      | (go_at_call_of 22 (Value.agg #[.int .i64 i1_0, .int .i64 i1_1]); refine (toBar_d _ i1_0 i1_1  ).mono ?_; rintro e wA1 ⟨rfl, gA1⟩; skip; try unfold vBar)
      | (go_at_call 31; refine (HS.out _  ).mono ?_; rintro e wS ⟨rfl, gS⟩))
  all_goals
    have g : (((W.alloc (.cells #[.int .i64 i0_0, .int .i64 i0_1] 28)).alloc (.cells #[.int .i64 i1_0, .int .i64 i1_1] 28))).grownBy wS none := (gby_trans (gby_trans (gby_trans (gby_drew (gby_refl _ _)) gA0) gA1) gS)
    have sl1 : (((W.alloc (.cells #[.int .i64 i0_0, .int .i64 i0_1] 28)).alloc (.cells #[.int .i64 i1_0, .int .i64 i1_1] 28))).heap.size ≤ wA1.heap.size := ((gby_trans (gby_trans (gby_drew (gby_refl _ _)) gA0) gA1)).size
    have sr1 : wA1.heap.size ≤ wS.heap.size := gS.size
    try simp only [World.size_alloc] at sl1
    clear gA0 gA1 gS 
    clear A0_0_ A0_1_ A1_0_ A1_1_
    have sz_ := g.size
    try simp only [World.size_alloc] at sz_
    have zs1 := World.grownBy.size g
    try simp only [World.size_alloc] at zs1
    have rA04_ := Lib.hid (show (wS).heap[W.heap.size]? = some (.cells #[.int .i64 i0_0, .int .i64 i0_1] 28 (0, 0)) from row_held g rA01_.out)
    clear rA01_
    have rA15_ := Lib.hid (show (wS).heap[W.heap.size + 1]? = some (.cells #[.int .i64 i1_0, .int .i64 i1_1] 28 (0, 0)) from row_held g rA12_.out)
    clear rA12_
    have G6_ := Lib.hid (show (W).grownBy (wS) none from gby_trans G3_.out g)
    clear g
    have szwS := sz_
    clear sz_
    have A0_0_ : (wS).cell? ⟨W.heap.size, 0, none⟩ = some (.int .i64 i0_0) := cell_of_row _ _ 0 _ _ _ rA04_.out
    have A0_1_ : (wS).cell? ⟨W.heap.size, 1, none⟩ = some (.int .i64 i0_1) := cell_of_row _ _ 1 _ _ _ rA04_.out
    have A1_0_ : (wS).cell? ⟨W.heap.size + 1, 0, none⟩ = some (.int .i64 i1_0) := cell_of_row _ _ 0 _ _ _ rA15_.out
    have A1_1_ : (wS).cell? ⟨W.heap.size + 1, 1, none⟩ = some (.int .i64 i1_1) := cell_of_row _ _ 1 _ _ _ rA15_.out
    go_wp2_with fail
    go_region_held3 (fun w' => w'.cell? ⟨W.heap.size, 0, none⟩ = some (.int .i64 i0_0) ∧ w'.cell? ⟨W.heap.size, 1, none⟩ = some (.int .i64 i0_1) ∧ w'.cell? ⟨W.heap.size + 1, 0, none⟩ = some (.int .i64 i1_0) ∧ w'.cell? ⟨W.heap.size + 1, 1, none⟩ = some (.int .i64 i1_1))
      (first
        | exact ⟨A0_0_, A0_1_, A1_0_, A1_1_⟩
        | exact ⟨(gA0.cell A0_0_ (by simp)), (gA0.cell A0_1_ (by simp)), (gA0.cell A1_0_ (by simp)), (gA0.cell A1_1_ (by simp))⟩
        | exact ⟨(gA1.cell (gA0.cell A0_0_ (by simp)) (by simp)), (gA1.cell (gA0.cell A0_1_ (by simp)) (by simp)), (gA1.cell (gA0.cell A1_0_ (by simp)) (by simp)), (gA1.cell (gA0.cell A1_1_ (by simp)) (by simp))⟩
        | exact ⟨(gS.cell (gA1.cell (gA0.cell A0_0_ (by simp)) (by simp)) (by simp)), (gS.cell (gA1.cell (gA0.cell A0_1_ (by simp)) (by simp)) (by simp)), (gS.cell (gA1.cell (gA0.cell A1_0_ (by simp)) (by simp)) (by simp)), (gS.cell (gA1.cell (gA0.cell A1_1_ (by simp)) (by simp)) (by simp))⟩)
      (first
        | (go_at_call_of 22 (Value.agg #[.int .i64 i0_0, .int .i64 i0_1]); refine (toBar_d _ i0_0 i0_1  ).mono ?_; rintro e wA0q2 ⟨rfl, gA0⟩; skip; try unfold vBar)
        | (go_at_call_of 22 (Value.agg #[.int .i64 i1_0, .int .i64 i1_1]); refine (toBar_d _ i1_0 i1_1  ).mono ?_; rintro e wA1q2 ⟨rfl, gA1⟩; skip; try unfold vBar)
        | (go_at_call 32; refine (HM.out _  ).mono ?_; rintro e wSq2 ⟨rfl, gS⟩))
    all_goals
      have g : (wS).grownBy wSq2 none := (gby_trans (gby_trans (gby_trans (gby_drew (gby_refl _ _)) gA0) gA1) gS)
      have sl2 : (wS).heap.size ≤ wA1q2.heap.size := ((gby_trans (gby_trans (gby_drew (gby_refl _ _)) gA0) gA1)).size
      have sr2 : wA1q2.heap.size ≤ wSq2.heap.size := gS.size
      try simp only [World.size_alloc] at sl2
      clear gA0 gA1 gS 
      clear A0_0_ A0_1_ A1_0_ A1_1_
      have sz_ := g.size
      try simp only [World.size_alloc] at sz_
      have zs2 := World.grownBy.size g
      try simp only [World.size_alloc] at zs2
      have rA07_ := Lib.hid (show (wSq2).heap[W.heap.size]? = some (.cells #[.int .i64 i0_0, .int .i64 i0_1] 28 (0, 0)) from row_held g rA04_.out)
      clear rA04_
      have rA18_ := Lib.hid (show (wSq2).heap[W.heap.size + 1]? = some (.cells #[.int .i64 i1_0, .int .i64 i1_1] 28 (0, 0)) from row_held g rA15_.out)
      clear rA15_
      have G9_ := Lib.hid (show (W).grownBy (wSq2) none from gby_trans G6_.out g)
      clear g
      have szwSq2 := sz_
      clear sz_
      go_wp2
      go_ret
      exact ⟨rfl, gby_below G9_.out⟩

end Go.Proofs.Ytoedgncidoldaaa
