/-
  The walk of FnExactOpenNode: at every argument the program answers as its model and writes nothing that was there, and its answer owns its memory.
-/
import Derived.Test.YtjkjodcgpdhldacQGuard
import Derived.Test.YtjkjodcgpdhldacQSNode
import Derived.Test.YtjkjodcgpdhldacROpenNode
import Derived.WalkKit
import Derived.Deep.RegionHeld3
import Derived.Below
namespace Go.Proofs.Ytjkjodcgpdhldac
open Go Go.RowKit

set_option maxRecDepth 8000 in
set_option maxHeartbeats 16000000 in
theorem walk_exactOpenNode_of (both : ∀ (xs0 : List DNode) (xs1_0 : List Bool) (i2 : Int), szL shNode xs0 ≤ 1048576 → szL shB xs1_0 ≤ 1048576 → ∃ (xsr0_0 : List Bool) (br1 : Bool), szL shB xsr0_0 ≤ 1048576 ∧ (∀ (W : World), ∀ u0 u1_0, RdL shNode W u0 xs0 → RdL shB W u1_0 xs1_0 → Calls Try.prog 44 #[u0, .agg #[u1_0], .int .i64 i2] W (ResIOpenNode xsr0_0 br1 W)) ∧ ∀ (W : World), ∀ u0 u1_0, RdL shNode W u0 xs0 → RdL shB W u1_0 xs1_0 → Calls Try.prog 45 #[u0, .agg #[u1_0], .int .i64 i2] W (ResIOpenNode xsr0_0 br1 W))
    (W : World) (a0 : Value) (xs0 : List DNode) (a1_0 : Value) (xs1_0 : List Bool) (i2 : Int) (H0 : RdL shNode W a0 xs0) (H1_0 : RdL shB W a1_0 xs1_0) :
    Calls Try.prog 11 #[a0, .agg #[a1_0], .int .i64 i2] W fun e w' => e = .returned (.bool true) ∧ Below W.heap.size W w' := by
  have HI0 := Lib.hid H0
  have hmx0 := H0.max
  clear H0
  have HI1_0 := Lib.hid H1_0
  have hmx1_0 := H1_0.max
  clear H1_0
  by_cases hs0 : (1048576 : Int) < (((szL shNode xs0) : Nat) : Int)
  · have hneg : (-1 : Int) < 0 := by omega
    go_enter Try.func11, Try.ntmps11
    have rA11_ := Lib.hid (show ((W.alloc (.cells #[a1_0] 43))).heap[W.heap.size]? = some (.cells #[a1_0] 43 (0, 0)) from by exact heap_alloc_new _ _)
    have G2_ := Lib.hid (show (W).grownBy ((W.alloc (.cells #[a1_0] 43))) none from (gby_alloc (gby_refl _ _) _))
    have A1_0_ : ((W.alloc (.cells #[a1_0] 43))).cell? ⟨W.heap.size, 0, none⟩ = some (a1_0) := cell_of_row _ _ 0 _ _ _ rA11_.out
    go_wp2_with fail
    go_at_call 15
    refine (szNodeS_d _ 1048576 a0 xs0 (HI0.out.grow G2_.out) (by omega) (by omega)).mono ?_
    rintro e w1 ⟨he, g⟩
    rw [show lessN 1048576 (szL shNode xs0) = -1 from if_pos hs0] at he
    subst he
    clear A1_0_
    have rA13_ := Lib.hid (show (w1).heap[W.heap.size]? = some (.cells #[a1_0] 43 (0, 0)) from row_held g rA11_.out)
    clear rA11_
    have G4_ := Lib.hid (show (W).grownBy (w1) none from gby_trans G2_.out g)
    clear g
    go_wp2
    go_ret
    exact ⟨rfl, gby_below G4_.out⟩
  obtain ⟨rr0, hr0⟩ : ∃ r, r = lessN 1048576 (szL shNode xs0) := ⟨_, rfl⟩
  have hrr0 : rr0 = (1048576 : Int) - (((szL shNode xs0) : Nat) : Int) := hr0.trans (if_neg hs0)
  have hn0 : ¬ rr0 < 0 := by omega
  have hu0 : rr0 ≤ 1048576 := by omega
  by_cases hs1 : rr0 < (((szL shB xs1_0) : Nat) : Int)
  · have hneg : (-1 : Int) < 0 := by omega
    have HR0 := Lib.hid hr0
    clear hr0 hrr0
    go_enter Try.func11, Try.ntmps11
    have rA11_ := Lib.hid (show ((W.alloc (.cells #[a1_0] 43))).heap[W.heap.size]? = some (.cells #[a1_0] 43 (0, 0)) from by exact heap_alloc_new _ _)
    have G2_ := Lib.hid (show (W).grownBy ((W.alloc (.cells #[a1_0] 43))) none from (gby_alloc (gby_refl _ _) _))
    have A1_0_ : ((W.alloc (.cells #[a1_0] 43))).cell? ⟨W.heap.size, 0, none⟩ = some (a1_0) := cell_of_row _ _ 0 _ _ _ rA11_.out
    go_wp2_with fail
    go_at_call 15
    refine (szNodeS_d _ 1048576 a0 xs0 (HI0.out.grow G2_.out) (by omega) (by omega)).mono ?_
    rintro e w1 ⟨he, g⟩
    rw [← HR0.out] at he
    subst he
    clear A1_0_
    have rA13_ := Lib.hid (show (w1).heap[W.heap.size]? = some (.cells #[a1_0] 43 (0, 0)) from row_held g rA11_.out)
    clear rA11_
    have G4_ := Lib.hid (show (W).grownBy (w1) none from gby_trans G2_.out g)
    clear g
    have A1_0_ : (w1).cell? ⟨W.heap.size, 0, none⟩ = some (a1_0) := cell_of_row _ _ 0 _ _ _ rA13_.out
    go_wp2_with fail
    go_at_call 35
    refine (szGuard_d _ rr0 a1_0 xs1_0 (HI1_0.out.grow G4_.out) (by omega) (by omega)).mono ?_
    rintro e w2 ⟨he, g⟩
    rw [show lessN rr0 (szL shB xs1_0) = -1 from if_pos hs1] at he
    subst he
    clear A1_0_
    have rA15_ := Lib.hid (show (w2).heap[W.heap.size]? = some (.cells #[a1_0] 43 (0, 0)) from row_held g rA13_.out)
    clear rA13_
    have G6_ := Lib.hid (show (W).grownBy (w2) none from gby_trans G4_.out g)
    clear g
    go_wp2
    go_ret
    exact ⟨rfl, gby_below G6_.out⟩
  obtain ⟨rr1, hr1⟩ : ∃ r, r = lessN rr0 (szL shB xs1_0) := ⟨_, rfl⟩
  have hrr1 : rr1 = rr0 - (((szL shB xs1_0) : Nat) : Int) := hr1.trans (if_neg hs1)
  have hn1 : ¬ rr1 < 0 := by omega
  have hu1 : rr1 ≤ 1048576 := by omega
  have hl0 : szL shNode xs0 ≤ 1048576 := by omega
  have hl1_0 : szL shB xs1_0 ≤ 1048576 := by omega
  have HR0 := Lib.hid hr0
  clear hs0 hr0 hrr0
  have HR1 := Lib.hid hr1
  clear hs1 hr1 hrr1
  obtain ⟨xsr0_0, br1, hLr0_0, hs_, hi_⟩ := both xs0 xs1_0 i2 hl0 hl1_0
  have HS := Lib.hid hs_
  have HM := Lib.hid hi_
  clear hs_ hi_
  try clear both
  have hb_br1 : (br1 != br1) = false := by simp
  have hq0 : ecL shNode xs0 ≤ 104857600 := Nat.le_trans (ecL_le _ _) (Nat.le_trans (Nat.mul_le_mul_left _ hl0) (Nat.mul_le_mul_right 1048576 (show shNode.c ≤ 100 by decide)))
  have hq1_0 : ecL shB xs1_0 ≤ 104857600 := Nat.le_trans (ecL_le _ _) (Nat.le_trans (Nat.mul_le_mul_left _ hl1_0) (Nat.mul_le_mul_right 1048576 (show shB.c ≤ 100 by decide)))
  have hqr0_0 : ecL shB xsr0_0 ≤ 104857600 := Nat.le_trans (ecL_le _ _) (Nat.le_trans (Nat.mul_le_mul_left _ hLr0_0) (Nat.mul_le_mul_right 1048576 (show shB.c ≤ 100 by decide)))
  go_enter Try.func11, Try.ntmps11
  have rA11_ := Lib.hid (show ((W.alloc (.cells #[a1_0] 43))).heap[W.heap.size]? = some (.cells #[a1_0] 43 (0, 0)) from by exact heap_alloc_new _ _)
  have G2_ := Lib.hid (show (W).grownBy ((W.alloc (.cells #[a1_0] 43))) none from (gby_alloc (gby_refl _ _) _))
  have A1_0_ : ((W.alloc (.cells #[a1_0] 43))).cell? ⟨W.heap.size, 0, none⟩ = some (a1_0) := cell_of_row _ _ 0 _ _ _ rA11_.out
  go_wp2_with fail
  go_at_call 15
  refine (szNodeS_d _ 1048576 a0 xs0 (HI0.out.grow G2_.out) (by omega) (by omega)).mono ?_
  rintro e w1 ⟨he, g⟩
  rw [← HR0.out] at he
  subst he
  have zs1 := World.grownBy.size g
  try simp only [World.size_alloc] at zs1
  clear A1_0_
  have rA13_ := Lib.hid (show (w1).heap[W.heap.size]? = some (.cells #[a1_0] 43 (0, 0)) from row_held g rA11_.out)
  clear rA11_
  have G4_ := Lib.hid (show (W).grownBy (w1) none from gby_trans G2_.out g)
  clear g
  have A1_0_ : (w1).cell? ⟨W.heap.size, 0, none⟩ = some (a1_0) := cell_of_row _ _ 0 _ _ _ rA13_.out
  go_wp2_with fail
  go_at_call 35
  refine (szGuard_d _ rr0 a1_0 xs1_0 (HI1_0.out.grow G4_.out) (by omega) (by omega)).mono ?_
  rintro e w2 ⟨he, g⟩
  rw [← HR1.out] at he
  subst he
  have zs2 := World.grownBy.size g
  try simp only [World.size_alloc] at zs2
  clear A1_0_
  have rA15_ := Lib.hid (show (w2).heap[W.heap.size]? = some (.cells #[a1_0] 43 (0, 0)) from row_held g rA13_.out)
  clear rA13_
  have G6_ := Lib.hid (show (W).grownBy (w2) none from gby_trans G4_.out g)
  clear g
  have A1_0_ : (w2).cell? ⟨W.heap.size, 0, none⟩ = some (a1_0) := cell_of_row _ _ 0 _ _ _ rA15_.out
  go_wp2_with fail
  go_region_held3 (fun w' => w'.cell? ⟨W.heap.size, 0, none⟩ = some (a1_0))
    (first
      | exact A1_0_
      | exact (World.grownBy.cell (gby_drew (gby_refl _ none)) A1_0_ (by simp))
      | exact (World.grownBy.cell (gby_trans (gby_drew (gby_refl _ none)) gA0) A1_0_ (by simp))
      | exact (World.grownBy.cell (gby_trans (gby_trans (gby_drew (gby_refl _ none)) gA0) gA1) A1_0_ (by simp))
      | exact (World.grownBy.cell (gby_trans (gby_trans (gby_trans (gby_drew (gby_refl _ none)) gA0) gA1) gS) A1_0_ (by simp))
      | exact (World.grownBy.cell (gby_setnew (gby_trans (gby_trans (gby_trans (gby_drew (gby_refl _ none)) gA0) gA1) gS) _ (by dsimp only; (try simp only [World.size_alloc, World.size_drew] at *); omega) _) A1_0_ (by simp))
      | exact (World.grownBy.cell (gby_drew (gby_alloc (gby_refl _ none) _)) A1_0_ (by simp))
      | exact (World.grownBy.cell (gby_trans (gby_drew (gby_alloc (gby_refl _ none) _)) gA0) A1_0_ (by simp))
      | exact (World.grownBy.cell (gby_trans (gby_trans (gby_drew (gby_alloc (gby_refl _ none) _)) gA0) gA1) A1_0_ (by simp))
      | exact (World.grownBy.cell (gby_trans (gby_trans (gby_trans (gby_drew (gby_alloc (gby_refl _ none) _)) gA0) gA1) gS) A1_0_ (by simp))
      | exact (World.grownBy.cell (gby_setnew (gby_trans (gby_trans (gby_trans (gby_drew (gby_alloc (gby_refl _ none) _)) gA0) gA1) gS) _ (by dsimp only; (try simp only [World.size_alloc, World.size_drew] at *); omega) _) A1_0_ (by simp))
      | exact (World.grownBy.cell (gby_alloc (gby_trans (gby_drew (gby_refl _ none)) gA0) _) A1_0_ (by simp))
      | exact (World.grownBy.cell (gby_trans (gby_alloc (gby_trans (gby_drew (gby_refl _ none)) gA0) _) gA1) A1_0_ (by simp))
      | exact (World.grownBy.cell (gby_trans (gby_trans (gby_alloc (gby_trans (gby_drew (gby_refl _ none)) gA0) _) gA1) gS) A1_0_ (by simp))
      | exact (World.grownBy.cell (gby_setnew (gby_trans (gby_trans (gby_alloc (gby_trans (gby_drew (gby_refl _ none)) gA0) _) gA1) gS) _ (by dsimp only; (try simp only [World.size_alloc, World.size_drew] at *); omega) _) A1_0_ (by simp))
      | exact (World.grownBy.cell (gby_alloc (gby_trans (gby_trans (gby_drew (gby_refl _ none)) gA0) gA1) _) A1_0_ (by simp))
      | exact (World.grownBy.cell (gby_trans (gby_alloc (gby_trans (gby_trans (gby_drew (gby_refl _ none)) gA0) gA1) _) gS) A1_0_ (by simp))
      | exact (World.grownBy.cell (gby_setnew (gby_trans (gby_alloc (gby_trans (gby_trans (gby_drew (gby_refl _ none)) gA0) gA1) _) gS) _ (by dsimp only; (try simp only [World.size_alloc, World.size_drew] at *); omega) _) A1_0_ (by simp))
      | exact (World.grownBy.cell (gby_alloc (gby_trans (gby_trans (gby_trans (gby_drew (gby_refl _ none)) gA0) gA1) gS) _) A1_0_ (by simp))
      | fail)
    (first
      | (go_at_call_of 17 a0; refine (toNodeS_d _ a0 xs0 (HI0.out.grow (gby_drew G6_.out)) hl0).mono ?_; rintro e wA0 ⟨t10, rfl, oR0, gA0⟩; have sA0 := gA0.size; (try simp only [World.size_alloc] at sA0); obtain ⟨t10p, t10n, t10c, hv_⟩ := RdL.form (OwL.rd oR0); subst hv_)
      | (go_at_call_of 17 a0; refine (toNodeS_d _ a0 xs0 (HI0.out.grow (gby_drew (gby_alloc G6_.out _))) hl0).mono ?_; rintro e wA0 ⟨t10, rfl, oR0, gA0⟩; have sA0 := gA0.size; (try simp only [World.size_alloc] at sA0); obtain ⟨t10p, t10n, t10c, hv_⟩ := RdL.form (OwL.rd oR0); subst hv_)
      | (go_at_call_of 37 (Value.agg #[a1_0]); refine (toGuard_d _ a1_0 xs1_0 (HI1_0.out.grow (gby_trans (gby_drew G6_.out) gA0)) hl1_0).mono ?_; rintro e wA1 ⟨t21_0, rfl, oR1, gA1⟩; have sA1 := gA1.size; (try simp only [World.size_alloc] at sA1); obtain ⟨t21_0p, t21_0n, t21_0c, hv_⟩ := RdL.form (OwU.rd oR1); subst hv_; try unfold vGuard)
      | (go_at_call_of 37 (Value.agg #[a1_0]); refine (toGuard_d _ a1_0 xs1_0 (HI1_0.out.grow (gby_trans (gby_drew (gby_alloc G6_.out _)) gA0)) hl1_0).mono ?_; rintro e wA1 ⟨t21_0, rfl, oR1, gA1⟩; have sA1 := gA1.size; (try simp only [World.size_alloc] at sA1); obtain ⟨t21_0p, t21_0n, t21_0c, hv_⟩ := RdL.form (OwU.rd oR1); subst hv_; try unfold vGuard)
      | (go_at_call_of 37 (Value.agg #[a1_0]); refine (toGuard_d _ a1_0 xs1_0 (HI1_0.out.grow (gby_alloc (gby_trans (gby_drew G6_.out) gA0) _)) hl1_0).mono ?_; rintro e wA1 ⟨t21_0, rfl, oR1, gA1⟩; have sA1 := gA1.size; (try simp only [World.size_alloc] at sA1); obtain ⟨t21_0p, t21_0n, t21_0c, hv_⟩ := RdL.form (OwU.rd oR1); subst hv_; try unfold vGuard)
      | (go_at_call 44; refine (HS.out _ (.slice t10p t10n t10c) (.slice t21_0p t21_0n t21_0c) (RdL.grow (OwL.rd oR0) (gby_trans (gby_refl _ none) gA1)) (RdL.grow (OwU.rd oR1) (gby_refl _ none))).mono ?_; rintro e wS ⟨wr0_0, rfl, o, gS⟩; have sS := gS.size; (try simp only [World.size_alloc] at sS); obtain ⟨wr0_0p, wr0_0n, wr0_0c, hv_⟩ := RdL.form (OwU.rd o); subst hv_; have rrn_ := heap_alloc_new wS (.cells #[.slice none 0 0] 46); have cn_0_ := cell_of_row _ _ 0 _ _ _ rrn_; have fn_0_ := frozen_of_row _ _ 0 _ _ rrn_; (try (have rr0_ := (row_held gS (row_held gA1 (row_held gA0 (heap_alloc_new _ _)))); have c0_0_ := cell_of_row _ _ 0 _ _ _ rr0_; have f0_0_ := frozen_of_row _ _ 0 _ _ rr0_)); (try (have rr1_ := (row_held gS (row_held gA1 (heap_alloc_new _ _))); have c1_0_ := cell_of_row _ _ 0 _ _ _ rr1_; have f1_0_ := frozen_of_row _ _ 0 _ _ rr1_)); (try (have rr2_ := (row_held gS (heap_alloc_new _ _)); have c2_0_ := cell_of_row _ _ 0 _ _ _ rr2_; have f2_0_ := frozen_of_row _ _ 0 _ _ rr2_)))
      | (go_at_call 44; refine (HS.out _ (.slice t10p t10n t10c) (.slice t21_0p t21_0n t21_0c) (RdL.grow (OwL.rd oR0) (gby_trans (gby_alloc (gby_refl _ none) _) gA1)) (RdL.grow (OwU.rd oR1) (gby_refl _ none))).mono ?_; rintro e wS ⟨wr0_0, rfl, o, gS⟩; have sS := gS.size; (try simp only [World.size_alloc] at sS); obtain ⟨wr0_0p, wr0_0n, wr0_0c, hv_⟩ := RdL.form (OwU.rd o); subst hv_; have rrn_ := heap_alloc_new wS (.cells #[.slice none 0 0] 46); have cn_0_ := cell_of_row _ _ 0 _ _ _ rrn_; have fn_0_ := frozen_of_row _ _ 0 _ _ rrn_; (try (have rr0_ := (row_held gS (row_held gA1 (row_held gA0 (heap_alloc_new _ _)))); have c0_0_ := cell_of_row _ _ 0 _ _ _ rr0_; have f0_0_ := frozen_of_row _ _ 0 _ _ rr0_)); (try (have rr1_ := (row_held gS (row_held gA1 (heap_alloc_new _ _))); have c1_0_ := cell_of_row _ _ 0 _ _ _ rr1_; have f1_0_ := frozen_of_row _ _ 0 _ _ rr1_)); (try (have rr2_ := (row_held gS (heap_alloc_new _ _)); have c2_0_ := cell_of_row _ _ 0 _ _ _ rr2_; have f2_0_ := frozen_of_row _ _ 0 _ _ rr2_)))
      | (go_at_call 44; refine (HS.out _ (.slice t10p t10n t10c) (.slice t21_0p t21_0n t21_0c) (RdL.grow (OwL.rd oR0) (gby_alloc (gby_trans (gby_refl _ none) gA1) _)) (RdL.grow (OwU.rd oR1) (gby_alloc (gby_refl _ none) _))).mono ?_; rintro e wS ⟨wr0_0, rfl, o, gS⟩; have sS := gS.size; (try simp only [World.size_alloc] at sS); obtain ⟨wr0_0p, wr0_0n, wr0_0c, hv_⟩ := RdL.form (OwU.rd o); subst hv_; have rrn_ := heap_alloc_new wS (.cells #[.slice none 0 0] 46); have cn_0_ := cell_of_row _ _ 0 _ _ _ rrn_; have fn_0_ := frozen_of_row _ _ 0 _ _ rrn_; (try (have rr0_ := (row_held gS (row_held gA1 (row_held gA0 (heap_alloc_new _ _)))); have c0_0_ := cell_of_row _ _ 0 _ _ _ rr0_; have f0_0_ := frozen_of_row _ _ 0 _ _ rr0_)); (try (have rr1_ := (row_held gS (row_held gA1 (heap_alloc_new _ _))); have c1_0_ := cell_of_row _ _ 0 _ _ _ rr1_; have f1_0_ := frozen_of_row _ _ 0 _ _ rr1_)); (try (have rr2_ := (row_held gS (heap_alloc_new _ _)); have c2_0_ := cell_of_row _ _ 0 _ _ _ rr2_; have f2_0_ := frozen_of_row _ _ 0 _ _ rr2_)))
      | fail)
  clear A1_0_
  all_goals
    have hz0_ := gA0.size
    try simp only [World.size_alloc] at hz0_
    try simp only [World.size_drew] at hz0_
    try simp only [World.size_alloc] at hz0_
    have hz1_ := gA1.size
    try simp only [World.size_alloc] at hz1_
    try simp only [World.size_drew] at hz1_
    try simp only [World.size_alloc] at hz1_
    have hz2_ := gS.size
    try simp only [World.size_alloc] at hz2_
    try simp only [World.size_drew] at hz2_
    try simp only [World.size_alloc] at hz2_
    try simp only [World.size_alloc] at o
    first
      | (have RB_ := Lib.hid (show ((wS.alloc (.cells #[(.slice wr0_0p wr0_0n wr0_0c)] 46))).heap[wS.heap.size]? = some (.cells #[(.slice wr0_0p wr0_0n wr0_0c)] 46 (0, 0)) from heap_alloc_new _ _); have GB_ := Lib.hid (show (w2).grownBy ((wS.alloc (.cells #[(.slice wr0_0p wr0_0n wr0_0c)] 46))) none from (gby_alloc (gby_trans (gby_trans (gby_trans (gby_drew (gby_refl _ none)) gA0) gA1) gS) _)); have OB_ := Lib.hid (show OwU ((wS.alloc (.cells #[(.slice wr0_0p wr0_0n wr0_0c)] 46))) (wA1.heap.size) (wS.heap.size) [] [own shB (.slice wr0_0p wr0_0n wr0_0c) xsr0_0] from OwU.grow o (gby_alloc (gby_refl _ none) _)); have ib0 : (w2).heap.size ≤ wS.heap.size := (by omega); have ib1 : (w2).heap.size ≤ wA1.heap.size := (by omega); have ib2 : Hid (wS.heap.size < wA1.heap.size ∨ wS.heap.size ≤ wS.heap.size) := Lib.hid (by omega); have ib3 : wS.heap.size ≤ ((wS.alloc (.cells #[(.slice wr0_0p wr0_0n wr0_0c)] 46))).heap.size := (by simp); have ib4 : wA1.heap.size ≤ wS.heap.size := (by omega); have ib5 : wS.heap.size < ((wS.alloc (.cells #[(.slice wr0_0p wr0_0n wr0_0c)] 46))).heap.size := (by first | omega | (simp; done) | (simp; omega)); obtain ⟨wN3, hwN_⟩ : ∃ w_, w_ = (wS.alloc (.cells #[(.slice wr0_0p wr0_0n wr0_0c)] 46)) := ⟨_, rfl⟩; rw [← hwN_] at RB_ GB_ OB_ ib3 ib5 ⊢; clear hwN_; obtain ⟨lo3, hlo_⟩ : ∃ l_, l_ = wA1.heap.size := ⟨_, rfl⟩; rw [← hlo_] at OB_ ib1 ib2 ib4; clear hlo_; obtain ⟨hi3, hhi_⟩ : ∃ l_, l_ = wS.heap.size := ⟨_, rfl⟩; obtain ⟨bw3, hbw_⟩ : ∃ b_, b_ = wS.heap.size := ⟨_, rfl⟩; rw [← hbw_] at RB_ ib0 ib5 ⊢; rw [← hhi_] at OB_ ib3 ib4; have ib2 : Hid (bw3 < lo3 ∨ hi3 ≤ bw3) := Lib.hid (.inr (by omega)); clear hbw_ hhi_)
      | (have RB_ := Lib.hid (show ((wS.setCell ⟨wA1.heap.size, 0, none⟩ ((.slice wr0_0p wr0_0n wr0_0c)))).heap[wA1.heap.size]? = some (.cells #[(.slice wr0_0p wr0_0n wr0_0c)] 46 (0, 0)) from (heap_setCell_same _ _ 0 _ _ _ rr2_)); have GB_ := Lib.hid (show (w2).grownBy ((wS.setCell ⟨wA1.heap.size, 0, none⟩ ((.slice wr0_0p wr0_0n wr0_0c)))) none from (gby_setnew (gby_trans (gby_alloc (gby_trans (gby_trans (gby_drew (gby_refl _ none)) gA0) gA1) _) gS) _ (by dsimp only; omega) _)); have OB_ := Lib.hid (show OwU ((wS.setCell ⟨wA1.heap.size, 0, none⟩ ((.slice wr0_0p wr0_0n wr0_0c)))) (wA1.heap.size + 1) (wS.heap.size) [] [own shB (.slice wr0_0p wr0_0n wr0_0c) xsr0_0] from (OwU.keep (chg_one _ _ _ _) (.inr (by omega)) o)); have ib0 : (w2).heap.size ≤ wA1.heap.size := (by omega); have ib1 : (w2).heap.size ≤ wA1.heap.size + 1 := (by omega); have ib2 : Hid (wA1.heap.size < wA1.heap.size + 1 ∨ wS.heap.size ≤ wA1.heap.size) := Lib.hid (by omega); have ib3 : wS.heap.size ≤ ((wS.setCell ⟨wA1.heap.size, 0, none⟩ ((.slice wr0_0p wr0_0n wr0_0c)))).heap.size := (by simp); have ib4 : wA1.heap.size + 1 ≤ wS.heap.size := (by omega); have ib5 : wA1.heap.size < ((wS.setCell ⟨wA1.heap.size, 0, none⟩ ((.slice wr0_0p wr0_0n wr0_0c)))).heap.size := (by first | omega | (simp; done) | (simp; omega)); obtain ⟨wN3, hwN_⟩ : ∃ w_, w_ = (wS.setCell ⟨wA1.heap.size, 0, none⟩ ((.slice wr0_0p wr0_0n wr0_0c))) := ⟨_, rfl⟩; rw [← hwN_] at RB_ GB_ OB_ ib3 ib5 ⊢; clear hwN_; obtain ⟨lo3, hlo_⟩ : ∃ l_, l_ = wA1.heap.size + 1 := ⟨_, rfl⟩; rw [← hlo_] at OB_ ib1 ib2 ib4; clear hlo_; obtain ⟨hi3, hhi_⟩ : ∃ l_, l_ = wS.heap.size := ⟨_, rfl⟩; obtain ⟨bw3, hbw_⟩ : ∃ b_, b_ = wA1.heap.size := ⟨_, rfl⟩; rw [← hbw_] at RB_ ib0 ib2 ib5 ⊢; rw [← hhi_] at OB_ ib2 ib3 ib4; clear hbw_ hhi_)
      | (have RB_ := Lib.hid (show ((wS.setCell ⟨wA0.heap.size, 0, none⟩ ((.slice wr0_0p wr0_0n wr0_0c)))).heap[wA0.heap.size]? = some (.cells #[(.slice wr0_0p wr0_0n wr0_0c)] 46 (0, 0)) from (heap_setCell_same _ _ 0 _ _ _ rr1_)); have GB_ := Lib.hid (show (w2).grownBy ((wS.setCell ⟨wA0.heap.size, 0, none⟩ ((.slice wr0_0p wr0_0n wr0_0c)))) none from (gby_setnew (gby_trans (gby_trans (gby_alloc (gby_trans (gby_drew (gby_refl _ none)) gA0) _) gA1) gS) _ (by dsimp only; omega) _)); have OB_ := Lib.hid (show OwU ((wS.setCell ⟨wA0.heap.size, 0, none⟩ ((.slice wr0_0p wr0_0n wr0_0c)))) (wA1.heap.size) (wS.heap.size) [] [own shB (.slice wr0_0p wr0_0n wr0_0c) xsr0_0] from (OwU.keep (chg_one _ _ _ _) (.inr (by omega)) o)); have ib0 : (w2).heap.size ≤ wA0.heap.size := (by omega); have ib1 : (w2).heap.size ≤ wA1.heap.size := (by omega); have ib2 : Hid (wA0.heap.size < wA1.heap.size ∨ wS.heap.size ≤ wA0.heap.size) := Lib.hid (by omega); have ib3 : wS.heap.size ≤ ((wS.setCell ⟨wA0.heap.size, 0, none⟩ ((.slice wr0_0p wr0_0n wr0_0c)))).heap.size := (by simp); have ib4 : wA1.heap.size ≤ wS.heap.size := (by omega); have ib5 : wA0.heap.size < ((wS.setCell ⟨wA0.heap.size, 0, none⟩ ((.slice wr0_0p wr0_0n wr0_0c)))).heap.size := (by first | omega | (simp; done) | (simp; omega)); obtain ⟨wN3, hwN_⟩ : ∃ w_, w_ = (wS.setCell ⟨wA0.heap.size, 0, none⟩ ((.slice wr0_0p wr0_0n wr0_0c))) := ⟨_, rfl⟩; rw [← hwN_] at RB_ GB_ OB_ ib3 ib5 ⊢; clear hwN_; obtain ⟨lo3, hlo_⟩ : ∃ l_, l_ = wA1.heap.size := ⟨_, rfl⟩; rw [← hlo_] at OB_ ib1 ib2 ib4; clear hlo_; obtain ⟨hi3, hhi_⟩ : ∃ l_, l_ = wS.heap.size := ⟨_, rfl⟩; obtain ⟨bw3, hbw_⟩ : ∃ b_, b_ = wA0.heap.size := ⟨_, rfl⟩; rw [← hbw_] at RB_ ib0 ib2 ib5 ⊢; rw [← hhi_] at OB_ ib2 ib3 ib4; clear hbw_ hhi_)
      | (have RB_ := Lib.hid (show ((wS.setCell ⟨(w2).heap.size, 0, none⟩ ((.slice wr0_0p wr0_0n wr0_0c)))).heap[(w2).heap.size]? = some (.cells #[(.slice wr0_0p wr0_0n wr0_0c)] 46 (0, 0)) from (heap_setCell_same _ _ 0 _ _ _ rr0_)); have GB_ := Lib.hid (show (w2).grownBy ((wS.setCell ⟨(w2).heap.size, 0, none⟩ ((.slice wr0_0p wr0_0n wr0_0c)))) none from (gby_setnew (gby_trans (gby_trans (gby_trans (gby_drew (gby_alloc (gby_refl _ none) _)) gA0) gA1) gS) _ (by dsimp only; omega) _)); have OB_ := Lib.hid (show OwU ((wS.setCell ⟨(w2).heap.size, 0, none⟩ ((.slice wr0_0p wr0_0n wr0_0c)))) (wA1.heap.size) (wS.heap.size) [] [own shB (.slice wr0_0p wr0_0n wr0_0c) xsr0_0] from (OwU.keep (chg_one _ _ _ _) (.inr (by omega)) o)); have ib0 : (w2).heap.size ≤ (w2).heap.size := (by omega); have ib1 : (w2).heap.size ≤ wA1.heap.size := (by omega); have ib2 : Hid ((w2).heap.size < wA1.heap.size ∨ wS.heap.size ≤ (w2).heap.size) := Lib.hid (by omega); have ib3 : wS.heap.size ≤ ((wS.setCell ⟨(w2).heap.size, 0, none⟩ ((.slice wr0_0p wr0_0n wr0_0c)))).heap.size := (by simp); have ib4 : wA1.heap.size ≤ wS.heap.size := (by omega); have ib5 : (w2).heap.size < ((wS.setCell ⟨(w2).heap.size, 0, none⟩ ((.slice wr0_0p wr0_0n wr0_0c)))).heap.size := (by first | omega | (simp; done) | (simp; omega)); obtain ⟨wN3, hwN_⟩ : ∃ w_, w_ = (wS.setCell ⟨(w2).heap.size, 0, none⟩ ((.slice wr0_0p wr0_0n wr0_0c))) := ⟨_, rfl⟩; rw [← hwN_] at RB_ GB_ OB_ ib3 ib5 ⊢; clear hwN_; obtain ⟨lo3, hlo_⟩ : ∃ l_, l_ = wA1.heap.size := ⟨_, rfl⟩; rw [← hlo_] at OB_ ib1 ib2 ib4; clear hlo_; obtain ⟨hi3, hhi_⟩ : ∃ l_, l_ = wS.heap.size := ⟨_, rfl⟩; obtain ⟨bw3, hbw_⟩ : ∃ b_, b_ = (w2).heap.size := ⟨_, rfl⟩; rw [← hbw_] at RB_ ib0 ib2 ib5 ⊢; rw [← hhi_] at OB_ ib2 ib3 ib4; clear hbw_ hhi_)
      | fail
    have g := GB_.out
    clear GB_ gA0 gA1 gS o sS hz0_ hz1_ hz2_ sA0 sA1 oR0 oR1
    try clear cn_0_ fn_0_ rrn_
    try clear c0_0_ f0_0_ rr0_
    try clear c1_0_ f1_0_ rr1_
    try clear c2_0_ f2_0_ rr2_
    have sz3_ := g.size
    try simp only [World.size_alloc] at sz3_
    have zs3 := World.grownBy.size g
    try simp only [World.size_alloc] at zs3
    have rA17_ := Lib.hid (show (wN3).heap[W.heap.size]? = some (.cells #[a1_0] 43 (0, 0)) from row_held g rA15_.out)
    clear rA15_
    have G8_ := Lib.hid (show (W).grownBy (wN3) none from gby_trans G6_.out g)
    clear g
    have ow9_ := Lib.hid (show OwU (wN3) (lo3) (hi3) [] [own shB (.slice wr0_0p wr0_0n wr0_0c) xsr0_0] from OB_.out)
    clear OB_
    have rBw010_ := Lib.hid (show (wN3).heap[bw3]? = some (.cells #[(.slice wr0_0p wr0_0n wr0_0c)] 46 (0, 0)) from RB_.out)
    clear RB_
    have HX3_ := ib2
    clear ib2
    go_wp2_with fail
    go_at_call 17
    refine (toNodeS_d _ a0 xs0 (HI0.out.grow G8_.out) hl0).mono ?_
    rintro e w4 ⟨x00, rfl, o, g⟩
    have sz_ := g.size
    try simp only [World.size_alloc] at sz_
    try simp only [World.size_alloc] at o
    have zs4 := World.grownBy.size g
    try simp only [World.size_alloc] at zs4
    have rA111_ := Lib.hid (show (w4).heap[W.heap.size]? = some (.cells #[a1_0] 43 (0, 0)) from row_held g rA17_.out)
    clear rA17_
    have rBw012_ := Lib.hid (show (w4).heap[bw3]? = some (.cells #[(.slice wr0_0p wr0_0n wr0_0c)] 46 (0, 0)) from row_held g rBw010_.out)
    clear rBw010_
    have ow13_ := Lib.hid (show OwU (w4) (lo3) (hi3) [] [own shB (.slice wr0_0p wr0_0n wr0_0c) xsr0_0] from OwU.grow ow9_.out g)
    clear ow9_
    have G14_ := Lib.hid (show (W).grownBy (w4) none from gby_trans G8_.out g)
    clear g
    have szw4 := sz_
    clear sz_
    obtain ⟨x00p, x00n, x00c, hv_⟩ := RdL.form (OwL.rd o)
    subst hv_
    have ox015_ := Lib.hid (show OwU (w4) (wN3.heap.size) (w4.heap.size) [] [own shNode (.slice x00p x00n x00c) xs0] from OwU.one o)
    clear o
    have A1_0_ : (w4).cell? ⟨W.heap.size, 0, none⟩ = some (a1_0) := cell_of_row _ _ 0 _ _ _ rA111_.out
    go_wp2_with fail
    go_at_call 37
    refine (toGuard_d _ a1_0 xs1_0 (HI1_0.out.grow G14_.out) hl1_0).mono ?_
    rintro e w5 ⟨x11_0, rfl, o, g⟩
    have sz_ := g.size
    try simp only [World.size_alloc] at sz_
    try simp only [World.size_alloc] at o
    have zs5 := World.grownBy.size g
    try simp only [World.size_alloc] at zs5
    clear A1_0_
    have rA116_ := Lib.hid (show (w5).heap[W.heap.size]? = some (.cells #[a1_0] 43 (0, 0)) from row_held g rA111_.out)
    clear rA111_
    have rBw017_ := Lib.hid (show (w5).heap[bw3]? = some (.cells #[(.slice wr0_0p wr0_0n wr0_0c)] 46 (0, 0)) from row_held g rBw012_.out)
    clear rBw012_
    have ow18_ := Lib.hid (show OwU (w5) (lo3) (hi3) [] [own shB (.slice wr0_0p wr0_0n wr0_0c) xsr0_0] from OwU.grow ow13_.out g)
    clear ow13_
    have ox019_ := Lib.hid (show OwU (w5) (wN3.heap.size) (w4.heap.size) [] [own shNode (.slice x00p x00n x00c) xs0] from OwU.grow ox015_.out g)
    clear ox015_
    have G20_ := Lib.hid (show (W).grownBy (w5) none from gby_trans G14_.out g)
    clear g
    have szw5 := sz_
    clear sz_
    obtain ⟨x11_0p, x11_0n, x11_0c, hv_⟩ := RdL.form (OwU.rd o)
    subst hv_
    have ox121_ := Lib.hid (show OwU (w5) (w4.heap.size) (w5.heap.size) [] [own shB (.slice x11_0p x11_0n x11_0c) xs1_0] from o)
    clear o
    try unfold vGuard
    have al : (w5).grownBy ((w5).alloc (.cells #[(.slice x11_0p x11_0n x11_0c)] 46)) none := gby_alloc (gby_refl _ _) _
    have zs6 := World.grownBy.size al
    try simp only [World.size_alloc] at zs6
    have rA122_ := Lib.hid (show ((w5.alloc (.cells #[(.slice x11_0p x11_0n x11_0c)] 46))).heap[W.heap.size]? = some (.cells #[a1_0] 43 (0, 0)) from row_held al rA116_.out)
    clear rA116_
    have rBw023_ := Lib.hid (show ((w5.alloc (.cells #[(.slice x11_0p x11_0n x11_0c)] 46))).heap[bw3]? = some (.cells #[(.slice wr0_0p wr0_0n wr0_0c)] 46 (0, 0)) from row_held al rBw017_.out)
    clear rBw017_
    have ow24_ := Lib.hid (show OwU ((w5.alloc (.cells #[(.slice x11_0p x11_0n x11_0c)] 46))) (lo3) (hi3) [] [own shB (.slice wr0_0p wr0_0n wr0_0c) xsr0_0] from OwU.grow ow18_.out al)
    clear ow18_
    have ox025_ := Lib.hid (show OwU ((w5.alloc (.cells #[(.slice x11_0p x11_0n x11_0c)] 46))) (wN3.heap.size) (w4.heap.size) [] [own shNode (.slice x00p x00n x00c) xs0] from OwU.grow ox019_.out al)
    clear ox019_
    have ox126_ := Lib.hid (show OwU ((w5.alloc (.cells #[(.slice x11_0p x11_0n x11_0c)] 46))) (w4.heap.size) (w5.heap.size) [] [own shB (.slice x11_0p x11_0n x11_0c) xs1_0] from OwU.grow ox121_.out al)
    clear ox121_
    have G27_ := Lib.hid (show (W).grownBy ((w5.alloc (.cells #[(.slice x11_0p x11_0n x11_0c)] 46))) none from gby_trans G20_.out al)
    have rBx128_ := Lib.hid (show ((w5.alloc (.cells #[(.slice x11_0p x11_0n x11_0c)] 46))).heap[w5.heap.size]? = some (.cells #[(.slice x11_0p x11_0n x11_0c)] 46 (0, 0)) from heap_alloc_new _ _)
    clear al
    have Bx1_0_ : ((w5.alloc (.cells #[(.slice x11_0p x11_0n x11_0c)] 46))).cell? ⟨w5.heap.size, 0, none⟩ = some ((.slice x11_0p x11_0n x11_0c)) := cell_of_row _ _ 0 _ _ _ rBx128_.out
    go_wp2_with fail
    go_at_call 45
    refine (HM.out _ (.slice x00p x00n x00c) (.slice x11_0p x11_0n x11_0c) (OwU.rd ox025_.out) (OwU.rd ox126_.out)).mono ?_
    rintro e w6 ⟨gr0_0, rfl, o, g⟩
    have sz_ := g.size
    try simp only [World.size_alloc] at sz_
    try simp only [World.size_alloc] at o
    have zs7 := World.grownBy.size g
    try simp only [World.size_alloc] at zs7
    clear Bx1_0_
    have rA129_ := Lib.hid (show (w6).heap[W.heap.size]? = some (.cells #[a1_0] 43 (0, 0)) from row_held g rA122_.out)
    clear rA122_
    have rBw030_ := Lib.hid (show (w6).heap[bw3]? = some (.cells #[(.slice wr0_0p wr0_0n wr0_0c)] 46 (0, 0)) from row_held g rBw023_.out)
    clear rBw023_
    have rBx131_ := Lib.hid (show (w6).heap[w5.heap.size]? = some (.cells #[(.slice x11_0p x11_0n x11_0c)] 46 (0, 0)) from row_held g rBx128_.out)
    clear rBx128_
    have ow32_ := Lib.hid (show OwU (w6) (lo3) (hi3) [] [own shB (.slice wr0_0p wr0_0n wr0_0c) xsr0_0] from OwU.grow ow24_.out g)
    clear ow24_
    have ox033_ := Lib.hid (show OwU (w6) (wN3.heap.size) (w4.heap.size) [] [own shNode (.slice x00p x00n x00c) xs0] from OwU.grow ox025_.out g)
    clear ox025_
    have ox134_ := Lib.hid (show OwU (w6) (w4.heap.size) (w5.heap.size) [] [own shB (.slice x11_0p x11_0n x11_0c) xs1_0] from OwU.grow ox126_.out g)
    clear ox126_
    have G35_ := Lib.hid (show (W).grownBy (w6) none from gby_trans G27_.out g)
    clear g
    have szw6 := sz_
    clear sz_
    obtain ⟨gr0_0p, gr0_0n, gr0_0c, hv_⟩ := RdL.form (OwU.rd o)
    subst hv_
    have og36_ := Lib.hid (show OwU (w6) (w5.heap.size + 1) (w6.heap.size) [] [own shB (.slice gr0_0p gr0_0n gr0_0c) xsr0_0] from o)
    clear o
    have al : (w6).grownBy ((w6).alloc (.cells #[(.slice gr0_0p gr0_0n gr0_0c)] 46)) none := gby_alloc (gby_refl _ _) _
    have zs8 := World.grownBy.size al
    try simp only [World.size_alloc] at zs8
    have rA137_ := Lib.hid (show ((w6.alloc (.cells #[(.slice gr0_0p gr0_0n gr0_0c)] 46))).heap[W.heap.size]? = some (.cells #[a1_0] 43 (0, 0)) from row_held al rA129_.out)
    clear rA129_
    have rBw038_ := Lib.hid (show ((w6.alloc (.cells #[(.slice gr0_0p gr0_0n gr0_0c)] 46))).heap[bw3]? = some (.cells #[(.slice wr0_0p wr0_0n wr0_0c)] 46 (0, 0)) from row_held al rBw030_.out)
    clear rBw030_
    have rBx139_ := Lib.hid (show ((w6.alloc (.cells #[(.slice gr0_0p gr0_0n gr0_0c)] 46))).heap[w5.heap.size]? = some (.cells #[(.slice x11_0p x11_0n x11_0c)] 46 (0, 0)) from row_held al rBx131_.out)
    clear rBx131_
    have ow40_ := Lib.hid (show OwU ((w6.alloc (.cells #[(.slice gr0_0p gr0_0n gr0_0c)] 46))) (lo3) (hi3) [] [own shB (.slice wr0_0p wr0_0n wr0_0c) xsr0_0] from OwU.grow ow32_.out al)
    clear ow32_
    have ox041_ := Lib.hid (show OwU ((w6.alloc (.cells #[(.slice gr0_0p gr0_0n gr0_0c)] 46))) (wN3.heap.size) (w4.heap.size) [] [own shNode (.slice x00p x00n x00c) xs0] from OwU.grow ox033_.out al)
    clear ox033_
    have ox142_ := Lib.hid (show OwU ((w6.alloc (.cells #[(.slice gr0_0p gr0_0n gr0_0c)] 46))) (w4.heap.size) (w5.heap.size) [] [own shB (.slice x11_0p x11_0n x11_0c) xs1_0] from OwU.grow ox134_.out al)
    clear ox134_
    have og43_ := Lib.hid (show OwU ((w6.alloc (.cells #[(.slice gr0_0p gr0_0n gr0_0c)] 46))) (w5.heap.size + 1) (w6.heap.size) [] [own shB (.slice gr0_0p gr0_0n gr0_0c) xsr0_0] from OwU.grow og36_.out al)
    clear og36_
    have G44_ := Lib.hid (show (W).grownBy ((w6.alloc (.cells #[(.slice gr0_0p gr0_0n gr0_0c)] 46))) none from gby_trans G35_.out al)
    have rBg045_ := Lib.hid (show ((w6.alloc (.cells #[(.slice gr0_0p gr0_0n gr0_0c)] 46))).heap[w6.heap.size]? = some (.cells #[(.slice gr0_0p gr0_0n gr0_0c)] 46 (0, 0)) from heap_alloc_new _ _)
    clear al
    have Bg0_0_ : ((w6.alloc (.cells #[(.slice gr0_0p gr0_0n gr0_0c)] 46))).cell? ⟨w6.heap.size, 0, none⟩ = some ((.slice gr0_0p gr0_0n gr0_0c)) := cell_of_row _ _ 0 _ _ _ rBg045_.out
    have Bw0_0_ : ((w6.alloc (.cells #[(.slice gr0_0p gr0_0n gr0_0c)] 46))).cell? ⟨bw3, 0, none⟩ = some ((.slice wr0_0p wr0_0n wr0_0c)) := cell_of_row _ _ 0 _ _ _ rBw038_.out
    go_wp2_with fail
    go_at_call 39
    refine (eqGuard_d _ (.slice gr0_0p gr0_0n gr0_0c) (.slice wr0_0p wr0_0n wr0_0c) xsr0_0 (OwU.rd og43_.out) (OwU.rd ow40_.out) hLr0_0).mono ?_
    rintro e w7 ⟨rfl, g⟩
    have zs9 := World.grownBy.size g
    try simp only [World.size_alloc] at zs9
    clear Bg0_0_ Bw0_0_
    have rA146_ := Lib.hid (show (w7).heap[W.heap.size]? = some (.cells #[a1_0] 43 (0, 0)) from row_held g rA137_.out)
    clear rA137_
    have rBw047_ := Lib.hid (show (w7).heap[bw3]? = some (.cells #[(.slice wr0_0p wr0_0n wr0_0c)] 46 (0, 0)) from row_held g rBw038_.out)
    clear rBw038_
    have rBx148_ := Lib.hid (show (w7).heap[w5.heap.size]? = some (.cells #[(.slice x11_0p x11_0n x11_0c)] 46 (0, 0)) from row_held g rBx139_.out)
    clear rBx139_
    have rBg049_ := Lib.hid (show (w7).heap[w6.heap.size]? = some (.cells #[(.slice gr0_0p gr0_0n gr0_0c)] 46 (0, 0)) from row_held g rBg045_.out)
    clear rBg045_
    have ow50_ := Lib.hid (show OwU (w7) (lo3) (hi3) [] [own shB (.slice wr0_0p wr0_0n wr0_0c) xsr0_0] from OwU.grow ow40_.out g)
    clear ow40_
    have ox051_ := Lib.hid (show OwU (w7) (wN3.heap.size) (w4.heap.size) [] [own shNode (.slice x00p x00n x00c) xs0] from OwU.grow ox041_.out g)
    clear ox041_
    have ox152_ := Lib.hid (show OwU (w7) (w4.heap.size) (w5.heap.size) [] [own shB (.slice x11_0p x11_0n x11_0c) xs1_0] from OwU.grow ox142_.out g)
    clear ox142_
    have og53_ := Lib.hid (show OwU (w7) (w5.heap.size + 1) (w6.heap.size) [] [own shB (.slice gr0_0p gr0_0n gr0_0c) xsr0_0] from OwU.grow og43_.out g)
    clear og43_
    have G54_ := Lib.hid (show (W).grownBy (w7) none from gby_trans G44_.out g)
    clear g
    go_wp2_with fail
    go_at_call 17
    refine (toNodeS_d _ a0 xs0 (HI0.out.grow G54_.out) hl0).mono ?_
    rintro e w8 ⟨t30, rfl, o, g⟩
    have sz_ := g.size
    try simp only [World.size_alloc] at sz_
    try simp only [World.size_alloc] at o
    have zs10 := World.grownBy.size g
    try simp only [World.size_alloc] at zs10
    have rA155_ := Lib.hid (show (w8).heap[W.heap.size]? = some (.cells #[a1_0] 43 (0, 0)) from row_held g rA146_.out)
    clear rA146_
    have rBw056_ := Lib.hid (show (w8).heap[bw3]? = some (.cells #[(.slice wr0_0p wr0_0n wr0_0c)] 46 (0, 0)) from row_held g rBw047_.out)
    clear rBw047_
    have rBx157_ := Lib.hid (show (w8).heap[w5.heap.size]? = some (.cells #[(.slice x11_0p x11_0n x11_0c)] 46 (0, 0)) from row_held g rBx148_.out)
    clear rBx148_
    have rBg058_ := Lib.hid (show (w8).heap[w6.heap.size]? = some (.cells #[(.slice gr0_0p gr0_0n gr0_0c)] 46 (0, 0)) from row_held g rBg049_.out)
    clear rBg049_
    have ow59_ := Lib.hid (show OwU (w8) (lo3) (hi3) [] [own shB (.slice wr0_0p wr0_0n wr0_0c) xsr0_0] from OwU.grow ow50_.out g)
    clear ow50_
    have ox060_ := Lib.hid (show OwU (w8) (wN3.heap.size) (w4.heap.size) [] [own shNode (.slice x00p x00n x00c) xs0] from OwU.grow ox051_.out g)
    clear ox051_
    have ox161_ := Lib.hid (show OwU (w8) (w4.heap.size) (w5.heap.size) [] [own shB (.slice x11_0p x11_0n x11_0c) xs1_0] from OwU.grow ox152_.out g)
    clear ox152_
    have og62_ := Lib.hid (show OwU (w8) (w5.heap.size + 1) (w6.heap.size) [] [own shB (.slice gr0_0p gr0_0n gr0_0c) xsr0_0] from OwU.grow og53_.out g)
    clear og53_
    have G63_ := Lib.hid (show (W).grownBy (w8) none from gby_trans G54_.out g)
    clear g
    have szw8 := sz_
    clear sz_
    obtain ⟨t30p, t30n, t30c, hv_⟩ := RdL.form (OwL.rd o)
    subst hv_
    have oT364_ := Lib.hid (show OwU (w8) (w7.heap.size) (w8.heap.size) [] [own shNode (.slice t30p t30n t30c) xs0] from OwU.one o)
    clear o
    go_wp2_with fail
    go_at_call 19
    refine (eqNodeS_d _ (.slice x00p x00n x00c) (.slice t30p t30n t30c) xs0 (OwU.rd ox060_.out) (OwU.rd oT364_.out) hl0).mono ?_
    rintro e w9 ⟨rfl, g⟩
    have zs11 := World.grownBy.size g
    try simp only [World.size_alloc] at zs11
    have rA165_ := Lib.hid (show (w9).heap[W.heap.size]? = some (.cells #[a1_0] 43 (0, 0)) from row_held g rA155_.out)
    clear rA155_
    have rBw066_ := Lib.hid (show (w9).heap[bw3]? = some (.cells #[(.slice wr0_0p wr0_0n wr0_0c)] 46 (0, 0)) from row_held g rBw056_.out)
    clear rBw056_
    have rBx167_ := Lib.hid (show (w9).heap[w5.heap.size]? = some (.cells #[(.slice x11_0p x11_0n x11_0c)] 46 (0, 0)) from row_held g rBx157_.out)
    clear rBx157_
    have rBg068_ := Lib.hid (show (w9).heap[w6.heap.size]? = some (.cells #[(.slice gr0_0p gr0_0n gr0_0c)] 46 (0, 0)) from row_held g rBg058_.out)
    clear rBg058_
    have ow69_ := Lib.hid (show OwU (w9) (lo3) (hi3) [] [own shB (.slice wr0_0p wr0_0n wr0_0c) xsr0_0] from OwU.grow ow59_.out g)
    clear ow59_
    have ox070_ := Lib.hid (show OwU (w9) (wN3.heap.size) (w4.heap.size) [] [own shNode (.slice x00p x00n x00c) xs0] from OwU.grow ox060_.out g)
    clear ox060_
    have ox171_ := Lib.hid (show OwU (w9) (w4.heap.size) (w5.heap.size) [] [own shB (.slice x11_0p x11_0n x11_0c) xs1_0] from OwU.grow ox161_.out g)
    clear ox161_
    have og72_ := Lib.hid (show OwU (w9) (w5.heap.size + 1) (w6.heap.size) [] [own shB (.slice gr0_0p gr0_0n gr0_0c) xsr0_0] from OwU.grow og62_.out g)
    clear og62_
    have oT373_ := Lib.hid (show OwU (w9) (w7.heap.size) (w8.heap.size) [] [own shNode (.slice t30p t30n t30c) xs0] from OwU.grow oT364_.out g)
    clear oT364_
    have G74_ := Lib.hid (show (W).grownBy (w9) none from gby_trans G63_.out g)
    clear g
    clear oT373_
    have A1_0_ : (w9).cell? ⟨W.heap.size, 0, none⟩ = some (a1_0) := cell_of_row _ _ 0 _ _ _ rA165_.out
    have Bx1_0_ : (w9).cell? ⟨w5.heap.size, 0, none⟩ = some ((.slice x11_0p x11_0n x11_0c)) := cell_of_row _ _ 0 _ _ _ rBx167_.out
    go_wp2_with fail
    go_region_held3 (fun w' => w'.cell? ⟨W.heap.size, 0, none⟩ = some (a1_0) ∧ w'.cell? ⟨w5.heap.size, 0, none⟩ = some ((.slice x11_0p x11_0n x11_0c)))
      (first
        | exact ⟨A1_0_, Bx1_0_⟩
        | exact ⟨(gT.cell A1_0_ (by simp)), (gT.cell Bx1_0_ (by simp))⟩
        | exact ⟨(gE.cell (gT.cell A1_0_ (by simp)) (by simp)), (gE.cell (gT.cell Bx1_0_ (by simp)) (by simp))⟩)
      (first
        | (go_at_call 37; refine (toGuard_d _ a1_0 xs1_0 (HI1_0.out.grow (gby_drew G74_.out)) hl1_0).mono ?_; rintro e wT1 ⟨t41_0, rfl, oT, gT⟩; obtain ⟨t41_0p, t41_0n, t41_0c, hv_⟩ := RdL.form ((OwU.rd oT)); subst hv_; try unfold vGuard)
        | (go_at_call 39; refine (eqGuard_d _ (.slice x11_0p x11_0n x11_0c) (.slice t41_0p t41_0n t41_0c) xs1_0 (RdL.grow (RdL.grow (OwU.rd ox171_.out) (gby_drew (gby_refl _ _))) gT) (OwU.rd oT) hl1_0).mono ?_; rintro e wE1 ⟨rfl, gE⟩))
    all_goals
      have g : (w9).grownBy wE1 none := gby_trans (gby_trans (gby_drew (gby_refl _ _)) gT) gE
      clear gT gE oT
      clear A1_0_ Bx1_0_
      have zs12 := World.grownBy.size g
      try simp only [World.size_alloc] at zs12
      have rA175_ := Lib.hid (show (wE1).heap[W.heap.size]? = some (.cells #[a1_0] 43 (0, 0)) from row_held g rA165_.out)
      clear rA165_
      have rBw076_ := Lib.hid (show (wE1).heap[bw3]? = some (.cells #[(.slice wr0_0p wr0_0n wr0_0c)] 46 (0, 0)) from row_held g rBw066_.out)
      clear rBw066_
      have rBx177_ := Lib.hid (show (wE1).heap[w5.heap.size]? = some (.cells #[(.slice x11_0p x11_0n x11_0c)] 46 (0, 0)) from row_held g rBx167_.out)
      clear rBx167_
      have rBg078_ := Lib.hid (show (wE1).heap[w6.heap.size]? = some (.cells #[(.slice gr0_0p gr0_0n gr0_0c)] 46 (0, 0)) from row_held g rBg068_.out)
      clear rBg068_
      have ow79_ := Lib.hid (show OwU (wE1) (lo3) (hi3) [] [own shB (.slice wr0_0p wr0_0n wr0_0c) xsr0_0] from OwU.grow ow69_.out g)
      clear ow69_
      have ox080_ := Lib.hid (show OwU (wE1) (wN3.heap.size) (w4.heap.size) [] [own shNode (.slice x00p x00n x00c) xs0] from OwU.grow ox070_.out g)
      clear ox070_
      have ox181_ := Lib.hid (show OwU (wE1) (w4.heap.size) (w5.heap.size) [] [own shB (.slice x11_0p x11_0n x11_0c) xs1_0] from OwU.grow ox171_.out g)
      clear ox171_
      have og82_ := Lib.hid (show OwU (wE1) (w5.heap.size + 1) (w6.heap.size) [] [own shB (.slice gr0_0p gr0_0n gr0_0c) xsr0_0] from OwU.grow og72_.out g)
      clear og72_
      have G83_ := Lib.hid (show (W).grownBy (wE1) none from gby_trans G74_.out g)
      clear g
      obtain ⟨lo_, hi_, l_, u_, _, oo, ff⟩ := OwU.focus (pre := []) (p := own shNode (.slice x00p x00n x00c) xs0) (post := []) ox080_.out
      have FF := Lib.hid ff
      clear ff
      go_wp2_with fail
      go_at_call 23
      refine (markNodeS_d _ lo_ hi_ (1) (.slice x00p x00n x00c) xs0 oo hl0 (by omega)).mono ?_
      rintro e w10 ⟨rfl, o, c⟩
      have o_ := c
      have c' := chg_wide c (lo' := wN3.heap.size) (hi' := w4.heap.size) l_ u_
      clear c
      have c := c'
      clear c'
      have szw10 := c.size
      try simp only [World.size_alloc] at szw10
      have rA184_ := Lib.hid (show (w10).heap[W.heap.size]? = some (.cells #[a1_0] 43 (0, 0)) from Chg.keep c rA175_.out (by omega))
      clear rA175_
      have rBw085_ := Lib.hid (show (w10).heap[bw3]? = some (.cells #[(.slice wr0_0p wr0_0n wr0_0c)] 46 (0, 0)) from Chg.keep c rBw076_.out (by first | omega | (have := HX3_.out; omega)))
      clear rBw076_
      have rBx186_ := Lib.hid (show (w10).heap[w5.heap.size]? = some (.cells #[(.slice x11_0p x11_0n x11_0c)] 46 (0, 0)) from Chg.keep c rBx177_.out (by omega))
      clear rBx177_
      have rBg087_ := Lib.hid (show (w10).heap[w6.heap.size]? = some (.cells #[(.slice gr0_0p gr0_0n gr0_0c)] 46 (0, 0)) from Chg.keep c rBg078_.out (by omega))
      clear rBg078_
      have ow88_ := Lib.hid (show OwU (w10) (lo3) (hi3) [] [own shB (.slice wr0_0p wr0_0n wr0_0c) xsr0_0] from OwU.keep c (by omega) ow79_.out)
      clear ow79_
      have ox189_ := Lib.hid (show OwU (w10) (w4.heap.size) (w5.heap.size) [] [own shB (.slice x11_0p x11_0n x11_0c) xs1_0] from OwU.keep c (by omega) ox181_.out)
      clear ox181_
      have og90_ := Lib.hid (show OwU (w10) (w5.heap.size + 1) (w6.heap.size) [] [own shB (.slice gr0_0p gr0_0n gr0_0c) xsr0_0] from OwU.keep c (by omega) og82_.out)
      clear og82_
      have G91_ := Lib.hid (show (W).grownBy (w10) none from gby_chg G83_.out c (by omega))
      have ox092_ := Lib.hid (show OwU (w10) (wN3.heap.size) (w4.heap.size) [] [own shNode (.slice x00p x00n x00c) (emL shNode (1) xs0)] from FF.out _ (own shNode (.slice x00p x00n x00c) (emL shNode (1) xs0)) o_ o)
      clear ox080_ o c oo FF o_
      have Bx1_0_ : (w10).cell? ⟨w5.heap.size, 0, none⟩ = some ((.slice x11_0p x11_0n x11_0c)) := cell_of_row _ _ 0 _ _ _ rBx186_.out
      go_wp2_with fail
      go_at_call 42
      refine (markGuard_d _ (w4.heap.size) (w5.heap.size) (1 + ecL shNode xs0) (.slice x11_0p x11_0n x11_0c) xs1_0 [] [] ox189_.out (by first | omega | (simp only [World.size_alloc]; omega)) hl1_0 (by omega)).mono ?_
      rintro e w11 ⟨rfl, o, c⟩
      clear Bx1_0_
      have szw11 := c.size
      try simp only [World.size_alloc] at szw11
      have rA193_ := Lib.hid (show (w11).heap[W.heap.size]? = some (.cells #[a1_0] 43 (0, 0)) from Chg.keep c rA184_.out (by omega))
      clear rA184_
      have rBw094_ := Lib.hid (show (w11).heap[bw3]? = some (.cells #[(.slice wr0_0p wr0_0n wr0_0c)] 46 (0, 0)) from Chg.keep c rBw085_.out (by first | omega | (have := HX3_.out; omega)))
      clear rBw085_
      have rBx195_ := Lib.hid (show (w11).heap[w5.heap.size]? = some (.cells #[(.slice x11_0p x11_0n x11_0c)] 46 (0, 0)) from Chg.keep c rBx186_.out (by omega))
      clear rBx186_
      have rBg096_ := Lib.hid (show (w11).heap[w6.heap.size]? = some (.cells #[(.slice gr0_0p gr0_0n gr0_0c)] 46 (0, 0)) from Chg.keep c rBg087_.out (by omega))
      clear rBg087_
      have ow97_ := Lib.hid (show OwU (w11) (lo3) (hi3) [] [own shB (.slice wr0_0p wr0_0n wr0_0c) xsr0_0] from OwU.keep c (by omega) ow88_.out)
      clear ow88_
      have ox098_ := Lib.hid (show OwU (w11) (wN3.heap.size) (w4.heap.size) [] [own shNode (.slice x00p x00n x00c) (emL shNode (1) xs0)] from OwU.keep c (by omega) ox092_.out)
      clear ox092_
      have og99_ := Lib.hid (show OwU (w11) (w5.heap.size + 1) (w6.heap.size) [] [own shB (.slice gr0_0p gr0_0n gr0_0c) xsr0_0] from OwU.keep c (by omega) og90_.out)
      clear og90_
      have G100_ := Lib.hid (show (W).grownBy (w11) none from gby_chg G91_.out c (by omega))
      have ox1101_ := Lib.hid (show OwU (w11) (w4.heap.size) (w5.heap.size) [] [own shB (.slice x11_0p x11_0n x11_0c) (emL shB (1 + ecL shNode xs0) xs1_0)] from o)
      clear ox189_ o c
      have Bg0_0_ : (w11).cell? ⟨w6.heap.size, 0, none⟩ = some ((.slice gr0_0p gr0_0n gr0_0c)) := cell_of_row _ _ 0 _ _ _ rBg096_.out
      have Bw0_0_ : (w11).cell? ⟨bw3, 0, none⟩ = some ((.slice wr0_0p wr0_0n wr0_0c)) := cell_of_row _ _ 0 _ _ _ rBw094_.out
      go_wp2_with fail
      go_at_call 39
      refine (eqGuard_d _ (.slice gr0_0p gr0_0n gr0_0c) (.slice wr0_0p wr0_0n wr0_0c) xsr0_0 (OwU.rd og99_.out) (OwU.rd ow97_.out) hLr0_0).mono ?_
      rintro e w12 ⟨rfl, g⟩
      have zs13 := World.grownBy.size g
      try simp only [World.size_alloc] at zs13
      clear Bg0_0_ Bw0_0_
      have rA1102_ := Lib.hid (show (w12).heap[W.heap.size]? = some (.cells #[a1_0] 43 (0, 0)) from row_held g rA193_.out)
      clear rA193_
      have rBw0103_ := Lib.hid (show (w12).heap[bw3]? = some (.cells #[(.slice wr0_0p wr0_0n wr0_0c)] 46 (0, 0)) from row_held g rBw094_.out)
      clear rBw094_
      have rBx1104_ := Lib.hid (show (w12).heap[w5.heap.size]? = some (.cells #[(.slice x11_0p x11_0n x11_0c)] 46 (0, 0)) from row_held g rBx195_.out)
      clear rBx195_
      have rBg0105_ := Lib.hid (show (w12).heap[w6.heap.size]? = some (.cells #[(.slice gr0_0p gr0_0n gr0_0c)] 46 (0, 0)) from row_held g rBg096_.out)
      clear rBg096_
      have ow106_ := Lib.hid (show OwU (w12) (lo3) (hi3) [] [own shB (.slice wr0_0p wr0_0n wr0_0c) xsr0_0] from OwU.grow ow97_.out g)
      clear ow97_
      have ox0107_ := Lib.hid (show OwU (w12) (wN3.heap.size) (w4.heap.size) [] [own shNode (.slice x00p x00n x00c) (emL shNode (1) xs0)] from OwU.grow ox098_.out g)
      clear ox098_
      have ox1108_ := Lib.hid (show OwU (w12) (w4.heap.size) (w5.heap.size) [] [own shB (.slice x11_0p x11_0n x11_0c) (emL shB (1 + ecL shNode xs0) xs1_0)] from OwU.grow ox1101_.out g)
      clear ox1101_
      have og109_ := Lib.hid (show OwU (w12) (w5.heap.size + 1) (w6.heap.size) [] [own shB (.slice gr0_0p gr0_0n gr0_0c) xsr0_0] from OwU.grow og99_.out g)
      clear og99_
      have G110_ := Lib.hid (show (W).grownBy (w12) none from gby_trans G100_.out g)
      clear g
      have Bg0_0_ : (w12).cell? ⟨w6.heap.size, 0, none⟩ = some ((.slice gr0_0p gr0_0n gr0_0c)) := cell_of_row _ _ 0 _ _ _ rBg0105_.out
      go_wp2_with fail
      go_at_call 42
      refine (markGuard_d _ (w5.heap.size + 1) (w6.heap.size) (1) (.slice gr0_0p gr0_0n gr0_0c) xsr0_0 [] [] og109_.out (by first | omega | (simp only [World.size_alloc]; omega)) hLr0_0 (by omega)).mono ?_
      rintro e w13 ⟨rfl, o, c⟩
      clear Bg0_0_
      have szw13 := c.size
      try simp only [World.size_alloc] at szw13
      have rA1111_ := Lib.hid (show (w13).heap[W.heap.size]? = some (.cells #[a1_0] 43 (0, 0)) from Chg.keep c rA1102_.out (by omega))
      clear rA1102_
      have rBw0112_ := Lib.hid (show (w13).heap[bw3]? = some (.cells #[(.slice wr0_0p wr0_0n wr0_0c)] 46 (0, 0)) from Chg.keep c rBw0103_.out (by first | omega | (have := HX3_.out; omega)))
      clear rBw0103_
      have rBx1113_ := Lib.hid (show (w13).heap[w5.heap.size]? = some (.cells #[(.slice x11_0p x11_0n x11_0c)] 46 (0, 0)) from Chg.keep c rBx1104_.out (by omega))
      clear rBx1104_
      have rBg0114_ := Lib.hid (show (w13).heap[w6.heap.size]? = some (.cells #[(.slice gr0_0p gr0_0n gr0_0c)] 46 (0, 0)) from Chg.keep c rBg0105_.out (by omega))
      clear rBg0105_
      have ow115_ := Lib.hid (show OwU (w13) (lo3) (hi3) [] [own shB (.slice wr0_0p wr0_0n wr0_0c) xsr0_0] from OwU.keep c (by omega) ow106_.out)
      clear ow106_
      have ox0116_ := Lib.hid (show OwU (w13) (wN3.heap.size) (w4.heap.size) [] [own shNode (.slice x00p x00n x00c) (emL shNode (1) xs0)] from OwU.keep c (by omega) ox0107_.out)
      clear ox0107_
      have ox1117_ := Lib.hid (show OwU (w13) (w4.heap.size) (w5.heap.size) [] [own shB (.slice x11_0p x11_0n x11_0c) (emL shB (1 + ecL shNode xs0) xs1_0)] from OwU.keep c (by omega) ox1108_.out)
      clear ox1108_
      have G118_ := Lib.hid (show (W).grownBy (w13) none from gby_chg G110_.out c (by omega))
      have og119_ := Lib.hid (show OwU (w13) (w5.heap.size + 1) (w6.heap.size) [] [own shB (.slice gr0_0p gr0_0n gr0_0c) (emL shB (1) xsr0_0)] from o)
      clear og109_ o c
      have Bg0_0_ : (w13).cell? ⟨w6.heap.size, 0, none⟩ = some ((.slice gr0_0p gr0_0n gr0_0c)) := cell_of_row _ _ 0 _ _ _ rBg0114_.out
      go_wp2_with fail
      go_at_call 43
      refine (heldGuard_d _ (1) (.slice gr0_0p gr0_0n gr0_0c) xsr0_0 (OwU.rd og119_.out) hLr0_0 (by omega)).mono ?_
      rintro e w14 ⟨rfl, g⟩
      have zs14 := World.grownBy.size g
      try simp only [World.size_alloc] at zs14
      clear Bg0_0_
      have rA1120_ := Lib.hid (show (w14).heap[W.heap.size]? = some (.cells #[a1_0] 43 (0, 0)) from row_held g rA1111_.out)
      clear rA1111_
      have rBw0121_ := Lib.hid (show (w14).heap[bw3]? = some (.cells #[(.slice wr0_0p wr0_0n wr0_0c)] 46 (0, 0)) from row_held g rBw0112_.out)
      clear rBw0112_
      have rBx1122_ := Lib.hid (show (w14).heap[w5.heap.size]? = some (.cells #[(.slice x11_0p x11_0n x11_0c)] 46 (0, 0)) from row_held g rBx1113_.out)
      clear rBx1113_
      have rBg0123_ := Lib.hid (show (w14).heap[w6.heap.size]? = some (.cells #[(.slice gr0_0p gr0_0n gr0_0c)] 46 (0, 0)) from row_held g rBg0114_.out)
      clear rBg0114_
      have ow124_ := Lib.hid (show OwU (w14) (lo3) (hi3) [] [own shB (.slice wr0_0p wr0_0n wr0_0c) xsr0_0] from OwU.grow ow115_.out g)
      clear ow115_
      have ox0125_ := Lib.hid (show OwU (w14) (wN3.heap.size) (w4.heap.size) [] [own shNode (.slice x00p x00n x00c) (emL shNode (1) xs0)] from OwU.grow ox0116_.out g)
      clear ox0116_
      have ox1126_ := Lib.hid (show OwU (w14) (w4.heap.size) (w5.heap.size) [] [own shB (.slice x11_0p x11_0n x11_0c) (emL shB (1 + ecL shNode xs0) xs1_0)] from OwU.grow ox1117_.out g)
      clear ox1117_
      have og127_ := Lib.hid (show OwU (w14) (w5.heap.size + 1) (w6.heap.size) [] [own shB (.slice gr0_0p gr0_0n gr0_0c) (emL shB (1) xsr0_0)] from OwU.grow og119_.out g)
      clear og119_
      have G128_ := Lib.hid (show (W).grownBy (w14) none from gby_trans G118_.out g)
      clear g
      have ng14 : ¬ (((1 + ecL shB xsr0_0 : Nat) : Int) < 0) := by omega
      have A1_0_ : (w14).cell? ⟨W.heap.size, 0, none⟩ = some (a1_0) := cell_of_row _ _ 0 _ _ _ rA1120_.out
      go_wp2_with fail
      go_region_held3 (fun w' => w'.cell? ⟨W.heap.size, 0, none⟩ = some (a1_0))
        (first
          | exact A1_0_
          | exact (World.grownBy.cell (gby_drew (gby_refl _ none)) A1_0_ (by simp))
          | exact (World.grownBy.cell (gby_trans (gby_drew (gby_refl _ none)) gA0) A1_0_ (by simp))
          | exact (World.grownBy.cell (gby_trans (gby_trans (gby_drew (gby_refl _ none)) gA0) gA1) A1_0_ (by simp))
          | exact (World.grownBy.cell (gby_trans (gby_trans (gby_trans (gby_drew (gby_refl _ none)) gA0) gA1) gS) A1_0_ (by simp))
          | exact (World.grownBy.cell (gby_setnew (gby_trans (gby_trans (gby_trans (gby_drew (gby_refl _ none)) gA0) gA1) gS) _ (by dsimp only; (try simp only [World.size_alloc, World.size_drew] at *); omega) _) A1_0_ (by simp))
          | exact (World.grownBy.cell (gby_drew (gby_alloc (gby_refl _ none) _)) A1_0_ (by simp))
          | exact (World.grownBy.cell (gby_trans (gby_drew (gby_alloc (gby_refl _ none) _)) gA0) A1_0_ (by simp))
          | exact (World.grownBy.cell (gby_trans (gby_trans (gby_drew (gby_alloc (gby_refl _ none) _)) gA0) gA1) A1_0_ (by simp))
          | exact (World.grownBy.cell (gby_trans (gby_trans (gby_trans (gby_drew (gby_alloc (gby_refl _ none) _)) gA0) gA1) gS) A1_0_ (by simp))
          | exact (World.grownBy.cell (gby_setnew (gby_trans (gby_trans (gby_trans (gby_drew (gby_alloc (gby_refl _ none) _)) gA0) gA1) gS) _ (by dsimp only; (try simp only [World.size_alloc, World.size_drew] at *); omega) _) A1_0_ (by simp))
          | exact (World.grownBy.cell (gby_alloc (gby_trans (gby_drew (gby_refl _ none)) gA0) _) A1_0_ (by simp))
          | exact (World.grownBy.cell (gby_trans (gby_alloc (gby_trans (gby_drew (gby_refl _ none)) gA0) _) gA1) A1_0_ (by simp))
          | exact (World.grownBy.cell (gby_trans (gby_trans (gby_alloc (gby_trans (gby_drew (gby_refl _ none)) gA0) _) gA1) gS) A1_0_ (by simp))
          | exact (World.grownBy.cell (gby_setnew (gby_trans (gby_trans (gby_alloc (gby_trans (gby_drew (gby_refl _ none)) gA0) _) gA1) gS) _ (by dsimp only; (try simp only [World.size_alloc, World.size_drew] at *); omega) _) A1_0_ (by simp))
          | exact (World.grownBy.cell (gby_alloc (gby_trans (gby_trans (gby_drew (gby_refl _ none)) gA0) gA1) _) A1_0_ (by simp))
          | exact (World.grownBy.cell (gby_trans (gby_alloc (gby_trans (gby_trans (gby_drew (gby_refl _ none)) gA0) gA1) _) gS) A1_0_ (by simp))
          | exact (World.grownBy.cell (gby_setnew (gby_trans (gby_alloc (gby_trans (gby_trans (gby_drew (gby_refl _ none)) gA0) gA1) _) gS) _ (by dsimp only; (try simp only [World.size_alloc, World.size_drew] at *); omega) _) A1_0_ (by simp))
          | exact (World.grownBy.cell (gby_alloc (gby_trans (gby_trans (gby_trans (gby_drew (gby_refl _ none)) gA0) gA1) gS) _) A1_0_ (by simp))
          | fail)
        (first
          | (go_at_call_of 17 a0; refine (toNodeS_d _ a0 xs0 (HI0.out.grow (gby_drew G128_.out)) hl0).mono ?_; rintro e wA0q2 ⟨t50, rfl, oR0, gA0⟩; have sA0 := gA0.size; (try simp only [World.size_alloc] at sA0); obtain ⟨t50p, t50n, t50c, hv_⟩ := RdL.form (OwL.rd oR0); subst hv_)
          | (go_at_call_of 17 a0; refine (toNodeS_d _ a0 xs0 (HI0.out.grow (gby_drew (gby_alloc G128_.out _))) hl0).mono ?_; rintro e wA0q2 ⟨t50, rfl, oR0, gA0⟩; have sA0 := gA0.size; (try simp only [World.size_alloc] at sA0); obtain ⟨t50p, t50n, t50c, hv_⟩ := RdL.form (OwL.rd oR0); subst hv_)
          | (go_at_call_of 37 (Value.agg #[a1_0]); refine (toGuard_d _ a1_0 xs1_0 (HI1_0.out.grow (gby_trans (gby_drew G128_.out) gA0)) hl1_0).mono ?_; rintro e wA1q2 ⟨t61_0, rfl, oR1, gA1⟩; have sA1 := gA1.size; (try simp only [World.size_alloc] at sA1); obtain ⟨t61_0p, t61_0n, t61_0c, hv_⟩ := RdL.form (OwU.rd oR1); subst hv_; try unfold vGuard)
          | (go_at_call_of 37 (Value.agg #[a1_0]); refine (toGuard_d _ a1_0 xs1_0 (HI1_0.out.grow (gby_trans (gby_drew (gby_alloc G128_.out _)) gA0)) hl1_0).mono ?_; rintro e wA1q2 ⟨t61_0, rfl, oR1, gA1⟩; have sA1 := gA1.size; (try simp only [World.size_alloc] at sA1); obtain ⟨t61_0p, t61_0n, t61_0c, hv_⟩ := RdL.form (OwU.rd oR1); subst hv_; try unfold vGuard)
          | (go_at_call_of 37 (Value.agg #[a1_0]); refine (toGuard_d _ a1_0 xs1_0 (HI1_0.out.grow (gby_alloc (gby_trans (gby_drew G128_.out) gA0) _)) hl1_0).mono ?_; rintro e wA1q2 ⟨t61_0, rfl, oR1, gA1⟩; have sA1 := gA1.size; (try simp only [World.size_alloc] at sA1); obtain ⟨t61_0p, t61_0n, t61_0c, hv_⟩ := RdL.form (OwU.rd oR1); subst hv_; try unfold vGuard)
          | (go_at_call 45; refine (HM.out _ (.slice t50p t50n t50c) (.slice t61_0p t61_0n t61_0c) (RdL.grow (OwL.rd oR0) (gby_trans (gby_refl _ none) gA1)) (RdL.grow (OwU.rd oR1) (gby_refl _ none))).mono ?_; rintro e wSq2 ⟨hr0_0, rfl, o, gS⟩; have sS := gS.size; (try simp only [World.size_alloc] at sS); obtain ⟨hr0_0p, hr0_0n, hr0_0c, hv_⟩ := RdL.form (OwU.rd o); subst hv_; have rrn_ := heap_alloc_new wSq2 (.cells #[.slice none 0 0] 46); have cn_0_ := cell_of_row _ _ 0 _ _ _ rrn_; have fn_0_ := frozen_of_row _ _ 0 _ _ rrn_; (try (have rr0_ := (row_held gS (row_held gA1 (row_held gA0 (heap_alloc_new _ _)))); have c0_0_ := cell_of_row _ _ 0 _ _ _ rr0_; have f0_0_ := frozen_of_row _ _ 0 _ _ rr0_)); (try (have rr1_ := (row_held gS (row_held gA1 (heap_alloc_new _ _))); have c1_0_ := cell_of_row _ _ 0 _ _ _ rr1_; have f1_0_ := frozen_of_row _ _ 0 _ _ rr1_)); (try (have rr2_ := (row_held gS (heap_alloc_new _ _)); have c2_0_ := cell_of_row _ _ 0 _ _ _ rr2_; have f2_0_ := frozen_of_row _ _ 0 _ _ rr2_)))
          | (go_at_call 45; refine (HM.out _ (.slice t50p t50n t50c) (.slice t61_0p t61_0n t61_0c) (RdL.grow (OwL.rd oR0) (gby_trans (gby_alloc (gby_refl _ none) _) gA1)) (RdL.grow (OwU.rd oR1) (gby_refl _ none))).mono ?_; rintro e wSq2 ⟨hr0_0, rfl, o, gS⟩; have sS := gS.size; (try simp only [World.size_alloc] at sS); obtain ⟨hr0_0p, hr0_0n, hr0_0c, hv_⟩ := RdL.form (OwU.rd o); subst hv_; have rrn_ := heap_alloc_new wSq2 (.cells #[.slice none 0 0] 46); have cn_0_ := cell_of_row _ _ 0 _ _ _ rrn_; have fn_0_ := frozen_of_row _ _ 0 _ _ rrn_; (try (have rr0_ := (row_held gS (row_held gA1 (row_held gA0 (heap_alloc_new _ _)))); have c0_0_ := cell_of_row _ _ 0 _ _ _ rr0_; have f0_0_ := frozen_of_row _ _ 0 _ _ rr0_)); (try (have rr1_ := (row_held gS (row_held gA1 (heap_alloc_new _ _))); have c1_0_ := cell_of_row _ _ 0 _ _ _ rr1_; have f1_0_ := frozen_of_row _ _ 0 _ _ rr1_)); (try (have rr2_ := (row_held gS (heap_alloc_new _ _)); have c2_0_ := cell_of_row _ _ 0 _ _ _ rr2_; have f2_0_ := frozen_of_row _ _ 0 _ _ rr2_)))
          | (go_at_call 45; refine (HM.out _ (.slice t50p t50n t50c) (.slice t61_0p t61_0n t61_0c) (RdL.grow (OwL.rd oR0) (gby_alloc (gby_trans (gby_refl _ none) gA1) _)) (RdL.grow (OwU.rd oR1) (gby_alloc (gby_refl _ none) _))).mono ?_; rintro e wSq2 ⟨hr0_0, rfl, o, gS⟩; have sS := gS.size; (try simp only [World.size_alloc] at sS); obtain ⟨hr0_0p, hr0_0n, hr0_0c, hv_⟩ := RdL.form (OwU.rd o); subst hv_; have rrn_ := heap_alloc_new wSq2 (.cells #[.slice none 0 0] 46); have cn_0_ := cell_of_row _ _ 0 _ _ _ rrn_; have fn_0_ := frozen_of_row _ _ 0 _ _ rrn_; (try (have rr0_ := (row_held gS (row_held gA1 (row_held gA0 (heap_alloc_new _ _)))); have c0_0_ := cell_of_row _ _ 0 _ _ _ rr0_; have f0_0_ := frozen_of_row _ _ 0 _ _ rr0_)); (try (have rr1_ := (row_held gS (row_held gA1 (heap_alloc_new _ _))); have c1_0_ := cell_of_row _ _ 0 _ _ _ rr1_; have f1_0_ := frozen_of_row _ _ 0 _ _ rr1_)); (try (have rr2_ := (row_held gS (heap_alloc_new _ _)); have c2_0_ := cell_of_row _ _ 0 _ _ _ rr2_; have f2_0_ := frozen_of_row _ _ 0 _ _ rr2_)))
          | fail)
      clear A1_0_
      all_goals
        have hz0_ := gA0.size
        try simp only [World.size_alloc] at hz0_
        try simp only [World.size_drew] at hz0_
        try simp only [World.size_alloc] at hz0_
        have hz1_ := gA1.size
        try simp only [World.size_alloc] at hz1_
        try simp only [World.size_drew] at hz1_
        try simp only [World.size_alloc] at hz1_
        have hz2_ := gS.size
        try simp only [World.size_alloc] at hz2_
        try simp only [World.size_drew] at hz2_
        try simp only [World.size_alloc] at hz2_
        try simp only [World.size_alloc] at o
        first
          | (have RB_ := Lib.hid (show ((wSq2.alloc (.cells #[(.slice hr0_0p hr0_0n hr0_0c)] 46))).heap[wSq2.heap.size]? = some (.cells #[(.slice hr0_0p hr0_0n hr0_0c)] 46 (0, 0)) from heap_alloc_new _ _); have GB_ := Lib.hid (show (w14).grownBy ((wSq2.alloc (.cells #[(.slice hr0_0p hr0_0n hr0_0c)] 46))) none from (gby_alloc (gby_trans (gby_trans (gby_trans (gby_drew (gby_refl _ none)) gA0) gA1) gS) _)); have OB_ := Lib.hid (show OwU ((wSq2.alloc (.cells #[(.slice hr0_0p hr0_0n hr0_0c)] 46))) (wA1q2.heap.size) (wSq2.heap.size) [] [own shB (.slice hr0_0p hr0_0n hr0_0c) xsr0_0] from OwU.grow o (gby_alloc (gby_refl _ none) _)); have ib0 : (w14).heap.size ≤ wSq2.heap.size := (by omega); have ib1 : (w14).heap.size ≤ wA1q2.heap.size := (by omega); have ib2 : Hid (wSq2.heap.size < wA1q2.heap.size ∨ wSq2.heap.size ≤ wSq2.heap.size) := Lib.hid (by omega); have ib3 : wSq2.heap.size ≤ ((wSq2.alloc (.cells #[(.slice hr0_0p hr0_0n hr0_0c)] 46))).heap.size := (by simp); have ib4 : wA1q2.heap.size ≤ wSq2.heap.size := (by omega); have ib5 : wSq2.heap.size < ((wSq2.alloc (.cells #[(.slice hr0_0p hr0_0n hr0_0c)] 46))).heap.size := (by first | omega | (simp; done) | (simp; omega)); obtain ⟨wN15, hwN_⟩ : ∃ w_, w_ = (wSq2.alloc (.cells #[(.slice hr0_0p hr0_0n hr0_0c)] 46)) := ⟨_, rfl⟩; rw [← hwN_] at RB_ GB_ OB_ ib3 ib5 ⊢; clear hwN_; obtain ⟨lo15, hlo_⟩ : ∃ l_, l_ = wA1q2.heap.size := ⟨_, rfl⟩; rw [← hlo_] at OB_ ib1 ib2 ib4; clear hlo_; obtain ⟨hi15, hhi_⟩ : ∃ l_, l_ = wSq2.heap.size := ⟨_, rfl⟩; obtain ⟨bw15, hbw_⟩ : ∃ b_, b_ = wSq2.heap.size := ⟨_, rfl⟩; rw [← hbw_] at RB_ ib0 ib5 ⊢; rw [← hhi_] at OB_ ib3 ib4; have ib2 : Hid (bw15 < lo15 ∨ hi15 ≤ bw15) := Lib.hid (.inr (by omega)); clear hbw_ hhi_)
          | (have RB_ := Lib.hid (show ((wSq2.setCell ⟨wA1q2.heap.size, 0, none⟩ ((.slice hr0_0p hr0_0n hr0_0c)))).heap[wA1q2.heap.size]? = some (.cells #[(.slice hr0_0p hr0_0n hr0_0c)] 46 (0, 0)) from (heap_setCell_same _ _ 0 _ _ _ rr2_)); have GB_ := Lib.hid (show (w14).grownBy ((wSq2.setCell ⟨wA1q2.heap.size, 0, none⟩ ((.slice hr0_0p hr0_0n hr0_0c)))) none from (gby_setnew (gby_trans (gby_alloc (gby_trans (gby_trans (gby_drew (gby_refl _ none)) gA0) gA1) _) gS) _ (by dsimp only; omega) _)); have OB_ := Lib.hid (show OwU ((wSq2.setCell ⟨wA1q2.heap.size, 0, none⟩ ((.slice hr0_0p hr0_0n hr0_0c)))) (wA1q2.heap.size + 1) (wSq2.heap.size) [] [own shB (.slice hr0_0p hr0_0n hr0_0c) xsr0_0] from (OwU.keep (chg_one _ _ _ _) (.inr (by omega)) o)); have ib0 : (w14).heap.size ≤ wA1q2.heap.size := (by omega); have ib1 : (w14).heap.size ≤ wA1q2.heap.size + 1 := (by omega); have ib2 : Hid (wA1q2.heap.size < wA1q2.heap.size + 1 ∨ wSq2.heap.size ≤ wA1q2.heap.size) := Lib.hid (by omega); have ib3 : wSq2.heap.size ≤ ((wSq2.setCell ⟨wA1q2.heap.size, 0, none⟩ ((.slice hr0_0p hr0_0n hr0_0c)))).heap.size := (by simp); have ib4 : wA1q2.heap.size + 1 ≤ wSq2.heap.size := (by omega); have ib5 : wA1q2.heap.size < ((wSq2.setCell ⟨wA1q2.heap.size, 0, none⟩ ((.slice hr0_0p hr0_0n hr0_0c)))).heap.size := (by first | omega | (simp; done) | (simp; omega)); obtain ⟨wN15, hwN_⟩ : ∃ w_, w_ = (wSq2.setCell ⟨wA1q2.heap.size, 0, none⟩ ((.slice hr0_0p hr0_0n hr0_0c))) := ⟨_, rfl⟩; rw [← hwN_] at RB_ GB_ OB_ ib3 ib5 ⊢; clear hwN_; obtain ⟨lo15, hlo_⟩ : ∃ l_, l_ = wA1q2.heap.size + 1 := ⟨_, rfl⟩; rw [← hlo_] at OB_ ib1 ib2 ib4; clear hlo_; obtain ⟨hi15, hhi_⟩ : ∃ l_, l_ = wSq2.heap.size := ⟨_, rfl⟩; obtain ⟨bw15, hbw_⟩ : ∃ b_, b_ = wA1q2.heap.size := ⟨_, rfl⟩; rw [← hbw_] at RB_ ib0 ib2 ib5 ⊢; rw [← hhi_] at OB_ ib2 ib3 ib4; clear hbw_ hhi_)
          | (have RB_ := Lib.hid (show ((wSq2.setCell ⟨wA0q2.heap.size, 0, none⟩ ((.slice hr0_0p hr0_0n hr0_0c)))).heap[wA0q2.heap.size]? = some (.cells #[(.slice hr0_0p hr0_0n hr0_0c)] 46 (0, 0)) from (heap_setCell_same _ _ 0 _ _ _ rr1_)); have GB_ := Lib.hid (show (w14).grownBy ((wSq2.setCell ⟨wA0q2.heap.size, 0, none⟩ ((.slice hr0_0p hr0_0n hr0_0c)))) none from (gby_setnew (gby_trans (gby_trans (gby_alloc (gby_trans (gby_drew (gby_refl _ none)) gA0) _) gA1) gS) _ (by dsimp only; omega) _)); have OB_ := Lib.hid (show OwU ((wSq2.setCell ⟨wA0q2.heap.size, 0, none⟩ ((.slice hr0_0p hr0_0n hr0_0c)))) (wA1q2.heap.size) (wSq2.heap.size) [] [own shB (.slice hr0_0p hr0_0n hr0_0c) xsr0_0] from (OwU.keep (chg_one _ _ _ _) (.inr (by omega)) o)); have ib0 : (w14).heap.size ≤ wA0q2.heap.size := (by omega); have ib1 : (w14).heap.size ≤ wA1q2.heap.size := (by omega); have ib2 : Hid (wA0q2.heap.size < wA1q2.heap.size ∨ wSq2.heap.size ≤ wA0q2.heap.size) := Lib.hid (by omega); have ib3 : wSq2.heap.size ≤ ((wSq2.setCell ⟨wA0q2.heap.size, 0, none⟩ ((.slice hr0_0p hr0_0n hr0_0c)))).heap.size := (by simp); have ib4 : wA1q2.heap.size ≤ wSq2.heap.size := (by omega); have ib5 : wA0q2.heap.size < ((wSq2.setCell ⟨wA0q2.heap.size, 0, none⟩ ((.slice hr0_0p hr0_0n hr0_0c)))).heap.size := (by first | omega | (simp; done) | (simp; omega)); obtain ⟨wN15, hwN_⟩ : ∃ w_, w_ = (wSq2.setCell ⟨wA0q2.heap.size, 0, none⟩ ((.slice hr0_0p hr0_0n hr0_0c))) := ⟨_, rfl⟩; rw [← hwN_] at RB_ GB_ OB_ ib3 ib5 ⊢; clear hwN_; obtain ⟨lo15, hlo_⟩ : ∃ l_, l_ = wA1q2.heap.size := ⟨_, rfl⟩; rw [← hlo_] at OB_ ib1 ib2 ib4; clear hlo_; obtain ⟨hi15, hhi_⟩ : ∃ l_, l_ = wSq2.heap.size := ⟨_, rfl⟩; obtain ⟨bw15, hbw_⟩ : ∃ b_, b_ = wA0q2.heap.size := ⟨_, rfl⟩; rw [← hbw_] at RB_ ib0 ib2 ib5 ⊢; rw [← hhi_] at OB_ ib2 ib3 ib4; clear hbw_ hhi_)
          | (have RB_ := Lib.hid (show ((wSq2.setCell ⟨(w14).heap.size, 0, none⟩ ((.slice hr0_0p hr0_0n hr0_0c)))).heap[(w14).heap.size]? = some (.cells #[(.slice hr0_0p hr0_0n hr0_0c)] 46 (0, 0)) from (heap_setCell_same _ _ 0 _ _ _ rr0_)); have GB_ := Lib.hid (show (w14).grownBy ((wSq2.setCell ⟨(w14).heap.size, 0, none⟩ ((.slice hr0_0p hr0_0n hr0_0c)))) none from (gby_setnew (gby_trans (gby_trans (gby_trans (gby_drew (gby_alloc (gby_refl _ none) _)) gA0) gA1) gS) _ (by dsimp only; omega) _)); have OB_ := Lib.hid (show OwU ((wSq2.setCell ⟨(w14).heap.size, 0, none⟩ ((.slice hr0_0p hr0_0n hr0_0c)))) (wA1q2.heap.size) (wSq2.heap.size) [] [own shB (.slice hr0_0p hr0_0n hr0_0c) xsr0_0] from (OwU.keep (chg_one _ _ _ _) (.inr (by omega)) o)); have ib0 : (w14).heap.size ≤ (w14).heap.size := (by omega); have ib1 : (w14).heap.size ≤ wA1q2.heap.size := (by omega); have ib2 : Hid ((w14).heap.size < wA1q2.heap.size ∨ wSq2.heap.size ≤ (w14).heap.size) := Lib.hid (by omega); have ib3 : wSq2.heap.size ≤ ((wSq2.setCell ⟨(w14).heap.size, 0, none⟩ ((.slice hr0_0p hr0_0n hr0_0c)))).heap.size := (by simp); have ib4 : wA1q2.heap.size ≤ wSq2.heap.size := (by omega); have ib5 : (w14).heap.size < ((wSq2.setCell ⟨(w14).heap.size, 0, none⟩ ((.slice hr0_0p hr0_0n hr0_0c)))).heap.size := (by first | omega | (simp; done) | (simp; omega)); obtain ⟨wN15, hwN_⟩ : ∃ w_, w_ = (wSq2.setCell ⟨(w14).heap.size, 0, none⟩ ((.slice hr0_0p hr0_0n hr0_0c))) := ⟨_, rfl⟩; rw [← hwN_] at RB_ GB_ OB_ ib3 ib5 ⊢; clear hwN_; obtain ⟨lo15, hlo_⟩ : ∃ l_, l_ = wA1q2.heap.size := ⟨_, rfl⟩; rw [← hlo_] at OB_ ib1 ib2 ib4; clear hlo_; obtain ⟨hi15, hhi_⟩ : ∃ l_, l_ = wSq2.heap.size := ⟨_, rfl⟩; obtain ⟨bw15, hbw_⟩ : ∃ b_, b_ = (w14).heap.size := ⟨_, rfl⟩; rw [← hbw_] at RB_ ib0 ib2 ib5 ⊢; rw [← hhi_] at OB_ ib2 ib3 ib4; clear hbw_ hhi_)
          | fail
        have g := GB_.out
        clear GB_ gA0 gA1 gS o sS hz0_ hz1_ hz2_ sA0 sA1 oR0 oR1
        try clear cn_0_ fn_0_ rrn_
        try clear c0_0_ f0_0_ rr0_
        try clear c1_0_ f1_0_ rr1_
        try clear c2_0_ f2_0_ rr2_
        have sz15_ := g.size
        try simp only [World.size_alloc] at sz15_
        have zs15 := World.grownBy.size g
        try simp only [World.size_alloc] at zs15
        have rA1129_ := Lib.hid (show (wN15).heap[W.heap.size]? = some (.cells #[a1_0] 43 (0, 0)) from row_held g rA1120_.out)
        clear rA1120_
        have rBw0130_ := Lib.hid (show (wN15).heap[bw3]? = some (.cells #[(.slice wr0_0p wr0_0n wr0_0c)] 46 (0, 0)) from row_held g rBw0121_.out)
        clear rBw0121_
        have rBx1131_ := Lib.hid (show (wN15).heap[w5.heap.size]? = some (.cells #[(.slice x11_0p x11_0n x11_0c)] 46 (0, 0)) from row_held g rBx1122_.out)
        clear rBx1122_
        have rBg0132_ := Lib.hid (show (wN15).heap[w6.heap.size]? = some (.cells #[(.slice gr0_0p gr0_0n gr0_0c)] 46 (0, 0)) from row_held g rBg0123_.out)
        clear rBg0123_
        have ow133_ := Lib.hid (show OwU (wN15) (lo3) (hi3) [] [own shB (.slice wr0_0p wr0_0n wr0_0c) xsr0_0] from OwU.grow ow124_.out g)
        clear ow124_
        have ox0134_ := Lib.hid (show OwU (wN15) (wN3.heap.size) (w4.heap.size) [] [own shNode (.slice x00p x00n x00c) (emL shNode (1) xs0)] from OwU.grow ox0125_.out g)
        clear ox0125_
        have ox1135_ := Lib.hid (show OwU (wN15) (w4.heap.size) (w5.heap.size) [] [own shB (.slice x11_0p x11_0n x11_0c) (emL shB (1 + ecL shNode xs0) xs1_0)] from OwU.grow ox1126_.out g)
        clear ox1126_
        have og136_ := Lib.hid (show OwU (wN15) (w5.heap.size + 1) (w6.heap.size) [] [own shB (.slice gr0_0p gr0_0n gr0_0c) (emL shB (1) xsr0_0)] from OwU.grow og127_.out g)
        clear og127_
        have G137_ := Lib.hid (show (W).grownBy (wN15) none from gby_trans G128_.out g)
        clear g
        have oh138_ := Lib.hid (show OwU (wN15) (lo15) (hi15) [] [own shB (.slice hr0_0p hr0_0n hr0_0c) xsr0_0] from OB_.out)
        clear OB_
        have rBh0139_ := Lib.hid (show (wN15).heap[bw15]? = some (.cells #[(.slice hr0_0p hr0_0n hr0_0c)] 46 (0, 0)) from RB_.out)
        clear RB_
        have HX15_ := ib2
        clear ib2
        have Bh0_0_ : (wN15).cell? ⟨bw15, 0, none⟩ = some ((.slice hr0_0p hr0_0n hr0_0c)) := cell_of_row _ _ 0 _ _ _ rBh0139_.out
        have Bw0_0_ : (wN15).cell? ⟨bw3, 0, none⟩ = some ((.slice wr0_0p wr0_0n wr0_0c)) := cell_of_row _ _ 0 _ _ _ rBw0130_.out
        go_wp2_with fail
        go_at_call 39
        refine (eqGuard_d _ (.slice hr0_0p hr0_0n hr0_0c) (.slice wr0_0p wr0_0n wr0_0c) xsr0_0 (OwU.rd oh138_.out) (OwU.rd ow133_.out) hLr0_0).mono ?_
        rintro e w16 ⟨rfl, g⟩
        have zs16 := World.grownBy.size g
        try simp only [World.size_alloc] at zs16
        clear Bh0_0_ Bw0_0_
        have rA1140_ := Lib.hid (show (w16).heap[W.heap.size]? = some (.cells #[a1_0] 43 (0, 0)) from row_held g rA1129_.out)
        clear rA1129_
        have rBw0141_ := Lib.hid (show (w16).heap[bw3]? = some (.cells #[(.slice wr0_0p wr0_0n wr0_0c)] 46 (0, 0)) from row_held g rBw0130_.out)
        clear rBw0130_
        have rBx1142_ := Lib.hid (show (w16).heap[w5.heap.size]? = some (.cells #[(.slice x11_0p x11_0n x11_0c)] 46 (0, 0)) from row_held g rBx1131_.out)
        clear rBx1131_
        have rBg0143_ := Lib.hid (show (w16).heap[w6.heap.size]? = some (.cells #[(.slice gr0_0p gr0_0n gr0_0c)] 46 (0, 0)) from row_held g rBg0132_.out)
        clear rBg0132_
        have rBh0144_ := Lib.hid (show (w16).heap[bw15]? = some (.cells #[(.slice hr0_0p hr0_0n hr0_0c)] 46 (0, 0)) from row_held g rBh0139_.out)
        clear rBh0139_
        have ow145_ := Lib.hid (show OwU (w16) (lo3) (hi3) [] [own shB (.slice wr0_0p wr0_0n wr0_0c) xsr0_0] from OwU.grow ow133_.out g)
        clear ow133_
        have ox0146_ := Lib.hid (show OwU (w16) (wN3.heap.size) (w4.heap.size) [] [own shNode (.slice x00p x00n x00c) (emL shNode (1) xs0)] from OwU.grow ox0134_.out g)
        clear ox0134_
        have ox1147_ := Lib.hid (show OwU (w16) (w4.heap.size) (w5.heap.size) [] [own shB (.slice x11_0p x11_0n x11_0c) (emL shB (1 + ecL shNode xs0) xs1_0)] from OwU.grow ox1135_.out g)
        clear ox1135_
        have og148_ := Lib.hid (show OwU (w16) (w5.heap.size + 1) (w6.heap.size) [] [own shB (.slice gr0_0p gr0_0n gr0_0c) (emL shB (1) xsr0_0)] from OwU.grow og136_.out g)
        clear og136_
        have oh149_ := Lib.hid (show OwU (w16) (lo15) (hi15) [] [own shB (.slice hr0_0p hr0_0n hr0_0c) xsr0_0] from OwU.grow oh138_.out g)
        clear oh138_
        have G150_ := Lib.hid (show (W).grownBy (w16) none from gby_trans G137_.out g)
        clear g
        have Bg0_0_ : (w16).cell? ⟨w6.heap.size, 0, none⟩ = some ((.slice gr0_0p gr0_0n gr0_0c)) := cell_of_row _ _ 0 _ _ _ rBg0143_.out
        go_wp2_with fail
        go_at_call 43
        refine (heldGuard_d _ (1) (.slice gr0_0p gr0_0n gr0_0c) xsr0_0 (OwU.rd og148_.out) hLr0_0 (by omega)).mono ?_
        rintro e w17 ⟨rfl, g⟩
        have zs17 := World.grownBy.size g
        try simp only [World.size_alloc] at zs17
        clear Bg0_0_
        have rA1151_ := Lib.hid (show (w17).heap[W.heap.size]? = some (.cells #[a1_0] 43 (0, 0)) from row_held g rA1140_.out)
        clear rA1140_
        have rBw0152_ := Lib.hid (show (w17).heap[bw3]? = some (.cells #[(.slice wr0_0p wr0_0n wr0_0c)] 46 (0, 0)) from row_held g rBw0141_.out)
        clear rBw0141_
        have rBx1153_ := Lib.hid (show (w17).heap[w5.heap.size]? = some (.cells #[(.slice x11_0p x11_0n x11_0c)] 46 (0, 0)) from row_held g rBx1142_.out)
        clear rBx1142_
        have rBg0154_ := Lib.hid (show (w17).heap[w6.heap.size]? = some (.cells #[(.slice gr0_0p gr0_0n gr0_0c)] 46 (0, 0)) from row_held g rBg0143_.out)
        clear rBg0143_
        have rBh0155_ := Lib.hid (show (w17).heap[bw15]? = some (.cells #[(.slice hr0_0p hr0_0n hr0_0c)] 46 (0, 0)) from row_held g rBh0144_.out)
        clear rBh0144_
        have ow156_ := Lib.hid (show OwU (w17) (lo3) (hi3) [] [own shB (.slice wr0_0p wr0_0n wr0_0c) xsr0_0] from OwU.grow ow145_.out g)
        clear ow145_
        have ox0157_ := Lib.hid (show OwU (w17) (wN3.heap.size) (w4.heap.size) [] [own shNode (.slice x00p x00n x00c) (emL shNode (1) xs0)] from OwU.grow ox0146_.out g)
        clear ox0146_
        have ox1158_ := Lib.hid (show OwU (w17) (w4.heap.size) (w5.heap.size) [] [own shB (.slice x11_0p x11_0n x11_0c) (emL shB (1 + ecL shNode xs0) xs1_0)] from OwU.grow ox1147_.out g)
        clear ox1147_
        have og159_ := Lib.hid (show OwU (w17) (w5.heap.size + 1) (w6.heap.size) [] [own shB (.slice gr0_0p gr0_0n gr0_0c) (emL shB (1) xsr0_0)] from OwU.grow og148_.out g)
        clear og148_
        have oh160_ := Lib.hid (show OwU (w17) (lo15) (hi15) [] [own shB (.slice hr0_0p hr0_0n hr0_0c) xsr0_0] from OwU.grow oh149_.out g)
        clear oh149_
        have G161_ := Lib.hid (show (W).grownBy (w17) none from gby_trans G150_.out g)
        clear g
        have ng17 : ¬ (((1 + ecL shB xsr0_0 : Nat) : Int) < 0) := by omega
        go_wp2
        go_ret
        exact ⟨rfl, gby_below G161_.out⟩

end Go.Proofs.Ytjkjodcgpdhldac
