/-
  The walk of FnExactCanReach: at every argument the program answers as its model and writes nothing that was there.
-/
import Derived.Test.YtodfbodagjmfmabQGuard
import Derived.Test.YtodfbodagjmfmabQSNode
import Derived.Test.YtodfbodagjmfmabRCanReach
import Derived.WalkKit
import Derived.Deep.RegionHeld3
import Derived.Below
namespace Go.Proofs.Ytodfbodagjmfmab
open Go Go.RowKit

set_option maxRecDepth 8000 in
set_option maxHeartbeats 16000000 in
theorem walk_exactCanReach_of (both : ∀ (xs0 : List DNode) (xs1_0 : List Bool) (i2 : Int) (i3 : Int), szL shNode xs0 ≤ 1048576 → szL shB xs1_0 ≤ 1048576 → ∃ (br0 : Bool), (∀ (W : World), ∀ u0 u1_0, RdL shNode W u0 xs0 → RdL shB W u1_0 xs1_0 → Calls Try.prog 46 #[u0, .agg #[u1_0], .int .i64 i2, .int .i64 i3] W (ResSCanReach br0 W)) ∧ ∀ (W : World), ∀ u0 u1_0, RdL shNode W u0 xs0 → RdL shB W u1_0 xs1_0 → Calls Try.prog 48 #[u0, .agg #[u1_0], .int .i64 i2, .int .i64 i3] W (ResICanReach br0 W))
    (W : World) (a0 : Value) (xs0 : List DNode) (a1_0 : Value) (xs1_0 : List Bool) (i2 : Int) (i3 : Int) (H0 : RdL shNode W a0 xs0) (H1_0 : RdL shB W a1_0 xs1_0) :
    Calls Try.prog 14 #[a0, .agg #[a1_0], .int .i64 i2, .int .i64 i3] W fun e w' => e = .returned (.bool true) ∧ Below W.heap.size W w' := by
  have HI0 := Lib.hid H0
  have hmx0 := H0.max
  clear H0
  have HI1_0 := Lib.hid H1_0
  have hmx1_0 := H1_0.max
  clear H1_0
  by_cases hs0 : (1048576 : Int) < (((szL shNode xs0) : Nat) : Int)
  · have hneg : (-1 : Int) < 0 := by omega
    go_enter Try.func14, Try.ntmps14
    have rA11_ := Lib.hid (show ((W.alloc (.cells #[a1_0] 52))).heap[W.heap.size]? = some (.cells #[a1_0] 52 (0, 0)) from by exact heap_alloc_new _ _)
    have G2_ := Lib.hid (show (W).grownBy ((W.alloc (.cells #[a1_0] 52))) none from (gby_alloc (gby_refl _ _) _))
    have A1_0_ : ((W.alloc (.cells #[a1_0] 52))).cell? ⟨W.heap.size, 0, none⟩ = some (a1_0) := cell_of_row _ _ 0 _ _ _ rA11_.out
    go_wp2_with fail
    go_at_call 15
    refine (szNodeS_d _ 1048576 a0 xs0 (HI0.out.grow G2_.out) (by omega) (by omega)).mono ?_
    rintro e w1 ⟨he, g⟩
    rw [show lessN 1048576 (szL shNode xs0) = -1 from if_pos hs0] at he
    subst he
    clear A1_0_
    have rA13_ := Lib.hid (show (w1).heap[W.heap.size]? = some (.cells #[a1_0] 52 (0, 0)) from row_held g rA11_.out)
    clear rA11_
    have G4_ := Lib.hid (show (W).grownBy (w1) none from gby_trans G2_.out g)
    clear g
    go_wp2
    go_ret
    exact ⟨rfl, gby_below G4_.out⟩
  obtain ⟨rr0, hr0⟩ : ∃ r, r = lessN 1048576 (szL shNode xs0) := ⟨_, rfl⟩
  have hrr0 : rr0 = (1048576 : Int) - (((szL shNode xs0) : Nat) : Int) := hr0.trans (if_neg hs0)
  have hn0 : ¬ rr0 < 0 := by omega
  have hu0 : rr0 ≤ 1048576 := by omega
  by_cases hs1 : rr0 < (((szL shB xs1_0) : Nat) : Int)
  · have hneg : (-1 : Int) < 0 := by omega
    have HR0 := Lib.hid hr0
    clear hr0 hrr0
    go_enter Try.func14, Try.ntmps14
    have rA11_ := Lib.hid (show ((W.alloc (.cells #[a1_0] 52))).heap[W.heap.size]? = some (.cells #[a1_0] 52 (0, 0)) from by exact heap_alloc_new _ _)
    have G2_ := Lib.hid (show (W).grownBy ((W.alloc (.cells #[a1_0] 52))) none from (gby_alloc (gby_refl _ _) _))
    have A1_0_ : ((W.alloc (.cells #[a1_0] 52))).cell? ⟨W.heap.size, 0, none⟩ = some (a1_0) := cell_of_row _ _ 0 _ _ _ rA11_.out
    go_wp2_with fail
    go_at_call 15
    refine (szNodeS_d _ 1048576 a0 xs0 (HI0.out.grow G2_.out) (by omega) (by omega)).mono ?_
    rintro e w1 ⟨he, g⟩
    rw [← HR0.out] at he
    subst he
    clear A1_0_
    have rA13_ := Lib.hid (show (w1).heap[W.heap.size]? = some (.cells #[a1_0] 52 (0, 0)) from row_held g rA11_.out)
    clear rA11_
    have G4_ := Lib.hid (show (W).grownBy (w1) none from gby_trans G2_.out g)
    clear g
    have A1_0_ : (w1).cell? ⟨W.heap.size, 0, none⟩ = some (a1_0) := cell_of_row _ _ 0 _ _ _ rA13_.out
    go_wp2_with fail
    go_at_call 45
    refine (szGuard_d _ rr0 a1_0 xs1_0 (HI1_0.out.grow G4_.out) (by omega) (by omega)).mono ?_
    rintro e w2 ⟨he, g⟩
    rw [show lessN rr0 (szL shB xs1_0) = -1 from if_pos hs1] at he
    subst he
    clear A1_0_
    have rA15_ := Lib.hid (show (w2).heap[W.heap.size]? = some (.cells #[a1_0] 52 (0, 0)) from row_held g rA13_.out)
    clear rA13_
    have G6_ := Lib.hid (show (W).grownBy (w2) none from gby_trans G4_.out g)
    clear g
    go_wp2
    go_ret
    exact ⟨rfl, gby_below G6_.out⟩
  obtain ⟨rr1, hr1⟩ : ∃ r, r = lessN rr0 (szL shB xs1_0) := ⟨_, rfl⟩
  have hrr1 : rr1 = rr0 - (((szL shB xs1_0) : Nat) : Int) := hr1.trans (if_neg hs1)
  have hn1 : ¬ rr1 < 0 := by omega
  have hu1 : rr1 ≤ 1048576 := by omega
  have hl0 : szL shNode xs0 ≤ 1048576 := by omega
  have hl1_0 : szL shB xs1_0 ≤ 1048576 := by omega
  have HR0 := Lib.hid hr0
  clear hs0 hr0 hrr0
  have HR1 := Lib.hid hr1
  clear hs1 hr1 hrr1
  obtain ⟨br0, hs_, hi_⟩ := both xs0 xs1_0 i2 i3 hl0 hl1_0
  have HS := Lib.hid hs_
  have HM := Lib.hid hi_
  clear hs_ hi_
  try clear both
  have hb_br0 : (br0 != br0) = false := by simp
  go_enter Try.func14, Try.ntmps14
  have rA11_ := Lib.hid (show ((W.alloc (.cells #[a1_0] 52))).heap[W.heap.size]? = some (.cells #[a1_0] 52 (0, 0)) from by exact heap_alloc_new _ _)
  have G2_ := Lib.hid (show (W).grownBy ((W.alloc (.cells #[a1_0] 52))) none from (gby_alloc (gby_refl _ _) _))
  have A1_0_ : ((W.alloc (.cells #[a1_0] 52))).cell? ⟨W.heap.size, 0, none⟩ = some (a1_0) := cell_of_row _ _ 0 _ _ _ rA11_.out
  go_wp2_with fail
  go_at_call 15
  refine (szNodeS_d _ 1048576 a0 xs0 (HI0.out.grow G2_.out) (by omega) (by omega)).mono ?_
  rintro e w1 ⟨he, g⟩
  rw [← HR0.out] at he
  subst he
  have zs1 := World.grownBy.size g
  try simp only [World.size_alloc] at zs1
  clear A1_0_
  have rA13_ := Lib.hid (show (w1).heap[W.heap.size]? = some (.cells #[a1_0] 52 (0, 0)) from row_held g rA11_.out)
  clear rA11_
  have G4_ := Lib.hid (show (W).grownBy (w1) none from gby_trans G2_.out g)
  clear g
  have A1_0_ : (w1).cell? ⟨W.heap.size, 0, none⟩ = some (a1_0) := cell_of_row _ _ 0 _ _ _ rA13_.out
  go_wp2_with fail
  go_at_call 45
  refine (szGuard_d _ rr0 a1_0 xs1_0 (HI1_0.out.grow G4_.out) (by omega) (by omega)).mono ?_
  rintro e w2 ⟨he, g⟩
  rw [← HR1.out] at he
  subst he
  have zs2 := World.grownBy.size g
  try simp only [World.size_alloc] at zs2
  clear A1_0_
  have rA15_ := Lib.hid (show (w2).heap[W.heap.size]? = some (.cells #[a1_0] 52 (0, 0)) from row_held g rA13_.out)
  clear rA13_
  have G6_ := Lib.hid (show (W).grownBy (w2) none from gby_trans G4_.out g)
  clear g
  have A1_0_ : (w2).cell? ⟨W.heap.size, 0, none⟩ = some (a1_0) := cell_of_row _ _ 0 _ _ _ rA15_.out
  go_wp2_with fail
  go_region_held3 (fun w' => w'.cell? ⟨W.heap.size, 0, none⟩ = some (a1_0))
    (first
      | exact A1_0_
      | exact (World.grownBy.cell (gby_drew (gby_refl _ none)) A1_0_ (by simp))
      | exact (World.grownBy.cell (gby_trans (gby_drew (gby_refl _ none)) gA0) A1_0_ (by simp))
      | exact (World.grownBy.cell (gby_trans (gby_trans (gby_drew (gby_refl _ none)) gA0) gA1) A1_0_ (by simp))
      | exact (World.grownBy.cell (gby_trans (gby_trans (gby_trans (gby_drew (gby_refl _ none)) gA0) gA1) gS) A1_0_ (by simp))
      | fail)
    (first
      | (go_at_call_of 17 a0; refine (toNodeS_d _ a0 xs0 (HI0.out.grow (gby_drew G6_.out)) hl0).mono ?_; rintro e wA0 ⟨t10, rfl, oR0, gA0⟩; have sA0 := gA0.size; (try simp only [World.size_alloc] at sA0); obtain ⟨t10p, t10n, t10c, hv_⟩ := RdL.form (OwL.rd oR0); subst hv_)
      | (go_at_call_of 47 (Value.agg #[a1_0]); refine (toGuard_d _ a1_0 xs1_0 (HI1_0.out.grow (gby_trans (gby_drew G6_.out) gA0)) hl1_0).mono ?_; rintro e wA1 ⟨t21_0, rfl, oR1, gA1⟩; have sA1 := gA1.size; (try simp only [World.size_alloc] at sA1); obtain ⟨t21_0p, t21_0n, t21_0c, hv_⟩ := RdL.form (OwU.rd oR1); subst hv_; try unfold vGuard)
      | (go_at_call 46; refine (HS.out _ (.slice t10p t10n t10c) (.slice t21_0p t21_0n t21_0c) (RdL.grow (OwL.rd oR0) (gby_trans (gby_refl _ none) gA1)) (RdL.grow (OwU.rd oR1) (gby_refl _ none))).mono ?_; rintro e wS ⟨rfl, gS⟩; have sS := gS.size; (try simp only [World.size_alloc] at sS); skip)
      | fail)
  clear A1_0_
  all_goals
    have g : (w2).grownBy wS none := (gby_trans (gby_trans (gby_trans (gby_drew (gby_refl _ none)) gA0) gA1) gS)
    clear gA0 gA1 gS oR0 oR1
    have sz_ := g.size
    try simp only [World.size_alloc] at sz_
    have zs3 := World.grownBy.size g
    try simp only [World.size_alloc] at zs3
    have rA17_ := Lib.hid (show (wS).heap[W.heap.size]? = some (.cells #[a1_0] 52 (0, 0)) from row_held g rA15_.out)
    clear rA15_
    have G8_ := Lib.hid (show (W).grownBy (wS) none from gby_trans G6_.out g)
    clear g
    have szwS := sz_
    clear sz_
    go_wp2_with fail
    go_at_call 17
    refine (toNodeS_d _ a0 xs0 (HI0.out.grow G8_.out) hl0).mono ?_
    rintro e w4 ⟨x00, rfl, o, g⟩
    have sz_ := g.size
    try simp only [World.size_alloc] at sz_
    try simp only [World.size_alloc] at o
    have zs4 := World.grownBy.size g
    try simp only [World.size_alloc] at zs4
    have rA19_ := Lib.hid (show (w4).heap[W.heap.size]? = some (.cells #[a1_0] 52 (0, 0)) from row_held g rA17_.out)
    clear rA17_
    have G10_ := Lib.hid (show (W).grownBy (w4) none from gby_trans G8_.out g)
    clear g
    have szw4 := sz_
    clear sz_
    obtain ⟨x00p, x00n, x00c, hv_⟩ := RdL.form (OwL.rd o)
    subst hv_
    have ox011_ := Lib.hid (show OwU (w4) (wS.heap.size) (w4.heap.size) [] [own shNode (.slice x00p x00n x00c) xs0] from OwU.one o)
    clear o
    have A1_0_ : (w4).cell? ⟨W.heap.size, 0, none⟩ = some (a1_0) := cell_of_row _ _ 0 _ _ _ rA19_.out
    go_wp2_with fail
    go_at_call 47
    refine (toGuard_d _ a1_0 xs1_0 (HI1_0.out.grow G10_.out) hl1_0).mono ?_
    rintro e w5 ⟨x11_0, rfl, o, g⟩
    have sz_ := g.size
    try simp only [World.size_alloc] at sz_
    try simp only [World.size_alloc] at o
    have zs5 := World.grownBy.size g
    try simp only [World.size_alloc] at zs5
    clear A1_0_
    have rA112_ := Lib.hid (show (w5).heap[W.heap.size]? = some (.cells #[a1_0] 52 (0, 0)) from row_held g rA19_.out)
    clear rA19_
    have ox013_ := Lib.hid (show OwU (w5) (wS.heap.size) (w4.heap.size) [] [own shNode (.slice x00p x00n x00c) xs0] from OwU.grow ox011_.out g)
    clear ox011_
    have G14_ := Lib.hid (show (W).grownBy (w5) none from gby_trans G10_.out g)
    clear g
    have szw5 := sz_
    clear sz_
    obtain ⟨x11_0p, x11_0n, x11_0c, hv_⟩ := RdL.form (OwU.rd o)
    subst hv_
    have ox115_ := Lib.hid (show OwU (w5) (w4.heap.size) (w5.heap.size) [] [own shB (.slice x11_0p x11_0n x11_0c) xs1_0] from o)
    clear o
    try unfold vGuard
    have al : (w5).grownBy ((w5).alloc (.cells #[(.slice x11_0p x11_0n x11_0c)] 55)) none := gby_alloc (gby_refl _ _) _
    have zs6 := World.grownBy.size al
    try simp only [World.size_alloc] at zs6
    have rA116_ := Lib.hid (show ((w5.alloc (.cells #[(.slice x11_0p x11_0n x11_0c)] 55))).heap[W.heap.size]? = some (.cells #[a1_0] 52 (0, 0)) from row_held al rA112_.out)
    clear rA112_
    have ox017_ := Lib.hid (show OwU ((w5.alloc (.cells #[(.slice x11_0p x11_0n x11_0c)] 55))) (wS.heap.size) (w4.heap.size) [] [own shNode (.slice x00p x00n x00c) xs0] from OwU.grow ox013_.out al)
    clear ox013_
    have ox118_ := Lib.hid (show OwU ((w5.alloc (.cells #[(.slice x11_0p x11_0n x11_0c)] 55))) (w4.heap.size) (w5.heap.size) [] [own shB (.slice x11_0p x11_0n x11_0c) xs1_0] from OwU.grow ox115_.out al)
    clear ox115_
    have G19_ := Lib.hid (show (W).grownBy ((w5.alloc (.cells #[(.slice x11_0p x11_0n x11_0c)] 55))) none from gby_trans G14_.out al)
    have rBx120_ := Lib.hid (show ((w5.alloc (.cells #[(.slice x11_0p x11_0n x11_0c)] 55))).heap[w5.heap.size]? = some (.cells #[(.slice x11_0p x11_0n x11_0c)] 55 (0, 0)) from heap_alloc_new _ _)
    clear al
    have Bx1_0_ : ((w5.alloc (.cells #[(.slice x11_0p x11_0n x11_0c)] 55))).cell? ⟨w5.heap.size, 0, none⟩ = some ((.slice x11_0p x11_0n x11_0c)) := cell_of_row _ _ 0 _ _ _ rBx120_.out
    go_wp2_with fail
    go_at_call 48
    refine (HM.out _ (.slice x00p x00n x00c) (.slice x11_0p x11_0n x11_0c) (OwU.rd ox017_.out) (OwU.rd ox118_.out)).mono ?_
    rintro e w6 ⟨rfl, g⟩
    have sz_ := g.size
    try simp only [World.size_alloc] at sz_
    have zs7 := World.grownBy.size g
    try simp only [World.size_alloc] at zs7
    clear Bx1_0_
    have rA121_ := Lib.hid (show (w6).heap[W.heap.size]? = some (.cells #[a1_0] 52 (0, 0)) from row_held g rA116_.out)
    clear rA116_
    have rBx122_ := Lib.hid (show (w6).heap[w5.heap.size]? = some (.cells #[(.slice x11_0p x11_0n x11_0c)] 55 (0, 0)) from row_held g rBx120_.out)
    clear rBx120_
    have ox023_ := Lib.hid (show OwU (w6) (wS.heap.size) (w4.heap.size) [] [own shNode (.slice x00p x00n x00c) xs0] from OwU.grow ox017_.out g)
    clear ox017_
    have ox124_ := Lib.hid (show OwU (w6) (w4.heap.size) (w5.heap.size) [] [own shB (.slice x11_0p x11_0n x11_0c) xs1_0] from OwU.grow ox118_.out g)
    clear ox118_
    have G25_ := Lib.hid (show (W).grownBy (w6) none from gby_trans G19_.out g)
    clear g
    have szw6 := sz_
    clear sz_
    go_wp2_with fail
    go_at_call 17
    refine (toNodeS_d _ a0 xs0 (HI0.out.grow G25_.out) hl0).mono ?_
    rintro e w7 ⟨t30, rfl, o, g⟩
    have sz_ := g.size
    try simp only [World.size_alloc] at sz_
    try simp only [World.size_alloc] at o
    have zs8 := World.grownBy.size g
    try simp only [World.size_alloc] at zs8
    have rA126_ := Lib.hid (show (w7).heap[W.heap.size]? = some (.cells #[a1_0] 52 (0, 0)) from row_held g rA121_.out)
    clear rA121_
    have rBx127_ := Lib.hid (show (w7).heap[w5.heap.size]? = some (.cells #[(.slice x11_0p x11_0n x11_0c)] 55 (0, 0)) from row_held g rBx122_.out)
    clear rBx122_
    have ox028_ := Lib.hid (show OwU (w7) (wS.heap.size) (w4.heap.size) [] [own shNode (.slice x00p x00n x00c) xs0] from OwU.grow ox023_.out g)
    clear ox023_
    have ox129_ := Lib.hid (show OwU (w7) (w4.heap.size) (w5.heap.size) [] [own shB (.slice x11_0p x11_0n x11_0c) xs1_0] from OwU.grow ox124_.out g)
    clear ox124_
    have G30_ := Lib.hid (show (W).grownBy (w7) none from gby_trans G25_.out g)
    clear g
    have szw7 := sz_
    clear sz_
    obtain ⟨t30p, t30n, t30c, hv_⟩ := RdL.form (OwL.rd o)
    subst hv_
    have oT331_ := Lib.hid (show OwU (w7) (w6.heap.size) (w7.heap.size) [] [own shNode (.slice t30p t30n t30c) xs0] from OwU.one o)
    clear o
    go_wp2_with fail
    go_at_call 20
    refine (eqNodeS_d _ (.slice x00p x00n x00c) (.slice t30p t30n t30c) xs0 (OwU.rd ox028_.out) (OwU.rd oT331_.out) hl0).mono ?_
    rintro e w8 ⟨rfl, g⟩
    have zs9 := World.grownBy.size g
    try simp only [World.size_alloc] at zs9
    have rA132_ := Lib.hid (show (w8).heap[W.heap.size]? = some (.cells #[a1_0] 52 (0, 0)) from row_held g rA126_.out)
    clear rA126_
    have rBx133_ := Lib.hid (show (w8).heap[w5.heap.size]? = some (.cells #[(.slice x11_0p x11_0n x11_0c)] 55 (0, 0)) from row_held g rBx127_.out)
    clear rBx127_
    have ox034_ := Lib.hid (show OwU (w8) (wS.heap.size) (w4.heap.size) [] [own shNode (.slice x00p x00n x00c) xs0] from OwU.grow ox028_.out g)
    clear ox028_
    have ox135_ := Lib.hid (show OwU (w8) (w4.heap.size) (w5.heap.size) [] [own shB (.slice x11_0p x11_0n x11_0c) xs1_0] from OwU.grow ox129_.out g)
    clear ox129_
    have oT336_ := Lib.hid (show OwU (w8) (w6.heap.size) (w7.heap.size) [] [own shNode (.slice t30p t30n t30c) xs0] from OwU.grow oT331_.out g)
    clear oT331_
    have G37_ := Lib.hid (show (W).grownBy (w8) none from gby_trans G30_.out g)
    clear g
    clear oT336_
    have A1_0_ : (w8).cell? ⟨W.heap.size, 0, none⟩ = some (a1_0) := cell_of_row _ _ 0 _ _ _ rA132_.out
    have Bx1_0_ : (w8).cell? ⟨w5.heap.size, 0, none⟩ = some ((.slice x11_0p x11_0n x11_0c)) := cell_of_row _ _ 0 _ _ _ rBx133_.out
    go_wp2_with fail
    go_region_held3 (fun w' => w'.cell? ⟨W.heap.size, 0, none⟩ = some (a1_0) ∧ w'.cell? ⟨w5.heap.size, 0, none⟩ = some ((.slice x11_0p x11_0n x11_0c)))
      (first
        | exact ⟨A1_0_, Bx1_0_⟩
        | exact ⟨(gT.cell A1_0_ (by simp)), (gT.cell Bx1_0_ (by simp))⟩
        | exact ⟨(gE.cell (gT.cell A1_0_ (by simp)) (by simp)), (gE.cell (gT.cell Bx1_0_ (by simp)) (by simp))⟩)
      (first
        | (go_at_call 47; refine (toGuard_d _ a1_0 xs1_0 (HI1_0.out.grow (gby_drew G37_.out)) hl1_0).mono ?_; rintro e wT1 ⟨t41_0, rfl, oT, gT⟩; obtain ⟨t41_0p, t41_0n, t41_0c, hv_⟩ := RdL.form ((OwU.rd oT)); subst hv_; try unfold vGuard)
        | (go_at_call 49; refine (eqGuard_d _ (.slice x11_0p x11_0n x11_0c) (.slice t41_0p t41_0n t41_0c) xs1_0 (RdL.grow (RdL.grow (OwU.rd ox135_.out) (gby_drew (gby_refl _ _))) gT) (OwU.rd oT) hl1_0).mono ?_; rintro e wE1 ⟨rfl, gE⟩))
    all_goals
      have g : (w8).grownBy wE1 none := gby_trans (gby_trans (gby_drew (gby_refl _ _)) gT) gE
      clear gT gE oT
      clear A1_0_ Bx1_0_
      have zs10 := World.grownBy.size g
      try simp only [World.size_alloc] at zs10
      have rA138_ := Lib.hid (show (wE1).heap[W.heap.size]? = some (.cells #[a1_0] 52 (0, 0)) from row_held g rA132_.out)
      clear rA132_
      have rBx139_ := Lib.hid (show (wE1).heap[w5.heap.size]? = some (.cells #[(.slice x11_0p x11_0n x11_0c)] 55 (0, 0)) from row_held g rBx133_.out)
      clear rBx133_
      have ox040_ := Lib.hid (show OwU (wE1) (wS.heap.size) (w4.heap.size) [] [own shNode (.slice x00p x00n x00c) xs0] from OwU.grow ox034_.out g)
      clear ox034_
      have ox141_ := Lib.hid (show OwU (wE1) (w4.heap.size) (w5.heap.size) [] [own shB (.slice x11_0p x11_0n x11_0c) xs1_0] from OwU.grow ox135_.out g)
      clear ox135_
      have G42_ := Lib.hid (show (W).grownBy (wE1) none from gby_trans G37_.out g)
      clear g
      go_wp2
      go_ret
      exact ⟨rfl, gby_below G42_.out⟩

end Go.Proofs.Ytodfbodagjmfmab
