/-
  The walk of FnExactNewTags: at every argument the program answers as its model and writes nothing that was there, and its answer owns its memory.
-/
import Derived.Test.YtoedgncidoldaabQTags
import Derived.Test.YtoedgncidoldaabRNewTags
import Derived.WalkKit
import Derived.Deep.RegionHeld3
import Derived.Below
namespace Go.Proofs.Ytoedgncidoldaab
open Go Go.RowKit

set_option maxRecDepth 8000 in
set_option maxHeartbeats 16000000 in
theorem walk_exactNewTags_of (both : ∃ (xsr0_0 : List Bool), szL shB xsr0_0 ≤ 1048576 ∧ (∀ (W : World), Calls Try.prog 15 #[] W (ResSNewTags xsr0_0 W)) ∧ ∀ (W : World), Calls Try.prog 16 #[] W (ResINewTags xsr0_0 W))
    (W : World)   :
    Calls Try.prog 4 #[] W fun e w' => e = .returned (.bool true) ∧ Below W.heap.size W w' := by
  obtain ⟨xsr0_0, hLr0_0, hs_, hi_⟩ := both  
  have HS := Lib.hid hs_
  have HM := Lib.hid hi_
  clear hs_ hi_
  try clear both
  have hqr0_0 : ecL shB xsr0_0 ≤ 104857600 := Nat.le_trans (ecL_le _ _) (Nat.le_trans (Nat.mul_le_mul_left _ hLr0_0) (Nat.mul_le_mul_right 1048576 (show shB.c ≤ 100 by decide)))
  go_enter Try.func4, Try.ntmps4
  have G1_ := Lib.hid (show (W).grownBy (W) none from (gby_refl _ _))
  go_wp2_with fail
  go_at_call 15
  refine (HS.out _  ).mono ?_
  rintro e w1 ⟨wr0_0, rfl, or0_0, g⟩
  have sz_ := g.size
  try simp only [World.size_alloc] at sz_
  have zs1 := World.grownBy.size g
  try simp only [World.size_alloc] at zs1
  have G2_ := Lib.hid (show (W).grownBy (w1) none from gby_trans G1_.out g)
  clear g
  have szw1 := sz_
  clear sz_
  obtain ⟨wr0_0p, wr0_0n, wr0_0c, hv_⟩ := RdL.form (or0_0)
  subst hv_
  have rd3_ := Lib.hid or0_0
  clear or0_0
  have qG4_ := Lib.hid (gby_refl w1 none)
  have al : (w1).grownBy ((w1).alloc (.cells #[(.slice wr0_0p wr0_0n wr0_0c)] 28)) none := gby_alloc (gby_refl _ _) _
  have zs2 := World.grownBy.size al
  try simp only [World.size_alloc] at zs2
  have G5_ := Lib.hid (show (W).grownBy ((w1.alloc (.cells #[(.slice wr0_0p wr0_0n wr0_0c)] 28))) none from gby_trans G2_.out al)
  have qw6_ := Lib.hid (show (w1).grownBy ((w1.alloc (.cells #[(.slice wr0_0p wr0_0n wr0_0c)] 28))) none from gby_trans qG4_.out al)
  clear qG4_
  have rBw07_ := Lib.hid (show ((w1.alloc (.cells #[(.slice wr0_0p wr0_0n wr0_0c)] 28))).heap[w1.heap.size]? = some (.cells #[(.slice wr0_0p wr0_0n wr0_0c)] 28 (0, 0)) from heap_alloc_new _ _)
  clear al
  go_wp2_with fail
  go_at_call 16
  refine (HM.out _  ).mono ?_
  rintro e w2 ⟨gr0_0, rfl, o, g⟩
  have sz_ := g.size
  try simp only [World.size_alloc] at sz_
  try simp only [World.size_alloc] at o
  have zs3 := World.grownBy.size g
  try simp only [World.size_alloc] at zs3
  have rBw08_ := Lib.hid (show (w2).heap[w1.heap.size]? = some (.cells #[(.slice wr0_0p wr0_0n wr0_0c)] 28 (0, 0)) from row_held g rBw07_.out)
  clear rBw07_
  have G9_ := Lib.hid (show (W).grownBy (w2) none from gby_trans G5_.out g)
  have qw10_ := Lib.hid (show (w1).grownBy (w2) none from gby_trans qw6_.out g)
  clear qw6_
  clear g
  have szw2 := sz_
  clear sz_
  obtain ⟨gr0_0p, gr0_0n, gr0_0c, hv_⟩ := RdL.form (OwU.rd o)
  subst hv_
  have og11_ := Lib.hid (show OwU (w2) (w1.heap.size + 1) (w2.heap.size) [] [own shB (.slice gr0_0p gr0_0n gr0_0c) xsr0_0] from o)
  clear o
  have al : (w2).grownBy ((w2).alloc (.cells #[(.slice gr0_0p gr0_0n gr0_0c)] 28)) none := gby_alloc (gby_refl _ _) _
  have zs4 := World.grownBy.size al
  try simp only [World.size_alloc] at zs4
  have rBw012_ := Lib.hid (show ((w2.alloc (.cells #[(.slice gr0_0p gr0_0n gr0_0c)] 28))).heap[w1.heap.size]? = some (.cells #[(.slice wr0_0p wr0_0n wr0_0c)] 28 (0, 0)) from row_held al rBw08_.out)
  clear rBw08_
  have og13_ := Lib.hid (show OwU ((w2.alloc (.cells #[(.slice gr0_0p gr0_0n gr0_0c)] 28))) (w1.heap.size + 1) (w2.heap.size) [] [own shB (.slice gr0_0p gr0_0n gr0_0c) xsr0_0] from OwU.grow og11_.out al)
  clear og11_
  have G14_ := Lib.hid (show (W).grownBy ((w2.alloc (.cells #[(.slice gr0_0p gr0_0n gr0_0c)] 28))) none from gby_trans G9_.out al)
  have qw15_ := Lib.hid (show (w1).grownBy ((w2.alloc (.cells #[(.slice gr0_0p gr0_0n gr0_0c)] 28))) none from gby_trans qw10_.out al)
  clear qw10_
  have rBg016_ := Lib.hid (show ((w2.alloc (.cells #[(.slice gr0_0p gr0_0n gr0_0c)] 28))).heap[w2.heap.size]? = some (.cells #[(.slice gr0_0p gr0_0n gr0_0c)] 28 (0, 0)) from heap_alloc_new _ _)
  clear al
  have Bg0_0_ : ((w2.alloc (.cells #[(.slice gr0_0p gr0_0n gr0_0c)] 28))).cell? ⟨w2.heap.size, 0, none⟩ = some ((.slice gr0_0p gr0_0n gr0_0c)) := cell_of_row _ _ 0 _ _ _ rBg016_.out
  have Bw0_0_ : ((w2.alloc (.cells #[(.slice gr0_0p gr0_0n gr0_0c)] 28))).cell? ⟨w1.heap.size, 0, none⟩ = some ((.slice wr0_0p wr0_0n wr0_0c)) := cell_of_row _ _ 0 _ _ _ rBw012_.out
  go_wp2_with fail
  go_at_call 17
  refine (eqTags_d _ (.slice gr0_0p gr0_0n gr0_0c) (.slice wr0_0p wr0_0n wr0_0c) xsr0_0 (OwU.rd og13_.out) (RdL.grow rd3_.out qw15_.out) hLr0_0).mono ?_
  rintro e w3 ⟨rfl, g⟩
  have zs5 := World.grownBy.size g
  try simp only [World.size_alloc] at zs5
  clear Bg0_0_ Bw0_0_
  have rBw017_ := Lib.hid (show (w3).heap[w1.heap.size]? = some (.cells #[(.slice wr0_0p wr0_0n wr0_0c)] 28 (0, 0)) from row_held g rBw012_.out)
  clear rBw012_
  have rBg018_ := Lib.hid (show (w3).heap[w2.heap.size]? = some (.cells #[(.slice gr0_0p gr0_0n gr0_0c)] 28 (0, 0)) from row_held g rBg016_.out)
  clear rBg016_
  have og19_ := Lib.hid (show OwU (w3) (w1.heap.size + 1) (w2.heap.size) [] [own shB (.slice gr0_0p gr0_0n gr0_0c) xsr0_0] from OwU.grow og13_.out g)
  clear og13_
  have G20_ := Lib.hid (show (W).grownBy (w3) none from gby_trans G14_.out g)
  have qw21_ := Lib.hid (show (w1).grownBy (w3) none from gby_trans qw15_.out g)
  clear qw15_
  clear g
  have Bg0_0_ : (w3).cell? ⟨w2.heap.size, 0, none⟩ = some ((.slice gr0_0p gr0_0n gr0_0c)) := cell_of_row _ _ 0 _ _ _ rBg018_.out
  go_wp2_with fail
  go_at_call 18
  refine (markTags_d _ (w1.heap.size + 1) (w2.heap.size) (1) (.slice gr0_0p gr0_0n gr0_0c) xsr0_0 [] [] og19_.out (by first | omega | (simp only [World.size_alloc]; omega)) hLr0_0 (by omega)).mono ?_
  rintro e w4 ⟨rfl, o, c⟩
  clear Bg0_0_
  have szw4 := c.size
  try simp only [World.size_alloc] at szw4
  have rBw022_ := Lib.hid (show (w4).heap[w1.heap.size]? = some (.cells #[(.slice wr0_0p wr0_0n wr0_0c)] 28 (0, 0)) from Chg.keep c rBw017_.out (by omega))
  clear rBw017_
  have rBg023_ := Lib.hid (show (w4).heap[w2.heap.size]? = some (.cells #[(.slice gr0_0p gr0_0n gr0_0c)] 28 (0, 0)) from Chg.keep c rBg018_.out (by omega))
  clear rBg018_
  have G24_ := Lib.hid (show (W).grownBy (w4) none from gby_chg G20_.out c (by omega))
  have qw25_ := Lib.hid (show (w1).grownBy (w4) none from gby_chg qw21_.out c (by omega))
  clear qw21_
  have og26_ := Lib.hid (show OwU (w4) (w1.heap.size + 1) (w2.heap.size) [] [own shB (.slice gr0_0p gr0_0n gr0_0c) (emL shB (1) xsr0_0)] from o)
  clear og19_ o c
  have Bg0_0_ : (w4).cell? ⟨w2.heap.size, 0, none⟩ = some ((.slice gr0_0p gr0_0n gr0_0c)) := cell_of_row _ _ 0 _ _ _ rBg023_.out
  go_wp2_with fail
  go_at_call 19
  refine (heldTags_d _ (1) (.slice gr0_0p gr0_0n gr0_0c) xsr0_0 (OwU.rd og26_.out) hLr0_0 (by omega)).mono ?_
  rintro e w5 ⟨rfl, g⟩
  have zs6 := World.grownBy.size g
  try simp only [World.size_alloc] at zs6
  clear Bg0_0_
  have rBw027_ := Lib.hid (show (w5).heap[w1.heap.size]? = some (.cells #[(.slice wr0_0p wr0_0n wr0_0c)] 28 (0, 0)) from row_held g rBw022_.out)
  clear rBw022_
  have rBg028_ := Lib.hid (show (w5).heap[w2.heap.size]? = some (.cells #[(.slice gr0_0p gr0_0n gr0_0c)] 28 (0, 0)) from row_held g rBg023_.out)
  clear rBg023_
  have og29_ := Lib.hid (show OwU (w5) (w1.heap.size + 1) (w2.heap.size) [] [own shB (.slice gr0_0p gr0_0n gr0_0c) (emL shB (1) xsr0_0)] from OwU.grow og26_.out g)
  clear og26_
  have G30_ := Lib.hid (show (W).grownBy (w5) none from gby_trans G24_.out g)
  have qw31_ := Lib.hid (show (w1).grownBy (w5) none from gby_trans qw25_.out g)
  clear qw25_
  clear g
  have ng5 : ¬ (((1 + ecL shB xsr0_0 : Nat) : Int) < 0) := by omega
  go_wp2_with fail
  go_at_call 16
  refine (HM.out _  ).mono ?_
  rintro e w6 ⟨hr0_0, rfl, o, g⟩
  have sz_ := g.size
  try simp only [World.size_alloc] at sz_
  try simp only [World.size_alloc] at o
  have zs7 := World.grownBy.size g
  try simp only [World.size_alloc] at zs7
  have rBw032_ := Lib.hid (show (w6).heap[w1.heap.size]? = some (.cells #[(.slice wr0_0p wr0_0n wr0_0c)] 28 (0, 0)) from row_held g rBw027_.out)
  clear rBw027_
  have rBg033_ := Lib.hid (show (w6).heap[w2.heap.size]? = some (.cells #[(.slice gr0_0p gr0_0n gr0_0c)] 28 (0, 0)) from row_held g rBg028_.out)
  clear rBg028_
  have og34_ := Lib.hid (show OwU (w6) (w1.heap.size + 1) (w2.heap.size) [] [own shB (.slice gr0_0p gr0_0n gr0_0c) (emL shB (1) xsr0_0)] from OwU.grow og29_.out g)
  clear og29_
  have G35_ := Lib.hid (show (W).grownBy (w6) none from gby_trans G30_.out g)
  have qw36_ := Lib.hid (show (w1).grownBy (w6) none from gby_trans qw31_.out g)
  clear qw31_
  clear g
  have szw6 := sz_
  clear sz_
  obtain ⟨hr0_0p, hr0_0n, hr0_0c, hv_⟩ := RdL.form (OwU.rd o)
  subst hv_
  have oh37_ := Lib.hid (show OwU (w6) (w5.heap.size) (w6.heap.size) [] [own shB (.slice hr0_0p hr0_0n hr0_0c) xsr0_0] from o)
  clear o
  have al : (w6).grownBy ((w6).alloc (.cells #[(.slice hr0_0p hr0_0n hr0_0c)] 28)) none := gby_alloc (gby_refl _ _) _
  have zs8 := World.grownBy.size al
  try simp only [World.size_alloc] at zs8
  have rBw038_ := Lib.hid (show ((w6.alloc (.cells #[(.slice hr0_0p hr0_0n hr0_0c)] 28))).heap[w1.heap.size]? = some (.cells #[(.slice wr0_0p wr0_0n wr0_0c)] 28 (0, 0)) from row_held al rBw032_.out)
  clear rBw032_
  have rBg039_ := Lib.hid (show ((w6.alloc (.cells #[(.slice hr0_0p hr0_0n hr0_0c)] 28))).heap[w2.heap.size]? = some (.cells #[(.slice gr0_0p gr0_0n gr0_0c)] 28 (0, 0)) from row_held al rBg033_.out)
  clear rBg033_
  have og40_ := Lib.hid (show OwU ((w6.alloc (.cells #[(.slice hr0_0p hr0_0n hr0_0c)] 28))) (w1.heap.size + 1) (w2.heap.size) [] [own shB (.slice gr0_0p gr0_0n gr0_0c) (emL shB (1) xsr0_0)] from OwU.grow og34_.out al)
  clear og34_
  have oh41_ := Lib.hid (show OwU ((w6.alloc (.cells #[(.slice hr0_0p hr0_0n hr0_0c)] 28))) (w5.heap.size) (w6.heap.size) [] [own shB (.slice hr0_0p hr0_0n hr0_0c) xsr0_0] from OwU.grow oh37_.out al)
  clear oh37_
  have G42_ := Lib.hid (show (W).grownBy ((w6.alloc (.cells #[(.slice hr0_0p hr0_0n hr0_0c)] 28))) none from gby_trans G35_.out al)
  have qw43_ := Lib.hid (show (w1).grownBy ((w6.alloc (.cells #[(.slice hr0_0p hr0_0n hr0_0c)] 28))) none from gby_trans qw36_.out al)
  clear qw36_
  have rBh044_ := Lib.hid (show ((w6.alloc (.cells #[(.slice hr0_0p hr0_0n hr0_0c)] 28))).heap[w6.heap.size]? = some (.cells #[(.slice hr0_0p hr0_0n hr0_0c)] 28 (0, 0)) from heap_alloc_new _ _)
  clear al
  have Bh0_0_ : ((w6.alloc (.cells #[(.slice hr0_0p hr0_0n hr0_0c)] 28))).cell? ⟨w6.heap.size, 0, none⟩ = some ((.slice hr0_0p hr0_0n hr0_0c)) := cell_of_row _ _ 0 _ _ _ rBh044_.out
  have Bw0_0_ : ((w6.alloc (.cells #[(.slice hr0_0p hr0_0n hr0_0c)] 28))).cell? ⟨w1.heap.size, 0, none⟩ = some ((.slice wr0_0p wr0_0n wr0_0c)) := cell_of_row _ _ 0 _ _ _ rBw038_.out
  go_wp2_with fail
  go_at_call 17
  refine (eqTags_d _ (.slice hr0_0p hr0_0n hr0_0c) (.slice wr0_0p wr0_0n wr0_0c) xsr0_0 (OwU.rd oh41_.out) (RdL.grow rd3_.out qw43_.out) hLr0_0).mono ?_
  rintro e w7 ⟨rfl, g⟩
  have zs9 := World.grownBy.size g
  try simp only [World.size_alloc] at zs9
  clear Bh0_0_ Bw0_0_
  have rBw045_ := Lib.hid (show (w7).heap[w1.heap.size]? = some (.cells #[(.slice wr0_0p wr0_0n wr0_0c)] 28 (0, 0)) from row_held g rBw038_.out)
  clear rBw038_
  have rBg046_ := Lib.hid (show (w7).heap[w2.heap.size]? = some (.cells #[(.slice gr0_0p gr0_0n gr0_0c)] 28 (0, 0)) from row_held g rBg039_.out)
  clear rBg039_
  have rBh047_ := Lib.hid (show (w7).heap[w6.heap.size]? = some (.cells #[(.slice hr0_0p hr0_0n hr0_0c)] 28 (0, 0)) from row_held g rBh044_.out)
  clear rBh044_
  have og48_ := Lib.hid (show OwU (w7) (w1.heap.size + 1) (w2.heap.size) [] [own shB (.slice gr0_0p gr0_0n gr0_0c) (emL shB (1) xsr0_0)] from OwU.grow og40_.out g)
  clear og40_
  have oh49_ := Lib.hid (show OwU (w7) (w5.heap.size) (w6.heap.size) [] [own shB (.slice hr0_0p hr0_0n hr0_0c) xsr0_0] from OwU.grow oh41_.out g)
  clear oh41_
  have G50_ := Lib.hid (show (W).grownBy (w7) none from gby_trans G42_.out g)
  have qw51_ := Lib.hid (show (w1).grownBy (w7) none from gby_trans qw43_.out g)
  clear qw43_
  clear g
  have Bg0_0_ : (w7).cell? ⟨w2.heap.size, 0, none⟩ = some ((.slice gr0_0p gr0_0n gr0_0c)) := cell_of_row _ _ 0 _ _ _ rBg046_.out
  go_wp2_with fail
  go_at_call 19
  refine (heldTags_d _ (1) (.slice gr0_0p gr0_0n gr0_0c) xsr0_0 (OwU.rd og48_.out) hLr0_0 (by omega)).mono ?_
  rintro e w8 ⟨rfl, g⟩
  have zs10 := World.grownBy.size g
  try simp only [World.size_alloc] at zs10
  clear Bg0_0_
  have rBw052_ := Lib.hid (show (w8).heap[w1.heap.size]? = some (.cells #[(.slice wr0_0p wr0_0n wr0_0c)] 28 (0, 0)) from row_held g rBw045_.out)
  clear rBw045_
  have rBg053_ := Lib.hid (show (w8).heap[w2.heap.size]? = some (.cells #[(.slice gr0_0p gr0_0n gr0_0c)] 28 (0, 0)) from row_held g rBg046_.out)
  clear rBg046_
  have rBh054_ := Lib.hid (show (w8).heap[w6.heap.size]? = some (.cells #[(.slice hr0_0p hr0_0n hr0_0c)] 28 (0, 0)) from row_held g rBh047_.out)
  clear rBh047_
  have og55_ := Lib.hid (show OwU (w8) (w1.heap.size + 1) (w2.heap.size) [] [own shB (.slice gr0_0p gr0_0n gr0_0c) (emL shB (1) xsr0_0)] from OwU.grow og48_.out g)
  clear og48_
  have oh56_ := Lib.hid (show OwU (w8) (w5.heap.size) (w6.heap.size) [] [own shB (.slice hr0_0p hr0_0n hr0_0c) xsr0_0] from OwU.grow oh49_.out g)
  clear oh49_
  have G57_ := Lib.hid (show (W).grownBy (w8) none from gby_trans G50_.out g)
  have qw58_ := Lib.hid (show (w1).grownBy (w8) none from gby_trans qw51_.out g)
  clear qw51_
  clear g
  have ng8 : ¬ (((1 + ecL shB xsr0_0 : Nat) : Int) < 0) := by omega
  go_wp2
  go_ret
  exact ⟨rfl, gby_below G57_.out⟩

end Go.Proofs.Ytoedgncidoldaab
