/-
  The walk of FnExactNewChannel: at every argument the program answers as its model and writes nothing that was there, and its answer owns its memory.
-/
import Derived.Test.YtgagbhkidponnacNewCh
import Derived.Test.YtgagbhkidponnacQChannel
import Derived.Test.YtgagbhkidponnacQCredits
import Derived.Test.YtgagbhkidponnacRNewChannel
import Derived.WalkKit
import Derived.Deep.RegionHeld3
import Derived.Below
namespace Go.Proofs.Ytgagbhkidponnac
open Go Go.RowKit

set_option maxRecDepth 8000 in
set_option maxHeartbeats 16000000 in
theorem walk_exactNewChannel_of (both : ∀ (xs0_0 : List Int) (xs0_1 : List Int), szL shI xs0_0 ≤ 1048576 → szL shI xs0_1 ≤ 1048576 → ∃ (xsr0_0 : List Int) (xsr0_1 : List Int) (xsr0_2 : List Int) (xsr0_3 : List Int) (xsr0_4 : List DPacket) (xsr0_5 : List DPacket) (br1 : Bool), szL shI xsr0_0 ≤ 1048576 ∧ szL shI xsr0_1 ≤ 1048576 ∧ szL shI xsr0_2 ≤ 1048576 ∧ szL shI xsr0_3 ≤ 1048576 ∧ szL shPacket xsr0_4 ≤ 1048576 ∧ szL shPacket xsr0_5 ≤ 1048576 ∧ (∀ (W : World), ∀ u0_0 u0_1, RdL shI W u0_0 xs0_0 → RdL shI W u0_1 xs0_1 → Calls Try.prog 54 #[.agg #[u0_0, u0_1]] W (ResSNewChannel xsr0_0 xsr0_1 xsr0_2 xsr0_3 xsr0_4 xsr0_5 br1 W)) ∧ ∀ (W : World), ∀ u0_0 u0_1, RdL shI W u0_0 xs0_0 → RdL shI W u0_1 xs0_1 → Calls Try.prog 55 #[.agg #[u0_0, u0_1]] W (ResINewChannel xsr0_0 xsr0_1 xsr0_2 xsr0_3 xsr0_4 xsr0_5 br1 W))
    (W : World) (a0_0 : Value) (xs0_0 : List Int) (a0_1 : Value) (xs0_1 : List Int) (H0_0 : RdL shI W a0_0 xs0_0) (H0_1 : RdL shI W a0_1 xs0_1) :
    Calls Try.prog 10 #[.agg #[a0_0, a0_1]] W fun e w' => e = .returned (.bool true) ∧ Below W.heap.size W w' := by
  have HI0_0 := Lib.hid H0_0
  have hmx0_0 := H0_0.max
  clear H0_0
  have HI0_1 := Lib.hid H0_1
  have hmx0_1 := H0_1.max
  clear H0_1
  by_cases hs0 : (1048576 : Int) < (((szL shI xs0_0 + szL shI xs0_1) : Nat) : Int)
  · have hneg : (-1 : Int) < 0 := by omega
    go_enter Try.func10, Try.ntmps10
    have rA01_ := Lib.hid (show ((W.alloc (.cells #[a0_0, a0_1] 50))).heap[W.heap.size]? = some (.cells #[a0_0, a0_1] 50 (0, 0)) from by exact heap_alloc_new _ _)
    have G2_ := Lib.hid (show (W).grownBy ((W.alloc (.cells #[a0_0, a0_1] 50))) none from (gby_alloc (gby_refl _ _) _))
    have A0_0_ : ((W.alloc (.cells #[a0_0, a0_1] 50))).cell? ⟨W.heap.size, 0, none⟩ = some (a0_0) := cell_of_row _ _ 0 _ _ _ rA01_.out
    have A0_1_ : ((W.alloc (.cells #[a0_0, a0_1] 50))).cell? ⟨W.heap.size, 1, none⟩ = some (a0_1) := cell_of_row _ _ 1 _ _ _ rA01_.out
    go_wp2_with fail
    go_at_call 32
    refine (szCredits_d _ 1048576 a0_0 a0_1 xs0_0 xs0_1 (HI0_0.out.grow G2_.out) (HI0_1.out.grow G2_.out) (by omega) (by omega)).mono ?_
    rintro e w1 ⟨he, g⟩
    rw [show lessN 1048576 (szL shI xs0_0 + szL shI xs0_1) = -1 from if_pos hs0] at he
    subst he
    clear A0_0_ A0_1_
    have rA03_ := Lib.hid (show (w1).heap[W.heap.size]? = some (.cells #[a0_0, a0_1] 50 (0, 0)) from row_held g rA01_.out)
    clear rA01_
    have G4_ := Lib.hid (show (W).grownBy (w1) none from gby_trans G2_.out g)
    clear g
    go_wp2
    go_ret
    exact ⟨rfl, gby_below G4_.out⟩
  obtain ⟨rr0, hr0⟩ : ∃ r, r = lessN 1048576 (szL shI xs0_0 + szL shI xs0_1) := ⟨_, rfl⟩
  have hrr0 : rr0 = (1048576 : Int) - (((szL shI xs0_0 + szL shI xs0_1) : Nat) : Int) := hr0.trans (if_neg hs0)
  have hn0 : ¬ rr0 < 0 := by omega
  have hu0 : rr0 ≤ 1048576 := by omega
  have hl0_0 : szL shI xs0_0 ≤ 1048576 := by omega
  have hl0_1 : szL shI xs0_1 ≤ 1048576 := by omega
  have HR0 := Lib.hid hr0
  clear hs0 hr0 hrr0
  obtain ⟨xsr0_0, xsr0_1, xsr0_2, xsr0_3, xsr0_4, xsr0_5, br1, hLr0_0, hLr0_1, hLr0_2, hLr0_3, hLr0_4, hLr0_5, hs_, hi_⟩ := both xs0_0 xs0_1 hl0_0 hl0_1
  have HS := Lib.hid hs_
  have HM := Lib.hid hi_
  clear hs_ hi_ both
  have hb_br1 : (br1 != br1) = false := by simp
  have hq0_0 : ecL shI xs0_0 ≤ 104857600 := Nat.le_trans (ecL_le _ _) (Nat.le_trans (Nat.mul_le_mul_left _ hl0_0) (Nat.mul_le_mul_right 1048576 (show shI.c ≤ 100 by decide)))
  have hq0_1 : ecL shI xs0_1 ≤ 104857600 := Nat.le_trans (ecL_le _ _) (Nat.le_trans (Nat.mul_le_mul_left _ hl0_1) (Nat.mul_le_mul_right 1048576 (show shI.c ≤ 100 by decide)))
  have hqr0_0 : ecL shI xsr0_0 ≤ 104857600 := Nat.le_trans (ecL_le _ _) (Nat.le_trans (Nat.mul_le_mul_left _ hLr0_0) (Nat.mul_le_mul_right 1048576 (show shI.c ≤ 100 by decide)))
  have hqr0_1 : ecL shI xsr0_1 ≤ 104857600 := Nat.le_trans (ecL_le _ _) (Nat.le_trans (Nat.mul_le_mul_left _ hLr0_1) (Nat.mul_le_mul_right 1048576 (show shI.c ≤ 100 by decide)))
  have hqr0_2 : ecL shI xsr0_2 ≤ 104857600 := Nat.le_trans (ecL_le _ _) (Nat.le_trans (Nat.mul_le_mul_left _ hLr0_2) (Nat.mul_le_mul_right 1048576 (show shI.c ≤ 100 by decide)))
  have hqr0_3 : ecL shI xsr0_3 ≤ 104857600 := Nat.le_trans (ecL_le _ _) (Nat.le_trans (Nat.mul_le_mul_left _ hLr0_3) (Nat.mul_le_mul_right 1048576 (show shI.c ≤ 100 by decide)))
  have hqr0_4 : ecL shPacket xsr0_4 ≤ 104857600 := Nat.le_trans (ecL_le _ _) (Nat.le_trans (Nat.mul_le_mul_left _ hLr0_4) (Nat.mul_le_mul_right 1048576 (show shPacket.c ≤ 100 by decide)))
  have hqr0_5 : ecL shPacket xsr0_5 ≤ 104857600 := Nat.le_trans (ecL_le _ _) (Nat.le_trans (Nat.mul_le_mul_left _ hLr0_5) (Nat.mul_le_mul_right 1048576 (show shPacket.c ≤ 100 by decide)))
  go_enter Try.func10, Try.ntmps10
  have rA01_ := Lib.hid (show ((W.alloc (.cells #[a0_0, a0_1] 50))).heap[W.heap.size]? = some (.cells #[a0_0, a0_1] 50 (0, 0)) from by exact heap_alloc_new _ _)
  have G2_ := Lib.hid (show (W).grownBy ((W.alloc (.cells #[a0_0, a0_1] 50))) none from (gby_alloc (gby_refl _ _) _))
  have A0_0_ : ((W.alloc (.cells #[a0_0, a0_1] 50))).cell? ⟨W.heap.size, 0, none⟩ = some (a0_0) := cell_of_row _ _ 0 _ _ _ rA01_.out
  have A0_1_ : ((W.alloc (.cells #[a0_0, a0_1] 50))).cell? ⟨W.heap.size, 1, none⟩ = some (a0_1) := cell_of_row _ _ 1 _ _ _ rA01_.out
  go_wp2_with fail
  go_at_call 32
  refine (szCredits_d _ 1048576 a0_0 a0_1 xs0_0 xs0_1 (HI0_0.out.grow G2_.out) (HI0_1.out.grow G2_.out) (by omega) (by omega)).mono ?_
  rintro e w1 ⟨he, g⟩
  rw [← HR0.out] at he
  subst he
  have zs1 := World.grownBy.size g
  try simp only [World.size_alloc] at zs1
  clear A0_0_ A0_1_
  have rA03_ := Lib.hid (show (w1).heap[W.heap.size]? = some (.cells #[a0_0, a0_1] 50 (0, 0)) from row_held g rA01_.out)
  clear rA01_
  have G4_ := Lib.hid (show (W).grownBy (w1) none from gby_trans G2_.out g)
  clear g
  have A0_0_ : (w1).cell? ⟨W.heap.size, 0, none⟩ = some (a0_0) := cell_of_row _ _ 0 _ _ _ rA03_.out
  have A0_1_ : (w1).cell? ⟨W.heap.size, 1, none⟩ = some (a0_1) := cell_of_row _ _ 1 _ _ _ rA03_.out
  go_wp2_with fail
  go_at_call 35
  refine (toCredits_d _ a0_0 a0_1 xs0_0 xs0_1 (HI0_0.out.grow G4_.out) hl0_0 (HI0_1.out.grow G4_.out) hl0_1).mono ?_
  rintro e w2 ⟨t10_0, t10_1, rfl, o, g⟩
  have sz_ := g.size
  try simp only [World.size_alloc] at sz_
  try simp only [World.size_alloc] at o
  have zs2 := World.grownBy.size g
  try simp only [World.size_alloc] at zs2
  clear A0_0_ A0_1_
  have rA05_ := Lib.hid (show (w2).heap[W.heap.size]? = some (.cells #[a0_0, a0_1] 50 (0, 0)) from row_held g rA03_.out)
  clear rA03_
  have G6_ := Lib.hid (show (W).grownBy (w2) none from gby_trans G4_.out g)
  clear g
  have szw2 := sz_
  clear sz_
  obtain ⟨t10_0p, t10_0n, t10_0c, hv_⟩ := RdL.form (OwU.rd o)
  subst hv_
  obtain ⟨t10_1p, t10_1n, t10_1c, hv_⟩ := RdL.form (OwU.rd (OwU.tail o))
  subst hv_
  have oT17_ := Lib.hid (show OwU (w2) (w1.heap.size) (w2.heap.size) [] [own shI (.slice t10_0p t10_0n t10_0c) xs0_0, own shI (.slice t10_1p t10_1n t10_1c) xs0_1] from o)
  clear o
  try unfold vCredits
  go_wp2_with fail
  go_at_call 54
  refine (HS.out _ (.slice t10_0p t10_0n t10_0c) (.slice t10_1p t10_1n t10_1c) (OwU.rd oT17_.out) (OwU.rd (OwU.tail oT17_.out))).mono ?_
  rintro e w3 ⟨wr0_0, wr0_1, wr0_2, wr0_3, wr0_4, wr0_5, rfl, or0_0, or0_1, or0_2, or0_3, or0_4, or0_5, g⟩
  have sz_ := g.size
  try simp only [World.size_alloc] at sz_
  have zs3 := World.grownBy.size g
  try simp only [World.size_alloc] at zs3
  have rA08_ := Lib.hid (show (w3).heap[W.heap.size]? = some (.cells #[a0_0, a0_1] 50 (0, 0)) from row_held g rA05_.out)
  clear rA05_
  have oT19_ := Lib.hid (show OwU (w3) (w1.heap.size) (w2.heap.size) [] [own shI (.slice t10_0p t10_0n t10_0c) xs0_0, own shI (.slice t10_1p t10_1n t10_1c) xs0_1] from OwU.grow oT17_.out g)
  clear oT17_
  have G10_ := Lib.hid (show (W).grownBy (w3) none from gby_trans G6_.out g)
  clear g
  have szw3 := sz_
  clear sz_
  obtain ⟨wr0_0p, wr0_0n, wr0_0c, hv_⟩ := RdL.form (or0_0)
  subst hv_
  obtain ⟨wr0_1p, wr0_1n, wr0_1c, hv_⟩ := RdL.form (or0_1)
  subst hv_
  obtain ⟨wr0_2p, wr0_2n, wr0_2c, hv_⟩ := RdL.form (or0_2)
  subst hv_
  obtain ⟨wr0_3p, wr0_3n, wr0_3c, hv_⟩ := RdL.form (or0_3)
  subst hv_
  obtain ⟨wr0_4p, wr0_4n, wr0_4c, hv_⟩ := RdL.form (or0_4)
  subst hv_
  obtain ⟨wr0_5p, wr0_5n, wr0_5c, hv_⟩ := RdL.form (or0_5)
  subst hv_
  have rd11_ := Lib.hid or0_0
  clear or0_0
  have rd12_ := Lib.hid or0_1
  clear or0_1
  have rd13_ := Lib.hid or0_2
  clear or0_2
  have rd14_ := Lib.hid or0_3
  clear or0_3
  have rd15_ := Lib.hid or0_4
  clear or0_4
  have rd16_ := Lib.hid or0_5
  clear or0_5
  have qG17_ := Lib.hid (gby_refl w3 none)
  have al : (w3).grownBy ((w3).alloc (.cells #[(.slice wr0_0p wr0_0n wr0_0c), (.slice wr0_1p wr0_1n wr0_1c), (.slice wr0_2p wr0_2n wr0_2c), (.slice wr0_3p wr0_3n wr0_3c), (.slice wr0_4p wr0_4n wr0_4c), (.slice wr0_5p wr0_5n wr0_5c)] 73)) none := gby_alloc (gby_refl _ _) _
  have zs4 := World.grownBy.size al
  try simp only [World.size_alloc] at zs4
  have rA018_ := Lib.hid (show ((w3.alloc (.cells #[(.slice wr0_0p wr0_0n wr0_0c), (.slice wr0_1p wr0_1n wr0_1c), (.slice wr0_2p wr0_2n wr0_2c), (.slice wr0_3p wr0_3n wr0_3c), (.slice wr0_4p wr0_4n wr0_4c), (.slice wr0_5p wr0_5n wr0_5c)] 73))).heap[W.heap.size]? = some (.cells #[a0_0, a0_1] 50 (0, 0)) from row_held al rA08_.out)
  clear rA08_
  have oT119_ := Lib.hid (show OwU ((w3.alloc (.cells #[(.slice wr0_0p wr0_0n wr0_0c), (.slice wr0_1p wr0_1n wr0_1c), (.slice wr0_2p wr0_2n wr0_2c), (.slice wr0_3p wr0_3n wr0_3c), (.slice wr0_4p wr0_4n wr0_4c), (.slice wr0_5p wr0_5n wr0_5c)] 73))) (w1.heap.size) (w2.heap.size) [] [own shI (.slice t10_0p t10_0n t10_0c) xs0_0, own shI (.slice t10_1p t10_1n t10_1c) xs0_1] from OwU.grow oT19_.out al)
  clear oT19_
  have G20_ := Lib.hid (show (W).grownBy ((w3.alloc (.cells #[(.slice wr0_0p wr0_0n wr0_0c), (.slice wr0_1p wr0_1n wr0_1c), (.slice wr0_2p wr0_2n wr0_2c), (.slice wr0_3p wr0_3n wr0_3c), (.slice wr0_4p wr0_4n wr0_4c), (.slice wr0_5p wr0_5n wr0_5c)] 73))) none from gby_trans G10_.out al)
  have qw21_ := Lib.hid (show (w3).grownBy ((w3.alloc (.cells #[(.slice wr0_0p wr0_0n wr0_0c), (.slice wr0_1p wr0_1n wr0_1c), (.slice wr0_2p wr0_2n wr0_2c), (.slice wr0_3p wr0_3n wr0_3c), (.slice wr0_4p wr0_4n wr0_4c), (.slice wr0_5p wr0_5n wr0_5c)] 73))) none from gby_trans qG17_.out al)
  clear qG17_
  have rBw022_ := Lib.hid (show ((w3.alloc (.cells #[(.slice wr0_0p wr0_0n wr0_0c), (.slice wr0_1p wr0_1n wr0_1c), (.slice wr0_2p wr0_2n wr0_2c), (.slice wr0_3p wr0_3n wr0_3c), (.slice wr0_4p wr0_4n wr0_4c), (.slice wr0_5p wr0_5n wr0_5c)] 73))).heap[w3.heap.size]? = some (.cells #[(.slice wr0_0p wr0_0n wr0_0c), (.slice wr0_1p wr0_1n wr0_1c), (.slice wr0_2p wr0_2n wr0_2c), (.slice wr0_3p wr0_3n wr0_3c), (.slice wr0_4p wr0_4n wr0_4c), (.slice wr0_5p wr0_5n wr0_5c)] 73 (0, 0)) from heap_alloc_new _ _)
  clear al
  clear oT119_
  have A0_0_ : ((w3.alloc (.cells #[(.slice wr0_0p wr0_0n wr0_0c), (.slice wr0_1p wr0_1n wr0_1c), (.slice wr0_2p wr0_2n wr0_2c), (.slice wr0_3p wr0_3n wr0_3c), (.slice wr0_4p wr0_4n wr0_4c), (.slice wr0_5p wr0_5n wr0_5c)] 73))).cell? ⟨W.heap.size, 0, none⟩ = some (a0_0) := cell_of_row _ _ 0 _ _ _ rA018_.out
  have A0_1_ : ((w3.alloc (.cells #[(.slice wr0_0p wr0_0n wr0_0c), (.slice wr0_1p wr0_1n wr0_1c), (.slice wr0_2p wr0_2n wr0_2c), (.slice wr0_3p wr0_3n wr0_3c), (.slice wr0_4p wr0_4n wr0_4c), (.slice wr0_5p wr0_5n wr0_5c)] 73))).cell? ⟨W.heap.size, 1, none⟩ = some (a0_1) := cell_of_row _ _ 1 _ _ _ rA018_.out
  go_wp2_with fail
  go_at_call 35
  refine (toCredits_d _ a0_0 a0_1 xs0_0 xs0_1 (HI0_0.out.grow G20_.out) hl0_0 (HI0_1.out.grow G20_.out) hl0_1).mono ?_
  rintro e w4 ⟨x00_0, x00_1, rfl, o, g⟩
  have sz_ := g.size
  try simp only [World.size_alloc] at sz_
  try simp only [World.size_alloc] at o
  have zs5 := World.grownBy.size g
  try simp only [World.size_alloc] at zs5
  clear A0_0_ A0_1_
  have rA023_ := Lib.hid (show (w4).heap[W.heap.size]? = some (.cells #[a0_0, a0_1] 50 (0, 0)) from row_held g rA018_.out)
  clear rA018_
  have rBw024_ := Lib.hid (show (w4).heap[w3.heap.size]? = some (.cells #[(.slice wr0_0p wr0_0n wr0_0c), (.slice wr0_1p wr0_1n wr0_1c), (.slice wr0_2p wr0_2n wr0_2c), (.slice wr0_3p wr0_3n wr0_3c), (.slice wr0_4p wr0_4n wr0_4c), (.slice wr0_5p wr0_5n wr0_5c)] 73 (0, 0)) from row_held g rBw022_.out)
  clear rBw022_
  have G25_ := Lib.hid (show (W).grownBy (w4) none from gby_trans G20_.out g)
  have qw26_ := Lib.hid (show (w3).grownBy (w4) none from gby_trans qw21_.out g)
  clear qw21_
  clear g
  have szw4 := sz_
  clear sz_
  obtain ⟨x00_0p, x00_0n, x00_0c, hv_⟩ := RdL.form (OwU.rd o)
  subst hv_
  obtain ⟨x00_1p, x00_1n, x00_1c, hv_⟩ := RdL.form (OwU.rd (OwU.tail o))
  subst hv_
  have ox027_ := Lib.hid (show OwU (w4) (w3.heap.size + 1) (w4.heap.size) [] [own shI (.slice x00_0p x00_0n x00_0c) xs0_0, own shI (.slice x00_1p x00_1n x00_1c) xs0_1] from o)
  clear o
  try unfold vCredits
  have al : (w4).grownBy ((w4).alloc (.cells #[(.slice x00_0p x00_0n x00_0c), (.slice x00_1p x00_1n x00_1c)] 54)) none := gby_alloc (gby_refl _ _) _
  have zs6 := World.grownBy.size al
  try simp only [World.size_alloc] at zs6
  have rA028_ := Lib.hid (show ((w4.alloc (.cells #[(.slice x00_0p x00_0n x00_0c), (.slice x00_1p x00_1n x00_1c)] 54))).heap[W.heap.size]? = some (.cells #[a0_0, a0_1] 50 (0, 0)) from row_held al rA023_.out)
  clear rA023_
  have rBw029_ := Lib.hid (show ((w4.alloc (.cells #[(.slice x00_0p x00_0n x00_0c), (.slice x00_1p x00_1n x00_1c)] 54))).heap[w3.heap.size]? = some (.cells #[(.slice wr0_0p wr0_0n wr0_0c), (.slice wr0_1p wr0_1n wr0_1c), (.slice wr0_2p wr0_2n wr0_2c), (.slice wr0_3p wr0_3n wr0_3c), (.slice wr0_4p wr0_4n wr0_4c), (.slice wr0_5p wr0_5n wr0_5c)] 73 (0, 0)) from row_held al rBw024_.out)
  clear rBw024_
  have ox030_ := Lib.hid (show OwU ((w4.alloc (.cells #[(.slice x00_0p x00_0n x00_0c), (.slice x00_1p x00_1n x00_1c)] 54))) (w3.heap.size + 1) (w4.heap.size) [] [own shI (.slice x00_0p x00_0n x00_0c) xs0_0, own shI (.slice x00_1p x00_1n x00_1c) xs0_1] from OwU.grow ox027_.out al)
  clear ox027_
  have G31_ := Lib.hid (show (W).grownBy ((w4.alloc (.cells #[(.slice x00_0p x00_0n x00_0c), (.slice x00_1p x00_1n x00_1c)] 54))) none from gby_trans G25_.out al)
  have qw32_ := Lib.hid (show (w3).grownBy ((w4.alloc (.cells #[(.slice x00_0p x00_0n x00_0c), (.slice x00_1p x00_1n x00_1c)] 54))) none from gby_trans qw26_.out al)
  clear qw26_
  have rBx033_ := Lib.hid (show ((w4.alloc (.cells #[(.slice x00_0p x00_0n x00_0c), (.slice x00_1p x00_1n x00_1c)] 54))).heap[w4.heap.size]? = some (.cells #[(.slice x00_0p x00_0n x00_0c), (.slice x00_1p x00_1n x00_1c)] 54 (0, 0)) from heap_alloc_new _ _)
  clear al
  have Bx0_0_ : ((w4.alloc (.cells #[(.slice x00_0p x00_0n x00_0c), (.slice x00_1p x00_1n x00_1c)] 54))).cell? ⟨w4.heap.size, 0, none⟩ = some ((.slice x00_0p x00_0n x00_0c)) := cell_of_row _ _ 0 _ _ _ rBx033_.out
  have Bx0_1_ : ((w4.alloc (.cells #[(.slice x00_0p x00_0n x00_0c), (.slice x00_1p x00_1n x00_1c)] 54))).cell? ⟨w4.heap.size, 1, none⟩ = some ((.slice x00_1p x00_1n x00_1c)) := cell_of_row _ _ 1 _ _ _ rBx033_.out
  go_wp2_with fail
  go_at_call 55
  refine (HM.out _ (.slice x00_0p x00_0n x00_0c) (.slice x00_1p x00_1n x00_1c) (OwU.rd ox030_.out) (OwU.rd (OwU.tail ox030_.out))).mono ?_
  rintro e w5 ⟨gr0_0, gr0_1, gr0_2, gr0_3, gr0_4, gr0_5, rfl, o, g⟩
  have sz_ := g.size
  try simp only [World.size_alloc] at sz_
  try simp only [World.size_alloc] at o
  have zs7 := World.grownBy.size g
  try simp only [World.size_alloc] at zs7
  clear Bx0_0_ Bx0_1_
  have rA034_ := Lib.hid (show (w5).heap[W.heap.size]? = some (.cells #[a0_0, a0_1] 50 (0, 0)) from row_held g rA028_.out)
  clear rA028_
  have rBw035_ := Lib.hid (show (w5).heap[w3.heap.size]? = some (.cells #[(.slice wr0_0p wr0_0n wr0_0c), (.slice wr0_1p wr0_1n wr0_1c), (.slice wr0_2p wr0_2n wr0_2c), (.slice wr0_3p wr0_3n wr0_3c), (.slice wr0_4p wr0_4n wr0_4c), (.slice wr0_5p wr0_5n wr0_5c)] 73 (0, 0)) from row_held g rBw029_.out)
  clear rBw029_
  have rBx036_ := Lib.hid (show (w5).heap[w4.heap.size]? = some (.cells #[(.slice x00_0p x00_0n x00_0c), (.slice x00_1p x00_1n x00_1c)] 54 (0, 0)) from row_held g rBx033_.out)
  clear rBx033_
  have ox037_ := Lib.hid (show OwU (w5) (w3.heap.size + 1) (w4.heap.size) [] [own shI (.slice x00_0p x00_0n x00_0c) xs0_0, own shI (.slice x00_1p x00_1n x00_1c) xs0_1] from OwU.grow ox030_.out g)
  clear ox030_
  have G38_ := Lib.hid (show (W).grownBy (w5) none from gby_trans G31_.out g)
  have qw39_ := Lib.hid (show (w3).grownBy (w5) none from gby_trans qw32_.out g)
  clear qw32_
  clear g
  have szw5 := sz_
  clear sz_
  obtain ⟨gr0_0p, gr0_0n, gr0_0c, hv_⟩ := RdL.form (OwU.rd o)
  subst hv_
  obtain ⟨gr0_1p, gr0_1n, gr0_1c, hv_⟩ := RdL.form (OwU.rd (OwU.tail o))
  subst hv_
  obtain ⟨gr0_2p, gr0_2n, gr0_2c, hv_⟩ := RdL.form (OwU.rd (OwU.tail (OwU.tail o)))
  subst hv_
  obtain ⟨gr0_3p, gr0_3n, gr0_3c, hv_⟩ := RdL.form (OwU.rd (OwU.tail (OwU.tail (OwU.tail o))))
  subst hv_
  obtain ⟨gr0_4p, gr0_4n, gr0_4c, hv_⟩ := RdL.form (OwU.rd (OwU.tail (OwU.tail (OwU.tail (OwU.tail o)))))
  subst hv_
  obtain ⟨gr0_5p, gr0_5n, gr0_5c, hv_⟩ := RdL.form (OwU.rd (OwU.tail (OwU.tail (OwU.tail (OwU.tail (OwU.tail o))))))
  subst hv_
  have og40_ := Lib.hid (show OwU (w5) (w4.heap.size + 1) (w5.heap.size) [] [own shI (.slice gr0_0p gr0_0n gr0_0c) xsr0_0, own shI (.slice gr0_1p gr0_1n gr0_1c) xsr0_1, own shI (.slice gr0_2p gr0_2n gr0_2c) xsr0_2, own shI (.slice gr0_3p gr0_3n gr0_3c) xsr0_3, own shPacket (.slice gr0_4p gr0_4n gr0_4c) xsr0_4, own shPacket (.slice gr0_5p gr0_5n gr0_5c) xsr0_5] from o)
  clear o
  have al : (w5).grownBy ((w5).alloc (.cells #[(.slice gr0_0p gr0_0n gr0_0c), (.slice gr0_1p gr0_1n gr0_1c), (.slice gr0_2p gr0_2n gr0_2c), (.slice gr0_3p gr0_3n gr0_3c), (.slice gr0_4p gr0_4n gr0_4c), (.slice gr0_5p gr0_5n gr0_5c)] 73)) none := gby_alloc (gby_refl _ _) _
  have zs8 := World.grownBy.size al
  try simp only [World.size_alloc] at zs8
  have rA041_ := Lib.hid (show ((w5.alloc (.cells #[(.slice gr0_0p gr0_0n gr0_0c), (.slice gr0_1p gr0_1n gr0_1c), (.slice gr0_2p gr0_2n gr0_2c), (.slice gr0_3p gr0_3n gr0_3c), (.slice gr0_4p gr0_4n gr0_4c), (.slice gr0_5p gr0_5n gr0_5c)] 73))).heap[W.heap.size]? = some (.cells #[a0_0, a0_1] 50 (0, 0)) from row_held al rA034_.out)
  clear rA034_
  have rBw042_ := Lib.hid (show ((w5.alloc (.cells #[(.slice gr0_0p gr0_0n gr0_0c), (.slice gr0_1p gr0_1n gr0_1c), (.slice gr0_2p gr0_2n gr0_2c), (.slice gr0_3p gr0_3n gr0_3c), (.slice gr0_4p gr0_4n gr0_4c), (.slice gr0_5p gr0_5n gr0_5c)] 73))).heap[w3.heap.size]? = some (.cells #[(.slice wr0_0p wr0_0n wr0_0c), (.slice wr0_1p wr0_1n wr0_1c), (.slice wr0_2p wr0_2n wr0_2c), (.slice wr0_3p wr0_3n wr0_3c), (.slice wr0_4p wr0_4n wr0_4c), (.slice wr0_5p wr0_5n wr0_5c)] 73 (0, 0)) from row_held al rBw035_.out)
  clear rBw035_
  have rBx043_ := Lib.hid (show ((w5.alloc (.cells #[(.slice gr0_0p gr0_0n gr0_0c), (.slice gr0_1p gr0_1n gr0_1c), (.slice gr0_2p gr0_2n gr0_2c), (.slice gr0_3p gr0_3n gr0_3c), (.slice gr0_4p gr0_4n gr0_4c), (.slice gr0_5p gr0_5n gr0_5c)] 73))).heap[w4.heap.size]? = some (.cells #[(.slice x00_0p x00_0n x00_0c), (.slice x00_1p x00_1n x00_1c)] 54 (0, 0)) from row_held al rBx036_.out)
  clear rBx036_
  have ox044_ := Lib.hid (show OwU ((w5.alloc (.cells #[(.slice gr0_0p gr0_0n gr0_0c), (.slice gr0_1p gr0_1n gr0_1c), (.slice gr0_2p gr0_2n gr0_2c), (.slice gr0_3p gr0_3n gr0_3c), (.slice gr0_4p gr0_4n gr0_4c), (.slice gr0_5p gr0_5n gr0_5c)] 73))) (w3.heap.size + 1) (w4.heap.size) [] [own shI (.slice x00_0p x00_0n x00_0c) xs0_0, own shI (.slice x00_1p x00_1n x00_1c) xs0_1] from OwU.grow ox037_.out al)
  clear ox037_
  have og45_ := Lib.hid (show OwU ((w5.alloc (.cells #[(.slice gr0_0p gr0_0n gr0_0c), (.slice gr0_1p gr0_1n gr0_1c), (.slice gr0_2p gr0_2n gr0_2c), (.slice gr0_3p gr0_3n gr0_3c), (.slice gr0_4p gr0_4n gr0_4c), (.slice gr0_5p gr0_5n gr0_5c)] 73))) (w4.heap.size + 1) (w5.heap.size) [] [own shI (.slice gr0_0p gr0_0n gr0_0c) xsr0_0, own shI (.slice gr0_1p gr0_1n gr0_1c) xsr0_1, own shI (.slice gr0_2p gr0_2n gr0_2c) xsr0_2, own shI (.slice gr0_3p gr0_3n gr0_3c) xsr0_3, own shPacket (.slice gr0_4p gr0_4n gr0_4c) xsr0_4, own shPacket (.slice gr0_5p gr0_5n gr0_5c) xsr0_5] from OwU.grow og40_.out al)
  clear og40_
  have G46_ := Lib.hid (show (W).grownBy ((w5.alloc (.cells #[(.slice gr0_0p gr0_0n gr0_0c), (.slice gr0_1p gr0_1n gr0_1c), (.slice gr0_2p gr0_2n gr0_2c), (.slice gr0_3p gr0_3n gr0_3c), (.slice gr0_4p gr0_4n gr0_4c), (.slice gr0_5p gr0_5n gr0_5c)] 73))) none from gby_trans G38_.out al)
  have qw47_ := Lib.hid (show (w3).grownBy ((w5.alloc (.cells #[(.slice gr0_0p gr0_0n gr0_0c), (.slice gr0_1p gr0_1n gr0_1c), (.slice gr0_2p gr0_2n gr0_2c), (.slice gr0_3p gr0_3n gr0_3c), (.slice gr0_4p gr0_4n gr0_4c), (.slice gr0_5p gr0_5n gr0_5c)] 73))) none from gby_trans qw39_.out al)
  clear qw39_
  have rBg048_ := Lib.hid (show ((w5.alloc (.cells #[(.slice gr0_0p gr0_0n gr0_0c), (.slice gr0_1p gr0_1n gr0_1c), (.slice gr0_2p gr0_2n gr0_2c), (.slice gr0_3p gr0_3n gr0_3c), (.slice gr0_4p gr0_4n gr0_4c), (.slice gr0_5p gr0_5n gr0_5c)] 73))).heap[w5.heap.size]? = some (.cells #[(.slice gr0_0p gr0_0n gr0_0c), (.slice gr0_1p gr0_1n gr0_1c), (.slice gr0_2p gr0_2n gr0_2c), (.slice gr0_3p gr0_3n gr0_3c), (.slice gr0_4p gr0_4n gr0_4c), (.slice gr0_5p gr0_5n gr0_5c)] 73 (0, 0)) from heap_alloc_new _ _)
  clear al
  have Bg0_0_ : ((w5.alloc (.cells #[(.slice gr0_0p gr0_0n gr0_0c), (.slice gr0_1p gr0_1n gr0_1c), (.slice gr0_2p gr0_2n gr0_2c), (.slice gr0_3p gr0_3n gr0_3c), (.slice gr0_4p gr0_4n gr0_4c), (.slice gr0_5p gr0_5n gr0_5c)] 73))).cell? ⟨w5.heap.size, 0, none⟩ = some ((.slice gr0_0p gr0_0n gr0_0c)) := cell_of_row _ _ 0 _ _ _ rBg048_.out
  have Bg0_1_ : ((w5.alloc (.cells #[(.slice gr0_0p gr0_0n gr0_0c), (.slice gr0_1p gr0_1n gr0_1c), (.slice gr0_2p gr0_2n gr0_2c), (.slice gr0_3p gr0_3n gr0_3c), (.slice gr0_4p gr0_4n gr0_4c), (.slice gr0_5p gr0_5n gr0_5c)] 73))).cell? ⟨w5.heap.size, 1, none⟩ = some ((.slice gr0_1p gr0_1n gr0_1c)) := cell_of_row _ _ 1 _ _ _ rBg048_.out
  have Bg0_2_ : ((w5.alloc (.cells #[(.slice gr0_0p gr0_0n gr0_0c), (.slice gr0_1p gr0_1n gr0_1c), (.slice gr0_2p gr0_2n gr0_2c), (.slice gr0_3p gr0_3n gr0_3c), (.slice gr0_4p gr0_4n gr0_4c), (.slice gr0_5p gr0_5n gr0_5c)] 73))).cell? ⟨w5.heap.size, 2, none⟩ = some ((.slice gr0_2p gr0_2n gr0_2c)) := cell_of_row _ _ 2 _ _ _ rBg048_.out
  have Bg0_3_ : ((w5.alloc (.cells #[(.slice gr0_0p gr0_0n gr0_0c), (.slice gr0_1p gr0_1n gr0_1c), (.slice gr0_2p gr0_2n gr0_2c), (.slice gr0_3p gr0_3n gr0_3c), (.slice gr0_4p gr0_4n gr0_4c), (.slice gr0_5p gr0_5n gr0_5c)] 73))).cell? ⟨w5.heap.size, 3, none⟩ = some ((.slice gr0_3p gr0_3n gr0_3c)) := cell_of_row _ _ 3 _ _ _ rBg048_.out
  have Bg0_4_ : ((w5.alloc (.cells #[(.slice gr0_0p gr0_0n gr0_0c), (.slice gr0_1p gr0_1n gr0_1c), (.slice gr0_2p gr0_2n gr0_2c), (.slice gr0_3p gr0_3n gr0_3c), (.slice gr0_4p gr0_4n gr0_4c), (.slice gr0_5p gr0_5n gr0_5c)] 73))).cell? ⟨w5.heap.size, 4, none⟩ = some ((.slice gr0_4p gr0_4n gr0_4c)) := cell_of_row _ _ 4 _ _ _ rBg048_.out
  have Bg0_5_ : ((w5.alloc (.cells #[(.slice gr0_0p gr0_0n gr0_0c), (.slice gr0_1p gr0_1n gr0_1c), (.slice gr0_2p gr0_2n gr0_2c), (.slice gr0_3p gr0_3n gr0_3c), (.slice gr0_4p gr0_4n gr0_4c), (.slice gr0_5p gr0_5n gr0_5c)] 73))).cell? ⟨w5.heap.size, 5, none⟩ = some ((.slice gr0_5p gr0_5n gr0_5c)) := cell_of_row _ _ 5 _ _ _ rBg048_.out
  have Bw0_0_ : ((w5.alloc (.cells #[(.slice gr0_0p gr0_0n gr0_0c), (.slice gr0_1p gr0_1n gr0_1c), (.slice gr0_2p gr0_2n gr0_2c), (.slice gr0_3p gr0_3n gr0_3c), (.slice gr0_4p gr0_4n gr0_4c), (.slice gr0_5p gr0_5n gr0_5c)] 73))).cell? ⟨w3.heap.size, 0, none⟩ = some ((.slice wr0_0p wr0_0n wr0_0c)) := cell_of_row _ _ 0 _ _ _ rBw042_.out
  have Bw0_1_ : ((w5.alloc (.cells #[(.slice gr0_0p gr0_0n gr0_0c), (.slice gr0_1p gr0_1n gr0_1c), (.slice gr0_2p gr0_2n gr0_2c), (.slice gr0_3p gr0_3n gr0_3c), (.slice gr0_4p gr0_4n gr0_4c), (.slice gr0_5p gr0_5n gr0_5c)] 73))).cell? ⟨w3.heap.size, 1, none⟩ = some ((.slice wr0_1p wr0_1n wr0_1c)) := cell_of_row _ _ 1 _ _ _ rBw042_.out
  have Bw0_2_ : ((w5.alloc (.cells #[(.slice gr0_0p gr0_0n gr0_0c), (.slice gr0_1p gr0_1n gr0_1c), (.slice gr0_2p gr0_2n gr0_2c), (.slice gr0_3p gr0_3n gr0_3c), (.slice gr0_4p gr0_4n gr0_4c), (.slice gr0_5p gr0_5n gr0_5c)] 73))).cell? ⟨w3.heap.size, 2, none⟩ = some ((.slice wr0_2p wr0_2n wr0_2c)) := cell_of_row _ _ 2 _ _ _ rBw042_.out
  have Bw0_3_ : ((w5.alloc (.cells #[(.slice gr0_0p gr0_0n gr0_0c), (.slice gr0_1p gr0_1n gr0_1c), (.slice gr0_2p gr0_2n gr0_2c), (.slice gr0_3p gr0_3n gr0_3c), (.slice gr0_4p gr0_4n gr0_4c), (.slice gr0_5p gr0_5n gr0_5c)] 73))).cell? ⟨w3.heap.size, 3, none⟩ = some ((.slice wr0_3p wr0_3n wr0_3c)) := cell_of_row _ _ 3 _ _ _ rBw042_.out
  have Bw0_4_ : ((w5.alloc (.cells #[(.slice gr0_0p gr0_0n gr0_0c), (.slice gr0_1p gr0_1n gr0_1c), (.slice gr0_2p gr0_2n gr0_2c), (.slice gr0_3p gr0_3n gr0_3c), (.slice gr0_4p gr0_4n gr0_4c), (.slice gr0_5p gr0_5n gr0_5c)] 73))).cell? ⟨w3.heap.size, 4, none⟩ = some ((.slice wr0_4p wr0_4n wr0_4c)) := cell_of_row _ _ 4 _ _ _ rBw042_.out
  have Bw0_5_ : ((w5.alloc (.cells #[(.slice gr0_0p gr0_0n gr0_0c), (.slice gr0_1p gr0_1n gr0_1c), (.slice gr0_2p gr0_2n gr0_2c), (.slice gr0_3p gr0_3n gr0_3c), (.slice gr0_4p gr0_4n gr0_4c), (.slice gr0_5p gr0_5n gr0_5c)] 73))).cell? ⟨w3.heap.size, 5, none⟩ = some ((.slice wr0_5p wr0_5n wr0_5c)) := cell_of_row _ _ 5 _ _ _ rBw042_.out
  go_wp2_with fail
  go_at_call 56
  refine (eqChannel_d _ (.slice gr0_0p gr0_0n gr0_0c) (.slice gr0_1p gr0_1n gr0_1c) (.slice gr0_2p gr0_2n gr0_2c) (.slice gr0_3p gr0_3n gr0_3c) (.slice gr0_4p gr0_4n gr0_4c) (.slice gr0_5p gr0_5n gr0_5c) (.slice wr0_0p wr0_0n wr0_0c) (.slice wr0_1p wr0_1n wr0_1c) (.slice wr0_2p wr0_2n wr0_2c) (.slice wr0_3p wr0_3n wr0_3c) (.slice wr0_4p wr0_4n wr0_4c) (.slice wr0_5p wr0_5n wr0_5c) xsr0_0 xsr0_1 xsr0_2 xsr0_3 xsr0_4 xsr0_5 (OwU.rd og45_.out) (RdL.grow rd11_.out qw47_.out) hLr0_0 (OwU.rd (OwU.tail og45_.out)) (RdL.grow rd12_.out qw47_.out) hLr0_1 (OwU.rd (OwU.tail (OwU.tail og45_.out))) (RdL.grow rd13_.out qw47_.out) hLr0_2 (OwU.rd (OwU.tail (OwU.tail (OwU.tail og45_.out)))) (RdL.grow rd14_.out qw47_.out) hLr0_3 (OwU.rd (OwU.tail (OwU.tail (OwU.tail (OwU.tail og45_.out))))) (RdL.grow rd15_.out qw47_.out) hLr0_4 (OwU.rd (OwU.tail (OwU.tail (OwU.tail (OwU.tail (OwU.tail og45_.out)))))) (RdL.grow rd16_.out qw47_.out) hLr0_5).mono ?_
  rintro e w6 ⟨rfl, g⟩
  have zs9 := World.grownBy.size g
  try simp only [World.size_alloc] at zs9
  clear Bg0_0_ Bg0_1_ Bg0_2_ Bg0_3_ Bg0_4_ Bg0_5_ Bw0_0_ Bw0_1_ Bw0_2_ Bw0_3_ Bw0_4_ Bw0_5_
  have rA049_ := Lib.hid (show (w6).heap[W.heap.size]? = some (.cells #[a0_0, a0_1] 50 (0, 0)) from row_held g rA041_.out)
  clear rA041_
  have rBw050_ := Lib.hid (show (w6).heap[w3.heap.size]? = some (.cells #[(.slice wr0_0p wr0_0n wr0_0c), (.slice wr0_1p wr0_1n wr0_1c), (.slice wr0_2p wr0_2n wr0_2c), (.slice wr0_3p wr0_3n wr0_3c), (.slice wr0_4p wr0_4n wr0_4c), (.slice wr0_5p wr0_5n wr0_5c)] 73 (0, 0)) from row_held g rBw042_.out)
  clear rBw042_
  have rBx051_ := Lib.hid (show (w6).heap[w4.heap.size]? = some (.cells #[(.slice x00_0p x00_0n x00_0c), (.slice x00_1p x00_1n x00_1c)] 54 (0, 0)) from row_held g rBx043_.out)
  clear rBx043_
  have rBg052_ := Lib.hid (show (w6).heap[w5.heap.size]? = some (.cells #[(.slice gr0_0p gr0_0n gr0_0c), (.slice gr0_1p gr0_1n gr0_1c), (.slice gr0_2p gr0_2n gr0_2c), (.slice gr0_3p gr0_3n gr0_3c), (.slice gr0_4p gr0_4n gr0_4c), (.slice gr0_5p gr0_5n gr0_5c)] 73 (0, 0)) from row_held g rBg048_.out)
  clear rBg048_
  have ox053_ := Lib.hid (show OwU (w6) (w3.heap.size + 1) (w4.heap.size) [] [own shI (.slice x00_0p x00_0n x00_0c) xs0_0, own shI (.slice x00_1p x00_1n x00_1c) xs0_1] from OwU.grow ox044_.out g)
  clear ox044_
  have og54_ := Lib.hid (show OwU (w6) (w4.heap.size + 1) (w5.heap.size) [] [own shI (.slice gr0_0p gr0_0n gr0_0c) xsr0_0, own shI (.slice gr0_1p gr0_1n gr0_1c) xsr0_1, own shI (.slice gr0_2p gr0_2n gr0_2c) xsr0_2, own shI (.slice gr0_3p gr0_3n gr0_3c) xsr0_3, own shPacket (.slice gr0_4p gr0_4n gr0_4c) xsr0_4, own shPacket (.slice gr0_5p gr0_5n gr0_5c) xsr0_5] from OwU.grow og45_.out g)
  clear og45_
  have G55_ := Lib.hid (show (W).grownBy (w6) none from gby_trans G46_.out g)
  have qw56_ := Lib.hid (show (w3).grownBy (w6) none from gby_trans qw47_.out g)
  clear qw47_
  clear g
  have A0_0_ : (w6).cell? ⟨W.heap.size, 0, none⟩ = some (a0_0) := cell_of_row _ _ 0 _ _ _ rA049_.out
  have A0_1_ : (w6).cell? ⟨W.heap.size, 1, none⟩ = some (a0_1) := cell_of_row _ _ 1 _ _ _ rA049_.out
  have Bx0_0_ : (w6).cell? ⟨w4.heap.size, 0, none⟩ = some ((.slice x00_0p x00_0n x00_0c)) := cell_of_row _ _ 0 _ _ _ rBx051_.out
  have Bx0_1_ : (w6).cell? ⟨w4.heap.size, 1, none⟩ = some ((.slice x00_1p x00_1n x00_1c)) := cell_of_row _ _ 1 _ _ _ rBx051_.out
  go_wp2_with fail
  go_region_held3 (fun w' => w'.cell? ⟨W.heap.size, 0, none⟩ = some (a0_0) ∧ w'.cell? ⟨W.heap.size, 1, none⟩ = some (a0_1) ∧ w'.cell? ⟨w4.heap.size, 0, none⟩ = some ((.slice x00_0p x00_0n x00_0c)) ∧ w'.cell? ⟨w4.heap.size, 1, none⟩ = some ((.slice x00_1p x00_1n x00_1c)))
    (first
      | exact ⟨A0_0_, A0_1_, Bx0_0_, Bx0_1_⟩
      | exact ⟨(gT.cell A0_0_ (by simp)), (gT.cell A0_1_ (by simp)), (gT.cell Bx0_0_ (by simp)), (gT.cell Bx0_1_ (by simp))⟩
      | exact ⟨(gE.cell (gT.cell A0_0_ (by simp)) (by simp)), (gE.cell (gT.cell A0_1_ (by simp)) (by simp)), (gE.cell (gT.cell Bx0_0_ (by simp)) (by simp)), (gE.cell (gT.cell Bx0_1_ (by simp)) (by simp))⟩)
    (first
      | (go_at_call 35; refine (toCredits_d _ a0_0 a0_1 xs0_0 xs0_1 (HI0_0.out.grow (gby_drew G55_.out)) hl0_0 (HI0_1.out.grow (gby_drew G55_.out)) hl0_1).mono ?_; rintro e wT1 ⟨t20_0, t20_1, rfl, oT, gT⟩; obtain ⟨t20_0p, t20_0n, t20_0c, hv_⟩ := RdL.form ((OwU.rd oT)); subst hv_; obtain ⟨t20_1p, t20_1n, t20_1c, hv_⟩ := RdL.form ((OwU.rd (OwU.tail oT))); subst hv_; try unfold vCredits)
      | (go_at_call 38; refine (eqCredits_d _ (.slice x00_0p x00_0n x00_0c) (.slice x00_1p x00_1n x00_1c) (.slice t20_0p t20_0n t20_0c) (.slice t20_1p t20_1n t20_1c) xs0_0 xs0_1 (RdL.grow (RdL.grow (OwU.rd ox053_.out) (gby_drew (gby_refl _ _))) gT) (OwU.rd oT) hl0_0 (RdL.grow (RdL.grow (OwU.rd (OwU.tail ox053_.out)) (gby_drew (gby_refl _ _))) gT) (OwU.rd (OwU.tail oT)) hl0_1).mono ?_; rintro e wE1 ⟨rfl, gE⟩))
  all_goals
    have g : (w6).grownBy wE1 none := gby_trans (gby_trans (gby_drew (gby_refl _ _)) gT) gE
    clear gT gE oT
    clear A0_0_ A0_1_ Bx0_0_ Bx0_1_
    have zs10 := World.grownBy.size g
    try simp only [World.size_alloc] at zs10
    have rA057_ := Lib.hid (show (wE1).heap[W.heap.size]? = some (.cells #[a0_0, a0_1] 50 (0, 0)) from row_held g rA049_.out)
    clear rA049_
    have rBw058_ := Lib.hid (show (wE1).heap[w3.heap.size]? = some (.cells #[(.slice wr0_0p wr0_0n wr0_0c), (.slice wr0_1p wr0_1n wr0_1c), (.slice wr0_2p wr0_2n wr0_2c), (.slice wr0_3p wr0_3n wr0_3c), (.slice wr0_4p wr0_4n wr0_4c), (.slice wr0_5p wr0_5n wr0_5c)] 73 (0, 0)) from row_held g rBw050_.out)
    clear rBw050_
    have rBx059_ := Lib.hid (show (wE1).heap[w4.heap.size]? = some (.cells #[(.slice x00_0p x00_0n x00_0c), (.slice x00_1p x00_1n x00_1c)] 54 (0, 0)) from row_held g rBx051_.out)
    clear rBx051_
    have rBg060_ := Lib.hid (show (wE1).heap[w5.heap.size]? = some (.cells #[(.slice gr0_0p gr0_0n gr0_0c), (.slice gr0_1p gr0_1n gr0_1c), (.slice gr0_2p gr0_2n gr0_2c), (.slice gr0_3p gr0_3n gr0_3c), (.slice gr0_4p gr0_4n gr0_4c), (.slice gr0_5p gr0_5n gr0_5c)] 73 (0, 0)) from row_held g rBg052_.out)
    clear rBg052_
    have ox061_ := Lib.hid (show OwU (wE1) (w3.heap.size + 1) (w4.heap.size) [] [own shI (.slice x00_0p x00_0n x00_0c) xs0_0, own shI (.slice x00_1p x00_1n x00_1c) xs0_1] from OwU.grow ox053_.out g)
    clear ox053_
    have og62_ := Lib.hid (show OwU (wE1) (w4.heap.size + 1) (w5.heap.size) [] [own shI (.slice gr0_0p gr0_0n gr0_0c) xsr0_0, own shI (.slice gr0_1p gr0_1n gr0_1c) xsr0_1, own shI (.slice gr0_2p gr0_2n gr0_2c) xsr0_2, own shI (.slice gr0_3p gr0_3n gr0_3c) xsr0_3, own shPacket (.slice gr0_4p gr0_4n gr0_4c) xsr0_4, own shPacket (.slice gr0_5p gr0_5n gr0_5c) xsr0_5] from OwU.grow og54_.out g)
    clear og54_
    have G63_ := Lib.hid (show (W).grownBy (wE1) none from gby_trans G55_.out g)
    have qw64_ := Lib.hid (show (w3).grownBy (wE1) none from gby_trans qw56_.out g)
    clear qw56_
    clear g
    have Bx0_0_ : (wE1).cell? ⟨w4.heap.size, 0, none⟩ = some ((.slice x00_0p x00_0n x00_0c)) := cell_of_row _ _ 0 _ _ _ rBx059_.out
    have Bx0_1_ : (wE1).cell? ⟨w4.heap.size, 1, none⟩ = some ((.slice x00_1p x00_1n x00_1c)) := cell_of_row _ _ 1 _ _ _ rBx059_.out
    go_wp2_with fail
    go_at_call 39
    refine (markCredits_d _ (w3.heap.size + 1) (w4.heap.size) (1) (.slice x00_0p x00_0n x00_0c) (.slice x00_1p x00_1n x00_1c) xs0_0 xs0_1 [] [] ox061_.out (by first | omega | (simp only [World.size_alloc]; omega)) hl0_0 hl0_1 (by omega)).mono ?_
    rintro e w7 ⟨rfl, o, c⟩
    clear Bx0_0_ Bx0_1_
    have szw7 := c.size
    try simp only [World.size_alloc] at szw7
    have rA065_ := Lib.hid (show (w7).heap[W.heap.size]? = some (.cells #[a0_0, a0_1] 50 (0, 0)) from Chg.keep c rA057_.out (by omega))
    clear rA057_
    have rBw066_ := Lib.hid (show (w7).heap[w3.heap.size]? = some (.cells #[(.slice wr0_0p wr0_0n wr0_0c), (.slice wr0_1p wr0_1n wr0_1c), (.slice wr0_2p wr0_2n wr0_2c), (.slice wr0_3p wr0_3n wr0_3c), (.slice wr0_4p wr0_4n wr0_4c), (.slice wr0_5p wr0_5n wr0_5c)] 73 (0, 0)) from Chg.keep c rBw058_.out (by omega))
    clear rBw058_
    have rBx067_ := Lib.hid (show (w7).heap[w4.heap.size]? = some (.cells #[(.slice x00_0p x00_0n x00_0c), (.slice x00_1p x00_1n x00_1c)] 54 (0, 0)) from Chg.keep c rBx059_.out (by omega))
    clear rBx059_
    have rBg068_ := Lib.hid (show (w7).heap[w5.heap.size]? = some (.cells #[(.slice gr0_0p gr0_0n gr0_0c), (.slice gr0_1p gr0_1n gr0_1c), (.slice gr0_2p gr0_2n gr0_2c), (.slice gr0_3p gr0_3n gr0_3c), (.slice gr0_4p gr0_4n gr0_4c), (.slice gr0_5p gr0_5n gr0_5c)] 73 (0, 0)) from Chg.keep c rBg060_.out (by omega))
    clear rBg060_
    have og69_ := Lib.hid (show OwU (w7) (w4.heap.size + 1) (w5.heap.size) [] [own shI (.slice gr0_0p gr0_0n gr0_0c) xsr0_0, own shI (.slice gr0_1p gr0_1n gr0_1c) xsr0_1, own shI (.slice gr0_2p gr0_2n gr0_2c) xsr0_2, own shI (.slice gr0_3p gr0_3n gr0_3c) xsr0_3, own shPacket (.slice gr0_4p gr0_4n gr0_4c) xsr0_4, own shPacket (.slice gr0_5p gr0_5n gr0_5c) xsr0_5] from OwU.keep c (by omega) og62_.out)
    clear og62_
    have G70_ := Lib.hid (show (W).grownBy (w7) none from gby_chg G63_.out c (by omega))
    have qw71_ := Lib.hid (show (w3).grownBy (w7) none from gby_chg qw64_.out c (by omega))
    clear qw64_
    have ox072_ := Lib.hid (show OwU (w7) (w3.heap.size + 1) (w4.heap.size) [] [own shI (.slice x00_0p x00_0n x00_0c) (emL shI (1) xs0_0), own shI (.slice x00_1p x00_1n x00_1c) (emL shI (1 + ecL shI xs0_0) xs0_1)] from o)
    clear ox061_ o c
    have Bg0_0_ : (w7).cell? ⟨w5.heap.size, 0, none⟩ = some ((.slice gr0_0p gr0_0n gr0_0c)) := cell_of_row _ _ 0 _ _ _ rBg068_.out
    have Bg0_1_ : (w7).cell? ⟨w5.heap.size, 1, none⟩ = some ((.slice gr0_1p gr0_1n gr0_1c)) := cell_of_row _ _ 1 _ _ _ rBg068_.out
    have Bg0_2_ : (w7).cell? ⟨w5.heap.size, 2, none⟩ = some ((.slice gr0_2p gr0_2n gr0_2c)) := cell_of_row _ _ 2 _ _ _ rBg068_.out
    have Bg0_3_ : (w7).cell? ⟨w5.heap.size, 3, none⟩ = some ((.slice gr0_3p gr0_3n gr0_3c)) := cell_of_row _ _ 3 _ _ _ rBg068_.out
    have Bg0_4_ : (w7).cell? ⟨w5.heap.size, 4, none⟩ = some ((.slice gr0_4p gr0_4n gr0_4c)) := cell_of_row _ _ 4 _ _ _ rBg068_.out
    have Bg0_5_ : (w7).cell? ⟨w5.heap.size, 5, none⟩ = some ((.slice gr0_5p gr0_5n gr0_5c)) := cell_of_row _ _ 5 _ _ _ rBg068_.out
    have Bw0_0_ : (w7).cell? ⟨w3.heap.size, 0, none⟩ = some ((.slice wr0_0p wr0_0n wr0_0c)) := cell_of_row _ _ 0 _ _ _ rBw066_.out
    have Bw0_1_ : (w7).cell? ⟨w3.heap.size, 1, none⟩ = some ((.slice wr0_1p wr0_1n wr0_1c)) := cell_of_row _ _ 1 _ _ _ rBw066_.out
    have Bw0_2_ : (w7).cell? ⟨w3.heap.size, 2, none⟩ = some ((.slice wr0_2p wr0_2n wr0_2c)) := cell_of_row _ _ 2 _ _ _ rBw066_.out
    have Bw0_3_ : (w7).cell? ⟨w3.heap.size, 3, none⟩ = some ((.slice wr0_3p wr0_3n wr0_3c)) := cell_of_row _ _ 3 _ _ _ rBw066_.out
    have Bw0_4_ : (w7).cell? ⟨w3.heap.size, 4, none⟩ = some ((.slice wr0_4p wr0_4n wr0_4c)) := cell_of_row _ _ 4 _ _ _ rBw066_.out
    have Bw0_5_ : (w7).cell? ⟨w3.heap.size, 5, none⟩ = some ((.slice wr0_5p wr0_5n wr0_5c)) := cell_of_row _ _ 5 _ _ _ rBw066_.out
    go_wp2_with fail
    go_at_call 56
    refine (eqChannel_d _ (.slice gr0_0p gr0_0n gr0_0c) (.slice gr0_1p gr0_1n gr0_1c) (.slice gr0_2p gr0_2n gr0_2c) (.slice gr0_3p gr0_3n gr0_3c) (.slice gr0_4p gr0_4n gr0_4c) (.slice gr0_5p gr0_5n gr0_5c) (.slice wr0_0p wr0_0n wr0_0c) (.slice wr0_1p wr0_1n wr0_1c) (.slice wr0_2p wr0_2n wr0_2c) (.slice wr0_3p wr0_3n wr0_3c) (.slice wr0_4p wr0_4n wr0_4c) (.slice wr0_5p wr0_5n wr0_5c) xsr0_0 xsr0_1 xsr0_2 xsr0_3 xsr0_4 xsr0_5 (OwU.rd og69_.out) (RdL.grow rd11_.out qw71_.out) hLr0_0 (OwU.rd (OwU.tail og69_.out)) (RdL.grow rd12_.out qw71_.out) hLr0_1 (OwU.rd (OwU.tail (OwU.tail og69_.out))) (RdL.grow rd13_.out qw71_.out) hLr0_2 (OwU.rd (OwU.tail (OwU.tail (OwU.tail og69_.out)))) (RdL.grow rd14_.out qw71_.out) hLr0_3 (OwU.rd (OwU.tail (OwU.tail (OwU.tail (OwU.tail og69_.out))))) (RdL.grow rd15_.out qw71_.out) hLr0_4 (OwU.rd (OwU.tail (OwU.tail (OwU.tail (OwU.tail (OwU.tail og69_.out)))))) (RdL.grow rd16_.out qw71_.out) hLr0_5).mono ?_
    rintro e w8 ⟨rfl, g⟩
    have zs11 := World.grownBy.size g
    try simp only [World.size_alloc] at zs11
    clear Bg0_0_ Bg0_1_ Bg0_2_ Bg0_3_ Bg0_4_ Bg0_5_ Bw0_0_ Bw0_1_ Bw0_2_ Bw0_3_ Bw0_4_ Bw0_5_
    have rA073_ := Lib.hid (show (w8).heap[W.heap.size]? = some (.cells #[a0_0, a0_1] 50 (0, 0)) from row_held g rA065_.out)
    clear rA065_
    have rBw074_ := Lib.hid (show (w8).heap[w3.heap.size]? = some (.cells #[(.slice wr0_0p wr0_0n wr0_0c), (.slice wr0_1p wr0_1n wr0_1c), (.slice wr0_2p wr0_2n wr0_2c), (.slice wr0_3p wr0_3n wr0_3c), (.slice wr0_4p wr0_4n wr0_4c), (.slice wr0_5p wr0_5n wr0_5c)] 73 (0, 0)) from row_held g rBw066_.out)
    clear rBw066_
    have rBx075_ := Lib.hid (show (w8).heap[w4.heap.size]? = some (.cells #[(.slice x00_0p x00_0n x00_0c), (.slice x00_1p x00_1n x00_1c)] 54 (0, 0)) from row_held g rBx067_.out)
    clear rBx067_
    have rBg076_ := Lib.hid (show (w8).heap[w5.heap.size]? = some (.cells #[(.slice gr0_0p gr0_0n gr0_0c), (.slice gr0_1p gr0_1n gr0_1c), (.slice gr0_2p gr0_2n gr0_2c), (.slice gr0_3p gr0_3n gr0_3c), (.slice gr0_4p gr0_4n gr0_4c), (.slice gr0_5p gr0_5n gr0_5c)] 73 (0, 0)) from row_held g rBg068_.out)
    clear rBg068_
    have ox077_ := Lib.hid (show OwU (w8) (w3.heap.size + 1) (w4.heap.size) [] [own shI (.slice x00_0p x00_0n x00_0c) (emL shI (1) xs0_0), own shI (.slice x00_1p x00_1n x00_1c) (emL shI (1 + ecL shI xs0_0) xs0_1)] from OwU.grow ox072_.out g)
    clear ox072_
    have og78_ := Lib.hid (show OwU (w8) (w4.heap.size + 1) (w5.heap.size) [] [own shI (.slice gr0_0p gr0_0n gr0_0c) xsr0_0, own shI (.slice gr0_1p gr0_1n gr0_1c) xsr0_1, own shI (.slice gr0_2p gr0_2n gr0_2c) xsr0_2, own shI (.slice gr0_3p gr0_3n gr0_3c) xsr0_3, own shPacket (.slice gr0_4p gr0_4n gr0_4c) xsr0_4, own shPacket (.slice gr0_5p gr0_5n gr0_5c) xsr0_5] from OwU.grow og69_.out g)
    clear og69_
    have G79_ := Lib.hid (show (W).grownBy (w8) none from gby_trans G70_.out g)
    have qw80_ := Lib.hid (show (w3).grownBy (w8) none from gby_trans qw71_.out g)
    clear qw71_
    clear g
    have Bg0_0_ : (w8).cell? ⟨w5.heap.size, 0, none⟩ = some ((.slice gr0_0p gr0_0n gr0_0c)) := cell_of_row _ _ 0 _ _ _ rBg076_.out
    have Bg0_1_ : (w8).cell? ⟨w5.heap.size, 1, none⟩ = some ((.slice gr0_1p gr0_1n gr0_1c)) := cell_of_row _ _ 1 _ _ _ rBg076_.out
    have Bg0_2_ : (w8).cell? ⟨w5.heap.size, 2, none⟩ = some ((.slice gr0_2p gr0_2n gr0_2c)) := cell_of_row _ _ 2 _ _ _ rBg076_.out
    have Bg0_3_ : (w8).cell? ⟨w5.heap.size, 3, none⟩ = some ((.slice gr0_3p gr0_3n gr0_3c)) := cell_of_row _ _ 3 _ _ _ rBg076_.out
    have Bg0_4_ : (w8).cell? ⟨w5.heap.size, 4, none⟩ = some ((.slice gr0_4p gr0_4n gr0_4c)) := cell_of_row _ _ 4 _ _ _ rBg076_.out
    have Bg0_5_ : (w8).cell? ⟨w5.heap.size, 5, none⟩ = some ((.slice gr0_5p gr0_5n gr0_5c)) := cell_of_row _ _ 5 _ _ _ rBg076_.out
    go_wp2_with fail
    go_at_call 57
    refine (markChannel_d _ (w4.heap.size + 1) (w5.heap.size) (1) (.slice gr0_0p gr0_0n gr0_0c) (.slice gr0_1p gr0_1n gr0_1c) (.slice gr0_2p gr0_2n gr0_2c) (.slice gr0_3p gr0_3n gr0_3c) (.slice gr0_4p gr0_4n gr0_4c) (.slice gr0_5p gr0_5n gr0_5c) xsr0_0 xsr0_1 xsr0_2 xsr0_3 xsr0_4 xsr0_5 [] [] og78_.out (by first | omega | (simp only [World.size_alloc]; omega)) hLr0_0 hLr0_1 hLr0_2 hLr0_3 hLr0_4 hLr0_5 (by omega)).mono ?_
    rintro e w9 ⟨rfl, o, c⟩
    clear Bg0_0_ Bg0_1_ Bg0_2_ Bg0_3_ Bg0_4_ Bg0_5_
    have szw9 := c.size
    try simp only [World.size_alloc] at szw9
    have rA081_ := Lib.hid (show (w9).heap[W.heap.size]? = some (.cells #[a0_0, a0_1] 50 (0, 0)) from Chg.keep c rA073_.out (by omega))
    clear rA073_
    have rBw082_ := Lib.hid (show (w9).heap[w3.heap.size]? = some (.cells #[(.slice wr0_0p wr0_0n wr0_0c), (.slice wr0_1p wr0_1n wr0_1c), (.slice wr0_2p wr0_2n wr0_2c), (.slice wr0_3p wr0_3n wr0_3c), (.slice wr0_4p wr0_4n wr0_4c), (.slice wr0_5p wr0_5n wr0_5c)] 73 (0, 0)) from Chg.keep c rBw074_.out (by omega))
    clear rBw074_
    have rBx083_ := Lib.hid (show (w9).heap[w4.heap.size]? = some (.cells #[(.slice x00_0p x00_0n x00_0c), (.slice x00_1p x00_1n x00_1c)] 54 (0, 0)) from Chg.keep c rBx075_.out (by omega))
    clear rBx075_
    have rBg084_ := Lib.hid (show (w9).heap[w5.heap.size]? = some (.cells #[(.slice gr0_0p gr0_0n gr0_0c), (.slice gr0_1p gr0_1n gr0_1c), (.slice gr0_2p gr0_2n gr0_2c), (.slice gr0_3p gr0_3n gr0_3c), (.slice gr0_4p gr0_4n gr0_4c), (.slice gr0_5p gr0_5n gr0_5c)] 73 (0, 0)) from Chg.keep c rBg076_.out (by omega))
    clear rBg076_
    have ox085_ := Lib.hid (show OwU (w9) (w3.heap.size + 1) (w4.heap.size) [] [own shI (.slice x00_0p x00_0n x00_0c) (emL shI (1) xs0_0), own shI (.slice x00_1p x00_1n x00_1c) (emL shI (1 + ecL shI xs0_0) xs0_1)] from OwU.keep c (by omega) ox077_.out)
    clear ox077_
    have G86_ := Lib.hid (show (W).grownBy (w9) none from gby_chg G79_.out c (by omega))
    have qw87_ := Lib.hid (show (w3).grownBy (w9) none from gby_chg qw80_.out c (by omega))
    clear qw80_
    have og88_ := Lib.hid (show OwU (w9) (w4.heap.size + 1) (w5.heap.size) [] [own shI (.slice gr0_0p gr0_0n gr0_0c) (emL shI (1) xsr0_0), own shI (.slice gr0_1p gr0_1n gr0_1c) (emL shI (1 + ecL shI xsr0_0) xsr0_1), own shI (.slice gr0_2p gr0_2n gr0_2c) (emL shI (1 + ecL shI xsr0_0 + ecL shI xsr0_1) xsr0_2), own shI (.slice gr0_3p gr0_3n gr0_3c) (emL shI (1 + ecL shI xsr0_0 + ecL shI xsr0_1 + ecL shI xsr0_2) xsr0_3), own shPacket (.slice gr0_4p gr0_4n gr0_4c) (emL shPacket (1 + ecL shI xsr0_0 + ecL shI xsr0_1 + ecL shI xsr0_2 + ecL shI xsr0_3) xsr0_4), own shPacket (.slice gr0_5p gr0_5n gr0_5c) (emL shPacket (1 + ecL shI xsr0_0 + ecL shI xsr0_1 + ecL shI xsr0_2 + ecL shI xsr0_3 + ecL shPacket xsr0_4) xsr0_5)] from o)
    clear og78_ o c
    have Bg0_0_ : (w9).cell? ⟨w5.heap.size, 0, none⟩ = some ((.slice gr0_0p gr0_0n gr0_0c)) := cell_of_row _ _ 0 _ _ _ rBg084_.out
    have Bg0_1_ : (w9).cell? ⟨w5.heap.size, 1, none⟩ = some ((.slice gr0_1p gr0_1n gr0_1c)) := cell_of_row _ _ 1 _ _ _ rBg084_.out
    have Bg0_2_ : (w9).cell? ⟨w5.heap.size, 2, none⟩ = some ((.slice gr0_2p gr0_2n gr0_2c)) := cell_of_row _ _ 2 _ _ _ rBg084_.out
    have Bg0_3_ : (w9).cell? ⟨w5.heap.size, 3, none⟩ = some ((.slice gr0_3p gr0_3n gr0_3c)) := cell_of_row _ _ 3 _ _ _ rBg084_.out
    have Bg0_4_ : (w9).cell? ⟨w5.heap.size, 4, none⟩ = some ((.slice gr0_4p gr0_4n gr0_4c)) := cell_of_row _ _ 4 _ _ _ rBg084_.out
    have Bg0_5_ : (w9).cell? ⟨w5.heap.size, 5, none⟩ = some ((.slice gr0_5p gr0_5n gr0_5c)) := cell_of_row _ _ 5 _ _ _ rBg084_.out
    go_wp2_with fail
    go_at_call 58
    refine (heldChannel_d _ (1) (.slice gr0_0p gr0_0n gr0_0c) (.slice gr0_1p gr0_1n gr0_1c) (.slice gr0_2p gr0_2n gr0_2c) (.slice gr0_3p gr0_3n gr0_3c) (.slice gr0_4p gr0_4n gr0_4c) (.slice gr0_5p gr0_5n gr0_5c) xsr0_0 xsr0_1 xsr0_2 xsr0_3 xsr0_4 xsr0_5 (OwU.rd og88_.out) (OwU.rd (OwU.tail og88_.out)) (OwU.rd (OwU.tail (OwU.tail og88_.out))) (OwU.rd (OwU.tail (OwU.tail (OwU.tail og88_.out)))) (OwU.rd (OwU.tail (OwU.tail (OwU.tail (OwU.tail og88_.out))))) (OwU.rd (OwU.tail (OwU.tail (OwU.tail (OwU.tail (OwU.tail og88_.out)))))) hLr0_0 hLr0_1 hLr0_2 hLr0_3 hLr0_4 hLr0_5 (by omega)).mono ?_
    rintro e w10 ⟨rfl, g⟩
    have zs12 := World.grownBy.size g
    try simp only [World.size_alloc] at zs12
    clear Bg0_0_ Bg0_1_ Bg0_2_ Bg0_3_ Bg0_4_ Bg0_5_
    have rA089_ := Lib.hid (show (w10).heap[W.heap.size]? = some (.cells #[a0_0, a0_1] 50 (0, 0)) from row_held g rA081_.out)
    clear rA081_
    have rBw090_ := Lib.hid (show (w10).heap[w3.heap.size]? = some (.cells #[(.slice wr0_0p wr0_0n wr0_0c), (.slice wr0_1p wr0_1n wr0_1c), (.slice wr0_2p wr0_2n wr0_2c), (.slice wr0_3p wr0_3n wr0_3c), (.slice wr0_4p wr0_4n wr0_4c), (.slice wr0_5p wr0_5n wr0_5c)] 73 (0, 0)) from row_held g rBw082_.out)
    clear rBw082_
    have rBx091_ := Lib.hid (show (w10).heap[w4.heap.size]? = some (.cells #[(.slice x00_0p x00_0n x00_0c), (.slice x00_1p x00_1n x00_1c)] 54 (0, 0)) from row_held g rBx083_.out)
    clear rBx083_
    have rBg092_ := Lib.hid (show (w10).heap[w5.heap.size]? = some (.cells #[(.slice gr0_0p gr0_0n gr0_0c), (.slice gr0_1p gr0_1n gr0_1c), (.slice gr0_2p gr0_2n gr0_2c), (.slice gr0_3p gr0_3n gr0_3c), (.slice gr0_4p gr0_4n gr0_4c), (.slice gr0_5p gr0_5n gr0_5c)] 73 (0, 0)) from row_held g rBg084_.out)
    clear rBg084_
    have ox093_ := Lib.hid (show OwU (w10) (w3.heap.size + 1) (w4.heap.size) [] [own shI (.slice x00_0p x00_0n x00_0c) (emL shI (1) xs0_0), own shI (.slice x00_1p x00_1n x00_1c) (emL shI (1 + ecL shI xs0_0) xs0_1)] from OwU.grow ox085_.out g)
    clear ox085_
    have og94_ := Lib.hid (show OwU (w10) (w4.heap.size + 1) (w5.heap.size) [] [own shI (.slice gr0_0p gr0_0n gr0_0c) (emL shI (1) xsr0_0), own shI (.slice gr0_1p gr0_1n gr0_1c) (emL shI (1 + ecL shI xsr0_0) xsr0_1), own shI (.slice gr0_2p gr0_2n gr0_2c) (emL shI (1 + ecL shI xsr0_0 + ecL shI xsr0_1) xsr0_2), own shI (.slice gr0_3p gr0_3n gr0_3c) (emL shI (1 + ecL shI xsr0_0 + ecL shI xsr0_1 + ecL shI xsr0_2) xsr0_3), own shPacket (.slice gr0_4p gr0_4n gr0_4c) (emL shPacket (1 + ecL shI xsr0_0 + ecL shI xsr0_1 + ecL shI xsr0_2 + ecL shI xsr0_3) xsr0_4), own shPacket (.slice gr0_5p gr0_5n gr0_5c) (emL shPacket (1 + ecL shI xsr0_0 + ecL shI xsr0_1 + ecL shI xsr0_2 + ecL shI xsr0_3 + ecL shPacket xsr0_4) xsr0_5)] from OwU.grow og88_.out g)
    clear og88_
    have G95_ := Lib.hid (show (W).grownBy (w10) none from gby_trans G86_.out g)
    have qw96_ := Lib.hid (show (w3).grownBy (w10) none from gby_trans qw87_.out g)
    clear qw87_
    clear g
    have ng10 : ¬ (((1 + ecL shI xsr0_0 + ecL shI xsr0_1 + ecL shI xsr0_2 + ecL shI xsr0_3 + ecL shPacket xsr0_4 + ecL shPacket xsr0_5 : Nat) : Int) < 0) := by omega
    have A0_0_ : (w10).cell? ⟨W.heap.size, 0, none⟩ = some (a0_0) := cell_of_row _ _ 0 _ _ _ rA089_.out
    have A0_1_ : (w10).cell? ⟨W.heap.size, 1, none⟩ = some (a0_1) := cell_of_row _ _ 1 _ _ _ rA089_.out
    go_wp2_with fail
    go_at_call 35
    refine (toCredits_d _ a0_0 a0_1 xs0_0 xs0_1 (HI0_0.out.grow G95_.out) hl0_0 (HI0_1.out.grow G95_.out) hl0_1).mono ?_
    rintro e w11 ⟨t30_0, t30_1, rfl, o, g⟩
    have sz_ := g.size
    try simp only [World.size_alloc] at sz_
    try simp only [World.size_alloc] at o
    have zs13 := World.grownBy.size g
    try simp only [World.size_alloc] at zs13
    clear A0_0_ A0_1_
    have rA097_ := Lib.hid (show (w11).heap[W.heap.size]? = some (.cells #[a0_0, a0_1] 50 (0, 0)) from row_held g rA089_.out)
    clear rA089_
    have rBw098_ := Lib.hid (show (w11).heap[w3.heap.size]? = some (.cells #[(.slice wr0_0p wr0_0n wr0_0c), (.slice wr0_1p wr0_1n wr0_1c), (.slice wr0_2p wr0_2n wr0_2c), (.slice wr0_3p wr0_3n wr0_3c), (.slice wr0_4p wr0_4n wr0_4c), (.slice wr0_5p wr0_5n wr0_5c)] 73 (0, 0)) from row_held g rBw090_.out)
    clear rBw090_
    have rBx099_ := Lib.hid (show (w11).heap[w4.heap.size]? = some (.cells #[(.slice x00_0p x00_0n x00_0c), (.slice x00_1p x00_1n x00_1c)] 54 (0, 0)) from row_held g rBx091_.out)
    clear rBx091_
    have rBg0100_ := Lib.hid (show (w11).heap[w5.heap.size]? = some (.cells #[(.slice gr0_0p gr0_0n gr0_0c), (.slice gr0_1p gr0_1n gr0_1c), (.slice gr0_2p gr0_2n gr0_2c), (.slice gr0_3p gr0_3n gr0_3c), (.slice gr0_4p gr0_4n gr0_4c), (.slice gr0_5p gr0_5n gr0_5c)] 73 (0, 0)) from row_held g rBg092_.out)
    clear rBg092_
    have ox0101_ := Lib.hid (show OwU (w11) (w3.heap.size + 1) (w4.heap.size) [] [own shI (.slice x00_0p x00_0n x00_0c) (emL shI (1) xs0_0), own shI (.slice x00_1p x00_1n x00_1c) (emL shI (1 + ecL shI xs0_0) xs0_1)] from OwU.grow ox093_.out g)
    clear ox093_
    have og102_ := Lib.hid (show OwU (w11) (w4.heap.size + 1) (w5.heap.size) [] [own shI (.slice gr0_0p gr0_0n gr0_0c) (emL shI (1) xsr0_0), own shI (.slice gr0_1p gr0_1n gr0_1c) (emL shI (1 + ecL shI xsr0_0) xsr0_1), own shI (.slice gr0_2p gr0_2n gr0_2c) (emL shI (1 + ecL shI xsr0_0 + ecL shI xsr0_1) xsr0_2), own shI (.slice gr0_3p gr0_3n gr0_3c) (emL shI (1 + ecL shI xsr0_0 + ecL shI xsr0_1 + ecL shI xsr0_2) xsr0_3), own shPacket (.slice gr0_4p gr0_4n gr0_4c) (emL shPacket (1 + ecL shI xsr0_0 + ecL shI xsr0_1 + ecL shI xsr0_2 + ecL shI xsr0_3) xsr0_4), own shPacket (.slice gr0_5p gr0_5n gr0_5c) (emL shPacket (1 + ecL shI xsr0_0 + ecL shI xsr0_1 + ecL shI xsr0_2 + ecL shI xsr0_3 + ecL shPacket xsr0_4) xsr0_5)] from OwU.grow og94_.out g)
    clear og94_
    have G103_ := Lib.hid (show (W).grownBy (w11) none from gby_trans G95_.out g)
    have qw104_ := Lib.hid (show (w3).grownBy (w11) none from gby_trans qw96_.out g)
    clear qw96_
    clear g
    have szw11 := sz_
    clear sz_
    obtain ⟨t30_0p, t30_0n, t30_0c, hv_⟩ := RdL.form (OwU.rd o)
    subst hv_
    obtain ⟨t30_1p, t30_1n, t30_1c, hv_⟩ := RdL.form (OwU.rd (OwU.tail o))
    subst hv_
    have oT3105_ := Lib.hid (show OwU (w11) (w10.heap.size) (w11.heap.size) [] [own shI (.slice t30_0p t30_0n t30_0c) xs0_0, own shI (.slice t30_1p t30_1n t30_1c) xs0_1] from o)
    clear o
    try unfold vCredits
    go_wp2_with fail
    go_at_call 55
    refine (HM.out _ (.slice t30_0p t30_0n t30_0c) (.slice t30_1p t30_1n t30_1c) (OwU.rd oT3105_.out) (OwU.rd (OwU.tail oT3105_.out))).mono ?_
    rintro e w12 ⟨hr0_0, hr0_1, hr0_2, hr0_3, hr0_4, hr0_5, rfl, o, g⟩
    have sz_ := g.size
    try simp only [World.size_alloc] at sz_
    try simp only [World.size_alloc] at o
    have zs14 := World.grownBy.size g
    try simp only [World.size_alloc] at zs14
    have rA0106_ := Lib.hid (show (w12).heap[W.heap.size]? = some (.cells #[a0_0, a0_1] 50 (0, 0)) from row_held g rA097_.out)
    clear rA097_
    have rBw0107_ := Lib.hid (show (w12).heap[w3.heap.size]? = some (.cells #[(.slice wr0_0p wr0_0n wr0_0c), (.slice wr0_1p wr0_1n wr0_1c), (.slice wr0_2p wr0_2n wr0_2c), (.slice wr0_3p wr0_3n wr0_3c), (.slice wr0_4p wr0_4n wr0_4c), (.slice wr0_5p wr0_5n wr0_5c)] 73 (0, 0)) from row_held g rBw098_.out)
    clear rBw098_
    have rBx0108_ := Lib.hid (show (w12).heap[w4.heap.size]? = some (.cells #[(.slice x00_0p x00_0n x00_0c), (.slice x00_1p x00_1n x00_1c)] 54 (0, 0)) from row_held g rBx099_.out)
    clear rBx099_
    have rBg0109_ := Lib.hid (show (w12).heap[w5.heap.size]? = some (.cells #[(.slice gr0_0p gr0_0n gr0_0c), (.slice gr0_1p gr0_1n gr0_1c), (.slice gr0_2p gr0_2n gr0_2c), (.slice gr0_3p gr0_3n gr0_3c), (.slice gr0_4p gr0_4n gr0_4c), (.slice gr0_5p gr0_5n gr0_5c)] 73 (0, 0)) from row_held g rBg0100_.out)
    clear rBg0100_
    have ox0110_ := Lib.hid (show OwU (w12) (w3.heap.size + 1) (w4.heap.size) [] [own shI (.slice x00_0p x00_0n x00_0c) (emL shI (1) xs0_0), own shI (.slice x00_1p x00_1n x00_1c) (emL shI (1 + ecL shI xs0_0) xs0_1)] from OwU.grow ox0101_.out g)
    clear ox0101_
    have og111_ := Lib.hid (show OwU (w12) (w4.heap.size + 1) (w5.heap.size) [] [own shI (.slice gr0_0p gr0_0n gr0_0c) (emL shI (1) xsr0_0), own shI (.slice gr0_1p gr0_1n gr0_1c) (emL shI (1 + ecL shI xsr0_0) xsr0_1), own shI (.slice gr0_2p gr0_2n gr0_2c) (emL shI (1 + ecL shI xsr0_0 + ecL shI xsr0_1) xsr0_2), own shI (.slice gr0_3p gr0_3n gr0_3c) (emL shI (1 + ecL shI xsr0_0 + ecL shI xsr0_1 + ecL shI xsr0_2) xsr0_3), own shPacket (.slice gr0_4p gr0_4n gr0_4c) (emL shPacket (1 + ecL shI xsr0_0 + ecL shI xsr0_1 + ecL shI xsr0_2 + ecL shI xsr0_3) xsr0_4), own shPacket (.slice gr0_5p gr0_5n gr0_5c) (emL shPacket (1 + ecL shI xsr0_0 + ecL shI xsr0_1 + ecL shI xsr0_2 + ecL shI xsr0_3 + ecL shPacket xsr0_4) xsr0_5)] from OwU.grow og102_.out g)
    clear og102_
    have oT3112_ := Lib.hid (show OwU (w12) (w10.heap.size) (w11.heap.size) [] [own shI (.slice t30_0p t30_0n t30_0c) xs0_0, own shI (.slice t30_1p t30_1n t30_1c) xs0_1] from OwU.grow oT3105_.out g)
    clear oT3105_
    have G113_ := Lib.hid (show (W).grownBy (w12) none from gby_trans G103_.out g)
    have qw114_ := Lib.hid (show (w3).grownBy (w12) none from gby_trans qw104_.out g)
    clear qw104_
    clear g
    have szw12 := sz_
    clear sz_
    obtain ⟨hr0_0p, hr0_0n, hr0_0c, hv_⟩ := RdL.form (OwU.rd o)
    subst hv_
    obtain ⟨hr0_1p, hr0_1n, hr0_1c, hv_⟩ := RdL.form (OwU.rd (OwU.tail o))
    subst hv_
    obtain ⟨hr0_2p, hr0_2n, hr0_2c, hv_⟩ := RdL.form (OwU.rd (OwU.tail (OwU.tail o)))
    subst hv_
    obtain ⟨hr0_3p, hr0_3n, hr0_3c, hv_⟩ := RdL.form (OwU.rd (OwU.tail (OwU.tail (OwU.tail o))))
    subst hv_
    obtain ⟨hr0_4p, hr0_4n, hr0_4c, hv_⟩ := RdL.form (OwU.rd (OwU.tail (OwU.tail (OwU.tail (OwU.tail o)))))
    subst hv_
    obtain ⟨hr0_5p, hr0_5n, hr0_5c, hv_⟩ := RdL.form (OwU.rd (OwU.tail (OwU.tail (OwU.tail (OwU.tail (OwU.tail o))))))
    subst hv_
    have oh115_ := Lib.hid (show OwU (w12) (w11.heap.size) (w12.heap.size) [] [own shI (.slice hr0_0p hr0_0n hr0_0c) xsr0_0, own shI (.slice hr0_1p hr0_1n hr0_1c) xsr0_1, own shI (.slice hr0_2p hr0_2n hr0_2c) xsr0_2, own shI (.slice hr0_3p hr0_3n hr0_3c) xsr0_3, own shPacket (.slice hr0_4p hr0_4n hr0_4c) xsr0_4, own shPacket (.slice hr0_5p hr0_5n hr0_5c) xsr0_5] from o)
    clear o
    have al : (w12).grownBy ((w12).alloc (.cells #[(.slice hr0_0p hr0_0n hr0_0c), (.slice hr0_1p hr0_1n hr0_1c), (.slice hr0_2p hr0_2n hr0_2c), (.slice hr0_3p hr0_3n hr0_3c), (.slice hr0_4p hr0_4n hr0_4c), (.slice hr0_5p hr0_5n hr0_5c)] 73)) none := gby_alloc (gby_refl _ _) _
    have zs15 := World.grownBy.size al
    try simp only [World.size_alloc] at zs15
    have rA0116_ := Lib.hid (show ((w12.alloc (.cells #[(.slice hr0_0p hr0_0n hr0_0c), (.slice hr0_1p hr0_1n hr0_1c), (.slice hr0_2p hr0_2n hr0_2c), (.slice hr0_3p hr0_3n hr0_3c), (.slice hr0_4p hr0_4n hr0_4c), (.slice hr0_5p hr0_5n hr0_5c)] 73))).heap[W.heap.size]? = some (.cells #[a0_0, a0_1] 50 (0, 0)) from row_held al rA0106_.out)
    clear rA0106_
    have rBw0117_ := Lib.hid (show ((w12.alloc (.cells #[(.slice hr0_0p hr0_0n hr0_0c), (.slice hr0_1p hr0_1n hr0_1c), (.slice hr0_2p hr0_2n hr0_2c), (.slice hr0_3p hr0_3n hr0_3c), (.slice hr0_4p hr0_4n hr0_4c), (.slice hr0_5p hr0_5n hr0_5c)] 73))).heap[w3.heap.size]? = some (.cells #[(.slice wr0_0p wr0_0n wr0_0c), (.slice wr0_1p wr0_1n wr0_1c), (.slice wr0_2p wr0_2n wr0_2c), (.slice wr0_3p wr0_3n wr0_3c), (.slice wr0_4p wr0_4n wr0_4c), (.slice wr0_5p wr0_5n wr0_5c)] 73 (0, 0)) from row_held al rBw0107_.out)
    clear rBw0107_
    have rBx0118_ := Lib.hid (show ((w12.alloc (.cells #[(.slice hr0_0p hr0_0n hr0_0c), (.slice hr0_1p hr0_1n hr0_1c), (.slice hr0_2p hr0_2n hr0_2c), (.slice hr0_3p hr0_3n hr0_3c), (.slice hr0_4p hr0_4n hr0_4c), (.slice hr0_5p hr0_5n hr0_5c)] 73))).heap[w4.heap.size]? = some (.cells #[(.slice x00_0p x00_0n x00_0c), (.slice x00_1p x00_1n x00_1c)] 54 (0, 0)) from row_held al rBx0108_.out)
    clear rBx0108_
    have rBg0119_ := Lib.hid (show ((w12.alloc (.cells #[(.slice hr0_0p hr0_0n hr0_0c), (.slice hr0_1p hr0_1n hr0_1c), (.slice hr0_2p hr0_2n hr0_2c), (.slice hr0_3p hr0_3n hr0_3c), (.slice hr0_4p hr0_4n hr0_4c), (.slice hr0_5p hr0_5n hr0_5c)] 73))).heap[w5.heap.size]? = some (.cells #[(.slice gr0_0p gr0_0n gr0_0c), (.slice gr0_1p gr0_1n gr0_1c), (.slice gr0_2p gr0_2n gr0_2c), (.slice gr0_3p gr0_3n gr0_3c), (.slice gr0_4p gr0_4n gr0_4c), (.slice gr0_5p gr0_5n gr0_5c)] 73 (0, 0)) from row_held al rBg0109_.out)
    clear rBg0109_
    have ox0120_ := Lib.hid (show OwU ((w12.alloc (.cells #[(.slice hr0_0p hr0_0n hr0_0c), (.slice hr0_1p hr0_1n hr0_1c), (.slice hr0_2p hr0_2n hr0_2c), (.slice hr0_3p hr0_3n hr0_3c), (.slice hr0_4p hr0_4n hr0_4c), (.slice hr0_5p hr0_5n hr0_5c)] 73))) (w3.heap.size + 1) (w4.heap.size) [] [own shI (.slice x00_0p x00_0n x00_0c) (emL shI (1) xs0_0), own shI (.slice x00_1p x00_1n x00_1c) (emL shI (1 + ecL shI xs0_0) xs0_1)] from OwU.grow ox0110_.out al)
    clear ox0110_
    have og121_ := Lib.hid (show OwU ((w12.alloc (.cells #[(.slice hr0_0p hr0_0n hr0_0c), (.slice hr0_1p hr0_1n hr0_1c), (.slice hr0_2p hr0_2n hr0_2c), (.slice hr0_3p hr0_3n hr0_3c), (.slice hr0_4p hr0_4n hr0_4c), (.slice hr0_5p hr0_5n hr0_5c)] 73))) (w4.heap.size + 1) (w5.heap.size) [] [own shI (.slice gr0_0p gr0_0n gr0_0c) (emL shI (1) xsr0_0), own shI (.slice gr0_1p gr0_1n gr0_1c) (emL shI (1 + ecL shI xsr0_0) xsr0_1), own shI (.slice gr0_2p gr0_2n gr0_2c) (emL shI (1 + ecL shI xsr0_0 + ecL shI xsr0_1) xsr0_2), own shI (.slice gr0_3p gr0_3n gr0_3c) (emL shI (1 + ecL shI xsr0_0 + ecL shI xsr0_1 + ecL shI xsr0_2) xsr0_3), own shPacket (.slice gr0_4p gr0_4n gr0_4c) (emL shPacket (1 + ecL shI xsr0_0 + ecL shI xsr0_1 + ecL shI xsr0_2 + ecL shI xsr0_3) xsr0_4), own shPacket (.slice gr0_5p gr0_5n gr0_5c) (emL shPacket (1 + ecL shI xsr0_0 + ecL shI xsr0_1 + ecL shI xsr0_2 + ecL shI xsr0_3 + ecL shPacket xsr0_4) xsr0_5)] from OwU.grow og111_.out al)
    clear og111_
    have oT3122_ := Lib.hid (show OwU ((w12.alloc (.cells #[(.slice hr0_0p hr0_0n hr0_0c), (.slice hr0_1p hr0_1n hr0_1c), (.slice hr0_2p hr0_2n hr0_2c), (.slice hr0_3p hr0_3n hr0_3c), (.slice hr0_4p hr0_4n hr0_4c), (.slice hr0_5p hr0_5n hr0_5c)] 73))) (w10.heap.size) (w11.heap.size) [] [own shI (.slice t30_0p t30_0n t30_0c) xs0_0, own shI (.slice t30_1p t30_1n t30_1c) xs0_1] from OwU.grow oT3112_.out al)
    clear oT3112_
    have oh123_ := Lib.hid (show OwU ((w12.alloc (.cells #[(.slice hr0_0p hr0_0n hr0_0c), (.slice hr0_1p hr0_1n hr0_1c), (.slice hr0_2p hr0_2n hr0_2c), (.slice hr0_3p hr0_3n hr0_3c), (.slice hr0_4p hr0_4n hr0_4c), (.slice hr0_5p hr0_5n hr0_5c)] 73))) (w11.heap.size) (w12.heap.size) [] [own shI (.slice hr0_0p hr0_0n hr0_0c) xsr0_0, own shI (.slice hr0_1p hr0_1n hr0_1c) xsr0_1, own shI (.slice hr0_2p hr0_2n hr0_2c) xsr0_2, own shI (.slice hr0_3p hr0_3n hr0_3c) xsr0_3, own shPacket (.slice hr0_4p hr0_4n hr0_4c) xsr0_4, own shPacket (.slice hr0_5p hr0_5n hr0_5c) xsr0_5] from OwU.grow oh115_.out al)
    clear oh115_
    have G124_ := Lib.hid (show (W).grownBy ((w12.alloc (.cells #[(.slice hr0_0p hr0_0n hr0_0c), (.slice hr0_1p hr0_1n hr0_1c), (.slice hr0_2p hr0_2n hr0_2c), (.slice hr0_3p hr0_3n hr0_3c), (.slice hr0_4p hr0_4n hr0_4c), (.slice hr0_5p hr0_5n hr0_5c)] 73))) none from gby_trans G113_.out al)
    have qw125_ := Lib.hid (show (w3).grownBy ((w12.alloc (.cells #[(.slice hr0_0p hr0_0n hr0_0c), (.slice hr0_1p hr0_1n hr0_1c), (.slice hr0_2p hr0_2n hr0_2c), (.slice hr0_3p hr0_3n hr0_3c), (.slice hr0_4p hr0_4n hr0_4c), (.slice hr0_5p hr0_5n hr0_5c)] 73))) none from gby_trans qw114_.out al)
    clear qw114_
    have rBh0126_ := Lib.hid (show ((w12.alloc (.cells #[(.slice hr0_0p hr0_0n hr0_0c), (.slice hr0_1p hr0_1n hr0_1c), (.slice hr0_2p hr0_2n hr0_2c), (.slice hr0_3p hr0_3n hr0_3c), (.slice hr0_4p hr0_4n hr0_4c), (.slice hr0_5p hr0_5n hr0_5c)] 73))).heap[w12.heap.size]? = some (.cells #[(.slice hr0_0p hr0_0n hr0_0c), (.slice hr0_1p hr0_1n hr0_1c), (.slice hr0_2p hr0_2n hr0_2c), (.slice hr0_3p hr0_3n hr0_3c), (.slice hr0_4p hr0_4n hr0_4c), (.slice hr0_5p hr0_5n hr0_5c)] 73 (0, 0)) from heap_alloc_new _ _)
    clear al
    clear oT3122_
    have Bh0_0_ : ((w12.alloc (.cells #[(.slice hr0_0p hr0_0n hr0_0c), (.slice hr0_1p hr0_1n hr0_1c), (.slice hr0_2p hr0_2n hr0_2c), (.slice hr0_3p hr0_3n hr0_3c), (.slice hr0_4p hr0_4n hr0_4c), (.slice hr0_5p hr0_5n hr0_5c)] 73))).cell? ⟨w12.heap.size, 0, none⟩ = some ((.slice hr0_0p hr0_0n hr0_0c)) := cell_of_row _ _ 0 _ _ _ rBh0126_.out
    have Bh0_1_ : ((w12.alloc (.cells #[(.slice hr0_0p hr0_0n hr0_0c), (.slice hr0_1p hr0_1n hr0_1c), (.slice hr0_2p hr0_2n hr0_2c), (.slice hr0_3p hr0_3n hr0_3c), (.slice hr0_4p hr0_4n hr0_4c), (.slice hr0_5p hr0_5n hr0_5c)] 73))).cell? ⟨w12.heap.size, 1, none⟩ = some ((.slice hr0_1p hr0_1n hr0_1c)) := cell_of_row _ _ 1 _ _ _ rBh0126_.out
    have Bh0_2_ : ((w12.alloc (.cells #[(.slice hr0_0p hr0_0n hr0_0c), (.slice hr0_1p hr0_1n hr0_1c), (.slice hr0_2p hr0_2n hr0_2c), (.slice hr0_3p hr0_3n hr0_3c), (.slice hr0_4p hr0_4n hr0_4c), (.slice hr0_5p hr0_5n hr0_5c)] 73))).cell? ⟨w12.heap.size, 2, none⟩ = some ((.slice hr0_2p hr0_2n hr0_2c)) := cell_of_row _ _ 2 _ _ _ rBh0126_.out
    have Bh0_3_ : ((w12.alloc (.cells #[(.slice hr0_0p hr0_0n hr0_0c), (.slice hr0_1p hr0_1n hr0_1c), (.slice hr0_2p hr0_2n hr0_2c), (.slice hr0_3p hr0_3n hr0_3c), (.slice hr0_4p hr0_4n hr0_4c), (.slice hr0_5p hr0_5n hr0_5c)] 73))).cell? ⟨w12.heap.size, 3, none⟩ = some ((.slice hr0_3p hr0_3n hr0_3c)) := cell_of_row _ _ 3 _ _ _ rBh0126_.out
    have Bh0_4_ : ((w12.alloc (.cells #[(.slice hr0_0p hr0_0n hr0_0c), (.slice hr0_1p hr0_1n hr0_1c), (.slice hr0_2p hr0_2n hr0_2c), (.slice hr0_3p hr0_3n hr0_3c), (.slice hr0_4p hr0_4n hr0_4c), (.slice hr0_5p hr0_5n hr0_5c)] 73))).cell? ⟨w12.heap.size, 4, none⟩ = some ((.slice hr0_4p hr0_4n hr0_4c)) := cell_of_row _ _ 4 _ _ _ rBh0126_.out
    have Bh0_5_ : ((w12.alloc (.cells #[(.slice hr0_0p hr0_0n hr0_0c), (.slice hr0_1p hr0_1n hr0_1c), (.slice hr0_2p hr0_2n hr0_2c), (.slice hr0_3p hr0_3n hr0_3c), (.slice hr0_4p hr0_4n hr0_4c), (.slice hr0_5p hr0_5n hr0_5c)] 73))).cell? ⟨w12.heap.size, 5, none⟩ = some ((.slice hr0_5p hr0_5n hr0_5c)) := cell_of_row _ _ 5 _ _ _ rBh0126_.out
    have Bw0_0_ : ((w12.alloc (.cells #[(.slice hr0_0p hr0_0n hr0_0c), (.slice hr0_1p hr0_1n hr0_1c), (.slice hr0_2p hr0_2n hr0_2c), (.slice hr0_3p hr0_3n hr0_3c), (.slice hr0_4p hr0_4n hr0_4c), (.slice hr0_5p hr0_5n hr0_5c)] 73))).cell? ⟨w3.heap.size, 0, none⟩ = some ((.slice wr0_0p wr0_0n wr0_0c)) := cell_of_row _ _ 0 _ _ _ rBw0117_.out
    have Bw0_1_ : ((w12.alloc (.cells #[(.slice hr0_0p hr0_0n hr0_0c), (.slice hr0_1p hr0_1n hr0_1c), (.slice hr0_2p hr0_2n hr0_2c), (.slice hr0_3p hr0_3n hr0_3c), (.slice hr0_4p hr0_4n hr0_4c), (.slice hr0_5p hr0_5n hr0_5c)] 73))).cell? ⟨w3.heap.size, 1, none⟩ = some ((.slice wr0_1p wr0_1n wr0_1c)) := cell_of_row _ _ 1 _ _ _ rBw0117_.out
    have Bw0_2_ : ((w12.alloc (.cells #[(.slice hr0_0p hr0_0n hr0_0c), (.slice hr0_1p hr0_1n hr0_1c), (.slice hr0_2p hr0_2n hr0_2c), (.slice hr0_3p hr0_3n hr0_3c), (.slice hr0_4p hr0_4n hr0_4c), (.slice hr0_5p hr0_5n hr0_5c)] 73))).cell? ⟨w3.heap.size, 2, none⟩ = some ((.slice wr0_2p wr0_2n wr0_2c)) := cell_of_row _ _ 2 _ _ _ rBw0117_.out
    have Bw0_3_ : ((w12.alloc (.cells #[(.slice hr0_0p hr0_0n hr0_0c), (.slice hr0_1p hr0_1n hr0_1c), (.slice hr0_2p hr0_2n hr0_2c), (.slice hr0_3p hr0_3n hr0_3c), (.slice hr0_4p hr0_4n hr0_4c), (.slice hr0_5p hr0_5n hr0_5c)] 73))).cell? ⟨w3.heap.size, 3, none⟩ = some ((.slice wr0_3p wr0_3n wr0_3c)) := cell_of_row _ _ 3 _ _ _ rBw0117_.out
    have Bw0_4_ : ((w12.alloc (.cells #[(.slice hr0_0p hr0_0n hr0_0c), (.slice hr0_1p hr0_1n hr0_1c), (.slice hr0_2p hr0_2n hr0_2c), (.slice hr0_3p hr0_3n hr0_3c), (.slice hr0_4p hr0_4n hr0_4c), (.slice hr0_5p hr0_5n hr0_5c)] 73))).cell? ⟨w3.heap.size, 4, none⟩ = some ((.slice wr0_4p wr0_4n wr0_4c)) := cell_of_row _ _ 4 _ _ _ rBw0117_.out
    have Bw0_5_ : ((w12.alloc (.cells #[(.slice hr0_0p hr0_0n hr0_0c), (.slice hr0_1p hr0_1n hr0_1c), (.slice hr0_2p hr0_2n hr0_2c), (.slice hr0_3p hr0_3n hr0_3c), (.slice hr0_4p hr0_4n hr0_4c), (.slice hr0_5p hr0_5n hr0_5c)] 73))).cell? ⟨w3.heap.size, 5, none⟩ = some ((.slice wr0_5p wr0_5n wr0_5c)) := cell_of_row _ _ 5 _ _ _ rBw0117_.out
    go_wp2_with fail
    go_at_call 56
    refine (eqChannel_d _ (.slice hr0_0p hr0_0n hr0_0c) (.slice hr0_1p hr0_1n hr0_1c) (.slice hr0_2p hr0_2n hr0_2c) (.slice hr0_3p hr0_3n hr0_3c) (.slice hr0_4p hr0_4n hr0_4c) (.slice hr0_5p hr0_5n hr0_5c) (.slice wr0_0p wr0_0n wr0_0c) (.slice wr0_1p wr0_1n wr0_1c) (.slice wr0_2p wr0_2n wr0_2c) (.slice wr0_3p wr0_3n wr0_3c) (.slice wr0_4p wr0_4n wr0_4c) (.slice wr0_5p wr0_5n wr0_5c) xsr0_0 xsr0_1 xsr0_2 xsr0_3 xsr0_4 xsr0_5 (OwU.rd oh123_.out) (RdL.grow rd11_.out qw125_.out) hLr0_0 (OwU.rd (OwU.tail oh123_.out)) (RdL.grow rd12_.out qw125_.out) hLr0_1 (OwU.rd (OwU.tail (OwU.tail oh123_.out))) (RdL.grow rd13_.out qw125_.out) hLr0_2 (OwU.rd (OwU.tail (OwU.tail (OwU.tail oh123_.out)))) (RdL.grow rd14_.out qw125_.out) hLr0_3 (OwU.rd (OwU.tail (OwU.tail (OwU.tail (OwU.tail oh123_.out))))) (RdL.grow rd15_.out qw125_.out) hLr0_4 (OwU.rd (OwU.tail (OwU.tail (OwU.tail (OwU.tail (OwU.tail oh123_.out)))))) (RdL.grow rd16_.out qw125_.out) hLr0_5).mono ?_
    rintro e w13 ⟨rfl, g⟩
    have zs16 := World.grownBy.size g
    try simp only [World.size_alloc] at zs16
    clear Bh0_0_ Bh0_1_ Bh0_2_ Bh0_3_ Bh0_4_ Bh0_5_ Bw0_0_ Bw0_1_ Bw0_2_ Bw0_3_ Bw0_4_ Bw0_5_
    have rA0127_ := Lib.hid (show (w13).heap[W.heap.size]? = some (.cells #[a0_0, a0_1] 50 (0, 0)) from row_held g rA0116_.out)
    clear rA0116_
    have rBw0128_ := Lib.hid (show (w13).heap[w3.heap.size]? = some (.cells #[(.slice wr0_0p wr0_0n wr0_0c), (.slice wr0_1p wr0_1n wr0_1c), (.slice wr0_2p wr0_2n wr0_2c), (.slice wr0_3p wr0_3n wr0_3c), (.slice wr0_4p wr0_4n wr0_4c), (.slice wr0_5p wr0_5n wr0_5c)] 73 (0, 0)) from row_held g rBw0117_.out)
    clear rBw0117_
    have rBx0129_ := Lib.hid (show (w13).heap[w4.heap.size]? = some (.cells #[(.slice x00_0p x00_0n x00_0c), (.slice x00_1p x00_1n x00_1c)] 54 (0, 0)) from row_held g rBx0118_.out)
    clear rBx0118_
    have rBg0130_ := Lib.hid (show (w13).heap[w5.heap.size]? = some (.cells #[(.slice gr0_0p gr0_0n gr0_0c), (.slice gr0_1p gr0_1n gr0_1c), (.slice gr0_2p gr0_2n gr0_2c), (.slice gr0_3p gr0_3n gr0_3c), (.slice gr0_4p gr0_4n gr0_4c), (.slice gr0_5p gr0_5n gr0_5c)] 73 (0, 0)) from row_held g rBg0119_.out)
    clear rBg0119_
    have rBh0131_ := Lib.hid (show (w13).heap[w12.heap.size]? = some (.cells #[(.slice hr0_0p hr0_0n hr0_0c), (.slice hr0_1p hr0_1n hr0_1c), (.slice hr0_2p hr0_2n hr0_2c), (.slice hr0_3p hr0_3n hr0_3c), (.slice hr0_4p hr0_4n hr0_4c), (.slice hr0_5p hr0_5n hr0_5c)] 73 (0, 0)) from row_held g rBh0126_.out)
    clear rBh0126_
    have ox0132_ := Lib.hid (show OwU (w13) (w3.heap.size + 1) (w4.heap.size) [] [own shI (.slice x00_0p x00_0n x00_0c) (emL shI (1) xs0_0), own shI (.slice x00_1p x00_1n x00_1c) (emL shI (1 + ecL shI xs0_0) xs0_1)] from OwU.grow ox0120_.out g)
    clear ox0120_
    have og133_ := Lib.hid (show OwU (w13) (w4.heap.size + 1) (w5.heap.size) [] [own shI (.slice gr0_0p gr0_0n gr0_0c) (emL shI (1) xsr0_0), own shI (.slice gr0_1p gr0_1n gr0_1c) (emL shI (1 + ecL shI xsr0_0) xsr0_1), own shI (.slice gr0_2p gr0_2n gr0_2c) (emL shI (1 + ecL shI xsr0_0 + ecL shI xsr0_1) xsr0_2), own shI (.slice gr0_3p gr0_3n gr0_3c) (emL shI (1 + ecL shI xsr0_0 + ecL shI xsr0_1 + ecL shI xsr0_2) xsr0_3), own shPacket (.slice gr0_4p gr0_4n gr0_4c) (emL shPacket (1 + ecL shI xsr0_0 + ecL shI xsr0_1 + ecL shI xsr0_2 + ecL shI xsr0_3) xsr0_4), own shPacket (.slice gr0_5p gr0_5n gr0_5c) (emL shPacket (1 + ecL shI xsr0_0 + ecL shI xsr0_1 + ecL shI xsr0_2 + ecL shI xsr0_3 + ecL shPacket xsr0_4) xsr0_5)] from OwU.grow og121_.out g)
    clear og121_
    have oh134_ := Lib.hid (show OwU (w13) (w11.heap.size) (w12.heap.size) [] [own shI (.slice hr0_0p hr0_0n hr0_0c) xsr0_0, own shI (.slice hr0_1p hr0_1n hr0_1c) xsr0_1, own shI (.slice hr0_2p hr0_2n hr0_2c) xsr0_2, own shI (.slice hr0_3p hr0_3n hr0_3c) xsr0_3, own shPacket (.slice hr0_4p hr0_4n hr0_4c) xsr0_4, own shPacket (.slice hr0_5p hr0_5n hr0_5c) xsr0_5] from OwU.grow oh123_.out g)
    clear oh123_
    have G135_ := Lib.hid (show (W).grownBy (w13) none from gby_trans G124_.out g)
    have qw136_ := Lib.hid (show (w3).grownBy (w13) none from gby_trans qw125_.out g)
    clear qw125_
    clear g
    have Bg0_0_ : (w13).cell? ⟨w5.heap.size, 0, none⟩ = some ((.slice gr0_0p gr0_0n gr0_0c)) := cell_of_row _ _ 0 _ _ _ rBg0130_.out
    have Bg0_1_ : (w13).cell? ⟨w5.heap.size, 1, none⟩ = some ((.slice gr0_1p gr0_1n gr0_1c)) := cell_of_row _ _ 1 _ _ _ rBg0130_.out
    have Bg0_2_ : (w13).cell? ⟨w5.heap.size, 2, none⟩ = some ((.slice gr0_2p gr0_2n gr0_2c)) := cell_of_row _ _ 2 _ _ _ rBg0130_.out
    have Bg0_3_ : (w13).cell? ⟨w5.heap.size, 3, none⟩ = some ((.slice gr0_3p gr0_3n gr0_3c)) := cell_of_row _ _ 3 _ _ _ rBg0130_.out
    have Bg0_4_ : (w13).cell? ⟨w5.heap.size, 4, none⟩ = some ((.slice gr0_4p gr0_4n gr0_4c)) := cell_of_row _ _ 4 _ _ _ rBg0130_.out
    have Bg0_5_ : (w13).cell? ⟨w5.heap.size, 5, none⟩ = some ((.slice gr0_5p gr0_5n gr0_5c)) := cell_of_row _ _ 5 _ _ _ rBg0130_.out
    go_wp2_with fail
    go_at_call 58
    refine (heldChannel_d _ (1) (.slice gr0_0p gr0_0n gr0_0c) (.slice gr0_1p gr0_1n gr0_1c) (.slice gr0_2p gr0_2n gr0_2c) (.slice gr0_3p gr0_3n gr0_3c) (.slice gr0_4p gr0_4n gr0_4c) (.slice gr0_5p gr0_5n gr0_5c) xsr0_0 xsr0_1 xsr0_2 xsr0_3 xsr0_4 xsr0_5 (OwU.rd og133_.out) (OwU.rd (OwU.tail og133_.out)) (OwU.rd (OwU.tail (OwU.tail og133_.out))) (OwU.rd (OwU.tail (OwU.tail (OwU.tail og133_.out)))) (OwU.rd (OwU.tail (OwU.tail (OwU.tail (OwU.tail og133_.out))))) (OwU.rd (OwU.tail (OwU.tail (OwU.tail (OwU.tail (OwU.tail og133_.out)))))) hLr0_0 hLr0_1 hLr0_2 hLr0_3 hLr0_4 hLr0_5 (by omega)).mono ?_
    rintro e w14 ⟨rfl, g⟩
    have zs17 := World.grownBy.size g
    try simp only [World.size_alloc] at zs17
    clear Bg0_0_ Bg0_1_ Bg0_2_ Bg0_3_ Bg0_4_ Bg0_5_
    have rA0137_ := Lib.hid (show (w14).heap[W.heap.size]? = some (.cells #[a0_0, a0_1] 50 (0, 0)) from row_held g rA0127_.out)
    clear rA0127_
    have rBw0138_ := Lib.hid (show (w14).heap[w3.heap.size]? = some (.cells #[(.slice wr0_0p wr0_0n wr0_0c), (.slice wr0_1p wr0_1n wr0_1c), (.slice wr0_2p wr0_2n wr0_2c), (.slice wr0_3p wr0_3n wr0_3c), (.slice wr0_4p wr0_4n wr0_4c), (.slice wr0_5p wr0_5n wr0_5c)] 73 (0, 0)) from row_held g rBw0128_.out)
    clear rBw0128_
    have rBx0139_ := Lib.hid (show (w14).heap[w4.heap.size]? = some (.cells #[(.slice x00_0p x00_0n x00_0c), (.slice x00_1p x00_1n x00_1c)] 54 (0, 0)) from row_held g rBx0129_.out)
    clear rBx0129_
    have rBg0140_ := Lib.hid (show (w14).heap[w5.heap.size]? = some (.cells #[(.slice gr0_0p gr0_0n gr0_0c), (.slice gr0_1p gr0_1n gr0_1c), (.slice gr0_2p gr0_2n gr0_2c), (.slice gr0_3p gr0_3n gr0_3c), (.slice gr0_4p gr0_4n gr0_4c), (.slice gr0_5p gr0_5n gr0_5c)] 73 (0, 0)) from row_held g rBg0130_.out)
    clear rBg0130_
    have rBh0141_ := Lib.hid (show (w14).heap[w12.heap.size]? = some (.cells #[(.slice hr0_0p hr0_0n hr0_0c), (.slice hr0_1p hr0_1n hr0_1c), (.slice hr0_2p hr0_2n hr0_2c), (.slice hr0_3p hr0_3n hr0_3c), (.slice hr0_4p hr0_4n hr0_4c), (.slice hr0_5p hr0_5n hr0_5c)] 73 (0, 0)) from row_held g rBh0131_.out)
    clear rBh0131_
    have ox0142_ := Lib.hid (show OwU (w14) (w3.heap.size + 1) (w4.heap.size) [] [own shI (.slice x00_0p x00_0n x00_0c) (emL shI (1) xs0_0), own shI (.slice x00_1p x00_1n x00_1c) (emL shI (1 + ecL shI xs0_0) xs0_1)] from OwU.grow ox0132_.out g)
    clear ox0132_
    have og143_ := Lib.hid (show OwU (w14) (w4.heap.size + 1) (w5.heap.size) [] [own shI (.slice gr0_0p gr0_0n gr0_0c) (emL shI (1) xsr0_0), own shI (.slice gr0_1p gr0_1n gr0_1c) (emL shI (1 + ecL shI xsr0_0) xsr0_1), own shI (.slice gr0_2p gr0_2n gr0_2c) (emL shI (1 + ecL shI xsr0_0 + ecL shI xsr0_1) xsr0_2), own shI (.slice gr0_3p gr0_3n gr0_3c) (emL shI (1 + ecL shI xsr0_0 + ecL shI xsr0_1 + ecL shI xsr0_2) xsr0_3), own shPacket (.slice gr0_4p gr0_4n gr0_4c) (emL shPacket (1 + ecL shI xsr0_0 + ecL shI xsr0_1 + ecL shI xsr0_2 + ecL shI xsr0_3) xsr0_4), own shPacket (.slice gr0_5p gr0_5n gr0_5c) (emL shPacket (1 + ecL shI xsr0_0 + ecL shI xsr0_1 + ecL shI xsr0_2 + ecL shI xsr0_3 + ecL shPacket xsr0_4) xsr0_5)] from OwU.grow og133_.out g)
    clear og133_
    have oh144_ := Lib.hid (show OwU (w14) (w11.heap.size) (w12.heap.size) [] [own shI (.slice hr0_0p hr0_0n hr0_0c) xsr0_0, own shI (.slice hr0_1p hr0_1n hr0_1c) xsr0_1, own shI (.slice hr0_2p hr0_2n hr0_2c) xsr0_2, own shI (.slice hr0_3p hr0_3n hr0_3c) xsr0_3, own shPacket (.slice hr0_4p hr0_4n hr0_4c) xsr0_4, own shPacket (.slice hr0_5p hr0_5n hr0_5c) xsr0_5] from OwU.grow oh134_.out g)
    clear oh134_
    have G145_ := Lib.hid (show (W).grownBy (w14) none from gby_trans G135_.out g)
    have qw146_ := Lib.hid (show (w3).grownBy (w14) none from gby_trans qw136_.out g)
    clear qw136_
    clear g
    have ng14 : ¬ (((1 + ecL shI xsr0_0 + ecL shI xsr0_1 + ecL shI xsr0_2 + ecL shI xsr0_3 + ecL shPacket xsr0_4 + ecL shPacket xsr0_5 : Nat) : Int) < 0) := by omega
    go_wp2
    go_ret
    exact ⟨rfl, gby_below G145_.out⟩

end Go.Proofs.Ytgagbhkidponnac
