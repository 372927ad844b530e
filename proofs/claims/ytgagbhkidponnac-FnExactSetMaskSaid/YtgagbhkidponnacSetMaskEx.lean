/-
  The walk of FnExactSetMask: at every argument the program answers as its model and writes nothing that was there, and its answer owns its memory.
-/
import Derived.Test.YtgagbhkidponnacQPacket
import Derived.Test.YtgagbhkidponnacQVectors
import Derived.Test.YtgagbhkidponnacRSetMask
import Derived.WalkKit
import Derived.Deep.RegionHeld3
import Derived.Below
namespace Go.Proofs.Ytgagbhkidponnac
open Go Go.RowKit

set_option maxRecDepth 8000 in
set_option maxHeartbeats 16000000 in
theorem walk_exactSetMask_of (both : ∀ (i0_0 : Int) (xs0_1 : List Bool) (xs0_2 : List Bool) (i1 : Int) (i2 : Int) (b3 : Bool), szL shB xs0_1 ≤ 1048576 → szL shB xs0_2 ≤ 1048576 → ∃ (ir0_0 : Int) (xsr0_1 : List Bool) (xsr0_2 : List Bool) (ir1_0 : Int) (ir1_1 : Int) (ir1_2 : Int) (ir1_3 : Int) (ir1_4 : Int) (ir1_5 : Int) (ir1_6 : Int) (xsr1_7 : List Int) (br2 : Bool), szL shB xsr0_1 ≤ 1048576 ∧ szL shB xsr0_2 ≤ 1048576 ∧ szL shI xsr1_7 ≤ 1048576 ∧ (∀ (W : World), ∀ u0_1 u0_2, RdL shB W u0_1 xs0_1 → RdL shB W u0_2 xs0_2 → Calls Try.prog 21 #[.agg #[.int .i64 i0_0, u0_1, u0_2], .int .i64 i1, .int .i64 i2, .bool b3] W (ResSSetMask ir0_0 xsr0_1 xsr0_2 ir1_0 ir1_1 ir1_2 ir1_3 ir1_4 ir1_5 ir1_6 xsr1_7 br2 W)) ∧ ∀ (W : World), ∀ u0_1 u0_2, RdL shB W u0_1 xs0_1 → RdL shB W u0_2 xs0_2 → Calls Try.prog 22 #[.agg #[.int .i64 i0_0, u0_1, u0_2], .int .i64 i1, .int .i64 i2, .bool b3] W (ResISetMask ir0_0 xsr0_1 xsr0_2 ir1_0 ir1_1 ir1_2 ir1_3 ir1_4 ir1_5 ir1_6 xsr1_7 br2 W))
    (W : World) (i0_0 : Int) (a0_1 : Value) (xs0_1 : List Bool) (a0_2 : Value) (xs0_2 : List Bool) (i1 : Int) (i2 : Int) (b3 : Bool) (H0_1 : RdL shB W a0_1 xs0_1) (H0_2 : RdL shB W a0_2 xs0_2) :
    Calls Try.prog 4 #[.agg #[.int .i64 i0_0, a0_1, a0_2], .int .i64 i1, .int .i64 i2, .bool b3] W fun e w' => e = .returned (.bool true) ∧ Below W.heap.size W w' := by
  have HI0_1 := Lib.hid H0_1
  have hmx0_1 := H0_1.max
  clear H0_1
  have HI0_2 := Lib.hid H0_2
  have hmx0_2 := H0_2.max
  clear H0_2
  by_cases hs0 : (1048576 : Int) < (((szL shB xs0_1 + szL shB xs0_2) : Nat) : Int)
  · have hneg : (-1 : Int) < 0 := by omega
    go_enter Try.func4, Try.ntmps4
    have rA01_ := Lib.hid (show ((W.alloc (.cells #[.int .i64 i0_0, a0_1, a0_2] 24))).heap[W.heap.size]? = some (.cells #[.int .i64 i0_0, a0_1, a0_2] 24 (0, 0)) from by exact heap_alloc_new _ _)
    have G2_ := Lib.hid (show (W).grownBy ((W.alloc (.cells #[.int .i64 i0_0, a0_1, a0_2] 24))) none from (gby_alloc (gby_refl _ _) _))
    have A0_0_ : ((W.alloc (.cells #[.int .i64 i0_0, a0_1, a0_2] 24))).cell? ⟨W.heap.size, 0, none⟩ = some (.int .i64 i0_0) := cell_of_row _ _ 0 _ _ _ rA01_.out
    have A0_1_ : ((W.alloc (.cells #[.int .i64 i0_0, a0_1, a0_2] 24))).cell? ⟨W.heap.size, 1, none⟩ = some (a0_1) := cell_of_row _ _ 1 _ _ _ rA01_.out
    have A0_2_ : ((W.alloc (.cells #[.int .i64 i0_0, a0_1, a0_2] 24))).cell? ⟨W.heap.size, 2, none⟩ = some (a0_2) := cell_of_row _ _ 2 _ _ _ rA01_.out
    go_wp2_with fail
    go_at_call 11
    refine (szVectors_d _ 1048576 i0_0 a0_1 a0_2 xs0_1 xs0_2 (HI0_1.out.grow G2_.out) (HI0_2.out.grow G2_.out) (by omega) (by omega)).mono ?_
    rintro e w1 ⟨he, g⟩
    rw [show lessN 1048576 (szL shB xs0_1 + szL shB xs0_2) = -1 from if_pos hs0] at he
    subst he
    clear A0_0_ A0_1_ A0_2_
    have rA03_ := Lib.hid (show (w1).heap[W.heap.size]? = some (.cells #[.int .i64 i0_0, a0_1, a0_2] 24 (0, 0)) from row_held g rA01_.out)
    clear rA01_
    have G4_ := Lib.hid (show (W).grownBy (w1) none from gby_trans G2_.out g)
    clear g
    go_wp2
    go_ret
    exact ⟨rfl, gby_below G4_.out⟩
  obtain ⟨rr0, hr0⟩ : ∃ r, r = lessN 1048576 (szL shB xs0_1 + szL shB xs0_2) := ⟨_, rfl⟩
  have hrr0 : rr0 = (1048576 : Int) - (((szL shB xs0_1 + szL shB xs0_2) : Nat) : Int) := hr0.trans (if_neg hs0)
  have hn0 : ¬ rr0 < 0 := by omega
  have hu0 : rr0 ≤ 1048576 := by omega
  have hl0_1 : szL shB xs0_1 ≤ 1048576 := by omega
  have hl0_2 : szL shB xs0_2 ≤ 1048576 := by omega
  have HR0 := Lib.hid hr0
  clear hs0 hr0 hrr0
  obtain ⟨ir0_0, xsr0_1, xsr0_2, ir1_0, ir1_1, ir1_2, ir1_3, ir1_4, ir1_5, ir1_6, xsr1_7, br2, hLr0_1, hLr0_2, hLr1_7, hs_, hi_⟩ := both i0_0 xs0_1 xs0_2 i1 i2 b3 hl0_1 hl0_2
  have HS := Lib.hid hs_
  have HM := Lib.hid hi_
  clear hs_ hi_
  try clear both
  have hb_br2 : (br2 != br2) = false := by simp
  have hq0_1 : ecL shB xs0_1 ≤ 104857600 := Nat.le_trans (ecL_le _ _) (Nat.le_trans (Nat.mul_le_mul_left _ hl0_1) (Nat.mul_le_mul_right 1048576 (show shB.c ≤ 100 by decide)))
  have hq0_2 : ecL shB xs0_2 ≤ 104857600 := Nat.le_trans (ecL_le _ _) (Nat.le_trans (Nat.mul_le_mul_left _ hl0_2) (Nat.mul_le_mul_right 1048576 (show shB.c ≤ 100 by decide)))
  have hqr0_1 : ecL shB xsr0_1 ≤ 104857600 := Nat.le_trans (ecL_le _ _) (Nat.le_trans (Nat.mul_le_mul_left _ hLr0_1) (Nat.mul_le_mul_right 1048576 (show shB.c ≤ 100 by decide)))
  have hqr0_2 : ecL shB xsr0_2 ≤ 104857600 := Nat.le_trans (ecL_le _ _) (Nat.le_trans (Nat.mul_le_mul_left _ hLr0_2) (Nat.mul_le_mul_right 1048576 (show shB.c ≤ 100 by decide)))
  have hqr1_7 : ecL shI xsr1_7 ≤ 104857600 := Nat.le_trans (ecL_le _ _) (Nat.le_trans (Nat.mul_le_mul_left _ hLr1_7) (Nat.mul_le_mul_right 1048576 (show shI.c ≤ 100 by decide)))
  go_enter Try.func4, Try.ntmps4
  have rA01_ := Lib.hid (show ((W.alloc (.cells #[.int .i64 i0_0, a0_1, a0_2] 24))).heap[W.heap.size]? = some (.cells #[.int .i64 i0_0, a0_1, a0_2] 24 (0, 0)) from by exact heap_alloc_new _ _)
  have G2_ := Lib.hid (show (W).grownBy ((W.alloc (.cells #[.int .i64 i0_0, a0_1, a0_2] 24))) none from (gby_alloc (gby_refl _ _) _))
  have A0_0_ : ((W.alloc (.cells #[.int .i64 i0_0, a0_1, a0_2] 24))).cell? ⟨W.heap.size, 0, none⟩ = some (.int .i64 i0_0) := cell_of_row _ _ 0 _ _ _ rA01_.out
  have A0_1_ : ((W.alloc (.cells #[.int .i64 i0_0, a0_1, a0_2] 24))).cell? ⟨W.heap.size, 1, none⟩ = some (a0_1) := cell_of_row _ _ 1 _ _ _ rA01_.out
  have A0_2_ : ((W.alloc (.cells #[.int .i64 i0_0, a0_1, a0_2] 24))).cell? ⟨W.heap.size, 2, none⟩ = some (a0_2) := cell_of_row _ _ 2 _ _ _ rA01_.out
  go_wp2_with fail
  go_at_call 11
  refine (szVectors_d _ 1048576 i0_0 a0_1 a0_2 xs0_1 xs0_2 (HI0_1.out.grow G2_.out) (HI0_2.out.grow G2_.out) (by omega) (by omega)).mono ?_
  rintro e w1 ⟨he, g⟩
  rw [← HR0.out] at he
  subst he
  have zs1 := World.grownBy.size g
  try simp only [World.size_alloc] at zs1
  clear A0_0_ A0_1_ A0_2_
  have rA03_ := Lib.hid (show (w1).heap[W.heap.size]? = some (.cells #[.int .i64 i0_0, a0_1, a0_2] 24 (0, 0)) from row_held g rA01_.out)
  clear rA01_
  have G4_ := Lib.hid (show (W).grownBy (w1) none from gby_trans G2_.out g)
  clear g
  have A0_0_ : (w1).cell? ⟨W.heap.size, 0, none⟩ = some (.int .i64 i0_0) := cell_of_row _ _ 0 _ _ _ rA03_.out
  have A0_1_ : (w1).cell? ⟨W.heap.size, 1, none⟩ = some (a0_1) := cell_of_row _ _ 1 _ _ _ rA03_.out
  have A0_2_ : (w1).cell? ⟨W.heap.size, 2, none⟩ = some (a0_2) := cell_of_row _ _ 2 _ _ _ rA03_.out
  go_wp2_with fail
  go_at_call 13
  refine (toVectors_d _ i0_0 a0_1 a0_2 xs0_1 xs0_2 (HI0_1.out.grow G4_.out) hl0_1 (HI0_2.out.grow G4_.out) hl0_2).mono ?_
  rintro e w2 ⟨t10_1, t10_2, rfl, o, g⟩
  have sz_ := g.size
  try simp only [World.size_alloc] at sz_
  try simp only [World.size_alloc] at o
  have zs2 := World.grownBy.size g
  try simp only [World.size_alloc] at zs2
  clear A0_0_ A0_1_ A0_2_
  have rA05_ := Lib.hid (show (w2).heap[W.heap.size]? = some (.cells #[.int .i64 i0_0, a0_1, a0_2] 24 (0, 0)) from row_held g rA03_.out)
  clear rA03_
  have G6_ := Lib.hid (show (W).grownBy (w2) none from gby_trans G4_.out g)
  clear g
  have szw2 := sz_
  clear sz_
  obtain ⟨t10_1p, t10_1n, t10_1c, hv_⟩ := RdL.form (OwU.rd o)
  subst hv_
  obtain ⟨t10_2p, t10_2n, t10_2c, hv_⟩ := RdL.form (OwU.rd (OwU.tail o))
  subst hv_
  have oT17_ := Lib.hid (show OwU (w2) (w1.heap.size) (w2.heap.size) [] [own shB (.slice t10_1p t10_1n t10_1c) xs0_1, own shB (.slice t10_2p t10_2n t10_2c) xs0_2] from o)
  clear o
  try unfold vVectors
  go_wp2_with fail
  go_at_call 21
  refine (HS.out _ (.slice t10_1p t10_1n t10_1c) (.slice t10_2p t10_2n t10_2c) (OwU.rd oT17_.out) (OwU.rd (OwU.tail oT17_.out))).mono ?_
  rintro e w3 ⟨wr0_1, wr0_2, wr1_7, rfl, or0_1, or0_2, or1_7, g⟩
  have sz_ := g.size
  try simp only [World.size_alloc] at sz_
  have zs3 := World.grownBy.size g
  try simp only [World.size_alloc] at zs3
  have rA08_ := Lib.hid (show (w3).heap[W.heap.size]? = some (.cells #[.int .i64 i0_0, a0_1, a0_2] 24 (0, 0)) from row_held g rA05_.out)
  clear rA05_
  have oT19_ := Lib.hid (show OwU (w3) (w1.heap.size) (w2.heap.size) [] [own shB (.slice t10_1p t10_1n t10_1c) xs0_1, own shB (.slice t10_2p t10_2n t10_2c) xs0_2] from OwU.grow oT17_.out g)
  clear oT17_
  have G10_ := Lib.hid (show (W).grownBy (w3) none from gby_trans G6_.out g)
  clear g
  have szw3 := sz_
  clear sz_
  obtain ⟨wr0_1p, wr0_1n, wr0_1c, hv_⟩ := RdL.form (or0_1)
  subst hv_
  obtain ⟨wr0_2p, wr0_2n, wr0_2c, hv_⟩ := RdL.form (or0_2)
  subst hv_
  obtain ⟨wr1_7p, wr1_7n, wr1_7c, hv_⟩ := RdL.form (or1_7)
  subst hv_
  have rd11_ := Lib.hid or0_1
  clear or0_1
  have rd12_ := Lib.hid or0_2
  clear or0_2
  have rd13_ := Lib.hid or1_7
  clear or1_7
  have qG14_ := Lib.hid (gby_refl w3 none)
  have al : (w3).grownBy ((w3).alloc (.cells #[.int .i64 ir0_0, (.slice wr0_1p wr0_1n wr0_1c), (.slice wr0_2p wr0_2n wr0_2c)] 26)) none := gby_alloc (gby_refl _ _) _
  have zs4 := World.grownBy.size al
  try simp only [World.size_alloc] at zs4
  have rA015_ := Lib.hid (show ((w3.alloc (.cells #[.int .i64 ir0_0, (.slice wr0_1p wr0_1n wr0_1c), (.slice wr0_2p wr0_2n wr0_2c)] 26))).heap[W.heap.size]? = some (.cells #[.int .i64 i0_0, a0_1, a0_2] 24 (0, 0)) from row_held al rA08_.out)
  clear rA08_
  have oT116_ := Lib.hid (show OwU ((w3.alloc (.cells #[.int .i64 ir0_0, (.slice wr0_1p wr0_1n wr0_1c), (.slice wr0_2p wr0_2n wr0_2c)] 26))) (w1.heap.size) (w2.heap.size) [] [own shB (.slice t10_1p t10_1n t10_1c) xs0_1, own shB (.slice t10_2p t10_2n t10_2c) xs0_2] from OwU.grow oT19_.out al)
  clear oT19_
  have G17_ := Lib.hid (show (W).grownBy ((w3.alloc (.cells #[.int .i64 ir0_0, (.slice wr0_1p wr0_1n wr0_1c), (.slice wr0_2p wr0_2n wr0_2c)] 26))) none from gby_trans G10_.out al)
  have qw18_ := Lib.hid (show (w3).grownBy ((w3.alloc (.cells #[.int .i64 ir0_0, (.slice wr0_1p wr0_1n wr0_1c), (.slice wr0_2p wr0_2n wr0_2c)] 26))) none from gby_trans qG14_.out al)
  clear qG14_
  have rBw019_ := Lib.hid (show ((w3.alloc (.cells #[.int .i64 ir0_0, (.slice wr0_1p wr0_1n wr0_1c), (.slice wr0_2p wr0_2n wr0_2c)] 26))).heap[w3.heap.size]? = some (.cells #[.int .i64 ir0_0, (.slice wr0_1p wr0_1n wr0_1c), (.slice wr0_2p wr0_2n wr0_2c)] 26 (0, 0)) from by first | exact heap_alloc_new _ _ | exact heap_pair _ _ _ | exact heap_trip _ _ _ _)
  clear al
  have al : ((w3.alloc (.cells #[.int .i64 ir0_0, (.slice wr0_1p wr0_1n wr0_1c), (.slice wr0_2p wr0_2n wr0_2c)] 26))).grownBy (((w3.alloc (.cells #[.int .i64 ir0_0, (.slice wr0_1p wr0_1n wr0_1c), (.slice wr0_2p wr0_2n wr0_2c)] 26))).alloc (.cells #[.int .i64 ir1_0, .int .i64 ir1_1, .int .i64 ir1_2, .int .i64 ir1_3, .int .i64 ir1_4, .int .i64 ir1_5, .int .i64 ir1_6, (.slice wr1_7p wr1_7n wr1_7c)] 29)) none := gby_alloc (gby_refl _ _) _
  have zs5 := World.grownBy.size al
  try simp only [World.size_alloc] at zs5
  have rA020_ := Lib.hid (show (((w3.alloc (.cells #[.int .i64 ir0_0, (.slice wr0_1p wr0_1n wr0_1c), (.slice wr0_2p wr0_2n wr0_2c)] 26)).alloc (.cells #[.int .i64 ir1_0, .int .i64 ir1_1, .int .i64 ir1_2, .int .i64 ir1_3, .int .i64 ir1_4, .int .i64 ir1_5, .int .i64 ir1_6, (.slice wr1_7p wr1_7n wr1_7c)] 29))).heap[W.heap.size]? = some (.cells #[.int .i64 i0_0, a0_1, a0_2] 24 (0, 0)) from row_held al rA015_.out)
  clear rA015_
  have rBw021_ := Lib.hid (show (((w3.alloc (.cells #[.int .i64 ir0_0, (.slice wr0_1p wr0_1n wr0_1c), (.slice wr0_2p wr0_2n wr0_2c)] 26)).alloc (.cells #[.int .i64 ir1_0, .int .i64 ir1_1, .int .i64 ir1_2, .int .i64 ir1_3, .int .i64 ir1_4, .int .i64 ir1_5, .int .i64 ir1_6, (.slice wr1_7p wr1_7n wr1_7c)] 29))).heap[w3.heap.size]? = some (.cells #[.int .i64 ir0_0, (.slice wr0_1p wr0_1n wr0_1c), (.slice wr0_2p wr0_2n wr0_2c)] 26 (0, 0)) from row_held al rBw019_.out)
  clear rBw019_
  have oT122_ := Lib.hid (show OwU (((w3.alloc (.cells #[.int .i64 ir0_0, (.slice wr0_1p wr0_1n wr0_1c), (.slice wr0_2p wr0_2n wr0_2c)] 26)).alloc (.cells #[.int .i64 ir1_0, .int .i64 ir1_1, .int .i64 ir1_2, .int .i64 ir1_3, .int .i64 ir1_4, .int .i64 ir1_5, .int .i64 ir1_6, (.slice wr1_7p wr1_7n wr1_7c)] 29))) (w1.heap.size) (w2.heap.size) [] [own shB (.slice t10_1p t10_1n t10_1c) xs0_1, own shB (.slice t10_2p t10_2n t10_2c) xs0_2] from OwU.grow oT116_.out al)
  clear oT116_
  have G23_ := Lib.hid (show (W).grownBy (((w3.alloc (.cells #[.int .i64 ir0_0, (.slice wr0_1p wr0_1n wr0_1c), (.slice wr0_2p wr0_2n wr0_2c)] 26)).alloc (.cells #[.int .i64 ir1_0, .int .i64 ir1_1, .int .i64 ir1_2, .int .i64 ir1_3, .int .i64 ir1_4, .int .i64 ir1_5, .int .i64 ir1_6, (.slice wr1_7p wr1_7n wr1_7c)] 29))) none from gby_trans G17_.out al)
  have qw24_ := Lib.hid (show (w3).grownBy (((w3.alloc (.cells #[.int .i64 ir0_0, (.slice wr0_1p wr0_1n wr0_1c), (.slice wr0_2p wr0_2n wr0_2c)] 26)).alloc (.cells #[.int .i64 ir1_0, .int .i64 ir1_1, .int .i64 ir1_2, .int .i64 ir1_3, .int .i64 ir1_4, .int .i64 ir1_5, .int .i64 ir1_6, (.slice wr1_7p wr1_7n wr1_7c)] 29))) none from gby_trans qw18_.out al)
  clear qw18_
  have rBw125_ := Lib.hid (show (((w3.alloc (.cells #[.int .i64 ir0_0, (.slice wr0_1p wr0_1n wr0_1c), (.slice wr0_2p wr0_2n wr0_2c)] 26)).alloc (.cells #[.int .i64 ir1_0, .int .i64 ir1_1, .int .i64 ir1_2, .int .i64 ir1_3, .int .i64 ir1_4, .int .i64 ir1_5, .int .i64 ir1_6, (.slice wr1_7p wr1_7n wr1_7c)] 29))).heap[w3.heap.size + 1]? = some (.cells #[.int .i64 ir1_0, .int .i64 ir1_1, .int .i64 ir1_2, .int .i64 ir1_3, .int .i64 ir1_4, .int .i64 ir1_5, .int .i64 ir1_6, (.slice wr1_7p wr1_7n wr1_7c)] 29 (0, 0)) from by first | exact heap_alloc_new _ _ | exact heap_pair _ _ _ | exact heap_trip _ _ _ _)
  clear al
  clear oT122_
  have A0_0_ : (((w3.alloc (.cells #[.int .i64 ir0_0, (.slice wr0_1p wr0_1n wr0_1c), (.slice wr0_2p wr0_2n wr0_2c)] 26)).alloc (.cells #[.int .i64 ir1_0, .int .i64 ir1_1, .int .i64 ir1_2, .int .i64 ir1_3, .int .i64 ir1_4, .int .i64 ir1_5, .int .i64 ir1_6, (.slice wr1_7p wr1_7n wr1_7c)] 29))).cell? ⟨W.heap.size, 0, none⟩ = some (.int .i64 i0_0) := cell_of_row _ _ 0 _ _ _ rA020_.out
  have A0_1_ : (((w3.alloc (.cells #[.int .i64 ir0_0, (.slice wr0_1p wr0_1n wr0_1c), (.slice wr0_2p wr0_2n wr0_2c)] 26)).alloc (.cells #[.int .i64 ir1_0, .int .i64 ir1_1, .int .i64 ir1_2, .int .i64 ir1_3, .int .i64 ir1_4, .int .i64 ir1_5, .int .i64 ir1_6, (.slice wr1_7p wr1_7n wr1_7c)] 29))).cell? ⟨W.heap.size, 1, none⟩ = some (a0_1) := cell_of_row _ _ 1 _ _ _ rA020_.out
  have A0_2_ : (((w3.alloc (.cells #[.int .i64 ir0_0, (.slice wr0_1p wr0_1n wr0_1c), (.slice wr0_2p wr0_2n wr0_2c)] 26)).alloc (.cells #[.int .i64 ir1_0, .int .i64 ir1_1, .int .i64 ir1_2, .int .i64 ir1_3, .int .i64 ir1_4, .int .i64 ir1_5, .int .i64 ir1_6, (.slice wr1_7p wr1_7n wr1_7c)] 29))).cell? ⟨W.heap.size, 2, none⟩ = some (a0_2) := cell_of_row _ _ 2 _ _ _ rA020_.out
  go_wp2_with fail
  go_at_call 13
  refine (toVectors_d _ i0_0 a0_1 a0_2 xs0_1 xs0_2 (HI0_1.out.grow G23_.out) hl0_1 (HI0_2.out.grow G23_.out) hl0_2).mono ?_
  rintro e w4 ⟨x00_1, x00_2, rfl, o, g⟩
  have sz_ := g.size
  try simp only [World.size_alloc] at sz_
  try simp only [World.size_alloc] at o
  have zs6 := World.grownBy.size g
  try simp only [World.size_alloc] at zs6
  clear A0_0_ A0_1_ A0_2_
  have rA026_ := Lib.hid (show (w4).heap[W.heap.size]? = some (.cells #[.int .i64 i0_0, a0_1, a0_2] 24 (0, 0)) from row_held g rA020_.out)
  clear rA020_
  have rBw027_ := Lib.hid (show (w4).heap[w3.heap.size]? = some (.cells #[.int .i64 ir0_0, (.slice wr0_1p wr0_1n wr0_1c), (.slice wr0_2p wr0_2n wr0_2c)] 26 (0, 0)) from row_held g rBw021_.out)
  clear rBw021_
  have rBw128_ := Lib.hid (show (w4).heap[w3.heap.size + 1]? = some (.cells #[.int .i64 ir1_0, .int .i64 ir1_1, .int .i64 ir1_2, .int .i64 ir1_3, .int .i64 ir1_4, .int .i64 ir1_5, .int .i64 ir1_6, (.slice wr1_7p wr1_7n wr1_7c)] 29 (0, 0)) from row_held g rBw125_.out)
  clear rBw125_
  have G29_ := Lib.hid (show (W).grownBy (w4) none from gby_trans G23_.out g)
  have qw30_ := Lib.hid (show (w3).grownBy (w4) none from gby_trans qw24_.out g)
  clear qw24_
  clear g
  have szw4 := sz_
  clear sz_
  obtain ⟨x00_1p, x00_1n, x00_1c, hv_⟩ := RdL.form (OwU.rd o)
  subst hv_
  obtain ⟨x00_2p, x00_2n, x00_2c, hv_⟩ := RdL.form (OwU.rd (OwU.tail o))
  subst hv_
  have ox031_ := Lib.hid (show OwU (w4) (w3.heap.size + 1 + 1) (w4.heap.size) [] [own shB (.slice x00_1p x00_1n x00_1c) xs0_1, own shB (.slice x00_2p x00_2n x00_2c) xs0_2] from o)
  clear o
  try unfold vVectors
  have al : (w4).grownBy ((w4).alloc (.cells #[.int .i64 i0_0, (.slice x00_1p x00_1n x00_1c), (.slice x00_2p x00_2n x00_2c)] 26)) none := gby_alloc (gby_refl _ _) _
  have zs7 := World.grownBy.size al
  try simp only [World.size_alloc] at zs7
  have rA032_ := Lib.hid (show ((w4.alloc (.cells #[.int .i64 i0_0, (.slice x00_1p x00_1n x00_1c), (.slice x00_2p x00_2n x00_2c)] 26))).heap[W.heap.size]? = some (.cells #[.int .i64 i0_0, a0_1, a0_2] 24 (0, 0)) from row_held al rA026_.out)
  clear rA026_
  have rBw033_ := Lib.hid (show ((w4.alloc (.cells #[.int .i64 i0_0, (.slice x00_1p x00_1n x00_1c), (.slice x00_2p x00_2n x00_2c)] 26))).heap[w3.heap.size]? = some (.cells #[.int .i64 ir0_0, (.slice wr0_1p wr0_1n wr0_1c), (.slice wr0_2p wr0_2n wr0_2c)] 26 (0, 0)) from row_held al rBw027_.out)
  clear rBw027_
  have rBw134_ := Lib.hid (show ((w4.alloc (.cells #[.int .i64 i0_0, (.slice x00_1p x00_1n x00_1c), (.slice x00_2p x00_2n x00_2c)] 26))).heap[w3.heap.size + 1]? = some (.cells #[.int .i64 ir1_0, .int .i64 ir1_1, .int .i64 ir1_2, .int .i64 ir1_3, .int .i64 ir1_4, .int .i64 ir1_5, .int .i64 ir1_6, (.slice wr1_7p wr1_7n wr1_7c)] 29 (0, 0)) from row_held al rBw128_.out)
  clear rBw128_
  have ox035_ := Lib.hid (show OwU ((w4.alloc (.cells #[.int .i64 i0_0, (.slice x00_1p x00_1n x00_1c), (.slice x00_2p x00_2n x00_2c)] 26))) (w3.heap.size + 1 + 1) (w4.heap.size) [] [own shB (.slice x00_1p x00_1n x00_1c) xs0_1, own shB (.slice x00_2p x00_2n x00_2c) xs0_2] from OwU.grow ox031_.out al)
  clear ox031_
  have G36_ := Lib.hid (show (W).grownBy ((w4.alloc (.cells #[.int .i64 i0_0, (.slice x00_1p x00_1n x00_1c), (.slice x00_2p x00_2n x00_2c)] 26))) none from gby_trans G29_.out al)
  have qw37_ := Lib.hid (show (w3).grownBy ((w4.alloc (.cells #[.int .i64 i0_0, (.slice x00_1p x00_1n x00_1c), (.slice x00_2p x00_2n x00_2c)] 26))) none from gby_trans qw30_.out al)
  clear qw30_
  have rBx038_ := Lib.hid (show ((w4.alloc (.cells #[.int .i64 i0_0, (.slice x00_1p x00_1n x00_1c), (.slice x00_2p x00_2n x00_2c)] 26))).heap[w4.heap.size]? = some (.cells #[.int .i64 i0_0, (.slice x00_1p x00_1n x00_1c), (.slice x00_2p x00_2n x00_2c)] 26 (0, 0)) from by first | exact heap_alloc_new _ _ | exact heap_pair _ _ _ | exact heap_trip _ _ _ _)
  clear al
  have Bx0_0_ : ((w4.alloc (.cells #[.int .i64 i0_0, (.slice x00_1p x00_1n x00_1c), (.slice x00_2p x00_2n x00_2c)] 26))).cell? ⟨w4.heap.size, 0, none⟩ = some (.int .i64 i0_0) := cell_of_row _ _ 0 _ _ _ rBx038_.out
  have Bx0_1_ : ((w4.alloc (.cells #[.int .i64 i0_0, (.slice x00_1p x00_1n x00_1c), (.slice x00_2p x00_2n x00_2c)] 26))).cell? ⟨w4.heap.size, 1, none⟩ = some ((.slice x00_1p x00_1n x00_1c)) := cell_of_row _ _ 1 _ _ _ rBx038_.out
  have Bx0_2_ : ((w4.alloc (.cells #[.int .i64 i0_0, (.slice x00_1p x00_1n x00_1c), (.slice x00_2p x00_2n x00_2c)] 26))).cell? ⟨w4.heap.size, 2, none⟩ = some ((.slice x00_2p x00_2n x00_2c)) := cell_of_row _ _ 2 _ _ _ rBx038_.out
  go_wp2_with fail
  go_at_call 22
  refine (HM.out _ (.slice x00_1p x00_1n x00_1c) (.slice x00_2p x00_2n x00_2c) (OwU.rd ox035_.out) (OwU.rd (OwU.tail ox035_.out))).mono ?_
  rintro e w5 ⟨gr0_1, gr0_2, gr1_7, rfl, o, g⟩
  have sz_ := g.size
  try simp only [World.size_alloc] at sz_
  try simp only [World.size_alloc] at o
  have zs8 := World.grownBy.size g
  try simp only [World.size_alloc] at zs8
  clear Bx0_0_ Bx0_1_ Bx0_2_
  have rA039_ := Lib.hid (show (w5).heap[W.heap.size]? = some (.cells #[.int .i64 i0_0, a0_1, a0_2] 24 (0, 0)) from row_held g rA032_.out)
  clear rA032_
  have rBw040_ := Lib.hid (show (w5).heap[w3.heap.size]? = some (.cells #[.int .i64 ir0_0, (.slice wr0_1p wr0_1n wr0_1c), (.slice wr0_2p wr0_2n wr0_2c)] 26 (0, 0)) from row_held g rBw033_.out)
  clear rBw033_
  have rBw141_ := Lib.hid (show (w5).heap[w3.heap.size + 1]? = some (.cells #[.int .i64 ir1_0, .int .i64 ir1_1, .int .i64 ir1_2, .int .i64 ir1_3, .int .i64 ir1_4, .int .i64 ir1_5, .int .i64 ir1_6, (.slice wr1_7p wr1_7n wr1_7c)] 29 (0, 0)) from row_held g rBw134_.out)
  clear rBw134_
  have rBx042_ := Lib.hid (show (w5).heap[w4.heap.size]? = some (.cells #[.int .i64 i0_0, (.slice x00_1p x00_1n x00_1c), (.slice x00_2p x00_2n x00_2c)] 26 (0, 0)) from row_held g rBx038_.out)
  clear rBx038_
  have ox043_ := Lib.hid (show OwU (w5) (w3.heap.size + 1 + 1) (w4.heap.size) [] [own shB (.slice x00_1p x00_1n x00_1c) xs0_1, own shB (.slice x00_2p x00_2n x00_2c) xs0_2] from OwU.grow ox035_.out g)
  clear ox035_
  have G44_ := Lib.hid (show (W).grownBy (w5) none from gby_trans G36_.out g)
  have qw45_ := Lib.hid (show (w3).grownBy (w5) none from gby_trans qw37_.out g)
  clear qw37_
  clear g
  have szw5 := sz_
  clear sz_
  obtain ⟨gr0_1p, gr0_1n, gr0_1c, hv_⟩ := RdL.form (OwU.rd o)
  subst hv_
  obtain ⟨gr0_2p, gr0_2n, gr0_2c, hv_⟩ := RdL.form (OwU.rd (OwU.tail o))
  subst hv_
  obtain ⟨gr1_7p, gr1_7n, gr1_7c, hv_⟩ := RdL.form (OwU.rd (OwU.tail (OwU.tail o)))
  subst hv_
  have og46_ := Lib.hid (show OwU (w5) (w4.heap.size + 1) (w5.heap.size) [] [own shB (.slice gr0_1p gr0_1n gr0_1c) xsr0_1, own shB (.slice gr0_2p gr0_2n gr0_2c) xsr0_2, own shI (.slice gr1_7p gr1_7n gr1_7c) xsr1_7] from o)
  clear o
  have al : (w5).grownBy ((w5).alloc (.cells #[.int .i64 ir0_0, (.slice gr0_1p gr0_1n gr0_1c), (.slice gr0_2p gr0_2n gr0_2c)] 26)) none := gby_alloc (gby_refl _ _) _
  have zs9 := World.grownBy.size al
  try simp only [World.size_alloc] at zs9
  have rA047_ := Lib.hid (show ((w5.alloc (.cells #[.int .i64 ir0_0, (.slice gr0_1p gr0_1n gr0_1c), (.slice gr0_2p gr0_2n gr0_2c)] 26))).heap[W.heap.size]? = some (.cells #[.int .i64 i0_0, a0_1, a0_2] 24 (0, 0)) from row_held al rA039_.out)
  clear rA039_
  have rBw048_ := Lib.hid (show ((w5.alloc (.cells #[.int .i64 ir0_0, (.slice gr0_1p gr0_1n gr0_1c), (.slice gr0_2p gr0_2n gr0_2c)] 26))).heap[w3.heap.size]? = some (.cells #[.int .i64 ir0_0, (.slice wr0_1p wr0_1n wr0_1c), (.slice wr0_2p wr0_2n wr0_2c)] 26 (0, 0)) from row_held al rBw040_.out)
  clear rBw040_
  have rBw149_ := Lib.hid (show ((w5.alloc (.cells #[.int .i64 ir0_0, (.slice gr0_1p gr0_1n gr0_1c), (.slice gr0_2p gr0_2n gr0_2c)] 26))).heap[w3.heap.size + 1]? = some (.cells #[.int .i64 ir1_0, .int .i64 ir1_1, .int .i64 ir1_2, .int .i64 ir1_3, .int .i64 ir1_4, .int .i64 ir1_5, .int .i64 ir1_6, (.slice wr1_7p wr1_7n wr1_7c)] 29 (0, 0)) from row_held al rBw141_.out)
  clear rBw141_
  have rBx050_ := Lib.hid (show ((w5.alloc (.cells #[.int .i64 ir0_0, (.slice gr0_1p gr0_1n gr0_1c), (.slice gr0_2p gr0_2n gr0_2c)] 26))).heap[w4.heap.size]? = some (.cells #[.int .i64 i0_0, (.slice x00_1p x00_1n x00_1c), (.slice x00_2p x00_2n x00_2c)] 26 (0, 0)) from row_held al rBx042_.out)
  clear rBx042_
  have ox051_ := Lib.hid (show OwU ((w5.alloc (.cells #[.int .i64 ir0_0, (.slice gr0_1p gr0_1n gr0_1c), (.slice gr0_2p gr0_2n gr0_2c)] 26))) (w3.heap.size + 1 + 1) (w4.heap.size) [] [own shB (.slice x00_1p x00_1n x00_1c) xs0_1, own shB (.slice x00_2p x00_2n x00_2c) xs0_2] from OwU.grow ox043_.out al)
  clear ox043_
  have og52_ := Lib.hid (show OwU ((w5.alloc (.cells #[.int .i64 ir0_0, (.slice gr0_1p gr0_1n gr0_1c), (.slice gr0_2p gr0_2n gr0_2c)] 26))) (w4.heap.size + 1) (w5.heap.size) [] [own shB (.slice gr0_1p gr0_1n gr0_1c) xsr0_1, own shB (.slice gr0_2p gr0_2n gr0_2c) xsr0_2, own shI (.slice gr1_7p gr1_7n gr1_7c) xsr1_7] from OwU.grow og46_.out al)
  clear og46_
  have G53_ := Lib.hid (show (W).grownBy ((w5.alloc (.cells #[.int .i64 ir0_0, (.slice gr0_1p gr0_1n gr0_1c), (.slice gr0_2p gr0_2n gr0_2c)] 26))) none from gby_trans G44_.out al)
  have qw54_ := Lib.hid (show (w3).grownBy ((w5.alloc (.cells #[.int .i64 ir0_0, (.slice gr0_1p gr0_1n gr0_1c), (.slice gr0_2p gr0_2n gr0_2c)] 26))) none from gby_trans qw45_.out al)
  clear qw45_
  have rBg055_ := Lib.hid (show ((w5.alloc (.cells #[.int .i64 ir0_0, (.slice gr0_1p gr0_1n gr0_1c), (.slice gr0_2p gr0_2n gr0_2c)] 26))).heap[w5.heap.size]? = some (.cells #[.int .i64 ir0_0, (.slice gr0_1p gr0_1n gr0_1c), (.slice gr0_2p gr0_2n gr0_2c)] 26 (0, 0)) from by first | exact heap_alloc_new _ _ | exact heap_pair _ _ _ | exact heap_trip _ _ _ _)
  clear al
  have al : ((w5.alloc (.cells #[.int .i64 ir0_0, (.slice gr0_1p gr0_1n gr0_1c), (.slice gr0_2p gr0_2n gr0_2c)] 26))).grownBy (((w5.alloc (.cells #[.int .i64 ir0_0, (.slice gr0_1p gr0_1n gr0_1c), (.slice gr0_2p gr0_2n gr0_2c)] 26))).alloc (.cells #[.int .i64 ir1_0, .int .i64 ir1_1, .int .i64 ir1_2, .int .i64 ir1_3, .int .i64 ir1_4, .int .i64 ir1_5, .int .i64 ir1_6, (.slice gr1_7p gr1_7n gr1_7c)] 29)) none := gby_alloc (gby_refl _ _) _
  have zs10 := World.grownBy.size al
  try simp only [World.size_alloc] at zs10
  have rA056_ := Lib.hid (show (((w5.alloc (.cells #[.int .i64 ir0_0, (.slice gr0_1p gr0_1n gr0_1c), (.slice gr0_2p gr0_2n gr0_2c)] 26)).alloc (.cells #[.int .i64 ir1_0, .int .i64 ir1_1, .int .i64 ir1_2, .int .i64 ir1_3, .int .i64 ir1_4, .int .i64 ir1_5, .int .i64 ir1_6, (.slice gr1_7p gr1_7n gr1_7c)] 29))).heap[W.heap.size]? = some (.cells #[.int .i64 i0_0, a0_1, a0_2] 24 (0, 0)) from row_held al rA047_.out)
  clear rA047_
  have rBw057_ := Lib.hid (show (((w5.alloc (.cells #[.int .i64 ir0_0, (.slice gr0_1p gr0_1n gr0_1c), (.slice gr0_2p gr0_2n gr0_2c)] 26)).alloc (.cells #[.int .i64 ir1_0, .int .i64 ir1_1, .int .i64 ir1_2, .int .i64 ir1_3, .int .i64 ir1_4, .int .i64 ir1_5, .int .i64 ir1_6, (.slice gr1_7p gr1_7n gr1_7c)] 29))).heap[w3.heap.size]? = some (.cells #[.int .i64 ir0_0, (.slice wr0_1p wr0_1n wr0_1c), (.slice wr0_2p wr0_2n wr0_2c)] 26 (0, 0)) from row_held al rBw048_.out)
  clear rBw048_
  have rBw158_ := Lib.hid (show (((w5.alloc (.cells #[.int .i64 ir0_0, (.slice gr0_1p gr0_1n gr0_1c), (.slice gr0_2p gr0_2n gr0_2c)] 26)).alloc (.cells #[.int .i64 ir1_0, .int .i64 ir1_1, .int .i64 ir1_2, .int .i64 ir1_3, .int .i64 ir1_4, .int .i64 ir1_5, .int .i64 ir1_6, (.slice gr1_7p gr1_7n gr1_7c)] 29))).heap[w3.heap.size + 1]? = some (.cells #[.int .i64 ir1_0, .int .i64 ir1_1, .int .i64 ir1_2, .int .i64 ir1_3, .int .i64 ir1_4, .int .i64 ir1_5, .int .i64 ir1_6, (.slice wr1_7p wr1_7n wr1_7c)] 29 (0, 0)) from row_held al rBw149_.out)
  clear rBw149_
  have rBx059_ := Lib.hid (show (((w5.alloc (.cells #[.int .i64 ir0_0, (.slice gr0_1p gr0_1n gr0_1c), (.slice gr0_2p gr0_2n gr0_2c)] 26)).alloc (.cells #[.int .i64 ir1_0, .int .i64 ir1_1, .int .i64 ir1_2, .int .i64 ir1_3, .int .i64 ir1_4, .int .i64 ir1_5, .int .i64 ir1_6, (.slice gr1_7p gr1_7n gr1_7c)] 29))).heap[w4.heap.size]? = some (.cells #[.int .i64 i0_0, (.slice x00_1p x00_1n x00_1c), (.slice x00_2p x00_2n x00_2c)] 26 (0, 0)) from row_held al rBx050_.out)
  clear rBx050_
  have rBg060_ := Lib.hid (show (((w5.alloc (.cells #[.int .i64 ir0_0, (.slice gr0_1p gr0_1n gr0_1c), (.slice gr0_2p gr0_2n gr0_2c)] 26)).alloc (.cells #[.int .i64 ir1_0, .int .i64 ir1_1, .int .i64 ir1_2, .int .i64 ir1_3, .int .i64 ir1_4, .int .i64 ir1_5, .int .i64 ir1_6, (.slice gr1_7p gr1_7n gr1_7c)] 29))).heap[w5.heap.size]? = some (.cells #[.int .i64 ir0_0, (.slice gr0_1p gr0_1n gr0_1c), (.slice gr0_2p gr0_2n gr0_2c)] 26 (0, 0)) from row_held al rBg055_.out)
  clear rBg055_
  have ox061_ := Lib.hid (show OwU (((w5.alloc (.cells #[.int .i64 ir0_0, (.slice gr0_1p gr0_1n gr0_1c), (.slice gr0_2p gr0_2n gr0_2c)] 26)).alloc (.cells #[.int .i64 ir1_0, .int .i64 ir1_1, .int .i64 ir1_2, .int .i64 ir1_3, .int .i64 ir1_4, .int .i64 ir1_5, .int .i64 ir1_6, (.slice gr1_7p gr1_7n gr1_7c)] 29))) (w3.heap.size + 1 + 1) (w4.heap.size) [] [own shB (.slice x00_1p x00_1n x00_1c) xs0_1, own shB (.slice x00_2p x00_2n x00_2c) xs0_2] from OwU.grow ox051_.out al)
  clear ox051_
  have og62_ := Lib.hid (show OwU (((w5.alloc (.cells #[.int .i64 ir0_0, (.slice gr0_1p gr0_1n gr0_1c), (.slice gr0_2p gr0_2n gr0_2c)] 26)).alloc (.cells #[.int .i64 ir1_0, .int .i64 ir1_1, .int .i64 ir1_2, .int .i64 ir1_3, .int .i64 ir1_4, .int .i64 ir1_5, .int .i64 ir1_6, (.slice gr1_7p gr1_7n gr1_7c)] 29))) (w4.heap.size + 1) (w5.heap.size) [] [own shB (.slice gr0_1p gr0_1n gr0_1c) xsr0_1, own shB (.slice gr0_2p gr0_2n gr0_2c) xsr0_2, own shI (.slice gr1_7p gr1_7n gr1_7c) xsr1_7] from OwU.grow og52_.out al)
  clear og52_
  have G63_ := Lib.hid (show (W).grownBy (((w5.alloc (.cells #[.int .i64 ir0_0, (.slice gr0_1p gr0_1n gr0_1c), (.slice gr0_2p gr0_2n gr0_2c)] 26)).alloc (.cells #[.int .i64 ir1_0, .int .i64 ir1_1, .int .i64 ir1_2, .int .i64 ir1_3, .int .i64 ir1_4, .int .i64 ir1_5, .int .i64 ir1_6, (.slice gr1_7p gr1_7n gr1_7c)] 29))) none from gby_trans G53_.out al)
  have qw64_ := Lib.hid (show (w3).grownBy (((w5.alloc (.cells #[.int .i64 ir0_0, (.slice gr0_1p gr0_1n gr0_1c), (.slice gr0_2p gr0_2n gr0_2c)] 26)).alloc (.cells #[.int .i64 ir1_0, .int .i64 ir1_1, .int .i64 ir1_2, .int .i64 ir1_3, .int .i64 ir1_4, .int .i64 ir1_5, .int .i64 ir1_6, (.slice gr1_7p gr1_7n gr1_7c)] 29))) none from gby_trans qw54_.out al)
  clear qw54_
  have rBg165_ := Lib.hid (show (((w5.alloc (.cells #[.int .i64 ir0_0, (.slice gr0_1p gr0_1n gr0_1c), (.slice gr0_2p gr0_2n gr0_2c)] 26)).alloc (.cells #[.int .i64 ir1_0, .int .i64 ir1_1, .int .i64 ir1_2, .int .i64 ir1_3, .int .i64 ir1_4, .int .i64 ir1_5, .int .i64 ir1_6, (.slice gr1_7p gr1_7n gr1_7c)] 29))).heap[w5.heap.size + 1]? = some (.cells #[.int .i64 ir1_0, .int .i64 ir1_1, .int .i64 ir1_2, .int .i64 ir1_3, .int .i64 ir1_4, .int .i64 ir1_5, .int .i64 ir1_6, (.slice gr1_7p gr1_7n gr1_7c)] 29 (0, 0)) from by first | exact heap_alloc_new _ _ | exact heap_pair _ _ _ | exact heap_trip _ _ _ _)
  clear al
  have Bg0_0_ : (((w5.alloc (.cells #[.int .i64 ir0_0, (.slice gr0_1p gr0_1n gr0_1c), (.slice gr0_2p gr0_2n gr0_2c)] 26)).alloc (.cells #[.int .i64 ir1_0, .int .i64 ir1_1, .int .i64 ir1_2, .int .i64 ir1_3, .int .i64 ir1_4, .int .i64 ir1_5, .int .i64 ir1_6, (.slice gr1_7p gr1_7n gr1_7c)] 29))).cell? ⟨w5.heap.size, 0, none⟩ = some (.int .i64 ir0_0) := cell_of_row _ _ 0 _ _ _ rBg060_.out
  have Bg0_1_ : (((w5.alloc (.cells #[.int .i64 ir0_0, (.slice gr0_1p gr0_1n gr0_1c), (.slice gr0_2p gr0_2n gr0_2c)] 26)).alloc (.cells #[.int .i64 ir1_0, .int .i64 ir1_1, .int .i64 ir1_2, .int .i64 ir1_3, .int .i64 ir1_4, .int .i64 ir1_5, .int .i64 ir1_6, (.slice gr1_7p gr1_7n gr1_7c)] 29))).cell? ⟨w5.heap.size, 1, none⟩ = some ((.slice gr0_1p gr0_1n gr0_1c)) := cell_of_row _ _ 1 _ _ _ rBg060_.out
  have Bg0_2_ : (((w5.alloc (.cells #[.int .i64 ir0_0, (.slice gr0_1p gr0_1n gr0_1c), (.slice gr0_2p gr0_2n gr0_2c)] 26)).alloc (.cells #[.int .i64 ir1_0, .int .i64 ir1_1, .int .i64 ir1_2, .int .i64 ir1_3, .int .i64 ir1_4, .int .i64 ir1_5, .int .i64 ir1_6, (.slice gr1_7p gr1_7n gr1_7c)] 29))).cell? ⟨w5.heap.size, 2, none⟩ = some ((.slice gr0_2p gr0_2n gr0_2c)) := cell_of_row _ _ 2 _ _ _ rBg060_.out
  have Bw0_0_ : (((w5.alloc (.cells #[.int .i64 ir0_0, (.slice gr0_1p gr0_1n gr0_1c), (.slice gr0_2p gr0_2n gr0_2c)] 26)).alloc (.cells #[.int .i64 ir1_0, .int .i64 ir1_1, .int .i64 ir1_2, .int .i64 ir1_3, .int .i64 ir1_4, .int .i64 ir1_5, .int .i64 ir1_6, (.slice gr1_7p gr1_7n gr1_7c)] 29))).cell? ⟨w3.heap.size, 0, none⟩ = some (.int .i64 ir0_0) := cell_of_row _ _ 0 _ _ _ rBw057_.out
  have Bw0_1_ : (((w5.alloc (.cells #[.int .i64 ir0_0, (.slice gr0_1p gr0_1n gr0_1c), (.slice gr0_2p gr0_2n gr0_2c)] 26)).alloc (.cells #[.int .i64 ir1_0, .int .i64 ir1_1, .int .i64 ir1_2, .int .i64 ir1_3, .int .i64 ir1_4, .int .i64 ir1_5, .int .i64 ir1_6, (.slice gr1_7p gr1_7n gr1_7c)] 29))).cell? ⟨w3.heap.size, 1, none⟩ = some ((.slice wr0_1p wr0_1n wr0_1c)) := cell_of_row _ _ 1 _ _ _ rBw057_.out
  have Bw0_2_ : (((w5.alloc (.cells #[.int .i64 ir0_0, (.slice gr0_1p gr0_1n gr0_1c), (.slice gr0_2p gr0_2n gr0_2c)] 26)).alloc (.cells #[.int .i64 ir1_0, .int .i64 ir1_1, .int .i64 ir1_2, .int .i64 ir1_3, .int .i64 ir1_4, .int .i64 ir1_5, .int .i64 ir1_6, (.slice gr1_7p gr1_7n gr1_7c)] 29))).cell? ⟨w3.heap.size, 2, none⟩ = some ((.slice wr0_2p wr0_2n wr0_2c)) := cell_of_row _ _ 2 _ _ _ rBw057_.out
  go_wp2_with fail
  go_at_call 15
  refine (eqVectors_d _ ir0_0 (.slice gr0_1p gr0_1n gr0_1c) (.slice gr0_2p gr0_2n gr0_2c) (.slice wr0_1p wr0_1n wr0_1c) (.slice wr0_2p wr0_2n wr0_2c) xsr0_1 xsr0_2 (OwU.rd og62_.out) (RdL.grow rd11_.out qw64_.out) hLr0_1 (OwU.rd (OwU.tail og62_.out)) (RdL.grow rd12_.out qw64_.out) hLr0_2).mono ?_
  rintro e w6 ⟨rfl, g⟩
  have zs11 := World.grownBy.size g
  try simp only [World.size_alloc] at zs11
  clear Bg0_0_ Bg0_1_ Bg0_2_ Bw0_0_ Bw0_1_ Bw0_2_
  have rA066_ := Lib.hid (show (w6).heap[W.heap.size]? = some (.cells #[.int .i64 i0_0, a0_1, a0_2] 24 (0, 0)) from row_held g rA056_.out)
  clear rA056_
  have rBw067_ := Lib.hid (show (w6).heap[w3.heap.size]? = some (.cells #[.int .i64 ir0_0, (.slice wr0_1p wr0_1n wr0_1c), (.slice wr0_2p wr0_2n wr0_2c)] 26 (0, 0)) from row_held g rBw057_.out)
  clear rBw057_
  have rBw168_ := Lib.hid (show (w6).heap[w3.heap.size + 1]? = some (.cells #[.int .i64 ir1_0, .int .i64 ir1_1, .int .i64 ir1_2, .int .i64 ir1_3, .int .i64 ir1_4, .int .i64 ir1_5, .int .i64 ir1_6, (.slice wr1_7p wr1_7n wr1_7c)] 29 (0, 0)) from row_held g rBw158_.out)
  clear rBw158_
  have rBx069_ := Lib.hid (show (w6).heap[w4.heap.size]? = some (.cells #[.int .i64 i0_0, (.slice x00_1p x00_1n x00_1c), (.slice x00_2p x00_2n x00_2c)] 26 (0, 0)) from row_held g rBx059_.out)
  clear rBx059_
  have rBg070_ := Lib.hid (show (w6).heap[w5.heap.size]? = some (.cells #[.int .i64 ir0_0, (.slice gr0_1p gr0_1n gr0_1c), (.slice gr0_2p gr0_2n gr0_2c)] 26 (0, 0)) from row_held g rBg060_.out)
  clear rBg060_
  have rBg171_ := Lib.hid (show (w6).heap[w5.heap.size + 1]? = some (.cells #[.int .i64 ir1_0, .int .i64 ir1_1, .int .i64 ir1_2, .int .i64 ir1_3, .int .i64 ir1_4, .int .i64 ir1_5, .int .i64 ir1_6, (.slice gr1_7p gr1_7n gr1_7c)] 29 (0, 0)) from row_held g rBg165_.out)
  clear rBg165_
  have ox072_ := Lib.hid (show OwU (w6) (w3.heap.size + 1 + 1) (w4.heap.size) [] [own shB (.slice x00_1p x00_1n x00_1c) xs0_1, own shB (.slice x00_2p x00_2n x00_2c) xs0_2] from OwU.grow ox061_.out g)
  clear ox061_
  have og73_ := Lib.hid (show OwU (w6) (w4.heap.size + 1) (w5.heap.size) [] [own shB (.slice gr0_1p gr0_1n gr0_1c) xsr0_1, own shB (.slice gr0_2p gr0_2n gr0_2c) xsr0_2, own shI (.slice gr1_7p gr1_7n gr1_7c) xsr1_7] from OwU.grow og62_.out g)
  clear og62_
  have G74_ := Lib.hid (show (W).grownBy (w6) none from gby_trans G63_.out g)
  have qw75_ := Lib.hid (show (w3).grownBy (w6) none from gby_trans qw64_.out g)
  clear qw64_
  clear g
  have Bg1_0_ : (w6).cell? ⟨w5.heap.size + 1, 0, none⟩ = some (.int .i64 ir1_0) := cell_of_row _ _ 0 _ _ _ rBg171_.out
  have Bg1_1_ : (w6).cell? ⟨w5.heap.size + 1, 1, none⟩ = some (.int .i64 ir1_1) := cell_of_row _ _ 1 _ _ _ rBg171_.out
  have Bg1_2_ : (w6).cell? ⟨w5.heap.size + 1, 2, none⟩ = some (.int .i64 ir1_2) := cell_of_row _ _ 2 _ _ _ rBg171_.out
  have Bg1_3_ : (w6).cell? ⟨w5.heap.size + 1, 3, none⟩ = some (.int .i64 ir1_3) := cell_of_row _ _ 3 _ _ _ rBg171_.out
  have Bg1_4_ : (w6).cell? ⟨w5.heap.size + 1, 4, none⟩ = some (.int .i64 ir1_4) := cell_of_row _ _ 4 _ _ _ rBg171_.out
  have Bg1_5_ : (w6).cell? ⟨w5.heap.size + 1, 5, none⟩ = some (.int .i64 ir1_5) := cell_of_row _ _ 5 _ _ _ rBg171_.out
  have Bg1_6_ : (w6).cell? ⟨w5.heap.size + 1, 6, none⟩ = some (.int .i64 ir1_6) := cell_of_row _ _ 6 _ _ _ rBg171_.out
  have Bg1_7_ : (w6).cell? ⟨w5.heap.size + 1, 7, none⟩ = some ((.slice gr1_7p gr1_7n gr1_7c)) := cell_of_row _ _ 7 _ _ _ rBg171_.out
  have Bw1_0_ : (w6).cell? ⟨w3.heap.size + 1, 0, none⟩ = some (.int .i64 ir1_0) := cell_of_row _ _ 0 _ _ _ rBw168_.out
  have Bw1_1_ : (w6).cell? ⟨w3.heap.size + 1, 1, none⟩ = some (.int .i64 ir1_1) := cell_of_row _ _ 1 _ _ _ rBw168_.out
  have Bw1_2_ : (w6).cell? ⟨w3.heap.size + 1, 2, none⟩ = some (.int .i64 ir1_2) := cell_of_row _ _ 2 _ _ _ rBw168_.out
  have Bw1_3_ : (w6).cell? ⟨w3.heap.size + 1, 3, none⟩ = some (.int .i64 ir1_3) := cell_of_row _ _ 3 _ _ _ rBw168_.out
  have Bw1_4_ : (w6).cell? ⟨w3.heap.size + 1, 4, none⟩ = some (.int .i64 ir1_4) := cell_of_row _ _ 4 _ _ _ rBw168_.out
  have Bw1_5_ : (w6).cell? ⟨w3.heap.size + 1, 5, none⟩ = some (.int .i64 ir1_5) := cell_of_row _ _ 5 _ _ _ rBw168_.out
  have Bw1_6_ : (w6).cell? ⟨w3.heap.size + 1, 6, none⟩ = some (.int .i64 ir1_6) := cell_of_row _ _ 6 _ _ _ rBw168_.out
  have Bw1_7_ : (w6).cell? ⟨w3.heap.size + 1, 7, none⟩ = some ((.slice wr1_7p wr1_7n wr1_7c)) := cell_of_row _ _ 7 _ _ _ rBw168_.out
  go_wp2_with fail
  go_at_call 16
  refine (eqPacket_d _ ir1_0 ir1_1 ir1_2 ir1_3 ir1_4 ir1_5 ir1_6 (.slice gr1_7p gr1_7n gr1_7c) (.slice wr1_7p wr1_7n wr1_7c) xsr1_7 (OwU.rd (OwU.tail (OwU.tail og73_.out))) (RdL.grow rd13_.out qw75_.out) hLr1_7).mono ?_
  rintro e w7 ⟨rfl, g⟩
  have zs12 := World.grownBy.size g
  try simp only [World.size_alloc] at zs12
  clear Bg1_0_ Bg1_1_ Bg1_2_ Bg1_3_ Bg1_4_ Bg1_5_ Bg1_6_ Bg1_7_ Bw1_0_ Bw1_1_ Bw1_2_ Bw1_3_ Bw1_4_ Bw1_5_ Bw1_6_ Bw1_7_
  have rA076_ := Lib.hid (show (w7).heap[W.heap.size]? = some (.cells #[.int .i64 i0_0, a0_1, a0_2] 24 (0, 0)) from row_held g rA066_.out)
  clear rA066_
  have rBw077_ := Lib.hid (show (w7).heap[w3.heap.size]? = some (.cells #[.int .i64 ir0_0, (.slice wr0_1p wr0_1n wr0_1c), (.slice wr0_2p wr0_2n wr0_2c)] 26 (0, 0)) from row_held g rBw067_.out)
  clear rBw067_
  have rBw178_ := Lib.hid (show (w7).heap[w3.heap.size + 1]? = some (.cells #[.int .i64 ir1_0, .int .i64 ir1_1, .int .i64 ir1_2, .int .i64 ir1_3, .int .i64 ir1_4, .int .i64 ir1_5, .int .i64 ir1_6, (.slice wr1_7p wr1_7n wr1_7c)] 29 (0, 0)) from row_held g rBw168_.out)
  clear rBw168_
  have rBx079_ := Lib.hid (show (w7).heap[w4.heap.size]? = some (.cells #[.int .i64 i0_0, (.slice x00_1p x00_1n x00_1c), (.slice x00_2p x00_2n x00_2c)] 26 (0, 0)) from row_held g rBx069_.out)
  clear rBx069_
  have rBg080_ := Lib.hid (show (w7).heap[w5.heap.size]? = some (.cells #[.int .i64 ir0_0, (.slice gr0_1p gr0_1n gr0_1c), (.slice gr0_2p gr0_2n gr0_2c)] 26 (0, 0)) from row_held g rBg070_.out)
  clear rBg070_
  have rBg181_ := Lib.hid (show (w7).heap[w5.heap.size + 1]? = some (.cells #[.int .i64 ir1_0, .int .i64 ir1_1, .int .i64 ir1_2, .int .i64 ir1_3, .int .i64 ir1_4, .int .i64 ir1_5, .int .i64 ir1_6, (.slice gr1_7p gr1_7n gr1_7c)] 29 (0, 0)) from row_held g rBg171_.out)
  clear rBg171_
  have ox082_ := Lib.hid (show OwU (w7) (w3.heap.size + 1 + 1) (w4.heap.size) [] [own shB (.slice x00_1p x00_1n x00_1c) xs0_1, own shB (.slice x00_2p x00_2n x00_2c) xs0_2] from OwU.grow ox072_.out g)
  clear ox072_
  have og83_ := Lib.hid (show OwU (w7) (w4.heap.size + 1) (w5.heap.size) [] [own shB (.slice gr0_1p gr0_1n gr0_1c) xsr0_1, own shB (.slice gr0_2p gr0_2n gr0_2c) xsr0_2, own shI (.slice gr1_7p gr1_7n gr1_7c) xsr1_7] from OwU.grow og73_.out g)
  clear og73_
  have G84_ := Lib.hid (show (W).grownBy (w7) none from gby_trans G74_.out g)
  have qw85_ := Lib.hid (show (w3).grownBy (w7) none from gby_trans qw75_.out g)
  clear qw75_
  clear g
  have A0_0_ : (w7).cell? ⟨W.heap.size, 0, none⟩ = some (.int .i64 i0_0) := cell_of_row _ _ 0 _ _ _ rA076_.out
  have A0_1_ : (w7).cell? ⟨W.heap.size, 1, none⟩ = some (a0_1) := cell_of_row _ _ 1 _ _ _ rA076_.out
  have A0_2_ : (w7).cell? ⟨W.heap.size, 2, none⟩ = some (a0_2) := cell_of_row _ _ 2 _ _ _ rA076_.out
  have Bx0_0_ : (w7).cell? ⟨w4.heap.size, 0, none⟩ = some (.int .i64 i0_0) := cell_of_row _ _ 0 _ _ _ rBx079_.out
  have Bx0_1_ : (w7).cell? ⟨w4.heap.size, 1, none⟩ = some ((.slice x00_1p x00_1n x00_1c)) := cell_of_row _ _ 1 _ _ _ rBx079_.out
  have Bx0_2_ : (w7).cell? ⟨w4.heap.size, 2, none⟩ = some ((.slice x00_2p x00_2n x00_2c)) := cell_of_row _ _ 2 _ _ _ rBx079_.out
  go_wp2_with fail
  go_region_held3 (fun w' => w'.cell? ⟨W.heap.size, 0, none⟩ = some (.int .i64 i0_0) ∧ w'.cell? ⟨W.heap.size, 1, none⟩ = some (a0_1) ∧ w'.cell? ⟨W.heap.size, 2, none⟩ = some (a0_2) ∧ w'.cell? ⟨w4.heap.size, 0, none⟩ = some (.int .i64 i0_0) ∧ w'.cell? ⟨w4.heap.size, 1, none⟩ = some ((.slice x00_1p x00_1n x00_1c)) ∧ w'.cell? ⟨w4.heap.size, 2, none⟩ = some ((.slice x00_2p x00_2n x00_2c)))
    (first
      | exact ⟨A0_0_, A0_1_, A0_2_, Bx0_0_, Bx0_1_, Bx0_2_⟩
      | exact ⟨(gT.cell A0_0_ (by simp)), (gT.cell A0_1_ (by simp)), (gT.cell A0_2_ (by simp)), (gT.cell Bx0_0_ (by simp)), (gT.cell Bx0_1_ (by simp)), (gT.cell Bx0_2_ (by simp))⟩
      | exact ⟨(gE.cell (gT.cell A0_0_ (by simp)) (by simp)), (gE.cell (gT.cell A0_1_ (by simp)) (by simp)), (gE.cell (gT.cell A0_2_ (by simp)) (by simp)), (gE.cell (gT.cell Bx0_0_ (by simp)) (by simp)), (gE.cell (gT.cell Bx0_1_ (by simp)) (by simp)), (gE.cell (gT.cell Bx0_2_ (by simp)) (by simp))⟩)
    (first
      | (go_at_call 13; refine (toVectors_d _ i0_0 a0_1 a0_2 xs0_1 xs0_2 (HI0_1.out.grow (gby_drew G84_.out)) hl0_1 (HI0_2.out.grow (gby_drew G84_.out)) hl0_2).mono ?_; rintro e wT1 ⟨t20_1, t20_2, rfl, oT, gT⟩; obtain ⟨t20_1p, t20_1n, t20_1c, hv_⟩ := RdL.form ((OwU.rd oT)); subst hv_; obtain ⟨t20_2p, t20_2n, t20_2c, hv_⟩ := RdL.form ((OwU.rd (OwU.tail oT))); subst hv_; try unfold vVectors)
      | (go_at_call 15; refine (eqVectors_d _ i0_0 (.slice x00_1p x00_1n x00_1c) (.slice x00_2p x00_2n x00_2c) (.slice t20_1p t20_1n t20_1c) (.slice t20_2p t20_2n t20_2c) xs0_1 xs0_2 (RdL.grow (RdL.grow (OwU.rd ox082_.out) (gby_drew (gby_refl _ _))) gT) (OwU.rd oT) hl0_1 (RdL.grow (RdL.grow (OwU.rd (OwU.tail ox082_.out)) (gby_drew (gby_refl _ _))) gT) (OwU.rd (OwU.tail oT)) hl0_2).mono ?_; rintro e wE1 ⟨rfl, gE⟩))
  all_goals
    have g : (w7).grownBy wE1 none := gby_trans (gby_trans (gby_drew (gby_refl _ _)) gT) gE
    clear gT gE oT
    clear A0_0_ A0_1_ A0_2_ Bx0_0_ Bx0_1_ Bx0_2_
    have zs13 := World.grownBy.size g
    try simp only [World.size_alloc] at zs13
    have rA086_ := Lib.hid (show (wE1).heap[W.heap.size]? = some (.cells #[.int .i64 i0_0, a0_1, a0_2] 24 (0, 0)) from row_held g rA076_.out)
    clear rA076_
    have rBw087_ := Lib.hid (show (wE1).heap[w3.heap.size]? = some (.cells #[.int .i64 ir0_0, (.slice wr0_1p wr0_1n wr0_1c), (.slice wr0_2p wr0_2n wr0_2c)] 26 (0, 0)) from row_held g rBw077_.out)
    clear rBw077_
    have rBw188_ := Lib.hid (show (wE1).heap[w3.heap.size + 1]? = some (.cells #[.int .i64 ir1_0, .int .i64 ir1_1, .int .i64 ir1_2, .int .i64 ir1_3, .int .i64 ir1_4, .int .i64 ir1_5, .int .i64 ir1_6, (.slice wr1_7p wr1_7n wr1_7c)] 29 (0, 0)) from row_held g rBw178_.out)
    clear rBw178_
    have rBx089_ := Lib.hid (show (wE1).heap[w4.heap.size]? = some (.cells #[.int .i64 i0_0, (.slice x00_1p x00_1n x00_1c), (.slice x00_2p x00_2n x00_2c)] 26 (0, 0)) from row_held g rBx079_.out)
    clear rBx079_
    have rBg090_ := Lib.hid (show (wE1).heap[w5.heap.size]? = some (.cells #[.int .i64 ir0_0, (.slice gr0_1p gr0_1n gr0_1c), (.slice gr0_2p gr0_2n gr0_2c)] 26 (0, 0)) from row_held g rBg080_.out)
    clear rBg080_
    have rBg191_ := Lib.hid (show (wE1).heap[w5.heap.size + 1]? = some (.cells #[.int .i64 ir1_0, .int .i64 ir1_1, .int .i64 ir1_2, .int .i64 ir1_3, .int .i64 ir1_4, .int .i64 ir1_5, .int .i64 ir1_6, (.slice gr1_7p gr1_7n gr1_7c)] 29 (0, 0)) from row_held g rBg181_.out)
    clear rBg181_
    have ox092_ := Lib.hid (show OwU (wE1) (w3.heap.size + 1 + 1) (w4.heap.size) [] [own shB (.slice x00_1p x00_1n x00_1c) xs0_1, own shB (.slice x00_2p x00_2n x00_2c) xs0_2] from OwU.grow ox082_.out g)
    clear ox082_
    have og93_ := Lib.hid (show OwU (wE1) (w4.heap.size + 1) (w5.heap.size) [] [own shB (.slice gr0_1p gr0_1n gr0_1c) xsr0_1, own shB (.slice gr0_2p gr0_2n gr0_2c) xsr0_2, own shI (.slice gr1_7p gr1_7n gr1_7c) xsr1_7] from OwU.grow og83_.out g)
    clear og83_
    have G94_ := Lib.hid (show (W).grownBy (wE1) none from gby_trans G84_.out g)
    have qw95_ := Lib.hid (show (w3).grownBy (wE1) none from gby_trans qw85_.out g)
    clear qw85_
    clear g
    have Bx0_0_ : (wE1).cell? ⟨w4.heap.size, 0, none⟩ = some (.int .i64 i0_0) := cell_of_row _ _ 0 _ _ _ rBx089_.out
    have Bx0_1_ : (wE1).cell? ⟨w4.heap.size, 1, none⟩ = some ((.slice x00_1p x00_1n x00_1c)) := cell_of_row _ _ 1 _ _ _ rBx089_.out
    have Bx0_2_ : (wE1).cell? ⟨w4.heap.size, 2, none⟩ = some ((.slice x00_2p x00_2n x00_2c)) := cell_of_row _ _ 2 _ _ _ rBx089_.out
    go_wp2_with fail
    go_at_call 17
    refine (markVectors_d _ (w3.heap.size + 1 + 1) (w4.heap.size) (1) i0_0 (.slice x00_1p x00_1n x00_1c) (.slice x00_2p x00_2n x00_2c) xs0_1 xs0_2 [] [] ox092_.out (by first | omega | (simp only [World.size_alloc]; omega)) hl0_1 hl0_2 (by omega)).mono ?_
    rintro e w8 ⟨rfl, o, c⟩
    clear Bx0_0_ Bx0_1_ Bx0_2_
    have szw8 := c.size
    try simp only [World.size_alloc] at szw8
    have rA096_ := Lib.hid (show (w8).heap[W.heap.size]? = some (.cells #[.int .i64 i0_0, a0_1, a0_2] 24 (0, 0)) from Chg.keep c rA086_.out (by omega))
    clear rA086_
    have rBw097_ := Lib.hid (show (w8).heap[w3.heap.size]? = some (.cells #[.int .i64 ir0_0, (.slice wr0_1p wr0_1n wr0_1c), (.slice wr0_2p wr0_2n wr0_2c)] 26 (0, 0)) from Chg.keep c rBw087_.out (by omega))
    clear rBw087_
    have rBw198_ := Lib.hid (show (w8).heap[w3.heap.size + 1]? = some (.cells #[.int .i64 ir1_0, .int .i64 ir1_1, .int .i64 ir1_2, .int .i64 ir1_3, .int .i64 ir1_4, .int .i64 ir1_5, .int .i64 ir1_6, (.slice wr1_7p wr1_7n wr1_7c)] 29 (0, 0)) from Chg.keep c rBw188_.out (by omega))
    clear rBw188_
    have rBx099_ := Lib.hid (show (w8).heap[w4.heap.size]? = some (.cells #[.int .i64 i0_0, (.slice x00_1p x00_1n x00_1c), (.slice x00_2p x00_2n x00_2c)] 26 (0, 0)) from Chg.keep c rBx089_.out (by omega))
    clear rBx089_
    have rBg0100_ := Lib.hid (show (w8).heap[w5.heap.size]? = some (.cells #[.int .i64 ir0_0, (.slice gr0_1p gr0_1n gr0_1c), (.slice gr0_2p gr0_2n gr0_2c)] 26 (0, 0)) from Chg.keep c rBg090_.out (by omega))
    clear rBg090_
    have rBg1101_ := Lib.hid (show (w8).heap[w5.heap.size + 1]? = some (.cells #[.int .i64 ir1_0, .int .i64 ir1_1, .int .i64 ir1_2, .int .i64 ir1_3, .int .i64 ir1_4, .int .i64 ir1_5, .int .i64 ir1_6, (.slice gr1_7p gr1_7n gr1_7c)] 29 (0, 0)) from Chg.keep c rBg191_.out (by omega))
    clear rBg191_
    have og102_ := Lib.hid (show OwU (w8) (w4.heap.size + 1) (w5.heap.size) [] [own shB (.slice gr0_1p gr0_1n gr0_1c) xsr0_1, own shB (.slice gr0_2p gr0_2n gr0_2c) xsr0_2, own shI (.slice gr1_7p gr1_7n gr1_7c) xsr1_7] from OwU.keep c (by omega) og93_.out)
    clear og93_
    have G103_ := Lib.hid (show (W).grownBy (w8) none from gby_chg G94_.out c (by omega))
    have qw104_ := Lib.hid (show (w3).grownBy (w8) none from gby_chg qw95_.out c (by omega))
    clear qw95_
    have ox0105_ := Lib.hid (show OwU (w8) (w3.heap.size + 1 + 1) (w4.heap.size) [] [own shB (.slice x00_1p x00_1n x00_1c) (emL shB (1) xs0_1), own shB (.slice x00_2p x00_2n x00_2c) (emL shB (1 + ecL shB xs0_1) xs0_2)] from o)
    clear ox092_ o c
    have Bg0_0_ : (w8).cell? ⟨w5.heap.size, 0, none⟩ = some (.int .i64 ir0_0) := cell_of_row _ _ 0 _ _ _ rBg0100_.out
    have Bg0_1_ : (w8).cell? ⟨w5.heap.size, 1, none⟩ = some ((.slice gr0_1p gr0_1n gr0_1c)) := cell_of_row _ _ 1 _ _ _ rBg0100_.out
    have Bg0_2_ : (w8).cell? ⟨w5.heap.size, 2, none⟩ = some ((.slice gr0_2p gr0_2n gr0_2c)) := cell_of_row _ _ 2 _ _ _ rBg0100_.out
    have Bw0_0_ : (w8).cell? ⟨w3.heap.size, 0, none⟩ = some (.int .i64 ir0_0) := cell_of_row _ _ 0 _ _ _ rBw097_.out
    have Bw0_1_ : (w8).cell? ⟨w3.heap.size, 1, none⟩ = some ((.slice wr0_1p wr0_1n wr0_1c)) := cell_of_row _ _ 1 _ _ _ rBw097_.out
    have Bw0_2_ : (w8).cell? ⟨w3.heap.size, 2, none⟩ = some ((.slice wr0_2p wr0_2n wr0_2c)) := cell_of_row _ _ 2 _ _ _ rBw097_.out
    go_wp2_with fail
    go_at_call 15
    refine (eqVectors_d _ ir0_0 (.slice gr0_1p gr0_1n gr0_1c) (.slice gr0_2p gr0_2n gr0_2c) (.slice wr0_1p wr0_1n wr0_1c) (.slice wr0_2p wr0_2n wr0_2c) xsr0_1 xsr0_2 (OwU.rd og102_.out) (RdL.grow rd11_.out qw104_.out) hLr0_1 (OwU.rd (OwU.tail og102_.out)) (RdL.grow rd12_.out qw104_.out) hLr0_2).mono ?_
    rintro e w9 ⟨rfl, g⟩
    have zs14 := World.grownBy.size g
    try simp only [World.size_alloc] at zs14
    clear Bg0_0_ Bg0_1_ Bg0_2_ Bw0_0_ Bw0_1_ Bw0_2_
    have rA0106_ := Lib.hid (show (w9).heap[W.heap.size]? = some (.cells #[.int .i64 i0_0, a0_1, a0_2] 24 (0, 0)) from row_held g rA096_.out)
    clear rA096_
    have rBw0107_ := Lib.hid (show (w9).heap[w3.heap.size]? = some (.cells #[.int .i64 ir0_0, (.slice wr0_1p wr0_1n wr0_1c), (.slice wr0_2p wr0_2n wr0_2c)] 26 (0, 0)) from row_held g rBw097_.out)
    clear rBw097_
    have rBw1108_ := Lib.hid (show (w9).heap[w3.heap.size + 1]? = some (.cells #[.int .i64 ir1_0, .int .i64 ir1_1, .int .i64 ir1_2, .int .i64 ir1_3, .int .i64 ir1_4, .int .i64 ir1_5, .int .i64 ir1_6, (.slice wr1_7p wr1_7n wr1_7c)] 29 (0, 0)) from row_held g rBw198_.out)
    clear rBw198_
    have rBx0109_ := Lib.hid (show (w9).heap[w4.heap.size]? = some (.cells #[.int .i64 i0_0, (.slice x00_1p x00_1n x00_1c), (.slice x00_2p x00_2n x00_2c)] 26 (0, 0)) from row_held g rBx099_.out)
    clear rBx099_
    have rBg0110_ := Lib.hid (show (w9).heap[w5.heap.size]? = some (.cells #[.int .i64 ir0_0, (.slice gr0_1p gr0_1n gr0_1c), (.slice gr0_2p gr0_2n gr0_2c)] 26 (0, 0)) from row_held g rBg0100_.out)
    clear rBg0100_
    have rBg1111_ := Lib.hid (show (w9).heap[w5.heap.size + 1]? = some (.cells #[.int .i64 ir1_0, .int .i64 ir1_1, .int .i64 ir1_2, .int .i64 ir1_3, .int .i64 ir1_4, .int .i64 ir1_5, .int .i64 ir1_6, (.slice gr1_7p gr1_7n gr1_7c)] 29 (0, 0)) from row_held g rBg1101_.out)
    clear rBg1101_
    have ox0112_ := Lib.hid (show OwU (w9) (w3.heap.size + 1 + 1) (w4.heap.size) [] [own shB (.slice x00_1p x00_1n x00_1c) (emL shB (1) xs0_1), own shB (.slice x00_2p x00_2n x00_2c) (emL shB (1 + ecL shB xs0_1) xs0_2)] from OwU.grow ox0105_.out g)
    clear ox0105_
    have og113_ := Lib.hid (show OwU (w9) (w4.heap.size + 1) (w5.heap.size) [] [own shB (.slice gr0_1p gr0_1n gr0_1c) xsr0_1, own shB (.slice gr0_2p gr0_2n gr0_2c) xsr0_2, own shI (.slice gr1_7p gr1_7n gr1_7c) xsr1_7] from OwU.grow og102_.out g)
    clear og102_
    have G114_ := Lib.hid (show (W).grownBy (w9) none from gby_trans G103_.out g)
    have qw115_ := Lib.hid (show (w3).grownBy (w9) none from gby_trans qw104_.out g)
    clear qw104_
    clear g
    have Bg1_0_ : (w9).cell? ⟨w5.heap.size + 1, 0, none⟩ = some (.int .i64 ir1_0) := cell_of_row _ _ 0 _ _ _ rBg1111_.out
    have Bg1_1_ : (w9).cell? ⟨w5.heap.size + 1, 1, none⟩ = some (.int .i64 ir1_1) := cell_of_row _ _ 1 _ _ _ rBg1111_.out
    have Bg1_2_ : (w9).cell? ⟨w5.heap.size + 1, 2, none⟩ = some (.int .i64 ir1_2) := cell_of_row _ _ 2 _ _ _ rBg1111_.out
    have Bg1_3_ : (w9).cell? ⟨w5.heap.size + 1, 3, none⟩ = some (.int .i64 ir1_3) := cell_of_row _ _ 3 _ _ _ rBg1111_.out
    have Bg1_4_ : (w9).cell? ⟨w5.heap.size + 1, 4, none⟩ = some (.int .i64 ir1_4) := cell_of_row _ _ 4 _ _ _ rBg1111_.out
    have Bg1_5_ : (w9).cell? ⟨w5.heap.size + 1, 5, none⟩ = some (.int .i64 ir1_5) := cell_of_row _ _ 5 _ _ _ rBg1111_.out
    have Bg1_6_ : (w9).cell? ⟨w5.heap.size + 1, 6, none⟩ = some (.int .i64 ir1_6) := cell_of_row _ _ 6 _ _ _ rBg1111_.out
    have Bg1_7_ : (w9).cell? ⟨w5.heap.size + 1, 7, none⟩ = some ((.slice gr1_7p gr1_7n gr1_7c)) := cell_of_row _ _ 7 _ _ _ rBg1111_.out
    have Bw1_0_ : (w9).cell? ⟨w3.heap.size + 1, 0, none⟩ = some (.int .i64 ir1_0) := cell_of_row _ _ 0 _ _ _ rBw1108_.out
    have Bw1_1_ : (w9).cell? ⟨w3.heap.size + 1, 1, none⟩ = some (.int .i64 ir1_1) := cell_of_row _ _ 1 _ _ _ rBw1108_.out
    have Bw1_2_ : (w9).cell? ⟨w3.heap.size + 1, 2, none⟩ = some (.int .i64 ir1_2) := cell_of_row _ _ 2 _ _ _ rBw1108_.out
    have Bw1_3_ : (w9).cell? ⟨w3.heap.size + 1, 3, none⟩ = some (.int .i64 ir1_3) := cell_of_row _ _ 3 _ _ _ rBw1108_.out
    have Bw1_4_ : (w9).cell? ⟨w3.heap.size + 1, 4, none⟩ = some (.int .i64 ir1_4) := cell_of_row _ _ 4 _ _ _ rBw1108_.out
    have Bw1_5_ : (w9).cell? ⟨w3.heap.size + 1, 5, none⟩ = some (.int .i64 ir1_5) := cell_of_row _ _ 5 _ _ _ rBw1108_.out
    have Bw1_6_ : (w9).cell? ⟨w3.heap.size + 1, 6, none⟩ = some (.int .i64 ir1_6) := cell_of_row _ _ 6 _ _ _ rBw1108_.out
    have Bw1_7_ : (w9).cell? ⟨w3.heap.size + 1, 7, none⟩ = some ((.slice wr1_7p wr1_7n wr1_7c)) := cell_of_row _ _ 7 _ _ _ rBw1108_.out
    go_wp2_with fail
    go_at_call 16
    refine (eqPacket_d _ ir1_0 ir1_1 ir1_2 ir1_3 ir1_4 ir1_5 ir1_6 (.slice gr1_7p gr1_7n gr1_7c) (.slice wr1_7p wr1_7n wr1_7c) xsr1_7 (OwU.rd (OwU.tail (OwU.tail og113_.out))) (RdL.grow rd13_.out qw115_.out) hLr1_7).mono ?_
    rintro e w10 ⟨rfl, g⟩
    have zs15 := World.grownBy.size g
    try simp only [World.size_alloc] at zs15
    clear Bg1_0_ Bg1_1_ Bg1_2_ Bg1_3_ Bg1_4_ Bg1_5_ Bg1_6_ Bg1_7_ Bw1_0_ Bw1_1_ Bw1_2_ Bw1_3_ Bw1_4_ Bw1_5_ Bw1_6_ Bw1_7_
    have rA0116_ := Lib.hid (show (w10).heap[W.heap.size]? = some (.cells #[.int .i64 i0_0, a0_1, a0_2] 24 (0, 0)) from row_held g rA0106_.out)
    clear rA0106_
    have rBw0117_ := Lib.hid (show (w10).heap[w3.heap.size]? = some (.cells #[.int .i64 ir0_0, (.slice wr0_1p wr0_1n wr0_1c), (.slice wr0_2p wr0_2n wr0_2c)] 26 (0, 0)) from row_held g rBw0107_.out)
    clear rBw0107_
    have rBw1118_ := Lib.hid (show (w10).heap[w3.heap.size + 1]? = some (.cells #[.int .i64 ir1_0, .int .i64 ir1_1, .int .i64 ir1_2, .int .i64 ir1_3, .int .i64 ir1_4, .int .i64 ir1_5, .int .i64 ir1_6, (.slice wr1_7p wr1_7n wr1_7c)] 29 (0, 0)) from row_held g rBw1108_.out)
    clear rBw1108_
    have rBx0119_ := Lib.hid (show (w10).heap[w4.heap.size]? = some (.cells #[.int .i64 i0_0, (.slice x00_1p x00_1n x00_1c), (.slice x00_2p x00_2n x00_2c)] 26 (0, 0)) from row_held g rBx0109_.out)
    clear rBx0109_
    have rBg0120_ := Lib.hid (show (w10).heap[w5.heap.size]? = some (.cells #[.int .i64 ir0_0, (.slice gr0_1p gr0_1n gr0_1c), (.slice gr0_2p gr0_2n gr0_2c)] 26 (0, 0)) from row_held g rBg0110_.out)
    clear rBg0110_
    have rBg1121_ := Lib.hid (show (w10).heap[w5.heap.size + 1]? = some (.cells #[.int .i64 ir1_0, .int .i64 ir1_1, .int .i64 ir1_2, .int .i64 ir1_3, .int .i64 ir1_4, .int .i64 ir1_5, .int .i64 ir1_6, (.slice gr1_7p gr1_7n gr1_7c)] 29 (0, 0)) from row_held g rBg1111_.out)
    clear rBg1111_
    have ox0122_ := Lib.hid (show OwU (w10) (w3.heap.size + 1 + 1) (w4.heap.size) [] [own shB (.slice x00_1p x00_1n x00_1c) (emL shB (1) xs0_1), own shB (.slice x00_2p x00_2n x00_2c) (emL shB (1 + ecL shB xs0_1) xs0_2)] from OwU.grow ox0112_.out g)
    clear ox0112_
    have og123_ := Lib.hid (show OwU (w10) (w4.heap.size + 1) (w5.heap.size) [] [own shB (.slice gr0_1p gr0_1n gr0_1c) xsr0_1, own shB (.slice gr0_2p gr0_2n gr0_2c) xsr0_2, own shI (.slice gr1_7p gr1_7n gr1_7c) xsr1_7] from OwU.grow og113_.out g)
    clear og113_
    have G124_ := Lib.hid (show (W).grownBy (w10) none from gby_trans G114_.out g)
    have qw125_ := Lib.hid (show (w3).grownBy (w10) none from gby_trans qw115_.out g)
    clear qw115_
    clear g
    have Bg0_0_ : (w10).cell? ⟨w5.heap.size, 0, none⟩ = some (.int .i64 ir0_0) := cell_of_row _ _ 0 _ _ _ rBg0120_.out
    have Bg0_1_ : (w10).cell? ⟨w5.heap.size, 1, none⟩ = some ((.slice gr0_1p gr0_1n gr0_1c)) := cell_of_row _ _ 1 _ _ _ rBg0120_.out
    have Bg0_2_ : (w10).cell? ⟨w5.heap.size, 2, none⟩ = some ((.slice gr0_2p gr0_2n gr0_2c)) := cell_of_row _ _ 2 _ _ _ rBg0120_.out
    go_wp2_with fail
    go_at_call 17
    refine (markVectors_d _ (w4.heap.size + 1) (w5.heap.size) (1) ir0_0 (.slice gr0_1p gr0_1n gr0_1c) (.slice gr0_2p gr0_2n gr0_2c) xsr0_1 xsr0_2 [] [own shI (.slice gr1_7p gr1_7n gr1_7c) xsr1_7] og123_.out (by first | omega | (simp only [World.size_alloc]; omega)) hLr0_1 hLr0_2 (by omega)).mono ?_
    rintro e w11 ⟨rfl, o, c⟩
    clear Bg0_0_ Bg0_1_ Bg0_2_
    have szw11 := c.size
    try simp only [World.size_alloc] at szw11
    have rA0126_ := Lib.hid (show (w11).heap[W.heap.size]? = some (.cells #[.int .i64 i0_0, a0_1, a0_2] 24 (0, 0)) from Chg.keep c rA0116_.out (by omega))
    clear rA0116_
    have rBw0127_ := Lib.hid (show (w11).heap[w3.heap.size]? = some (.cells #[.int .i64 ir0_0, (.slice wr0_1p wr0_1n wr0_1c), (.slice wr0_2p wr0_2n wr0_2c)] 26 (0, 0)) from Chg.keep c rBw0117_.out (by omega))
    clear rBw0117_
    have rBw1128_ := Lib.hid (show (w11).heap[w3.heap.size + 1]? = some (.cells #[.int .i64 ir1_0, .int .i64 ir1_1, .int .i64 ir1_2, .int .i64 ir1_3, .int .i64 ir1_4, .int .i64 ir1_5, .int .i64 ir1_6, (.slice wr1_7p wr1_7n wr1_7c)] 29 (0, 0)) from Chg.keep c rBw1118_.out (by omega))
    clear rBw1118_
    have rBx0129_ := Lib.hid (show (w11).heap[w4.heap.size]? = some (.cells #[.int .i64 i0_0, (.slice x00_1p x00_1n x00_1c), (.slice x00_2p x00_2n x00_2c)] 26 (0, 0)) from Chg.keep c rBx0119_.out (by omega))
    clear rBx0119_
    have rBg0130_ := Lib.hid (show (w11).heap[w5.heap.size]? = some (.cells #[.int .i64 ir0_0, (.slice gr0_1p gr0_1n gr0_1c), (.slice gr0_2p gr0_2n gr0_2c)] 26 (0, 0)) from Chg.keep c rBg0120_.out (by omega))
    clear rBg0120_
    have rBg1131_ := Lib.hid (show (w11).heap[w5.heap.size + 1]? = some (.cells #[.int .i64 ir1_0, .int .i64 ir1_1, .int .i64 ir1_2, .int .i64 ir1_3, .int .i64 ir1_4, .int .i64 ir1_5, .int .i64 ir1_6, (.slice gr1_7p gr1_7n gr1_7c)] 29 (0, 0)) from Chg.keep c rBg1121_.out (by omega))
    clear rBg1121_
    have ox0132_ := Lib.hid (show OwU (w11) (w3.heap.size + 1 + 1) (w4.heap.size) [] [own shB (.slice x00_1p x00_1n x00_1c) (emL shB (1) xs0_1), own shB (.slice x00_2p x00_2n x00_2c) (emL shB (1 + ecL shB xs0_1) xs0_2)] from OwU.keep c (by omega) ox0122_.out)
    clear ox0122_
    have G133_ := Lib.hid (show (W).grownBy (w11) none from gby_chg G124_.out c (by omega))
    have qw134_ := Lib.hid (show (w3).grownBy (w11) none from gby_chg qw125_.out c (by omega))
    clear qw125_
    have og135_ := Lib.hid (show OwU (w11) (w4.heap.size + 1) (w5.heap.size) [] [own shB (.slice gr0_1p gr0_1n gr0_1c) (emL shB (1) xsr0_1), own shB (.slice gr0_2p gr0_2n gr0_2c) (emL shB (1 + ecL shB xsr0_1) xsr0_2), own shI (.slice gr1_7p gr1_7n gr1_7c) xsr1_7] from o)
    clear og123_ o c
    have Bg1_0_ : (w11).cell? ⟨w5.heap.size + 1, 0, none⟩ = some (.int .i64 ir1_0) := cell_of_row _ _ 0 _ _ _ rBg1131_.out
    have Bg1_1_ : (w11).cell? ⟨w5.heap.size + 1, 1, none⟩ = some (.int .i64 ir1_1) := cell_of_row _ _ 1 _ _ _ rBg1131_.out
    have Bg1_2_ : (w11).cell? ⟨w5.heap.size + 1, 2, none⟩ = some (.int .i64 ir1_2) := cell_of_row _ _ 2 _ _ _ rBg1131_.out
    have Bg1_3_ : (w11).cell? ⟨w5.heap.size + 1, 3, none⟩ = some (.int .i64 ir1_3) := cell_of_row _ _ 3 _ _ _ rBg1131_.out
    have Bg1_4_ : (w11).cell? ⟨w5.heap.size + 1, 4, none⟩ = some (.int .i64 ir1_4) := cell_of_row _ _ 4 _ _ _ rBg1131_.out
    have Bg1_5_ : (w11).cell? ⟨w5.heap.size + 1, 5, none⟩ = some (.int .i64 ir1_5) := cell_of_row _ _ 5 _ _ _ rBg1131_.out
    have Bg1_6_ : (w11).cell? ⟨w5.heap.size + 1, 6, none⟩ = some (.int .i64 ir1_6) := cell_of_row _ _ 6 _ _ _ rBg1131_.out
    have Bg1_7_ : (w11).cell? ⟨w5.heap.size + 1, 7, none⟩ = some ((.slice gr1_7p gr1_7n gr1_7c)) := cell_of_row _ _ 7 _ _ _ rBg1131_.out
    go_wp2_with fail
    go_at_call 18
    refine (markPacket_d _ (w4.heap.size + 1) (w5.heap.size) (1 + ecL shB xsr0_1 + ecL shB xsr0_2) ir1_0 ir1_1 ir1_2 ir1_3 ir1_4 ir1_5 ir1_6 (.slice gr1_7p gr1_7n gr1_7c) xsr1_7 [own shB (.slice gr0_1p gr0_1n gr0_1c) (emL shB (1) xsr0_1), own shB (.slice gr0_2p gr0_2n gr0_2c) (emL shB (1 + ecL shB xsr0_1) xsr0_2)] [] og135_.out (by first | omega | (simp only [World.size_alloc]; omega)) hLr1_7 (by omega)).mono ?_
    rintro e w12 ⟨rfl, o, c⟩
    clear Bg1_0_ Bg1_1_ Bg1_2_ Bg1_3_ Bg1_4_ Bg1_5_ Bg1_6_ Bg1_7_
    have szw12 := c.size
    try simp only [World.size_alloc] at szw12
    have rA0136_ := Lib.hid (show (w12).heap[W.heap.size]? = some (.cells #[.int .i64 i0_0, a0_1, a0_2] 24 (0, 0)) from Chg.keep c rA0126_.out (by omega))
    clear rA0126_
    have rBw0137_ := Lib.hid (show (w12).heap[w3.heap.size]? = some (.cells #[.int .i64 ir0_0, (.slice wr0_1p wr0_1n wr0_1c), (.slice wr0_2p wr0_2n wr0_2c)] 26 (0, 0)) from Chg.keep c rBw0127_.out (by omega))
    clear rBw0127_
    have rBw1138_ := Lib.hid (show (w12).heap[w3.heap.size + 1]? = some (.cells #[.int .i64 ir1_0, .int .i64 ir1_1, .int .i64 ir1_2, .int .i64 ir1_3, .int .i64 ir1_4, .int .i64 ir1_5, .int .i64 ir1_6, (.slice wr1_7p wr1_7n wr1_7c)] 29 (0, 0)) from Chg.keep c rBw1128_.out (by omega))
    clear rBw1128_
    have rBx0139_ := Lib.hid (show (w12).heap[w4.heap.size]? = some (.cells #[.int .i64 i0_0, (.slice x00_1p x00_1n x00_1c), (.slice x00_2p x00_2n x00_2c)] 26 (0, 0)) from Chg.keep c rBx0129_.out (by omega))
    clear rBx0129_
    have rBg0140_ := Lib.hid (show (w12).heap[w5.heap.size]? = some (.cells #[.int .i64 ir0_0, (.slice gr0_1p gr0_1n gr0_1c), (.slice gr0_2p gr0_2n gr0_2c)] 26 (0, 0)) from Chg.keep c rBg0130_.out (by omega))
    clear rBg0130_
    have rBg1141_ := Lib.hid (show (w12).heap[w5.heap.size + 1]? = some (.cells #[.int .i64 ir1_0, .int .i64 ir1_1, .int .i64 ir1_2, .int .i64 ir1_3, .int .i64 ir1_4, .int .i64 ir1_5, .int .i64 ir1_6, (.slice gr1_7p gr1_7n gr1_7c)] 29 (0, 0)) from Chg.keep c rBg1131_.out (by omega))
    clear rBg1131_
    have ox0142_ := Lib.hid (show OwU (w12) (w3.heap.size + 1 + 1) (w4.heap.size) [] [own shB (.slice x00_1p x00_1n x00_1c) (emL shB (1) xs0_1), own shB (.slice x00_2p x00_2n x00_2c) (emL shB (1 + ecL shB xs0_1) xs0_2)] from OwU.keep c (by omega) ox0132_.out)
    clear ox0132_
    have G143_ := Lib.hid (show (W).grownBy (w12) none from gby_chg G133_.out c (by omega))
    have qw144_ := Lib.hid (show (w3).grownBy (w12) none from gby_chg qw134_.out c (by omega))
    clear qw134_
    have og145_ := Lib.hid (show OwU (w12) (w4.heap.size + 1) (w5.heap.size) [] [own shB (.slice gr0_1p gr0_1n gr0_1c) (emL shB (1) xsr0_1), own shB (.slice gr0_2p gr0_2n gr0_2c) (emL shB (1 + ecL shB xsr0_1) xsr0_2), own shI (.slice gr1_7p gr1_7n gr1_7c) (emL shI (1 + ecL shB xsr0_1 + ecL shB xsr0_2) xsr1_7)] from o)
    clear og135_ o c
    have Bg0_0_ : (w12).cell? ⟨w5.heap.size, 0, none⟩ = some (.int .i64 ir0_0) := cell_of_row _ _ 0 _ _ _ rBg0140_.out
    have Bg0_1_ : (w12).cell? ⟨w5.heap.size, 1, none⟩ = some ((.slice gr0_1p gr0_1n gr0_1c)) := cell_of_row _ _ 1 _ _ _ rBg0140_.out
    have Bg0_2_ : (w12).cell? ⟨w5.heap.size, 2, none⟩ = some ((.slice gr0_2p gr0_2n gr0_2c)) := cell_of_row _ _ 2 _ _ _ rBg0140_.out
    go_wp2_with fail
    go_at_call 19
    refine (heldVectors_d _ (1) ir0_0 (.slice gr0_1p gr0_1n gr0_1c) (.slice gr0_2p gr0_2n gr0_2c) xsr0_1 xsr0_2 (OwU.rd og145_.out) (OwU.rd (OwU.tail og145_.out)) hLr0_1 hLr0_2 (by omega)).mono ?_
    rintro e w13 ⟨rfl, g⟩
    have zs16 := World.grownBy.size g
    try simp only [World.size_alloc] at zs16
    clear Bg0_0_ Bg0_1_ Bg0_2_
    have rA0146_ := Lib.hid (show (w13).heap[W.heap.size]? = some (.cells #[.int .i64 i0_0, a0_1, a0_2] 24 (0, 0)) from row_held g rA0136_.out)
    clear rA0136_
    have rBw0147_ := Lib.hid (show (w13).heap[w3.heap.size]? = some (.cells #[.int .i64 ir0_0, (.slice wr0_1p wr0_1n wr0_1c), (.slice wr0_2p wr0_2n wr0_2c)] 26 (0, 0)) from row_held g rBw0137_.out)
    clear rBw0137_
    have rBw1148_ := Lib.hid (show (w13).heap[w3.heap.size + 1]? = some (.cells #[.int .i64 ir1_0, .int .i64 ir1_1, .int .i64 ir1_2, .int .i64 ir1_3, .int .i64 ir1_4, .int .i64 ir1_5, .int .i64 ir1_6, (.slice wr1_7p wr1_7n wr1_7c)] 29 (0, 0)) from row_held g rBw1138_.out)
    clear rBw1138_
    have rBx0149_ := Lib.hid (show (w13).heap[w4.heap.size]? = some (.cells #[.int .i64 i0_0, (.slice x00_1p x00_1n x00_1c), (.slice x00_2p x00_2n x00_2c)] 26 (0, 0)) from row_held g rBx0139_.out)
    clear rBx0139_
    have rBg0150_ := Lib.hid (show (w13).heap[w5.heap.size]? = some (.cells #[.int .i64 ir0_0, (.slice gr0_1p gr0_1n gr0_1c), (.slice gr0_2p gr0_2n gr0_2c)] 26 (0, 0)) from row_held g rBg0140_.out)
    clear rBg0140_
    have rBg1151_ := Lib.hid (show (w13).heap[w5.heap.size + 1]? = some (.cells #[.int .i64 ir1_0, .int .i64 ir1_1, .int .i64 ir1_2, .int .i64 ir1_3, .int .i64 ir1_4, .int .i64 ir1_5, .int .i64 ir1_6, (.slice gr1_7p gr1_7n gr1_7c)] 29 (0, 0)) from row_held g rBg1141_.out)
    clear rBg1141_
    have ox0152_ := Lib.hid (show OwU (w13) (w3.heap.size + 1 + 1) (w4.heap.size) [] [own shB (.slice x00_1p x00_1n x00_1c) (emL shB (1) xs0_1), own shB (.slice x00_2p x00_2n x00_2c) (emL shB (1 + ecL shB xs0_1) xs0_2)] from OwU.grow ox0142_.out g)
    clear ox0142_
    have og153_ := Lib.hid (show OwU (w13) (w4.heap.size + 1) (w5.heap.size) [] [own shB (.slice gr0_1p gr0_1n gr0_1c) (emL shB (1) xsr0_1), own shB (.slice gr0_2p gr0_2n gr0_2c) (emL shB (1 + ecL shB xsr0_1) xsr0_2), own shI (.slice gr1_7p gr1_7n gr1_7c) (emL shI (1 + ecL shB xsr0_1 + ecL shB xsr0_2) xsr1_7)] from OwU.grow og145_.out g)
    clear og145_
    have G154_ := Lib.hid (show (W).grownBy (w13) none from gby_trans G143_.out g)
    have qw155_ := Lib.hid (show (w3).grownBy (w13) none from gby_trans qw144_.out g)
    clear qw144_
    clear g
    have ng13 : ¬ (((1 + ecL shB xsr0_1 + ecL shB xsr0_2 : Nat) : Int) < 0) := by omega
    have Bg1_0_ : (w13).cell? ⟨w5.heap.size + 1, 0, none⟩ = some (.int .i64 ir1_0) := cell_of_row _ _ 0 _ _ _ rBg1151_.out
    have Bg1_1_ : (w13).cell? ⟨w5.heap.size + 1, 1, none⟩ = some (.int .i64 ir1_1) := cell_of_row _ _ 1 _ _ _ rBg1151_.out
    have Bg1_2_ : (w13).cell? ⟨w5.heap.size + 1, 2, none⟩ = some (.int .i64 ir1_2) := cell_of_row _ _ 2 _ _ _ rBg1151_.out
    have Bg1_3_ : (w13).cell? ⟨w5.heap.size + 1, 3, none⟩ = some (.int .i64 ir1_3) := cell_of_row _ _ 3 _ _ _ rBg1151_.out
    have Bg1_4_ : (w13).cell? ⟨w5.heap.size + 1, 4, none⟩ = some (.int .i64 ir1_4) := cell_of_row _ _ 4 _ _ _ rBg1151_.out
    have Bg1_5_ : (w13).cell? ⟨w5.heap.size + 1, 5, none⟩ = some (.int .i64 ir1_5) := cell_of_row _ _ 5 _ _ _ rBg1151_.out
    have Bg1_6_ : (w13).cell? ⟨w5.heap.size + 1, 6, none⟩ = some (.int .i64 ir1_6) := cell_of_row _ _ 6 _ _ _ rBg1151_.out
    have Bg1_7_ : (w13).cell? ⟨w5.heap.size + 1, 7, none⟩ = some ((.slice gr1_7p gr1_7n gr1_7c)) := cell_of_row _ _ 7 _ _ _ rBg1151_.out
    go_wp2_with fail
    go_at_call 20
    refine (heldPacket_d _ (1 + ecL shB xsr0_1 + ecL shB xsr0_2) ir1_0 ir1_1 ir1_2 ir1_3 ir1_4 ir1_5 ir1_6 (.slice gr1_7p gr1_7n gr1_7c) xsr1_7 (OwU.rd (OwU.tail (OwU.tail og153_.out))) hLr1_7 (by omega)).mono ?_
    rintro e w14 ⟨rfl, g⟩
    have zs17 := World.grownBy.size g
    try simp only [World.size_alloc] at zs17
    clear Bg1_0_ Bg1_1_ Bg1_2_ Bg1_3_ Bg1_4_ Bg1_5_ Bg1_6_ Bg1_7_
    have rA0156_ := Lib.hid (show (w14).heap[W.heap.size]? = some (.cells #[.int .i64 i0_0, a0_1, a0_2] 24 (0, 0)) from row_held g rA0146_.out)
    clear rA0146_
    have rBw0157_ := Lib.hid (show (w14).heap[w3.heap.size]? = some (.cells #[.int .i64 ir0_0, (.slice wr0_1p wr0_1n wr0_1c), (.slice wr0_2p wr0_2n wr0_2c)] 26 (0, 0)) from row_held g rBw0147_.out)
    clear rBw0147_
    have rBw1158_ := Lib.hid (show (w14).heap[w3.heap.size + 1]? = some (.cells #[.int .i64 ir1_0, .int .i64 ir1_1, .int .i64 ir1_2, .int .i64 ir1_3, .int .i64 ir1_4, .int .i64 ir1_5, .int .i64 ir1_6, (.slice wr1_7p wr1_7n wr1_7c)] 29 (0, 0)) from row_held g rBw1148_.out)
    clear rBw1148_
    have rBx0159_ := Lib.hid (show (w14).heap[w4.heap.size]? = some (.cells #[.int .i64 i0_0, (.slice x00_1p x00_1n x00_1c), (.slice x00_2p x00_2n x00_2c)] 26 (0, 0)) from row_held g rBx0149_.out)
    clear rBx0149_
    have rBg0160_ := Lib.hid (show (w14).heap[w5.heap.size]? = some (.cells #[.int .i64 ir0_0, (.slice gr0_1p gr0_1n gr0_1c), (.slice gr0_2p gr0_2n gr0_2c)] 26 (0, 0)) from row_held g rBg0150_.out)
    clear rBg0150_
    have rBg1161_ := Lib.hid (show (w14).heap[w5.heap.size + 1]? = some (.cells #[.int .i64 ir1_0, .int .i64 ir1_1, .int .i64 ir1_2, .int .i64 ir1_3, .int .i64 ir1_4, .int .i64 ir1_5, .int .i64 ir1_6, (.slice gr1_7p gr1_7n gr1_7c)] 29 (0, 0)) from row_held g rBg1151_.out)
    clear rBg1151_
    have ox0162_ := Lib.hid (show OwU (w14) (w3.heap.size + 1 + 1) (w4.heap.size) [] [own shB (.slice x00_1p x00_1n x00_1c) (emL shB (1) xs0_1), own shB (.slice x00_2p x00_2n x00_2c) (emL shB (1 + ecL shB xs0_1) xs0_2)] from OwU.grow ox0152_.out g)
    clear ox0152_
    have og163_ := Lib.hid (show OwU (w14) (w4.heap.size + 1) (w5.heap.size) [] [own shB (.slice gr0_1p gr0_1n gr0_1c) (emL shB (1) xsr0_1), own shB (.slice gr0_2p gr0_2n gr0_2c) (emL shB (1 + ecL shB xsr0_1) xsr0_2), own shI (.slice gr1_7p gr1_7n gr1_7c) (emL shI (1 + ecL shB xsr0_1 + ecL shB xsr0_2) xsr1_7)] from OwU.grow og153_.out g)
    clear og153_
    have G164_ := Lib.hid (show (W).grownBy (w14) none from gby_trans G154_.out g)
    have qw165_ := Lib.hid (show (w3).grownBy (w14) none from gby_trans qw155_.out g)
    clear qw155_
    clear g
    have ng14 : ¬ (((1 + ecL shB xsr0_1 + ecL shB xsr0_2 + ecL shI xsr1_7 : Nat) : Int) < 0) := by omega
    have A0_0_ : (w14).cell? ⟨W.heap.size, 0, none⟩ = some (.int .i64 i0_0) := cell_of_row _ _ 0 _ _ _ rA0156_.out
    have A0_1_ : (w14).cell? ⟨W.heap.size, 1, none⟩ = some (a0_1) := cell_of_row _ _ 1 _ _ _ rA0156_.out
    have A0_2_ : (w14).cell? ⟨W.heap.size, 2, none⟩ = some (a0_2) := cell_of_row _ _ 2 _ _ _ rA0156_.out
    go_wp2_with fail
    go_at_call 13
    refine (toVectors_d _ i0_0 a0_1 a0_2 xs0_1 xs0_2 (HI0_1.out.grow G164_.out) hl0_1 (HI0_2.out.grow G164_.out) hl0_2).mono ?_
    rintro e w15 ⟨t30_1, t30_2, rfl, o, g⟩
    have sz_ := g.size
    try simp only [World.size_alloc] at sz_
    try simp only [World.size_alloc] at o
    have zs18 := World.grownBy.size g
    try simp only [World.size_alloc] at zs18
    clear A0_0_ A0_1_ A0_2_
    have rA0166_ := Lib.hid (show (w15).heap[W.heap.size]? = some (.cells #[.int .i64 i0_0, a0_1, a0_2] 24 (0, 0)) from row_held g rA0156_.out)
    clear rA0156_
    have rBw0167_ := Lib.hid (show (w15).heap[w3.heap.size]? = some (.cells #[.int .i64 ir0_0, (.slice wr0_1p wr0_1n wr0_1c), (.slice wr0_2p wr0_2n wr0_2c)] 26 (0, 0)) from row_held g rBw0157_.out)
    clear rBw0157_
    have rBw1168_ := Lib.hid (show (w15).heap[w3.heap.size + 1]? = some (.cells #[.int .i64 ir1_0, .int .i64 ir1_1, .int .i64 ir1_2, .int .i64 ir1_3, .int .i64 ir1_4, .int .i64 ir1_5, .int .i64 ir1_6, (.slice wr1_7p wr1_7n wr1_7c)] 29 (0, 0)) from row_held g rBw1158_.out)
    clear rBw1158_
    have rBx0169_ := Lib.hid (show (w15).heap[w4.heap.size]? = some (.cells #[.int .i64 i0_0, (.slice x00_1p x00_1n x00_1c), (.slice x00_2p x00_2n x00_2c)] 26 (0, 0)) from row_held g rBx0159_.out)
    clear rBx0159_
    have rBg0170_ := Lib.hid (show (w15).heap[w5.heap.size]? = some (.cells #[.int .i64 ir0_0, (.slice gr0_1p gr0_1n gr0_1c), (.slice gr0_2p gr0_2n gr0_2c)] 26 (0, 0)) from row_held g rBg0160_.out)
    clear rBg0160_
    have rBg1171_ := Lib.hid (show (w15).heap[w5.heap.size + 1]? = some (.cells #[.int .i64 ir1_0, .int .i64 ir1_1, .int .i64 ir1_2, .int .i64 ir1_3, .int .i64 ir1_4, .int .i64 ir1_5, .int .i64 ir1_6, (.slice gr1_7p gr1_7n gr1_7c)] 29 (0, 0)) from row_held g rBg1161_.out)
    clear rBg1161_
    have ox0172_ := Lib.hid (show OwU (w15) (w3.heap.size + 1 + 1) (w4.heap.size) [] [own shB (.slice x00_1p x00_1n x00_1c) (emL shB (1) xs0_1), own shB (.slice x00_2p x00_2n x00_2c) (emL shB (1 + ecL shB xs0_1) xs0_2)] from OwU.grow ox0162_.out g)
    clear ox0162_
    have og173_ := Lib.hid (show OwU (w15) (w4.heap.size + 1) (w5.heap.size) [] [own shB (.slice gr0_1p gr0_1n gr0_1c) (emL shB (1) xsr0_1), own shB (.slice gr0_2p gr0_2n gr0_2c) (emL shB (1 + ecL shB xsr0_1) xsr0_2), own shI (.slice gr1_7p gr1_7n gr1_7c) (emL shI (1 + ecL shB xsr0_1 + ecL shB xsr0_2) xsr1_7)] from OwU.grow og163_.out g)
    clear og163_
    have G174_ := Lib.hid (show (W).grownBy (w15) none from gby_trans G164_.out g)
    have qw175_ := Lib.hid (show (w3).grownBy (w15) none from gby_trans qw165_.out g)
    clear qw165_
    clear g
    have szw15 := sz_
    clear sz_
    obtain ⟨t30_1p, t30_1n, t30_1c, hv_⟩ := RdL.form (OwU.rd o)
    subst hv_
    obtain ⟨t30_2p, t30_2n, t30_2c, hv_⟩ := RdL.form (OwU.rd (OwU.tail o))
    subst hv_
    have oT3176_ := Lib.hid (show OwU (w15) (w14.heap.size) (w15.heap.size) [] [own shB (.slice t30_1p t30_1n t30_1c) xs0_1, own shB (.slice t30_2p t30_2n t30_2c) xs0_2] from o)
    clear o
    try unfold vVectors
    go_wp2_with fail
    go_at_call 22
    refine (HM.out _ (.slice t30_1p t30_1n t30_1c) (.slice t30_2p t30_2n t30_2c) (OwU.rd oT3176_.out) (OwU.rd (OwU.tail oT3176_.out))).mono ?_
    rintro e w16 ⟨hr0_1, hr0_2, hr1_7, rfl, o, g⟩
    have sz_ := g.size
    try simp only [World.size_alloc] at sz_
    try simp only [World.size_alloc] at o
    have zs19 := World.grownBy.size g
    try simp only [World.size_alloc] at zs19
    have rA0177_ := Lib.hid (show (w16).heap[W.heap.size]? = some (.cells #[.int .i64 i0_0, a0_1, a0_2] 24 (0, 0)) from row_held g rA0166_.out)
    clear rA0166_
    have rBw0178_ := Lib.hid (show (w16).heap[w3.heap.size]? = some (.cells #[.int .i64 ir0_0, (.slice wr0_1p wr0_1n wr0_1c), (.slice wr0_2p wr0_2n wr0_2c)] 26 (0, 0)) from row_held g rBw0167_.out)
    clear rBw0167_
    have rBw1179_ := Lib.hid (show (w16).heap[w3.heap.size + 1]? = some (.cells #[.int .i64 ir1_0, .int .i64 ir1_1, .int .i64 ir1_2, .int .i64 ir1_3, .int .i64 ir1_4, .int .i64 ir1_5, .int .i64 ir1_6, (.slice wr1_7p wr1_7n wr1_7c)] 29 (0, 0)) from row_held g rBw1168_.out)
    clear rBw1168_
    have rBx0180_ := Lib.hid (show (w16).heap[w4.heap.size]? = some (.cells #[.int .i64 i0_0, (.slice x00_1p x00_1n x00_1c), (.slice x00_2p x00_2n x00_2c)] 26 (0, 0)) from row_held g rBx0169_.out)
    clear rBx0169_
    have rBg0181_ := Lib.hid (show (w16).heap[w5.heap.size]? = some (.cells #[.int .i64 ir0_0, (.slice gr0_1p gr0_1n gr0_1c), (.slice gr0_2p gr0_2n gr0_2c)] 26 (0, 0)) from row_held g rBg0170_.out)
    clear rBg0170_
    have rBg1182_ := Lib.hid (show (w16).heap[w5.heap.size + 1]? = some (.cells #[.int .i64 ir1_0, .int .i64 ir1_1, .int .i64 ir1_2, .int .i64 ir1_3, .int .i64 ir1_4, .int .i64 ir1_5, .int .i64 ir1_6, (.slice gr1_7p gr1_7n gr1_7c)] 29 (0, 0)) from row_held g rBg1171_.out)
    clear rBg1171_
    have ox0183_ := Lib.hid (show OwU (w16) (w3.heap.size + 1 + 1) (w4.heap.size) [] [own shB (.slice x00_1p x00_1n x00_1c) (emL shB (1) xs0_1), own shB (.slice x00_2p x00_2n x00_2c) (emL shB (1 + ecL shB xs0_1) xs0_2)] from OwU.grow ox0172_.out g)
    clear ox0172_
    have og184_ := Lib.hid (show OwU (w16) (w4.heap.size + 1) (w5.heap.size) [] [own shB (.slice gr0_1p gr0_1n gr0_1c) (emL shB (1) xsr0_1), own shB (.slice gr0_2p gr0_2n gr0_2c) (emL shB (1 + ecL shB xsr0_1) xsr0_2), own shI (.slice gr1_7p gr1_7n gr1_7c) (emL shI (1 + ecL shB xsr0_1 + ecL shB xsr0_2) xsr1_7)] from OwU.grow og173_.out g)
    clear og173_
    have oT3185_ := Lib.hid (show OwU (w16) (w14.heap.size) (w15.heap.size) [] [own shB (.slice t30_1p t30_1n t30_1c) xs0_1, own shB (.slice t30_2p t30_2n t30_2c) xs0_2] from OwU.grow oT3176_.out g)
    clear oT3176_
    have G186_ := Lib.hid (show (W).grownBy (w16) none from gby_trans G174_.out g)
    have qw187_ := Lib.hid (show (w3).grownBy (w16) none from gby_trans qw175_.out g)
    clear qw175_
    clear g
    have szw16 := sz_
    clear sz_
    obtain ⟨hr0_1p, hr0_1n, hr0_1c, hv_⟩ := RdL.form (OwU.rd o)
    subst hv_
    obtain ⟨hr0_2p, hr0_2n, hr0_2c, hv_⟩ := RdL.form (OwU.rd (OwU.tail o))
    subst hv_
    obtain ⟨hr1_7p, hr1_7n, hr1_7c, hv_⟩ := RdL.form (OwU.rd (OwU.tail (OwU.tail o)))
    subst hv_
    have oh188_ := Lib.hid (show OwU (w16) (w15.heap.size) (w16.heap.size) [] [own shB (.slice hr0_1p hr0_1n hr0_1c) xsr0_1, own shB (.slice hr0_2p hr0_2n hr0_2c) xsr0_2, own shI (.slice hr1_7p hr1_7n hr1_7c) xsr1_7] from o)
    clear o
    have al : (w16).grownBy ((w16).alloc (.cells #[.int .i64 ir0_0, (.slice hr0_1p hr0_1n hr0_1c), (.slice hr0_2p hr0_2n hr0_2c)] 26)) none := gby_alloc (gby_refl _ _) _
    have zs20 := World.grownBy.size al
    try simp only [World.size_alloc] at zs20
    have rA0189_ := Lib.hid (show ((w16.alloc (.cells #[.int .i64 ir0_0, (.slice hr0_1p hr0_1n hr0_1c), (.slice hr0_2p hr0_2n hr0_2c)] 26))).heap[W.heap.size]? = some (.cells #[.int .i64 i0_0, a0_1, a0_2] 24 (0, 0)) from row_held al rA0177_.out)
    clear rA0177_
    have rBw0190_ := Lib.hid (show ((w16.alloc (.cells #[.int .i64 ir0_0, (.slice hr0_1p hr0_1n hr0_1c), (.slice hr0_2p hr0_2n hr0_2c)] 26))).heap[w3.heap.size]? = some (.cells #[.int .i64 ir0_0, (.slice wr0_1p wr0_1n wr0_1c), (.slice wr0_2p wr0_2n wr0_2c)] 26 (0, 0)) from row_held al rBw0178_.out)
    clear rBw0178_
    have rBw1191_ := Lib.hid (show ((w16.alloc (.cells #[.int .i64 ir0_0, (.slice hr0_1p hr0_1n hr0_1c), (.slice hr0_2p hr0_2n hr0_2c)] 26))).heap[w3.heap.size + 1]? = some (.cells #[.int .i64 ir1_0, .int .i64 ir1_1, .int .i64 ir1_2, .int .i64 ir1_3, .int .i64 ir1_4, .int .i64 ir1_5, .int .i64 ir1_6, (.slice wr1_7p wr1_7n wr1_7c)] 29 (0, 0)) from row_held al rBw1179_.out)
    clear rBw1179_
    have rBx0192_ := Lib.hid (show ((w16.alloc (.cells #[.int .i64 ir0_0, (.slice hr0_1p hr0_1n hr0_1c), (.slice hr0_2p hr0_2n hr0_2c)] 26))).heap[w4.heap.size]? = some (.cells #[.int .i64 i0_0, (.slice x00_1p x00_1n x00_1c), (.slice x00_2p x00_2n x00_2c)] 26 (0, 0)) from row_held al rBx0180_.out)
    clear rBx0180_
    have rBg0193_ := Lib.hid (show ((w16.alloc (.cells #[.int .i64 ir0_0, (.slice hr0_1p hr0_1n hr0_1c), (.slice hr0_2p hr0_2n hr0_2c)] 26))).heap[w5.heap.size]? = some (.cells #[.int .i64 ir0_0, (.slice gr0_1p gr0_1n gr0_1c), (.slice gr0_2p gr0_2n gr0_2c)] 26 (0, 0)) from row_held al rBg0181_.out)
    clear rBg0181_
    have rBg1194_ := Lib.hid (show ((w16.alloc (.cells #[.int .i64 ir0_0, (.slice hr0_1p hr0_1n hr0_1c), (.slice hr0_2p hr0_2n hr0_2c)] 26))).heap[w5.heap.size + 1]? = some (.cells #[.int .i64 ir1_0, .int .i64 ir1_1, .int .i64 ir1_2, .int .i64 ir1_3, .int .i64 ir1_4, .int .i64 ir1_5, .int .i64 ir1_6, (.slice gr1_7p gr1_7n gr1_7c)] 29 (0, 0)) from row_held al rBg1182_.out)
    clear rBg1182_
    have ox0195_ := Lib.hid (show OwU ((w16.alloc (.cells #[.int .i64 ir0_0, (.slice hr0_1p hr0_1n hr0_1c), (.slice hr0_2p hr0_2n hr0_2c)] 26))) (w3.heap.size + 1 + 1) (w4.heap.size) [] [own shB (.slice x00_1p x00_1n x00_1c) (emL shB (1) xs0_1), own shB (.slice x00_2p x00_2n x00_2c) (emL shB (1 + ecL shB xs0_1) xs0_2)] from OwU.grow ox0183_.out al)
    clear ox0183_
    have og196_ := Lib.hid (show OwU ((w16.alloc (.cells #[.int .i64 ir0_0, (.slice hr0_1p hr0_1n hr0_1c), (.slice hr0_2p hr0_2n hr0_2c)] 26))) (w4.heap.size + 1) (w5.heap.size) [] [own shB (.slice gr0_1p gr0_1n gr0_1c) (emL shB (1) xsr0_1), own shB (.slice gr0_2p gr0_2n gr0_2c) (emL shB (1 + ecL shB xsr0_1) xsr0_2), own shI (.slice gr1_7p gr1_7n gr1_7c) (emL shI (1 + ecL shB xsr0_1 + ecL shB xsr0_2) xsr1_7)] from OwU.grow og184_.out al)
    clear og184_
    have oT3197_ := Lib.hid (show OwU ((w16.alloc (.cells #[.int .i64 ir0_0, (.slice hr0_1p hr0_1n hr0_1c), (.slice hr0_2p hr0_2n hr0_2c)] 26))) (w14.heap.size) (w15.heap.size) [] [own shB (.slice t30_1p t30_1n t30_1c) xs0_1, own shB (.slice t30_2p t30_2n t30_2c) xs0_2] from OwU.grow oT3185_.out al)
    clear oT3185_
    have oh198_ := Lib.hid (show OwU ((w16.alloc (.cells #[.int .i64 ir0_0, (.slice hr0_1p hr0_1n hr0_1c), (.slice hr0_2p hr0_2n hr0_2c)] 26))) (w15.heap.size) (w16.heap.size) [] [own shB (.slice hr0_1p hr0_1n hr0_1c) xsr0_1, own shB (.slice hr0_2p hr0_2n hr0_2c) xsr0_2, own shI (.slice hr1_7p hr1_7n hr1_7c) xsr1_7] from OwU.grow oh188_.out al)
    clear oh188_
    have G199_ := Lib.hid (show (W).grownBy ((w16.alloc (.cells #[.int .i64 ir0_0, (.slice hr0_1p hr0_1n hr0_1c), (.slice hr0_2p hr0_2n hr0_2c)] 26))) none from gby_trans G186_.out al)
    have qw200_ := Lib.hid (show (w3).grownBy ((w16.alloc (.cells #[.int .i64 ir0_0, (.slice hr0_1p hr0_1n hr0_1c), (.slice hr0_2p hr0_2n hr0_2c)] 26))) none from gby_trans qw187_.out al)
    clear qw187_
    have rBh0201_ := Lib.hid (show ((w16.alloc (.cells #[.int .i64 ir0_0, (.slice hr0_1p hr0_1n hr0_1c), (.slice hr0_2p hr0_2n hr0_2c)] 26))).heap[w16.heap.size]? = some (.cells #[.int .i64 ir0_0, (.slice hr0_1p hr0_1n hr0_1c), (.slice hr0_2p hr0_2n hr0_2c)] 26 (0, 0)) from by first | exact heap_alloc_new _ _ | exact heap_pair _ _ _ | exact heap_trip _ _ _ _)
    clear al
    have al : ((w16.alloc (.cells #[.int .i64 ir0_0, (.slice hr0_1p hr0_1n hr0_1c), (.slice hr0_2p hr0_2n hr0_2c)] 26))).grownBy (((w16.alloc (.cells #[.int .i64 ir0_0, (.slice hr0_1p hr0_1n hr0_1c), (.slice hr0_2p hr0_2n hr0_2c)] 26))).alloc (.cells #[.int .i64 ir1_0, .int .i64 ir1_1, .int .i64 ir1_2, .int .i64 ir1_3, .int .i64 ir1_4, .int .i64 ir1_5, .int .i64 ir1_6, (.slice hr1_7p hr1_7n hr1_7c)] 29)) none := gby_alloc (gby_refl _ _) _
    have zs21 := World.grownBy.size al
    try simp only [World.size_alloc] at zs21
    have rA0202_ := Lib.hid (show (((w16.alloc (.cells #[.int .i64 ir0_0, (.slice hr0_1p hr0_1n hr0_1c), (.slice hr0_2p hr0_2n hr0_2c)] 26)).alloc (.cells #[.int .i64 ir1_0, .int .i64 ir1_1, .int .i64 ir1_2, .int .i64 ir1_3, .int .i64 ir1_4, .int .i64 ir1_5, .int .i64 ir1_6, (.slice hr1_7p hr1_7n hr1_7c)] 29))).heap[W.heap.size]? = some (.cells #[.int .i64 i0_0, a0_1, a0_2] 24 (0, 0)) from row_held al rA0189_.out)
    clear rA0189_
    have rBw0203_ := Lib.hid (show (((w16.alloc (.cells #[.int .i64 ir0_0, (.slice hr0_1p hr0_1n hr0_1c), (.slice hr0_2p hr0_2n hr0_2c)] 26)).alloc (.cells #[.int .i64 ir1_0, .int .i64 ir1_1, .int .i64 ir1_2, .int .i64 ir1_3, .int .i64 ir1_4, .int .i64 ir1_5, .int .i64 ir1_6, (.slice hr1_7p hr1_7n hr1_7c)] 29))).heap[w3.heap.size]? = some (.cells #[.int .i64 ir0_0, (.slice wr0_1p wr0_1n wr0_1c), (.slice wr0_2p wr0_2n wr0_2c)] 26 (0, 0)) from row_held al rBw0190_.out)
    clear rBw0190_
    have rBw1204_ := Lib.hid (show (((w16.alloc (.cells #[.int .i64 ir0_0, (.slice hr0_1p hr0_1n hr0_1c), (.slice hr0_2p hr0_2n hr0_2c)] 26)).alloc (.cells #[.int .i64 ir1_0, .int .i64 ir1_1, .int .i64 ir1_2, .int .i64 ir1_3, .int .i64 ir1_4, .int .i64 ir1_5, .int .i64 ir1_6, (.slice hr1_7p hr1_7n hr1_7c)] 29))).heap[w3.heap.size + 1]? = some (.cells #[.int .i64 ir1_0, .int .i64 ir1_1, .int .i64 ir1_2, .int .i64 ir1_3, .int .i64 ir1_4, .int .i64 ir1_5, .int .i64 ir1_6, (.slice wr1_7p wr1_7n wr1_7c)] 29 (0, 0)) from row_held al rBw1191_.out)
    clear rBw1191_
    have rBx0205_ := Lib.hid (show (((w16.alloc (.cells #[.int .i64 ir0_0, (.slice hr0_1p hr0_1n hr0_1c), (.slice hr0_2p hr0_2n hr0_2c)] 26)).alloc (.cells #[.int .i64 ir1_0, .int .i64 ir1_1, .int .i64 ir1_2, .int .i64 ir1_3, .int .i64 ir1_4, .int .i64 ir1_5, .int .i64 ir1_6, (.slice hr1_7p hr1_7n hr1_7c)] 29))).heap[w4.heap.size]? = some (.cells #[.int .i64 i0_0, (.slice x00_1p x00_1n x00_1c), (.slice x00_2p x00_2n x00_2c)] 26 (0, 0)) from row_held al rBx0192_.out)
    clear rBx0192_
    have rBg0206_ := Lib.hid (show (((w16.alloc (.cells #[.int .i64 ir0_0, (.slice hr0_1p hr0_1n hr0_1c), (.slice hr0_2p hr0_2n hr0_2c)] 26)).alloc (.cells #[.int .i64 ir1_0, .int .i64 ir1_1, .int .i64 ir1_2, .int .i64 ir1_3, .int .i64 ir1_4, .int .i64 ir1_5, .int .i64 ir1_6, (.slice hr1_7p hr1_7n hr1_7c)] 29))).heap[w5.heap.size]? = some (.cells #[.int .i64 ir0_0, (.slice gr0_1p gr0_1n gr0_1c), (.slice gr0_2p gr0_2n gr0_2c)] 26 (0, 0)) from row_held al rBg0193_.out)
    clear rBg0193_
    have rBg1207_ := Lib.hid (show (((w16.alloc (.cells #[.int .i64 ir0_0, (.slice hr0_1p hr0_1n hr0_1c), (.slice hr0_2p hr0_2n hr0_2c)] 26)).alloc (.cells #[.int .i64 ir1_0, .int .i64 ir1_1, .int .i64 ir1_2, .int .i64 ir1_3, .int .i64 ir1_4, .int .i64 ir1_5, .int .i64 ir1_6, (.slice hr1_7p hr1_7n hr1_7c)] 29))).heap[w5.heap.size + 1]? = some (.cells #[.int .i64 ir1_0, .int .i64 ir1_1, .int .i64 ir1_2, .int .i64 ir1_3, .int .i64 ir1_4, .int .i64 ir1_5, .int .i64 ir1_6, (.slice gr1_7p gr1_7n gr1_7c)] 29 (0, 0)) from row_held al rBg1194_.out)
    clear rBg1194_
    have rBh0208_ := Lib.hid (show (((w16.alloc (.cells #[.int .i64 ir0_0, (.slice hr0_1p hr0_1n hr0_1c), (.slice hr0_2p hr0_2n hr0_2c)] 26)).alloc (.cells #[.int .i64 ir1_0, .int .i64 ir1_1, .int .i64 ir1_2, .int .i64 ir1_3, .int .i64 ir1_4, .int .i64 ir1_5, .int .i64 ir1_6, (.slice hr1_7p hr1_7n hr1_7c)] 29))).heap[w16.heap.size]? = some (.cells #[.int .i64 ir0_0, (.slice hr0_1p hr0_1n hr0_1c), (.slice hr0_2p hr0_2n hr0_2c)] 26 (0, 0)) from row_held al rBh0201_.out)
    clear rBh0201_
    have ox0209_ := Lib.hid (show OwU (((w16.alloc (.cells #[.int .i64 ir0_0, (.slice hr0_1p hr0_1n hr0_1c), (.slice hr0_2p hr0_2n hr0_2c)] 26)).alloc (.cells #[.int .i64 ir1_0, .int .i64 ir1_1, .int .i64 ir1_2, .int .i64 ir1_3, .int .i64 ir1_4, .int .i64 ir1_5, .int .i64 ir1_6, (.slice hr1_7p hr1_7n hr1_7c)] 29))) (w3.heap.size + 1 + 1) (w4.heap.size) [] [own shB (.slice x00_1p x00_1n x00_1c) (emL shB (1) xs0_1), own shB (.slice x00_2p x00_2n x00_2c) (emL shB (1 + ecL shB xs0_1) xs0_2)] from OwU.grow ox0195_.out al)
    clear ox0195_
    have og210_ := Lib.hid (show OwU (((w16.alloc (.cells #[.int .i64 ir0_0, (.slice hr0_1p hr0_1n hr0_1c), (.slice hr0_2p hr0_2n hr0_2c)] 26)).alloc (.cells #[.int .i64 ir1_0, .int .i64 ir1_1, .int .i64 ir1_2, .int .i64 ir1_3, .int .i64 ir1_4, .int .i64 ir1_5, .int .i64 ir1_6, (.slice hr1_7p hr1_7n hr1_7c)] 29))) (w4.heap.size + 1) (w5.heap.size) [] [own shB (.slice gr0_1p gr0_1n gr0_1c) (emL shB (1) xsr0_1), own shB (.slice gr0_2p gr0_2n gr0_2c) (emL shB (1 + ecL shB xsr0_1) xsr0_2), own shI (.slice gr1_7p gr1_7n gr1_7c) (emL shI (1 + ecL shB xsr0_1 + ecL shB xsr0_2) xsr1_7)] from OwU.grow og196_.out al)
    clear og196_
    have oT3211_ := Lib.hid (show OwU (((w16.alloc (.cells #[.int .i64 ir0_0, (.slice hr0_1p hr0_1n hr0_1c), (.slice hr0_2p hr0_2n hr0_2c)] 26)).alloc (.cells #[.int .i64 ir1_0, .int .i64 ir1_1, .int .i64 ir1_2, .int .i64 ir1_3, .int .i64 ir1_4, .int .i64 ir1_5, .int .i64 ir1_6, (.slice hr1_7p hr1_7n hr1_7c)] 29))) (w14.heap.size) (w15.heap.size) [] [own shB (.slice t30_1p t30_1n t30_1c) xs0_1, own shB (.slice t30_2p t30_2n t30_2c) xs0_2] from OwU.grow oT3197_.out al)
    clear oT3197_
    have oh212_ := Lib.hid (show OwU (((w16.alloc (.cells #[.int .i64 ir0_0, (.slice hr0_1p hr0_1n hr0_1c), (.slice hr0_2p hr0_2n hr0_2c)] 26)).alloc (.cells #[.int .i64 ir1_0, .int .i64 ir1_1, .int .i64 ir1_2, .int .i64 ir1_3, .int .i64 ir1_4, .int .i64 ir1_5, .int .i64 ir1_6, (.slice hr1_7p hr1_7n hr1_7c)] 29))) (w15.heap.size) (w16.heap.size) [] [own shB (.slice hr0_1p hr0_1n hr0_1c) xsr0_1, own shB (.slice hr0_2p hr0_2n hr0_2c) xsr0_2, own shI (.slice hr1_7p hr1_7n hr1_7c) xsr1_7] from OwU.grow oh198_.out al)
    clear oh198_
    have G213_ := Lib.hid (show (W).grownBy (((w16.alloc (.cells #[.int .i64 ir0_0, (.slice hr0_1p hr0_1n hr0_1c), (.slice hr0_2p hr0_2n hr0_2c)] 26)).alloc (.cells #[.int .i64 ir1_0, .int .i64 ir1_1, .int .i64 ir1_2, .int .i64 ir1_3, .int .i64 ir1_4, .int .i64 ir1_5, .int .i64 ir1_6, (.slice hr1_7p hr1_7n hr1_7c)] 29))) none from gby_trans G199_.out al)
    have qw214_ := Lib.hid (show (w3).grownBy (((w16.alloc (.cells #[.int .i64 ir0_0, (.slice hr0_1p hr0_1n hr0_1c), (.slice hr0_2p hr0_2n hr0_2c)] 26)).alloc (.cells #[.int .i64 ir1_0, .int .i64 ir1_1, .int .i64 ir1_2, .int .i64 ir1_3, .int .i64 ir1_4, .int .i64 ir1_5, .int .i64 ir1_6, (.slice hr1_7p hr1_7n hr1_7c)] 29))) none from gby_trans qw200_.out al)
    clear qw200_
    have rBh1215_ := Lib.hid (show (((w16.alloc (.cells #[.int .i64 ir0_0, (.slice hr0_1p hr0_1n hr0_1c), (.slice hr0_2p hr0_2n hr0_2c)] 26)).alloc (.cells #[.int .i64 ir1_0, .int .i64 ir1_1, .int .i64 ir1_2, .int .i64 ir1_3, .int .i64 ir1_4, .int .i64 ir1_5, .int .i64 ir1_6, (.slice hr1_7p hr1_7n hr1_7c)] 29))).heap[w16.heap.size + 1]? = some (.cells #[.int .i64 ir1_0, .int .i64 ir1_1, .int .i64 ir1_2, .int .i64 ir1_3, .int .i64 ir1_4, .int .i64 ir1_5, .int .i64 ir1_6, (.slice hr1_7p hr1_7n hr1_7c)] 29 (0, 0)) from by first | exact heap_alloc_new _ _ | exact heap_pair _ _ _ | exact heap_trip _ _ _ _)
    clear al
    clear oT3211_
    have Bh0_0_ : (((w16.alloc (.cells #[.int .i64 ir0_0, (.slice hr0_1p hr0_1n hr0_1c), (.slice hr0_2p hr0_2n hr0_2c)] 26)).alloc (.cells #[.int .i64 ir1_0, .int .i64 ir1_1, .int .i64 ir1_2, .int .i64 ir1_3, .int .i64 ir1_4, .int .i64 ir1_5, .int .i64 ir1_6, (.slice hr1_7p hr1_7n hr1_7c)] 29))).cell? ⟨w16.heap.size, 0, none⟩ = some (.int .i64 ir0_0) := cell_of_row _ _ 0 _ _ _ rBh0208_.out
    have Bh0_1_ : (((w16.alloc (.cells #[.int .i64 ir0_0, (.slice hr0_1p hr0_1n hr0_1c), (.slice hr0_2p hr0_2n hr0_2c)] 26)).alloc (.cells #[.int .i64 ir1_0, .int .i64 ir1_1, .int .i64 ir1_2, .int .i64 ir1_3, .int .i64 ir1_4, .int .i64 ir1_5, .int .i64 ir1_6, (.slice hr1_7p hr1_7n hr1_7c)] 29))).cell? ⟨w16.heap.size, 1, none⟩ = some ((.slice hr0_1p hr0_1n hr0_1c)) := cell_of_row _ _ 1 _ _ _ rBh0208_.out
    have Bh0_2_ : (((w16.alloc (.cells #[.int .i64 ir0_0, (.slice hr0_1p hr0_1n hr0_1c), (.slice hr0_2p hr0_2n hr0_2c)] 26)).alloc (.cells #[.int .i64 ir1_0, .int .i64 ir1_1, .int .i64 ir1_2, .int .i64 ir1_3, .int .i64 ir1_4, .int .i64 ir1_5, .int .i64 ir1_6, (.slice hr1_7p hr1_7n hr1_7c)] 29))).cell? ⟨w16.heap.size, 2, none⟩ = some ((.slice hr0_2p hr0_2n hr0_2c)) := cell_of_row _ _ 2 _ _ _ rBh0208_.out
    have Bw0_0_ : (((w16.alloc (.cells #[.int .i64 ir0_0, (.slice hr0_1p hr0_1n hr0_1c), (.slice hr0_2p hr0_2n hr0_2c)] 26)).alloc (.cells #[.int .i64 ir1_0, .int .i64 ir1_1, .int .i64 ir1_2, .int .i64 ir1_3, .int .i64 ir1_4, .int .i64 ir1_5, .int .i64 ir1_6, (.slice hr1_7p hr1_7n hr1_7c)] 29))).cell? ⟨w3.heap.size, 0, none⟩ = some (.int .i64 ir0_0) := cell_of_row _ _ 0 _ _ _ rBw0203_.out
    have Bw0_1_ : (((w16.alloc (.cells #[.int .i64 ir0_0, (.slice hr0_1p hr0_1n hr0_1c), (.slice hr0_2p hr0_2n hr0_2c)] 26)).alloc (.cells #[.int .i64 ir1_0, .int .i64 ir1_1, .int .i64 ir1_2, .int .i64 ir1_3, .int .i64 ir1_4, .int .i64 ir1_5, .int .i64 ir1_6, (.slice hr1_7p hr1_7n hr1_7c)] 29))).cell? ⟨w3.heap.size, 1, none⟩ = some ((.slice wr0_1p wr0_1n wr0_1c)) := cell_of_row _ _ 1 _ _ _ rBw0203_.out
    have Bw0_2_ : (((w16.alloc (.cells #[.int .i64 ir0_0, (.slice hr0_1p hr0_1n hr0_1c), (.slice hr0_2p hr0_2n hr0_2c)] 26)).alloc (.cells #[.int .i64 ir1_0, .int .i64 ir1_1, .int .i64 ir1_2, .int .i64 ir1_3, .int .i64 ir1_4, .int .i64 ir1_5, .int .i64 ir1_6, (.slice hr1_7p hr1_7n hr1_7c)] 29))).cell? ⟨w3.heap.size, 2, none⟩ = some ((.slice wr0_2p wr0_2n wr0_2c)) := cell_of_row _ _ 2 _ _ _ rBw0203_.out
    go_wp2_with fail
    go_at_call 15
    refine (eqVectors_d _ ir0_0 (.slice hr0_1p hr0_1n hr0_1c) (.slice hr0_2p hr0_2n hr0_2c) (.slice wr0_1p wr0_1n wr0_1c) (.slice wr0_2p wr0_2n wr0_2c) xsr0_1 xsr0_2 (OwU.rd oh212_.out) (RdL.grow rd11_.out qw214_.out) hLr0_1 (OwU.rd (OwU.tail oh212_.out)) (RdL.grow rd12_.out qw214_.out) hLr0_2).mono ?_
    rintro e w17 ⟨rfl, g⟩
    have zs22 := World.grownBy.size g
    try simp only [World.size_alloc] at zs22
    clear Bh0_0_ Bh0_1_ Bh0_2_ Bw0_0_ Bw0_1_ Bw0_2_
    have rA0216_ := Lib.hid (show (w17).heap[W.heap.size]? = some (.cells #[.int .i64 i0_0, a0_1, a0_2] 24 (0, 0)) from row_held g rA0202_.out)
    clear rA0202_
    have rBw0217_ := Lib.hid (show (w17).heap[w3.heap.size]? = some (.cells #[.int .i64 ir0_0, (.slice wr0_1p wr0_1n wr0_1c), (.slice wr0_2p wr0_2n wr0_2c)] 26 (0, 0)) from row_held g rBw0203_.out)
    clear rBw0203_
    have rBw1218_ := Lib.hid (show (w17).heap[w3.heap.size + 1]? = some (.cells #[.int .i64 ir1_0, .int .i64 ir1_1, .int .i64 ir1_2, .int .i64 ir1_3, .int .i64 ir1_4, .int .i64 ir1_5, .int .i64 ir1_6, (.slice wr1_7p wr1_7n wr1_7c)] 29 (0, 0)) from row_held g rBw1204_.out)
    clear rBw1204_
    have rBx0219_ := Lib.hid (show (w17).heap[w4.heap.size]? = some (.cells #[.int .i64 i0_0, (.slice x00_1p x00_1n x00_1c), (.slice x00_2p x00_2n x00_2c)] 26 (0, 0)) from row_held g rBx0205_.out)
    clear rBx0205_
    have rBg0220_ := Lib.hid (show (w17).heap[w5.heap.size]? = some (.cells #[.int .i64 ir0_0, (.slice gr0_1p gr0_1n gr0_1c), (.slice gr0_2p gr0_2n gr0_2c)] 26 (0, 0)) from row_held g rBg0206_.out)
    clear rBg0206_
    have rBg1221_ := Lib.hid (show (w17).heap[w5.heap.size + 1]? = some (.cells #[.int .i64 ir1_0, .int .i64 ir1_1, .int .i64 ir1_2, .int .i64 ir1_3, .int .i64 ir1_4, .int .i64 ir1_5, .int .i64 ir1_6, (.slice gr1_7p gr1_7n gr1_7c)] 29 (0, 0)) from row_held g rBg1207_.out)
    clear rBg1207_
    have rBh0222_ := Lib.hid (show (w17).heap[w16.heap.size]? = some (.cells #[.int .i64 ir0_0, (.slice hr0_1p hr0_1n hr0_1c), (.slice hr0_2p hr0_2n hr0_2c)] 26 (0, 0)) from row_held g rBh0208_.out)
    clear rBh0208_
    have rBh1223_ := Lib.hid (show (w17).heap[w16.heap.size + 1]? = some (.cells #[.int .i64 ir1_0, .int .i64 ir1_1, .int .i64 ir1_2, .int .i64 ir1_3, .int .i64 ir1_4, .int .i64 ir1_5, .int .i64 ir1_6, (.slice hr1_7p hr1_7n hr1_7c)] 29 (0, 0)) from row_held g rBh1215_.out)
    clear rBh1215_
    have ox0224_ := Lib.hid (show OwU (w17) (w3.heap.size + 1 + 1) (w4.heap.size) [] [own shB (.slice x00_1p x00_1n x00_1c) (emL shB (1) xs0_1), own shB (.slice x00_2p x00_2n x00_2c) (emL shB (1 + ecL shB xs0_1) xs0_2)] from OwU.grow ox0209_.out g)
    clear ox0209_
    have og225_ := Lib.hid (show OwU (w17) (w4.heap.size + 1) (w5.heap.size) [] [own shB (.slice gr0_1p gr0_1n gr0_1c) (emL shB (1) xsr0_1), own shB (.slice gr0_2p gr0_2n gr0_2c) (emL shB (1 + ecL shB xsr0_1) xsr0_2), own shI (.slice gr1_7p gr1_7n gr1_7c) (emL shI (1 + ecL shB xsr0_1 + ecL shB xsr0_2) xsr1_7)] from OwU.grow og210_.out g)
    clear og210_
    have oh226_ := Lib.hid (show OwU (w17) (w15.heap.size) (w16.heap.size) [] [own shB (.slice hr0_1p hr0_1n hr0_1c) xsr0_1, own shB (.slice hr0_2p hr0_2n hr0_2c) xsr0_2, own shI (.slice hr1_7p hr1_7n hr1_7c) xsr1_7] from OwU.grow oh212_.out g)
    clear oh212_
    have G227_ := Lib.hid (show (W).grownBy (w17) none from gby_trans G213_.out g)
    have qw228_ := Lib.hid (show (w3).grownBy (w17) none from gby_trans qw214_.out g)
    clear qw214_
    clear g
    have Bh1_0_ : (w17).cell? ⟨w16.heap.size + 1, 0, none⟩ = some (.int .i64 ir1_0) := cell_of_row _ _ 0 _ _ _ rBh1223_.out
    have Bh1_1_ : (w17).cell? ⟨w16.heap.size + 1, 1, none⟩ = some (.int .i64 ir1_1) := cell_of_row _ _ 1 _ _ _ rBh1223_.out
    have Bh1_2_ : (w17).cell? ⟨w16.heap.size + 1, 2, none⟩ = some (.int .i64 ir1_2) := cell_of_row _ _ 2 _ _ _ rBh1223_.out
    have Bh1_3_ : (w17).cell? ⟨w16.heap.size + 1, 3, none⟩ = some (.int .i64 ir1_3) := cell_of_row _ _ 3 _ _ _ rBh1223_.out
    have Bh1_4_ : (w17).cell? ⟨w16.heap.size + 1, 4, none⟩ = some (.int .i64 ir1_4) := cell_of_row _ _ 4 _ _ _ rBh1223_.out
    have Bh1_5_ : (w17).cell? ⟨w16.heap.size + 1, 5, none⟩ = some (.int .i64 ir1_5) := cell_of_row _ _ 5 _ _ _ rBh1223_.out
    have Bh1_6_ : (w17).cell? ⟨w16.heap.size + 1, 6, none⟩ = some (.int .i64 ir1_6) := cell_of_row _ _ 6 _ _ _ rBh1223_.out
    have Bh1_7_ : (w17).cell? ⟨w16.heap.size + 1, 7, none⟩ = some ((.slice hr1_7p hr1_7n hr1_7c)) := cell_of_row _ _ 7 _ _ _ rBh1223_.out
    have Bw1_0_ : (w17).cell? ⟨w3.heap.size + 1, 0, none⟩ = some (.int .i64 ir1_0) := cell_of_row _ _ 0 _ _ _ rBw1218_.out
    have Bw1_1_ : (w17).cell? ⟨w3.heap.size + 1, 1, none⟩ = some (.int .i64 ir1_1) := cell_of_row _ _ 1 _ _ _ rBw1218_.out
    have Bw1_2_ : (w17).cell? ⟨w3.heap.size + 1, 2, none⟩ = some (.int .i64 ir1_2) := cell_of_row _ _ 2 _ _ _ rBw1218_.out
    have Bw1_3_ : (w17).cell? ⟨w3.heap.size + 1, 3, none⟩ = some (.int .i64 ir1_3) := cell_of_row _ _ 3 _ _ _ rBw1218_.out
    have Bw1_4_ : (w17).cell? ⟨w3.heap.size + 1, 4, none⟩ = some (.int .i64 ir1_4) := cell_of_row _ _ 4 _ _ _ rBw1218_.out
    have Bw1_5_ : (w17).cell? ⟨w3.heap.size + 1, 5, none⟩ = some (.int .i64 ir1_5) := cell_of_row _ _ 5 _ _ _ rBw1218_.out
    have Bw1_6_ : (w17).cell? ⟨w3.heap.size + 1, 6, none⟩ = some (.int .i64 ir1_6) := cell_of_row _ _ 6 _ _ _ rBw1218_.out
    have Bw1_7_ : (w17).cell? ⟨w3.heap.size + 1, 7, none⟩ = some ((.slice wr1_7p wr1_7n wr1_7c)) := cell_of_row _ _ 7 _ _ _ rBw1218_.out
    go_wp2_with fail
    go_at_call 16
    refine (eqPacket_d _ ir1_0 ir1_1 ir1_2 ir1_3 ir1_4 ir1_5 ir1_6 (.slice hr1_7p hr1_7n hr1_7c) (.slice wr1_7p wr1_7n wr1_7c) xsr1_7 (OwU.rd (OwU.tail (OwU.tail oh226_.out))) (RdL.grow rd13_.out qw228_.out) hLr1_7).mono ?_
    rintro e w18 ⟨rfl, g⟩
    have zs23 := World.grownBy.size g
    try simp only [World.size_alloc] at zs23
    clear Bh1_0_ Bh1_1_ Bh1_2_ Bh1_3_ Bh1_4_ Bh1_5_ Bh1_6_ Bh1_7_ Bw1_0_ Bw1_1_ Bw1_2_ Bw1_3_ Bw1_4_ Bw1_5_ Bw1_6_ Bw1_7_
    have rA0229_ := Lib.hid (show (w18).heap[W.heap.size]? = some (.cells #[.int .i64 i0_0, a0_1, a0_2] 24 (0, 0)) from row_held g rA0216_.out)
    clear rA0216_
    have rBw0230_ := Lib.hid (show (w18).heap[w3.heap.size]? = some (.cells #[.int .i64 ir0_0, (.slice wr0_1p wr0_1n wr0_1c), (.slice wr0_2p wr0_2n wr0_2c)] 26 (0, 0)) from row_held g rBw0217_.out)
    clear rBw0217_
    have rBw1231_ := Lib.hid (show (w18).heap[w3.heap.size + 1]? = some (.cells #[.int .i64 ir1_0, .int .i64 ir1_1, .int .i64 ir1_2, .int .i64 ir1_3, .int .i64 ir1_4, .int .i64 ir1_5, .int .i64 ir1_6, (.slice wr1_7p wr1_7n wr1_7c)] 29 (0, 0)) from row_held g rBw1218_.out)
    clear rBw1218_
    have rBx0232_ := Lib.hid (show (w18).heap[w4.heap.size]? = some (.cells #[.int .i64 i0_0, (.slice x00_1p x00_1n x00_1c), (.slice x00_2p x00_2n x00_2c)] 26 (0, 0)) from row_held g rBx0219_.out)
    clear rBx0219_
    have rBg0233_ := Lib.hid (show (w18).heap[w5.heap.size]? = some (.cells #[.int .i64 ir0_0, (.slice gr0_1p gr0_1n gr0_1c), (.slice gr0_2p gr0_2n gr0_2c)] 26 (0, 0)) from row_held g rBg0220_.out)
    clear rBg0220_
    have rBg1234_ := Lib.hid (show (w18).heap[w5.heap.size + 1]? = some (.cells #[.int .i64 ir1_0, .int .i64 ir1_1, .int .i64 ir1_2, .int .i64 ir1_3, .int .i64 ir1_4, .int .i64 ir1_5, .int .i64 ir1_6, (.slice gr1_7p gr1_7n gr1_7c)] 29 (0, 0)) from row_held g rBg1221_.out)
    clear rBg1221_
    have rBh0235_ := Lib.hid (show (w18).heap[w16.heap.size]? = some (.cells #[.int .i64 ir0_0, (.slice hr0_1p hr0_1n hr0_1c), (.slice hr0_2p hr0_2n hr0_2c)] 26 (0, 0)) from row_held g rBh0222_.out)
    clear rBh0222_
    have rBh1236_ := Lib.hid (show (w18).heap[w16.heap.size + 1]? = some (.cells #[.int .i64 ir1_0, .int .i64 ir1_1, .int .i64 ir1_2, .int .i64 ir1_3, .int .i64 ir1_4, .int .i64 ir1_5, .int .i64 ir1_6, (.slice hr1_7p hr1_7n hr1_7c)] 29 (0, 0)) from row_held g rBh1223_.out)
    clear rBh1223_
    have ox0237_ := Lib.hid (show OwU (w18) (w3.heap.size + 1 + 1) (w4.heap.size) [] [own shB (.slice x00_1p x00_1n x00_1c) (emL shB (1) xs0_1), own shB (.slice x00_2p x00_2n x00_2c) (emL shB (1 + ecL shB xs0_1) xs0_2)] from OwU.grow ox0224_.out g)
    clear ox0224_
    have og238_ := Lib.hid (show OwU (w18) (w4.heap.size + 1) (w5.heap.size) [] [own shB (.slice gr0_1p gr0_1n gr0_1c) (emL shB (1) xsr0_1), own shB (.slice gr0_2p gr0_2n gr0_2c) (emL shB (1 + ecL shB xsr0_1) xsr0_2), own shI (.slice gr1_7p gr1_7n gr1_7c) (emL shI (1 + ecL shB xsr0_1 + ecL shB xsr0_2) xsr1_7)] from OwU.grow og225_.out g)
    clear og225_
    have oh239_ := Lib.hid (show OwU (w18) (w15.heap.size) (w16.heap.size) [] [own shB (.slice hr0_1p hr0_1n hr0_1c) xsr0_1, own shB (.slice hr0_2p hr0_2n hr0_2c) xsr0_2, own shI (.slice hr1_7p hr1_7n hr1_7c) xsr1_7] from OwU.grow oh226_.out g)
    clear oh226_
    have G240_ := Lib.hid (show (W).grownBy (w18) none from gby_trans G227_.out g)
    have qw241_ := Lib.hid (show (w3).grownBy (w18) none from gby_trans qw228_.out g)
    clear qw228_
    clear g
    have Bg0_0_ : (w18).cell? ⟨w5.heap.size, 0, none⟩ = some (.int .i64 ir0_0) := cell_of_row _ _ 0 _ _ _ rBg0233_.out
    have Bg0_1_ : (w18).cell? ⟨w5.heap.size, 1, none⟩ = some ((.slice gr0_1p gr0_1n gr0_1c)) := cell_of_row _ _ 1 _ _ _ rBg0233_.out
    have Bg0_2_ : (w18).cell? ⟨w5.heap.size, 2, none⟩ = some ((.slice gr0_2p gr0_2n gr0_2c)) := cell_of_row _ _ 2 _ _ _ rBg0233_.out
    go_wp2_with fail
    go_at_call 19
    refine (heldVectors_d _ (1) ir0_0 (.slice gr0_1p gr0_1n gr0_1c) (.slice gr0_2p gr0_2n gr0_2c) xsr0_1 xsr0_2 (OwU.rd og238_.out) (OwU.rd (OwU.tail og238_.out)) hLr0_1 hLr0_2 (by omega)).mono ?_
    rintro e w19 ⟨rfl, g⟩
    have zs24 := World.grownBy.size g
    try simp only [World.size_alloc] at zs24
    clear Bg0_0_ Bg0_1_ Bg0_2_
    have rA0242_ := Lib.hid (show (w19).heap[W.heap.size]? = some (.cells #[.int .i64 i0_0, a0_1, a0_2] 24 (0, 0)) from row_held g rA0229_.out)
    clear rA0229_
    have rBw0243_ := Lib.hid (show (w19).heap[w3.heap.size]? = some (.cells #[.int .i64 ir0_0, (.slice wr0_1p wr0_1n wr0_1c), (.slice wr0_2p wr0_2n wr0_2c)] 26 (0, 0)) from row_held g rBw0230_.out)
    clear rBw0230_
    have rBw1244_ := Lib.hid (show (w19).heap[w3.heap.size + 1]? = some (.cells #[.int .i64 ir1_0, .int .i64 ir1_1, .int .i64 ir1_2, .int .i64 ir1_3, .int .i64 ir1_4, .int .i64 ir1_5, .int .i64 ir1_6, (.slice wr1_7p wr1_7n wr1_7c)] 29 (0, 0)) from row_held g rBw1231_.out)
    clear rBw1231_
    have rBx0245_ := Lib.hid (show (w19).heap[w4.heap.size]? = some (.cells #[.int .i64 i0_0, (.slice x00_1p x00_1n x00_1c), (.slice x00_2p x00_2n x00_2c)] 26 (0, 0)) from row_held g rBx0232_.out)
    clear rBx0232_
    have rBg0246_ := Lib.hid (show (w19).heap[w5.heap.size]? = some (.cells #[.int .i64 ir0_0, (.slice gr0_1p gr0_1n gr0_1c), (.slice gr0_2p gr0_2n gr0_2c)] 26 (0, 0)) from row_held g rBg0233_.out)
    clear rBg0233_
    have rBg1247_ := Lib.hid (show (w19).heap[w5.heap.size + 1]? = some (.cells #[.int .i64 ir1_0, .int .i64 ir1_1, .int .i64 ir1_2, .int .i64 ir1_3, .int .i64 ir1_4, .int .i64 ir1_5, .int .i64 ir1_6, (.slice gr1_7p gr1_7n gr1_7c)] 29 (0, 0)) from row_held g rBg1234_.out)
    clear rBg1234_
    have rBh0248_ := Lib.hid (show (w19).heap[w16.heap.size]? = some (.cells #[.int .i64 ir0_0, (.slice hr0_1p hr0_1n hr0_1c), (.slice hr0_2p hr0_2n hr0_2c)] 26 (0, 0)) from row_held g rBh0235_.out)
    clear rBh0235_
    have rBh1249_ := Lib.hid (show (w19).heap[w16.heap.size + 1]? = some (.cells #[.int .i64 ir1_0, .int .i64 ir1_1, .int .i64 ir1_2, .int .i64 ir1_3, .int .i64 ir1_4, .int .i64 ir1_5, .int .i64 ir1_6, (.slice hr1_7p hr1_7n hr1_7c)] 29 (0, 0)) from row_held g rBh1236_.out)
    clear rBh1236_
    have ox0250_ := Lib.hid (show OwU (w19) (w3.heap.size + 1 + 1) (w4.heap.size) [] [own shB (.slice x00_1p x00_1n x00_1c) (emL shB (1) xs0_1), own shB (.slice x00_2p x00_2n x00_2c) (emL shB (1 + ecL shB xs0_1) xs0_2)] from OwU.grow ox0237_.out g)
    clear ox0237_
    have og251_ := Lib.hid (show OwU (w19) (w4.heap.size + 1) (w5.heap.size) [] [own shB (.slice gr0_1p gr0_1n gr0_1c) (emL shB (1) xsr0_1), own shB (.slice gr0_2p gr0_2n gr0_2c) (emL shB (1 + ecL shB xsr0_1) xsr0_2), own shI (.slice gr1_7p gr1_7n gr1_7c) (emL shI (1 + ecL shB xsr0_1 + ecL shB xsr0_2) xsr1_7)] from OwU.grow og238_.out g)
    clear og238_
    have oh252_ := Lib.hid (show OwU (w19) (w15.heap.size) (w16.heap.size) [] [own shB (.slice hr0_1p hr0_1n hr0_1c) xsr0_1, own shB (.slice hr0_2p hr0_2n hr0_2c) xsr0_2, own shI (.slice hr1_7p hr1_7n hr1_7c) xsr1_7] from OwU.grow oh239_.out g)
    clear oh239_
    have G253_ := Lib.hid (show (W).grownBy (w19) none from gby_trans G240_.out g)
    have qw254_ := Lib.hid (show (w3).grownBy (w19) none from gby_trans qw241_.out g)
    clear qw241_
    clear g
    have ng19 : ¬ (((1 + ecL shB xsr0_1 + ecL shB xsr0_2 : Nat) : Int) < 0) := by omega
    have Bg1_0_ : (w19).cell? ⟨w5.heap.size + 1, 0, none⟩ = some (.int .i64 ir1_0) := cell_of_row _ _ 0 _ _ _ rBg1247_.out
    have Bg1_1_ : (w19).cell? ⟨w5.heap.size + 1, 1, none⟩ = some (.int .i64 ir1_1) := cell_of_row _ _ 1 _ _ _ rBg1247_.out
    have Bg1_2_ : (w19).cell? ⟨w5.heap.size + 1, 2, none⟩ = some (.int .i64 ir1_2) := cell_of_row _ _ 2 _ _ _ rBg1247_.out
    have Bg1_3_ : (w19).cell? ⟨w5.heap.size + 1, 3, none⟩ = some (.int .i64 ir1_3) := cell_of_row _ _ 3 _ _ _ rBg1247_.out
    have Bg1_4_ : (w19).cell? ⟨w5.heap.size + 1, 4, none⟩ = some (.int .i64 ir1_4) := cell_of_row _ _ 4 _ _ _ rBg1247_.out
    have Bg1_5_ : (w19).cell? ⟨w5.heap.size + 1, 5, none⟩ = some (.int .i64 ir1_5) := cell_of_row _ _ 5 _ _ _ rBg1247_.out
    have Bg1_6_ : (w19).cell? ⟨w5.heap.size + 1, 6, none⟩ = some (.int .i64 ir1_6) := cell_of_row _ _ 6 _ _ _ rBg1247_.out
    have Bg1_7_ : (w19).cell? ⟨w5.heap.size + 1, 7, none⟩ = some ((.slice gr1_7p gr1_7n gr1_7c)) := cell_of_row _ _ 7 _ _ _ rBg1247_.out
    go_wp2_with fail
    go_at_call 20
    refine (heldPacket_d _ (1 + ecL shB xsr0_1 + ecL shB xsr0_2) ir1_0 ir1_1 ir1_2 ir1_3 ir1_4 ir1_5 ir1_6 (.slice gr1_7p gr1_7n gr1_7c) xsr1_7 (OwU.rd (OwU.tail (OwU.tail og251_.out))) hLr1_7 (by omega)).mono ?_
    rintro e w20 ⟨rfl, g⟩
    have zs25 := World.grownBy.size g
    try simp only [World.size_alloc] at zs25
    clear Bg1_0_ Bg1_1_ Bg1_2_ Bg1_3_ Bg1_4_ Bg1_5_ Bg1_6_ Bg1_7_
    have rA0255_ := Lib.hid (show (w20).heap[W.heap.size]? = some (.cells #[.int .i64 i0_0, a0_1, a0_2] 24 (0, 0)) from row_held g rA0242_.out)
    clear rA0242_
    have rBw0256_ := Lib.hid (show (w20).heap[w3.heap.size]? = some (.cells #[.int .i64 ir0_0, (.slice wr0_1p wr0_1n wr0_1c), (.slice wr0_2p wr0_2n wr0_2c)] 26 (0, 0)) from row_held g rBw0243_.out)
    clear rBw0243_
    have rBw1257_ := Lib.hid (show (w20).heap[w3.heap.size + 1]? = some (.cells #[.int .i64 ir1_0, .int .i64 ir1_1, .int .i64 ir1_2, .int .i64 ir1_3, .int .i64 ir1_4, .int .i64 ir1_5, .int .i64 ir1_6, (.slice wr1_7p wr1_7n wr1_7c)] 29 (0, 0)) from row_held g rBw1244_.out)
    clear rBw1244_
    have rBx0258_ := Lib.hid (show (w20).heap[w4.heap.size]? = some (.cells #[.int .i64 i0_0, (.slice x00_1p x00_1n x00_1c), (.slice x00_2p x00_2n x00_2c)] 26 (0, 0)) from row_held g rBx0245_.out)
    clear rBx0245_
    have rBg0259_ := Lib.hid (show (w20).heap[w5.heap.size]? = some (.cells #[.int .i64 ir0_0, (.slice gr0_1p gr0_1n gr0_1c), (.slice gr0_2p gr0_2n gr0_2c)] 26 (0, 0)) from row_held g rBg0246_.out)
    clear rBg0246_
    have rBg1260_ := Lib.hid (show (w20).heap[w5.heap.size + 1]? = some (.cells #[.int .i64 ir1_0, .int .i64 ir1_1, .int .i64 ir1_2, .int .i64 ir1_3, .int .i64 ir1_4, .int .i64 ir1_5, .int .i64 ir1_6, (.slice gr1_7p gr1_7n gr1_7c)] 29 (0, 0)) from row_held g rBg1247_.out)
    clear rBg1247_
    have rBh0261_ := Lib.hid (show (w20).heap[w16.heap.size]? = some (.cells #[.int .i64 ir0_0, (.slice hr0_1p hr0_1n hr0_1c), (.slice hr0_2p hr0_2n hr0_2c)] 26 (0, 0)) from row_held g rBh0248_.out)
    clear rBh0248_
    have rBh1262_ := Lib.hid (show (w20).heap[w16.heap.size + 1]? = some (.cells #[.int .i64 ir1_0, .int .i64 ir1_1, .int .i64 ir1_2, .int .i64 ir1_3, .int .i64 ir1_4, .int .i64 ir1_5, .int .i64 ir1_6, (.slice hr1_7p hr1_7n hr1_7c)] 29 (0, 0)) from row_held g rBh1249_.out)
    clear rBh1249_
    have ox0263_ := Lib.hid (show OwU (w20) (w3.heap.size + 1 + 1) (w4.heap.size) [] [own shB (.slice x00_1p x00_1n x00_1c) (emL shB (1) xs0_1), own shB (.slice x00_2p x00_2n x00_2c) (emL shB (1 + ecL shB xs0_1) xs0_2)] from OwU.grow ox0250_.out g)
    clear ox0250_
    have og264_ := Lib.hid (show OwU (w20) (w4.heap.size + 1) (w5.heap.size) [] [own shB (.slice gr0_1p gr0_1n gr0_1c) (emL shB (1) xsr0_1), own shB (.slice gr0_2p gr0_2n gr0_2c) (emL shB (1 + ecL shB xsr0_1) xsr0_2), own shI (.slice gr1_7p gr1_7n gr1_7c) (emL shI (1 + ecL shB xsr0_1 + ecL shB xsr0_2) xsr1_7)] from OwU.grow og251_.out g)
    clear og251_
    have oh265_ := Lib.hid (show OwU (w20) (w15.heap.size) (w16.heap.size) [] [own shB (.slice hr0_1p hr0_1n hr0_1c) xsr0_1, own shB (.slice hr0_2p hr0_2n hr0_2c) xsr0_2, own shI (.slice hr1_7p hr1_7n hr1_7c) xsr1_7] from OwU.grow oh252_.out g)
    clear oh252_
    have G266_ := Lib.hid (show (W).grownBy (w20) none from gby_trans G253_.out g)
    have qw267_ := Lib.hid (show (w3).grownBy (w20) none from gby_trans qw254_.out g)
    clear qw254_
    clear g
    have ng20 : ¬ (((1 + ecL shB xsr0_1 + ecL shB xsr0_2 + ecL shI xsr1_7 : Nat) : Int) < 0) := by omega
    go_wp2
    go_ret
    exact ⟨rfl, gby_below G266_.out⟩

end Go.Proofs.Ytgagbhkidponnac
