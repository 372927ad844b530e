/-
  The walk of FnExactTakeReady: at every argument the program answers as its model and writes nothing that was there, and its answer owns its memory.
-/
import Derived.Test.YtcenngekjopjpaaQFrame
import Derived.Test.YtcenngekjopjpaaQSender
import Derived.Test.YtcenngekjopjpaaRTakeReady
import Derived.WalkKit
import Derived.Deep.RegionHeld3
import Derived.Below
namespace Go.Proofs.Ytcenngekjopjpaa
open Go Go.RowKit

set_option maxRecDepth 8000 in
set_option maxHeartbeats 16000000 in
theorem walk_exactTakeReady_of (both : ∀ (i0_0 : Int) (xs0_1 : List DFrame) (i0_2 : Int), szL shFrame xs0_1 ≤ 1048576 → ∃ (ir0_0 : Int) (xsr0_1 : List DFrame) (ir0_2 : Int) (ir1_0 : Int) (xsr1_1 : List Int) (br2 : Bool), szL shFrame xsr0_1 ≤ 1048576 ∧ szL shI xsr1_1 ≤ 1048576 ∧ (∀ (W : World), ∀ u0_1, RdL shFrame W u0_1 xs0_1 → Calls Try.prog 17 #[.agg #[.int .i64 i0_0, u0_1, .int .i64 i0_2]] W (ResSTakeReady ir0_0 xsr0_1 ir0_2 ir1_0 xsr1_1 br2 W)) ∧ ∀ (W : World), ∀ u0_1, RdL shFrame W u0_1 xs0_1 → Calls Try.prog 18 #[.agg #[.int .i64 i0_0, u0_1, .int .i64 i0_2]] W (ResITakeReady ir0_0 xsr0_1 ir0_2 ir1_0 xsr1_1 br2 W))
    (W : World) (i0_0 : Int) (a0_1 : Value) (xs0_1 : List DFrame) (i0_2 : Int) (H0_1 : RdL shFrame W a0_1 xs0_1) :
    Calls Try.prog 5 #[.agg #[.int .i64 i0_0, a0_1, .int .i64 i0_2]] W fun e w' => e = .returned (.bool true) ∧ Below W.heap.size W w' := by
  have HI0_1 := Lib.hid H0_1
  have hmx0_1 := H0_1.max
  clear H0_1
  by_cases hs0 : (1048576 : Int) < (((szL shFrame xs0_1) : Nat) : Int)
  · have hneg : (-1 : Int) < 0 := by omega
    go_enter Try.func5, Try.ntmps5
    have rA01_ := Lib.hid (show ((W.alloc (.cells #[.int .i64 i0_0, a0_1, .int .i64 i0_2] 24))).heap[W.heap.size]? = some (.cells #[.int .i64 i0_0, a0_1, .int .i64 i0_2] 24 (0, 0)) from by exact heap_alloc_new _ _)
    have G2_ := Lib.hid (show (W).grownBy ((W.alloc (.cells #[.int .i64 i0_0, a0_1, .int .i64 i0_2] 24))) none from (gby_alloc (gby_refl _ _) _))
    have A0_0_ : ((W.alloc (.cells #[.int .i64 i0_0, a0_1, .int .i64 i0_2] 24))).cell? ⟨W.heap.size, 0, none⟩ = some (.int .i64 i0_0) := cell_of_row _ _ 0 _ _ _ rA01_.out
    have A0_1_ : ((W.alloc (.cells #[.int .i64 i0_0, a0_1, .int .i64 i0_2] 24))).cell? ⟨W.heap.size, 1, none⟩ = some (a0_1) := cell_of_row _ _ 1 _ _ _ rA01_.out
    have A0_2_ : ((W.alloc (.cells #[.int .i64 i0_0, a0_1, .int .i64 i0_2] 24))).cell? ⟨W.heap.size, 2, none⟩ = some (.int .i64 i0_2) := cell_of_row _ _ 2 _ _ _ rA01_.out
    go_wp2_with fail
    go_at_call 8
    refine (szSender_d _ 1048576 i0_0 a0_1 i0_2 xs0_1 (HI0_1.out.grow G2_.out) (by omega) (by omega)).mono ?_
    rintro e w1 ⟨he, g⟩
    rw [show lessN 1048576 (szL shFrame xs0_1) = -1 from if_pos hs0] at he
    subst he
    clear A0_0_ A0_1_ A0_2_
    have rA03_ := Lib.hid (show (w1).heap[W.heap.size]? = some (.cells #[.int .i64 i0_0, a0_1, .int .i64 i0_2] 24 (0, 0)) from row_held g rA01_.out)
    clear rA01_
    have G4_ := Lib.hid (show (W).grownBy (w1) none from gby_trans G2_.out g)
    clear g
    go_wp2
    go_ret
    exact ⟨rfl, gby_below G4_.out⟩
  obtain ⟨rr0, hr0⟩ : ∃ r, r = lessN 1048576 (szL shFrame xs0_1) := ⟨_, rfl⟩
  have hrr0 : rr0 = (1048576 : Int) - (((szL shFrame xs0_1) : Nat) : Int) := hr0.trans (if_neg hs0)
  have hn0 : ¬ rr0 < 0 := by omega
  have hu0 : rr0 ≤ 1048576 := by omega
  have hl0_1 : szL shFrame xs0_1 ≤ 1048576 := by omega
  have HR0 := Lib.hid hr0
  clear hs0 hr0 hrr0
  obtain ⟨ir0_0, xsr0_1, ir0_2, ir1_0, xsr1_1, br2, hLr0_1, hLr1_1, hs_, hi_⟩ := both i0_0 xs0_1 i0_2 hl0_1
  have HS := Lib.hid hs_
  have HM := Lib.hid hi_
  clear hs_ hi_
  try clear both
  have hb_br2 : (br2 != br2) = false := by simp
  have hq0_1 : ecL shFrame xs0_1 ≤ 104857600 := Nat.le_trans (ecL_le _ _) (Nat.le_trans (Nat.mul_le_mul_left _ hl0_1) (Nat.mul_le_mul_right 1048576 (show shFrame.c ≤ 100 by decide)))
  have hqr0_1 : ecL shFrame xsr0_1 ≤ 104857600 := Nat.le_trans (ecL_le _ _) (Nat.le_trans (Nat.mul_le_mul_left _ hLr0_1) (Nat.mul_le_mul_right 1048576 (show shFrame.c ≤ 100 by decide)))
  have hqr1_1 : ecL shI xsr1_1 ≤ 104857600 := Nat.le_trans (ecL_le _ _) (Nat.le_trans (Nat.mul_le_mul_left _ hLr1_1) (Nat.mul_le_mul_right 1048576 (show shI.c ≤ 100 by decide)))
  go_enter Try.func5, Try.ntmps5
  have rA01_ := Lib.hid (show ((W.alloc (.cells #[.int .i64 i0_0, a0_1, .int .i64 i0_2] 24))).heap[W.heap.size]? = some (.cells #[.int .i64 i0_0, a0_1, .int .i64 i0_2] 24 (0, 0)) from by exact heap_alloc_new _ _)
  have G2_ := Lib.hid (show (W).grownBy ((W.alloc (.cells #[.int .i64 i0_0, a0_1, .int .i64 i0_2] 24))) none from (gby_alloc (gby_refl _ _) _))
  have A0_0_ : ((W.alloc (.cells #[.int .i64 i0_0, a0_1, .int .i64 i0_2] 24))).cell? ⟨W.heap.size, 0, none⟩ = some (.int .i64 i0_0) := cell_of_row _ _ 0 _ _ _ rA01_.out
  have A0_1_ : ((W.alloc (.cells #[.int .i64 i0_0, a0_1, .int .i64 i0_2] 24))).cell? ⟨W.heap.size, 1, none⟩ = some (a0_1) := cell_of_row _ _ 1 _ _ _ rA01_.out
  have A0_2_ : ((W.alloc (.cells #[.int .i64 i0_0, a0_1, .int .i64 i0_2] 24))).cell? ⟨W.heap.size, 2, none⟩ = some (.int .i64 i0_2) := cell_of_row _ _ 2 _ _ _ rA01_.out
  go_wp2_with fail
  go_at_call 8
  refine (szSender_d _ 1048576 i0_0 a0_1 i0_2 xs0_1 (HI0_1.out.grow G2_.out) (by omega) (by omega)).mono ?_
  rintro e w1 ⟨he, g⟩
  rw [← HR0.out] at he
  subst he
  have zs1 := World.grownBy.size g
  try simp only [World.size_alloc] at zs1
  clear A0_0_ A0_1_ A0_2_
  have rA03_ := Lib.hid (show (w1).heap[W.heap.size]? = some (.cells #[.int .i64 i0_0, a0_1, .int .i64 i0_2] 24 (0, 0)) from row_held g rA01_.out)
  clear rA01_
  have G4_ := Lib.hid (show (W).grownBy (w1) none from gby_trans G2_.out g)
  clear g
  have A0_0_ : (w1).cell? ⟨W.heap.size, 0, none⟩ = some (.int .i64 i0_0) := cell_of_row _ _ 0 _ _ _ rA03_.out
  have A0_1_ : (w1).cell? ⟨W.heap.size, 1, none⟩ = some (a0_1) := cell_of_row _ _ 1 _ _ _ rA03_.out
  have A0_2_ : (w1).cell? ⟨W.heap.size, 2, none⟩ = some (.int .i64 i0_2) := cell_of_row _ _ 2 _ _ _ rA03_.out
  go_wp2_with fail
  go_at_call 10
  refine (toSender_d _ i0_0 a0_1 i0_2 xs0_1 (HI0_1.out.grow G4_.out) hl0_1).mono ?_
  rintro e w2 ⟨t10_1, rfl, o, g⟩
  have sz_ := g.size
  try simp only [World.size_alloc] at sz_
  try simp only [World.size_alloc] at o
  have zs2 := World.grownBy.size g
  try simp only [World.size_alloc] at zs2
  clear A0_0_ A0_1_ A0_2_
  have rA05_ := Lib.hid (show (w2).heap[W.heap.size]? = some (.cells #[.int .i64 i0_0, a0_1, .int .i64 i0_2] 24 (0, 0)) from row_held g rA03_.out)
  clear rA03_
  have G6_ := Lib.hid (show (W).grownBy (w2) none from gby_trans G4_.out g)
  clear g
  have szw2 := sz_
  clear sz_
  obtain ⟨t10_1p, t10_1n, t10_1c, hv_⟩ := RdL.form (OwU.rd o)
  subst hv_
  have oT17_ := Lib.hid (show OwU (w2) (w1.heap.size) (w2.heap.size) [] [own shFrame (.slice t10_1p t10_1n t10_1c) xs0_1] from o)
  clear o
  try unfold vSender
  go_wp2_with fail
  go_at_call 17
  refine (HS.out _ (.slice t10_1p t10_1n t10_1c) (OwU.rd oT17_.out)).mono ?_
  rintro e w3 ⟨wr0_1, wr1_1, rfl, or0_1, or1_1, g⟩
  have sz_ := g.size
  try simp only [World.size_alloc] at sz_
  have zs3 := World.grownBy.size g
  try simp only [World.size_alloc] at zs3
  have rA08_ := Lib.hid (show (w3).heap[W.heap.size]? = some (.cells #[.int .i64 i0_0, a0_1, .int .i64 i0_2] 24 (0, 0)) from row_held g rA05_.out)
  clear rA05_
  have oT19_ := Lib.hid (show OwU (w3) (w1.heap.size) (w2.heap.size) [] [own shFrame (.slice t10_1p t10_1n t10_1c) xs0_1] from OwU.grow oT17_.out g)
  clear oT17_
  have G10_ := Lib.hid (show (W).grownBy (w3) none from gby_trans G6_.out g)
  clear g
  have szw3 := sz_
  clear sz_
  obtain ⟨wr0_1p, wr0_1n, wr0_1c, hv_⟩ := RdL.form (or0_1)
  subst hv_
  obtain ⟨wr1_1p, wr1_1n, wr1_1c, hv_⟩ := RdL.form (or1_1)
  subst hv_
  have rd11_ := Lib.hid or0_1
  clear or0_1
  have rd12_ := Lib.hid or1_1
  clear or1_1
  have qG13_ := Lib.hid (gby_refl w3 none)
  have al : (w3).grownBy ((w3).alloc (.cells #[.int .i64 ir0_0, (.slice wr0_1p wr0_1n wr0_1c), .int .i64 ir0_2] 29)) none := gby_alloc (gby_refl _ _) _
  have zs4 := World.grownBy.size al
  try simp only [World.size_alloc] at zs4
  have rA014_ := Lib.hid (show ((w3.alloc (.cells #[.int .i64 ir0_0, (.slice wr0_1p wr0_1n wr0_1c), .int .i64 ir0_2] 29))).heap[W.heap.size]? = some (.cells #[.int .i64 i0_0, a0_1, .int .i64 i0_2] 24 (0, 0)) from row_held al rA08_.out)
  clear rA08_
  have oT115_ := Lib.hid (show OwU ((w3.alloc (.cells #[.int .i64 ir0_0, (.slice wr0_1p wr0_1n wr0_1c), .int .i64 ir0_2] 29))) (w1.heap.size) (w2.heap.size) [] [own shFrame (.slice t10_1p t10_1n t10_1c) xs0_1] from OwU.grow oT19_.out al)
  clear oT19_
  have G16_ := Lib.hid (show (W).grownBy ((w3.alloc (.cells #[.int .i64 ir0_0, (.slice wr0_1p wr0_1n wr0_1c), .int .i64 ir0_2] 29))) none from gby_trans G10_.out al)
  have qw17_ := Lib.hid (show (w3).grownBy ((w3.alloc (.cells #[.int .i64 ir0_0, (.slice wr0_1p wr0_1n wr0_1c), .int .i64 ir0_2] 29))) none from gby_trans qG13_.out al)
  clear qG13_
  have rBw018_ := Lib.hid (show ((w3.alloc (.cells #[.int .i64 ir0_0, (.slice wr0_1p wr0_1n wr0_1c), .int .i64 ir0_2] 29))).heap[w3.heap.size]? = some (.cells #[.int .i64 ir0_0, (.slice wr0_1p wr0_1n wr0_1c), .int .i64 ir0_2] 29 (0, 0)) from by first | exact heap_alloc_new _ _ | exact heap_pair _ _ _ | exact heap_trip _ _ _ _)
  clear al
  have al : ((w3.alloc (.cells #[.int .i64 ir0_0, (.slice wr0_1p wr0_1n wr0_1c), .int .i64 ir0_2] 29))).grownBy (((w3.alloc (.cells #[.int .i64 ir0_0, (.slice wr0_1p wr0_1n wr0_1c), .int .i64 ir0_2] 29))).alloc (.cells #[.int .i64 ir1_0, (.slice wr1_1p wr1_1n wr1_1c)] 37)) none := gby_alloc (gby_refl _ _) _
  have zs5 := World.grownBy.size al
  try simp only [World.size_alloc] at zs5
  have rA019_ := Lib.hid (show (((w3.alloc (.cells #[.int .i64 ir0_0, (.slice wr0_1p wr0_1n wr0_1c), .int .i64 ir0_2] 29)).alloc (.cells #[.int .i64 ir1_0, (.slice wr1_1p wr1_1n wr1_1c)] 37))).heap[W.heap.size]? = some (.cells #[.int .i64 i0_0, a0_1, .int .i64 i0_2] 24 (0, 0)) from row_held al rA014_.out)
  clear rA014_
  have rBw020_ := Lib.hid (show (((w3.alloc (.cells #[.int .i64 ir0_0, (.slice wr0_1p wr0_1n wr0_1c), .int .i64 ir0_2] 29)).alloc (.cells #[.int .i64 ir1_0, (.slice wr1_1p wr1_1n wr1_1c)] 37))).heap[w3.heap.size]? = some (.cells #[.int .i64 ir0_0, (.slice wr0_1p wr0_1n wr0_1c), .int .i64 ir0_2] 29 (0, 0)) from row_held al rBw018_.out)
  clear rBw018_
  have oT121_ := Lib.hid (show OwU (((w3.alloc (.cells #[.int .i64 ir0_0, (.slice wr0_1p wr0_1n wr0_1c), .int .i64 ir0_2] 29)).alloc (.cells #[.int .i64 ir1_0, (.slice wr1_1p wr1_1n wr1_1c)] 37))) (w1.heap.size) (w2.heap.size) [] [own shFrame (.slice t10_1p t10_1n t10_1c) xs0_1] from OwU.grow oT115_.out al)
  clear oT115_
  have G22_ := Lib.hid (show (W).grownBy (((w3.alloc (.cells #[.int .i64 ir0_0, (.slice wr0_1p wr0_1n wr0_1c), .int .i64 ir0_2] 29)).alloc (.cells #[.int .i64 ir1_0, (.slice wr1_1p wr1_1n wr1_1c)] 37))) none from gby_trans G16_.out al)
  have qw23_ := Lib.hid (show (w3).grownBy (((w3.alloc (.cells #[.int .i64 ir0_0, (.slice wr0_1p wr0_1n wr0_1c), .int .i64 ir0_2] 29)).alloc (.cells #[.int .i64 ir1_0, (.slice wr1_1p wr1_1n wr1_1c)] 37))) none from gby_trans qw17_.out al)
  clear qw17_
  have rBw124_ := Lib.hid (show (((w3.alloc (.cells #[.int .i64 ir0_0, (.slice wr0_1p wr0_1n wr0_1c), .int .i64 ir0_2] 29)).alloc (.cells #[.int .i64 ir1_0, (.slice wr1_1p wr1_1n wr1_1c)] 37))).heap[w3.heap.size + 1]? = some (.cells #[.int .i64 ir1_0, (.slice wr1_1p wr1_1n wr1_1c)] 37 (0, 0)) from by first | exact heap_alloc_new _ _ | exact heap_pair _ _ _ | exact heap_trip _ _ _ _)
  clear al
  clear oT121_
  have A0_0_ : (((w3.alloc (.cells #[.int .i64 ir0_0, (.slice wr0_1p wr0_1n wr0_1c), .int .i64 ir0_2] 29)).alloc (.cells #[.int .i64 ir1_0, (.slice wr1_1p wr1_1n wr1_1c)] 37))).cell? ⟨W.heap.size, 0, none⟩ = some (.int .i64 i0_0) := cell_of_row _ _ 0 _ _ _ rA019_.out
  have A0_1_ : (((w3.alloc (.cells #[.int .i64 ir0_0, (.slice wr0_1p wr0_1n wr0_1c), .int .i64 ir0_2] 29)).alloc (.cells #[.int .i64 ir1_0, (.slice wr1_1p wr1_1n wr1_1c)] 37))).cell? ⟨W.heap.size, 1, none⟩ = some (a0_1) := cell_of_row _ _ 1 _ _ _ rA019_.out
  have A0_2_ : (((w3.alloc (.cells #[.int .i64 ir0_0, (.slice wr0_1p wr0_1n wr0_1c), .int .i64 ir0_2] 29)).alloc (.cells #[.int .i64 ir1_0, (.slice wr1_1p wr1_1n wr1_1c)] 37))).cell? ⟨W.heap.size, 2, none⟩ = some (.int .i64 i0_2) := cell_of_row _ _ 2 _ _ _ rA019_.out
  go_wp2_with fail
  go_at_call 10
  refine (toSender_d _ i0_0 a0_1 i0_2 xs0_1 (HI0_1.out.grow G22_.out) hl0_1).mono ?_
  rintro e w4 ⟨x00_1, rfl, o, g⟩
  have sz_ := g.size
  try simp only [World.size_alloc] at sz_
  try simp only [World.size_alloc] at o
  have zs6 := World.grownBy.size g
  try simp only [World.size_alloc] at zs6
  clear A0_0_ A0_1_ A0_2_
  have rA025_ := Lib.hid (show (w4).heap[W.heap.size]? = some (.cells #[.int .i64 i0_0, a0_1, .int .i64 i0_2] 24 (0, 0)) from row_held g rA019_.out)
  clear rA019_
  have rBw026_ := Lib.hid (show (w4).heap[w3.heap.size]? = some (.cells #[.int .i64 ir0_0, (.slice wr0_1p wr0_1n wr0_1c), .int .i64 ir0_2] 29 (0, 0)) from row_held g rBw020_.out)
  clear rBw020_
  have rBw127_ := Lib.hid (show (w4).heap[w3.heap.size + 1]? = some (.cells #[.int .i64 ir1_0, (.slice wr1_1p wr1_1n wr1_1c)] 37 (0, 0)) from row_held g rBw124_.out)
  clear rBw124_
  have G28_ := Lib.hid (show (W).grownBy (w4) none from gby_trans G22_.out g)
  have qw29_ := Lib.hid (show (w3).grownBy (w4) none from gby_trans qw23_.out g)
  clear qw23_
  clear g
  have szw4 := sz_
  clear sz_
  obtain ⟨x00_1p, x00_1n, x00_1c, hv_⟩ := RdL.form (OwU.rd o)
  subst hv_
  have ox030_ := Lib.hid (show OwU (w4) (w3.heap.size + 1 + 1) (w4.heap.size) [] [own shFrame (.slice x00_1p x00_1n x00_1c) xs0_1] from o)
  clear o
  try unfold vSender
  have al : (w4).grownBy ((w4).alloc (.cells #[.int .i64 i0_0, (.slice x00_1p x00_1n x00_1c), .int .i64 i0_2] 29)) none := gby_alloc (gby_refl _ _) _
  have zs7 := World.grownBy.size al
  try simp only [World.size_alloc] at zs7
  have rA031_ := Lib.hid (show ((w4.alloc (.cells #[.int .i64 i0_0, (.slice x00_1p x00_1n x00_1c), .int .i64 i0_2] 29))).heap[W.heap.size]? = some (.cells #[.int .i64 i0_0, a0_1, .int .i64 i0_2] 24 (0, 0)) from row_held al rA025_.out)
  clear rA025_
  have rBw032_ := Lib.hid (show ((w4.alloc (.cells #[.int .i64 i0_0, (.slice x00_1p x00_1n x00_1c), .int .i64 i0_2] 29))).heap[w3.heap.size]? = some (.cells #[.int .i64 ir0_0, (.slice wr0_1p wr0_1n wr0_1c), .int .i64 ir0_2] 29 (0, 0)) from row_held al rBw026_.out)
  clear rBw026_
  have rBw133_ := Lib.hid (show ((w4.alloc (.cells #[.int .i64 i0_0, (.slice x00_1p x00_1n x00_1c), .int .i64 i0_2] 29))).heap[w3.heap.size + 1]? = some (.cells #[.int .i64 ir1_0, (.slice wr1_1p wr1_1n wr1_1c)] 37 (0, 0)) from row_held al rBw127_.out)
  clear rBw127_
  have ox034_ := Lib.hid (show OwU ((w4.alloc (.cells #[.int .i64 i0_0, (.slice x00_1p x00_1n x00_1c), .int .i64 i0_2] 29))) (w3.heap.size + 1 + 1) (w4.heap.size) [] [own shFrame (.slice x00_1p x00_1n x00_1c) xs0_1] from OwU.grow ox030_.out al)
  clear ox030_
  have G35_ := Lib.hid (show (W).grownBy ((w4.alloc (.cells #[.int .i64 i0_0, (.slice x00_1p x00_1n x00_1c), .int .i64 i0_2] 29))) none from gby_trans G28_.out al)
  have qw36_ := Lib.hid (show (w3).grownBy ((w4.alloc (.cells #[.int .i64 i0_0, (.slice x00_1p x00_1n x00_1c), .int .i64 i0_2] 29))) none from gby_trans qw29_.out al)
  clear qw29_
  have rBx037_ := Lib.hid (show ((w4.alloc (.cells #[.int .i64 i0_0, (.slice x00_1p x00_1n x00_1c), .int .i64 i0_2] 29))).heap[w4.heap.size]? = some (.cells #[.int .i64 i0_0, (.slice x00_1p x00_1n x00_1c), .int .i64 i0_2] 29 (0, 0)) from by first | exact heap_alloc_new _ _ | exact heap_pair _ _ _ | exact heap_trip _ _ _ _)
  clear al
  have Bx0_0_ : ((w4.alloc (.cells #[.int .i64 i0_0, (.slice x00_1p x00_1n x00_1c), .int .i64 i0_2] 29))).cell? ⟨w4.heap.size, 0, none⟩ = some (.int .i64 i0_0) := cell_of_row _ _ 0 _ _ _ rBx037_.out
  have Bx0_1_ : ((w4.alloc (.cells #[.int .i64 i0_0, (.slice x00_1p x00_1n x00_1c), .int .i64 i0_2] 29))).cell? ⟨w4.heap.size, 1, none⟩ = some ((.slice x00_1p x00_1n x00_1c)) := cell_of_row _ _ 1 _ _ _ rBx037_.out
  have Bx0_2_ : ((w4.alloc (.cells #[.int .i64 i0_0, (.slice x00_1p x00_1n x00_1c), .int .i64 i0_2] 29))).cell? ⟨w4.heap.size, 2, none⟩ = some (.int .i64 i0_2) := cell_of_row _ _ 2 _ _ _ rBx037_.out
  go_wp2_with fail
  go_at_call 18
  refine (HM.out _ (.slice x00_1p x00_1n x00_1c) (OwU.rd ox034_.out)).mono ?_
  rintro e w5 ⟨gr0_1, gr1_1, rfl, o, g⟩
  have sz_ := g.size
  try simp only [World.size_alloc] at sz_
  try simp only [World.size_alloc] at o
  have zs8 := World.grownBy.size g
  try simp only [World.size_alloc] at zs8
  clear Bx0_0_ Bx0_1_ Bx0_2_
  have rA038_ := Lib.hid (show (w5).heap[W.heap.size]? = some (.cells #[.int .i64 i0_0, a0_1, .int .i64 i0_2] 24 (0, 0)) from row_held g rA031_.out)
  clear rA031_
  have rBw039_ := Lib.hid (show (w5).heap[w3.heap.size]? = some (.cells #[.int .i64 ir0_0, (.slice wr0_1p wr0_1n wr0_1c), .int .i64 ir0_2] 29 (0, 0)) from row_held g rBw032_.out)
  clear rBw032_
  have rBw140_ := Lib.hid (show (w5).heap[w3.heap.size + 1]? = some (.cells #[.int .i64 ir1_0, (.slice wr1_1p wr1_1n wr1_1c)] 37 (0, 0)) from row_held g rBw133_.out)
  clear rBw133_
  have rBx041_ := Lib.hid (show (w5).heap[w4.heap.size]? = some (.cells #[.int .i64 i0_0, (.slice x00_1p x00_1n x00_1c), .int .i64 i0_2] 29 (0, 0)) from row_held g rBx037_.out)
  clear rBx037_
  have ox042_ := Lib.hid (show OwU (w5) (w3.heap.size + 1 + 1) (w4.heap.size) [] [own shFrame (.slice x00_1p x00_1n x00_1c) xs0_1] from OwU.grow ox034_.out g)
  clear ox034_
  have G43_ := Lib.hid (show (W).grownBy (w5) none from gby_trans G35_.out g)
  have qw44_ := Lib.hid (show (w3).grownBy (w5) none from gby_trans qw36_.out g)
  clear qw36_
  clear g
  have szw5 := sz_
  clear sz_
  obtain ⟨gr0_1p, gr0_1n, gr0_1c, hv_⟩ := RdL.form (OwU.rd o)
  subst hv_
  obtain ⟨gr1_1p, gr1_1n, gr1_1c, hv_⟩ := RdL.form (OwU.rd (OwU.tail o))
  subst hv_
  have og45_ := Lib.hid (show OwU (w5) (w4.heap.size + 1) (w5.heap.size) [] [own shFrame (.slice gr0_1p gr0_1n gr0_1c) xsr0_1, own shI (.slice gr1_1p gr1_1n gr1_1c) xsr1_1] from o)
  clear o
  have al : (w5).grownBy ((w5).alloc (.cells #[.int .i64 ir0_0, (.slice gr0_1p gr0_1n gr0_1c), .int .i64 ir0_2] 29)) none := gby_alloc (gby_refl _ _) _
  have zs9 := World.grownBy.size al
  try simp only [World.size_alloc] at zs9
  have rA046_ := Lib.hid (show ((w5.alloc (.cells #[.int .i64 ir0_0, (.slice gr0_1p gr0_1n gr0_1c), .int .i64 ir0_2] 29))).heap[W.heap.size]? = some (.cells #[.int .i64 i0_0, a0_1, .int .i64 i0_2] 24 (0, 0)) from row_held al rA038_.out)
  clear rA038_
  have rBw047_ := Lib.hid (show ((w5.alloc (.cells #[.int .i64 ir0_0, (.slice gr0_1p gr0_1n gr0_1c), .int .i64 ir0_2] 29))).heap[w3.heap.size]? = some (.cells #[.int .i64 ir0_0, (.slice wr0_1p wr0_1n wr0_1c), .int .i64 ir0_2] 29 (0, 0)) from row_held al rBw039_.out)
  clear rBw039_
  have rBw148_ := Lib.hid (show ((w5.alloc (.cells #[.int .i64 ir0_0, (.slice gr0_1p gr0_1n gr0_1c), .int .i64 ir0_2] 29))).heap[w3.heap.size + 1]? = some (.cells #[.int .i64 ir1_0, (.slice wr1_1p wr1_1n wr1_1c)] 37 (0, 0)) from row_held al rBw140_.out)
  clear rBw140_
  have rBx049_ := Lib.hid (show ((w5.alloc (.cells #[.int .i64 ir0_0, (.slice gr0_1p gr0_1n gr0_1c), .int .i64 ir0_2] 29))).heap[w4.heap.size]? = some (.cells #[.int .i64 i0_0, (.slice x00_1p x00_1n x00_1c), .int .i64 i0_2] 29 (0, 0)) from row_held al rBx041_.out)
  clear rBx041_
  have ox050_ := Lib.hid (show OwU ((w5.alloc (.cells #[.int .i64 ir0_0, (.slice gr0_1p gr0_1n gr0_1c), .int .i64 ir0_2] 29))) (w3.heap.size + 1 + 1) (w4.heap.size) [] [own shFrame (.slice x00_1p x00_1n x00_1c) xs0_1] from OwU.grow ox042_.out al)
  clear ox042_
  have og51_ := Lib.hid (show OwU ((w5.alloc (.cells #[.int .i64 ir0_0, (.slice gr0_1p gr0_1n gr0_1c), .int .i64 ir0_2] 29))) (w4.heap.size + 1) (w5.heap.size) [] [own shFrame (.slice gr0_1p gr0_1n gr0_1c) xsr0_1, own shI (.slice gr1_1p gr1_1n gr1_1c) xsr1_1] from OwU.grow og45_.out al)
  clear og45_
  have G52_ := Lib.hid (show (W).grownBy ((w5.alloc (.cells #[.int .i64 ir0_0, (.slice gr0_1p gr0_1n gr0_1c), .int .i64 ir0_2] 29))) none from gby_trans G43_.out al)
  have qw53_ := Lib.hid (show (w3).grownBy ((w5.alloc (.cells #[.int .i64 ir0_0, (.slice gr0_1p gr0_1n gr0_1c), .int .i64 ir0_2] 29))) none from gby_trans qw44_.out al)
  clear qw44_
  have rBg054_ := Lib.hid (show ((w5.alloc (.cells #[.int .i64 ir0_0, (.slice gr0_1p gr0_1n gr0_1c), .int .i64 ir0_2] 29))).heap[w5.heap.size]? = some (.cells #[.int .i64 ir0_0, (.slice gr0_1p gr0_1n gr0_1c), .int .i64 ir0_2] 29 (0, 0)) from by first | exact heap_alloc_new _ _ | exact heap_pair _ _ _ | exact heap_trip _ _ _ _)
  clear al
  have al : ((w5.alloc (.cells #[.int .i64 ir0_0, (.slice gr0_1p gr0_1n gr0_1c), .int .i64 ir0_2] 29))).grownBy (((w5.alloc (.cells #[.int .i64 ir0_0, (.slice gr0_1p gr0_1n gr0_1c), .int .i64 ir0_2] 29))).alloc (.cells #[.int .i64 ir1_0, (.slice gr1_1p gr1_1n gr1_1c)] 37)) none := gby_alloc (gby_refl _ _) _
  have zs10 := World.grownBy.size al
  try simp only [World.size_alloc] at zs10
  have rA055_ := Lib.hid (show (((w5.alloc (.cells #[.int .i64 ir0_0, (.slice gr0_1p gr0_1n gr0_1c), .int .i64 ir0_2] 29)).alloc (.cells #[.int .i64 ir1_0, (.slice gr1_1p gr1_1n gr1_1c)] 37))).heap[W.heap.size]? = some (.cells #[.int .i64 i0_0, a0_1, .int .i64 i0_2] 24 (0, 0)) from row_held al rA046_.out)
  clear rA046_
  have rBw056_ := Lib.hid (show (((w5.alloc (.cells #[.int .i64 ir0_0, (.slice gr0_1p gr0_1n gr0_1c), .int .i64 ir0_2] 29)).alloc (.cells #[.int .i64 ir1_0, (.slice gr1_1p gr1_1n gr1_1c)] 37))).heap[w3.heap.size]? = some (.cells #[.int .i64 ir0_0, (.slice wr0_1p wr0_1n wr0_1c), .int .i64 ir0_2] 29 (0, 0)) from row_held al rBw047_.out)
  clear rBw047_
  have rBw157_ := Lib.hid (show (((w5.alloc (.cells #[.int .i64 ir0_0, (.slice gr0_1p gr0_1n gr0_1c), .int .i64 ir0_2] 29)).alloc (.cells #[.int .i64 ir1_0, (.slice gr1_1p gr1_1n gr1_1c)] 37))).heap[w3.heap.size + 1]? = some (.cells #[.int .i64 ir1_0, (.slice wr1_1p wr1_1n wr1_1c)] 37 (0, 0)) from row_held al rBw148_.out)
  clear rBw148_
  have rBx058_ := Lib.hid (show (((w5.alloc (.cells #[.int .i64 ir0_0, (.slice gr0_1p gr0_1n gr0_1c), .int .i64 ir0_2] 29)).alloc (.cells #[.int .i64 ir1_0, (.slice gr1_1p gr1_1n gr1_1c)] 37))).heap[w4.heap.size]? = some (.cells #[.int .i64 i0_0, (.slice x00_1p x00_1n x00_1c), .int .i64 i0_2] 29 (0, 0)) from row_held al rBx049_.out)
  clear rBx049_
  have rBg059_ := Lib.hid (show (((w5.alloc (.cells #[.int .i64 ir0_0, (.slice gr0_1p gr0_1n gr0_1c), .int .i64 ir0_2] 29)).alloc (.cells #[.int .i64 ir1_0, (.slice gr1_1p gr1_1n gr1_1c)] 37))).heap[w5.heap.size]? = some (.cells #[.int .i64 ir0_0, (.slice gr0_1p gr0_1n gr0_1c), .int .i64 ir0_2] 29 (0, 0)) from row_held al rBg054_.out)
  clear rBg054_
  have ox060_ := Lib.hid (show OwU (((w5.alloc (.cells #[.int .i64 ir0_0, (.slice gr0_1p gr0_1n gr0_1c), .int .i64 ir0_2] 29)).alloc (.cells #[.int .i64 ir1_0, (.slice gr1_1p gr1_1n gr1_1c)] 37))) (w3.heap.size + 1 + 1) (w4.heap.size) [] [own shFrame (.slice x00_1p x00_1n x00_1c) xs0_1] from OwU.grow ox050_.out al)
  clear ox050_
  have og61_ := Lib.hid (show OwU (((w5.alloc (.cells #[.int .i64 ir0_0, (.slice gr0_1p gr0_1n gr0_1c), .int .i64 ir0_2] 29)).alloc (.cells #[.int .i64 ir1_0, (.slice gr1_1p gr1_1n gr1_1c)] 37))) (w4.heap.size + 1) (w5.heap.size) [] [own shFrame (.slice gr0_1p gr0_1n gr0_1c) xsr0_1, own shI (.slice gr1_1p gr1_1n gr1_1c) xsr1_1] from OwU.grow og51_.out al)
  clear og51_
  have G62_ := Lib.hid (show (W).grownBy (((w5.alloc (.cells #[.int .i64 ir0_0, (.slice gr0_1p gr0_1n gr0_1c), .int .i64 ir0_2] 29)).alloc (.cells #[.int .i64 ir1_0, (.slice gr1_1p gr1_1n gr1_1c)] 37))) none from gby_trans G52_.out al)
  have qw63_ := Lib.hid (show (w3).grownBy (((w5.alloc (.cells #[.int .i64 ir0_0, (.slice gr0_1p gr0_1n gr0_1c), .int .i64 ir0_2] 29)).alloc (.cells #[.int .i64 ir1_0, (.slice gr1_1p gr1_1n gr1_1c)] 37))) none from gby_trans qw53_.out al)
  clear qw53_
  have rBg164_ := Lib.hid (show (((w5.alloc (.cells #[.int .i64 ir0_0, (.slice gr0_1p gr0_1n gr0_1c), .int .i64 ir0_2] 29)).alloc (.cells #[.int .i64 ir1_0, (.slice gr1_1p gr1_1n gr1_1c)] 37))).heap[w5.heap.size + 1]? = some (.cells #[.int .i64 ir1_0, (.slice gr1_1p gr1_1n gr1_1c)] 37 (0, 0)) from by first | exact heap_alloc_new _ _ | exact heap_pair _ _ _ | exact heap_trip _ _ _ _)
  clear al
  have Bg0_0_ : (((w5.alloc (.cells #[.int .i64 ir0_0, (.slice gr0_1p gr0_1n gr0_1c), .int .i64 ir0_2] 29)).alloc (.cells #[.int .i64 ir1_0, (.slice gr1_1p gr1_1n gr1_1c)] 37))).cell? ⟨w5.heap.size, 0, none⟩ = some (.int .i64 ir0_0) := cell_of_row _ _ 0 _ _ _ rBg059_.out
  have Bg0_1_ : (((w5.alloc (.cells #[.int .i64 ir0_0, (.slice gr0_1p gr0_1n gr0_1c), .int .i64 ir0_2] 29)).alloc (.cells #[.int .i64 ir1_0, (.slice gr1_1p gr1_1n gr1_1c)] 37))).cell? ⟨w5.heap.size, 1, none⟩ = some ((.slice gr0_1p gr0_1n gr0_1c)) := cell_of_row _ _ 1 _ _ _ rBg059_.out
  have Bg0_2_ : (((w5.alloc (.cells #[.int .i64 ir0_0, (.slice gr0_1p gr0_1n gr0_1c), .int .i64 ir0_2] 29)).alloc (.cells #[.int .i64 ir1_0, (.slice gr1_1p gr1_1n gr1_1c)] 37))).cell? ⟨w5.heap.size, 2, none⟩ = some (.int .i64 ir0_2) := cell_of_row _ _ 2 _ _ _ rBg059_.out
  have Bw0_0_ : (((w5.alloc (.cells #[.int .i64 ir0_0, (.slice gr0_1p gr0_1n gr0_1c), .int .i64 ir0_2] 29)).alloc (.cells #[.int .i64 ir1_0, (.slice gr1_1p gr1_1n gr1_1c)] 37))).cell? ⟨w3.heap.size, 0, none⟩ = some (.int .i64 ir0_0) := cell_of_row _ _ 0 _ _ _ rBw056_.out
  have Bw0_1_ : (((w5.alloc (.cells #[.int .i64 ir0_0, (.slice gr0_1p gr0_1n gr0_1c), .int .i64 ir0_2] 29)).alloc (.cells #[.int .i64 ir1_0, (.slice gr1_1p gr1_1n gr1_1c)] 37))).cell? ⟨w3.heap.size, 1, none⟩ = some ((.slice wr0_1p wr0_1n wr0_1c)) := cell_of_row _ _ 1 _ _ _ rBw056_.out
  have Bw0_2_ : (((w5.alloc (.cells #[.int .i64 ir0_0, (.slice gr0_1p gr0_1n gr0_1c), .int .i64 ir0_2] 29)).alloc (.cells #[.int .i64 ir1_0, (.slice gr1_1p gr1_1n gr1_1c)] 37))).cell? ⟨w3.heap.size, 2, none⟩ = some (.int .i64 ir0_2) := cell_of_row _ _ 2 _ _ _ rBw056_.out
  go_wp2_with fail
  go_at_call 12
  refine (eqSender_d _ ir0_0 (.slice gr0_1p gr0_1n gr0_1c) ir0_2 (.slice wr0_1p wr0_1n wr0_1c) xsr0_1 (OwU.rd og61_.out) (RdL.grow rd11_.out qw63_.out) hLr0_1).mono ?_
  rintro e w6 ⟨rfl, g⟩
  have zs11 := World.grownBy.size g
  try simp only [World.size_alloc] at zs11
  clear Bg0_0_ Bg0_1_ Bg0_2_ Bw0_0_ Bw0_1_ Bw0_2_
  have rA065_ := Lib.hid (show (w6).heap[W.heap.size]? = some (.cells #[.int .i64 i0_0, a0_1, .int .i64 i0_2] 24 (0, 0)) from row_held g rA055_.out)
  clear rA055_
  have rBw066_ := Lib.hid (show (w6).heap[w3.heap.size]? = some (.cells #[.int .i64 ir0_0, (.slice wr0_1p wr0_1n wr0_1c), .int .i64 ir0_2] 29 (0, 0)) from row_held g rBw056_.out)
  clear rBw056_
  have rBw167_ := Lib.hid (show (w6).heap[w3.heap.size + 1]? = some (.cells #[.int .i64 ir1_0, (.slice wr1_1p wr1_1n wr1_1c)] 37 (0, 0)) from row_held g rBw157_.out)
  clear rBw157_
  have rBx068_ := Lib.hid (show (w6).heap[w4.heap.size]? = some (.cells #[.int .i64 i0_0, (.slice x00_1p x00_1n x00_1c), .int .i64 i0_2] 29 (0, 0)) from row_held g rBx058_.out)
  clear rBx058_
  have rBg069_ := Lib.hid (show (w6).heap[w5.heap.size]? = some (.cells #[.int .i64 ir0_0, (.slice gr0_1p gr0_1n gr0_1c), .int .i64 ir0_2] 29 (0, 0)) from row_held g rBg059_.out)
  clear rBg059_
  have rBg170_ := Lib.hid (show (w6).heap[w5.heap.size + 1]? = some (.cells #[.int .i64 ir1_0, (.slice gr1_1p gr1_1n gr1_1c)] 37 (0, 0)) from row_held g rBg164_.out)
  clear rBg164_
  have ox071_ := Lib.hid (show OwU (w6) (w3.heap.size + 1 + 1) (w4.heap.size) [] [own shFrame (.slice x00_1p x00_1n x00_1c) xs0_1] from OwU.grow ox060_.out g)
  clear ox060_
  have og72_ := Lib.hid (show OwU (w6) (w4.heap.size + 1) (w5.heap.size) [] [own shFrame (.slice gr0_1p gr0_1n gr0_1c) xsr0_1, own shI (.slice gr1_1p gr1_1n gr1_1c) xsr1_1] from OwU.grow og61_.out g)
  clear og61_
  have G73_ := Lib.hid (show (W).grownBy (w6) none from gby_trans G62_.out g)
  have qw74_ := Lib.hid (show (w3).grownBy (w6) none from gby_trans qw63_.out g)
  clear qw63_
  clear g
  have Bg1_0_ : (w6).cell? ⟨w5.heap.size + 1, 0, none⟩ = some (.int .i64 ir1_0) := cell_of_row _ _ 0 _ _ _ rBg170_.out
  have Bg1_1_ : (w6).cell? ⟨w5.heap.size + 1, 1, none⟩ = some ((.slice gr1_1p gr1_1n gr1_1c)) := cell_of_row _ _ 1 _ _ _ rBg170_.out
  have Bw1_0_ : (w6).cell? ⟨w3.heap.size + 1, 0, none⟩ = some (.int .i64 ir1_0) := cell_of_row _ _ 0 _ _ _ rBw167_.out
  have Bw1_1_ : (w6).cell? ⟨w3.heap.size + 1, 1, none⟩ = some ((.slice wr1_1p wr1_1n wr1_1c)) := cell_of_row _ _ 1 _ _ _ rBw167_.out
  go_wp2_with fail
  go_at_call 19
  refine (eqFrame_d _ ir1_0 (.slice gr1_1p gr1_1n gr1_1c) (.slice wr1_1p wr1_1n wr1_1c) xsr1_1 (OwU.rd (OwU.tail og72_.out)) (RdL.grow rd12_.out qw74_.out) hLr1_1).mono ?_
  rintro e w7 ⟨rfl, g⟩
  have zs12 := World.grownBy.size g
  try simp only [World.size_alloc] at zs12
  clear Bg1_0_ Bg1_1_ Bw1_0_ Bw1_1_
  have rA075_ := Lib.hid (show (w7).heap[W.heap.size]? = some (.cells #[.int .i64 i0_0, a0_1, .int .i64 i0_2] 24 (0, 0)) from row_held g rA065_.out)
  clear rA065_
  have rBw076_ := Lib.hid (show (w7).heap[w3.heap.size]? = some (.cells #[.int .i64 ir0_0, (.slice wr0_1p wr0_1n wr0_1c), .int .i64 ir0_2] 29 (0, 0)) from row_held g rBw066_.out)
  clear rBw066_
  have rBw177_ := Lib.hid (show (w7).heap[w3.heap.size + 1]? = some (.cells #[.int .i64 ir1_0, (.slice wr1_1p wr1_1n wr1_1c)] 37 (0, 0)) from row_held g rBw167_.out)
  clear rBw167_
  have rBx078_ := Lib.hid (show (w7).heap[w4.heap.size]? = some (.cells #[.int .i64 i0_0, (.slice x00_1p x00_1n x00_1c), .int .i64 i0_2] 29 (0, 0)) from row_held g rBx068_.out)
  clear rBx068_
  have rBg079_ := Lib.hid (show (w7).heap[w5.heap.size]? = some (.cells #[.int .i64 ir0_0, (.slice gr0_1p gr0_1n gr0_1c), .int .i64 ir0_2] 29 (0, 0)) from row_held g rBg069_.out)
  clear rBg069_
  have rBg180_ := Lib.hid (show (w7).heap[w5.heap.size + 1]? = some (.cells #[.int .i64 ir1_0, (.slice gr1_1p gr1_1n gr1_1c)] 37 (0, 0)) from row_held g rBg170_.out)
  clear rBg170_
  have ox081_ := Lib.hid (show OwU (w7) (w3.heap.size + 1 + 1) (w4.heap.size) [] [own shFrame (.slice x00_1p x00_1n x00_1c) xs0_1] from OwU.grow ox071_.out g)
  clear ox071_
  have og82_ := Lib.hid (show OwU (w7) (w4.heap.size + 1) (w5.heap.size) [] [own shFrame (.slice gr0_1p gr0_1n gr0_1c) xsr0_1, own shI (.slice gr1_1p gr1_1n gr1_1c) xsr1_1] from OwU.grow og72_.out g)
  clear og72_
  have G83_ := Lib.hid (show (W).grownBy (w7) none from gby_trans G73_.out g)
  have qw84_ := Lib.hid (show (w3).grownBy (w7) none from gby_trans qw74_.out g)
  clear qw74_
  clear g
  have A0_0_ : (w7).cell? ⟨W.heap.size, 0, none⟩ = some (.int .i64 i0_0) := cell_of_row _ _ 0 _ _ _ rA075_.out
  have A0_1_ : (w7).cell? ⟨W.heap.size, 1, none⟩ = some (a0_1) := cell_of_row _ _ 1 _ _ _ rA075_.out
  have A0_2_ : (w7).cell? ⟨W.heap.size, 2, none⟩ = some (.int .i64 i0_2) := cell_of_row _ _ 2 _ _ _ rA075_.out
  have Bx0_0_ : (w7).cell? ⟨w4.heap.size, 0, none⟩ = some (.int .i64 i0_0) := cell_of_row _ _ 0 _ _ _ rBx078_.out
  have Bx0_1_ : (w7).cell? ⟨w4.heap.size, 1, none⟩ = some ((.slice x00_1p x00_1n x00_1c)) := cell_of_row _ _ 1 _ _ _ rBx078_.out
  have Bx0_2_ : (w7).cell? ⟨w4.heap.size, 2, none⟩ = some (.int .i64 i0_2) := cell_of_row _ _ 2 _ _ _ rBx078_.out
  go_wp2_with fail
  go_region_held3 (fun w' => w'.cell? ⟨W.heap.size, 0, none⟩ = some (.int .i64 i0_0) ∧ w'.cell? ⟨W.heap.size, 1, none⟩ = some (a0_1) ∧ w'.cell? ⟨W.heap.size, 2, none⟩ = some (.int .i64 i0_2) ∧ w'.cell? ⟨w4.heap.size, 0, none⟩ = some (.int .i64 i0_0) ∧ w'.cell? ⟨w4.heap.size, 1, none⟩ = some ((.slice x00_1p x00_1n x00_1c)) ∧ w'.cell? ⟨w4.heap.size, 2, none⟩ = some (.int .i64 i0_2))
    (first
      | exact ⟨A0_0_, A0_1_, A0_2_, Bx0_0_, Bx0_1_, Bx0_2_⟩
      | exact ⟨(gT.cell A0_0_ (by simp)), (gT.cell A0_1_ (by simp)), (gT.cell A0_2_ (by simp)), (gT.cell Bx0_0_ (by simp)), (gT.cell Bx0_1_ (by simp)), (gT.cell Bx0_2_ (by simp))⟩
      | exact ⟨(gE.cell (gT.cell A0_0_ (by simp)) (by simp)), (gE.cell (gT.cell A0_1_ (by simp)) (by simp)), (gE.cell (gT.cell A0_2_ (by simp)) (by simp)), (gE.cell (gT.cell Bx0_0_ (by simp)) (by simp)), (gE.cell (gT.cell Bx0_1_ (by simp)) (by simp)), (gE.cell (gT.cell Bx0_2_ (by simp)) (by simp))⟩)
    (first
      | (go_at_call 10; refine (toSender_d _ i0_0 a0_1 i0_2 xs0_1 (HI0_1.out.grow (gby_drew G83_.out)) hl0_1).mono ?_; rintro e wT1 ⟨t20_1, rfl, oT, gT⟩; obtain ⟨t20_1p, t20_1n, t20_1c, hv_⟩ := RdL.form ((OwU.rd oT)); subst hv_; try unfold vSender)
      | (go_at_call 12; refine (eqSender_d _ i0_0 (.slice x00_1p x00_1n x00_1c) i0_2 (.slice t20_1p t20_1n t20_1c) xs0_1 (RdL.grow (RdL.grow (OwU.rd ox081_.out) (gby_drew (gby_refl _ _))) gT) (OwU.rd oT) hl0_1).mono ?_; rintro e wE1 ⟨rfl, gE⟩))
  all_goals
    have g : (w7).grownBy wE1 none := gby_trans (gby_trans (gby_drew (gby_refl _ _)) gT) gE
    clear gT gE oT
    clear A0_0_ A0_1_ A0_2_ Bx0_0_ Bx0_1_ Bx0_2_
    have zs13 := World.grownBy.size g
    try simp only [World.size_alloc] at zs13
    have rA085_ := Lib.hid (show (wE1).heap[W.heap.size]? = some (.cells #[.int .i64 i0_0, a0_1, .int .i64 i0_2] 24 (0, 0)) from row_held g rA075_.out)
    clear rA075_
    have rBw086_ := Lib.hid (show (wE1).heap[w3.heap.size]? = some (.cells #[.int .i64 ir0_0, (.slice wr0_1p wr0_1n wr0_1c), .int .i64 ir0_2] 29 (0, 0)) from row_held g rBw076_.out)
    clear rBw076_
    have rBw187_ := Lib.hid (show (wE1).heap[w3.heap.size + 1]? = some (.cells #[.int .i64 ir1_0, (.slice wr1_1p wr1_1n wr1_1c)] 37 (0, 0)) from row_held g rBw177_.out)
    clear rBw177_
    have rBx088_ := Lib.hid (show (wE1).heap[w4.heap.size]? = some (.cells #[.int .i64 i0_0, (.slice x00_1p x00_1n x00_1c), .int .i64 i0_2] 29 (0, 0)) from row_held g rBx078_.out)
    clear rBx078_
    have rBg089_ := Lib.hid (show (wE1).heap[w5.heap.size]? = some (.cells #[.int .i64 ir0_0, (.slice gr0_1p gr0_1n gr0_1c), .int .i64 ir0_2] 29 (0, 0)) from row_held g rBg079_.out)
    clear rBg079_
    have rBg190_ := Lib.hid (show (wE1).heap[w5.heap.size + 1]? = some (.cells #[.int .i64 ir1_0, (.slice gr1_1p gr1_1n gr1_1c)] 37 (0, 0)) from row_held g rBg180_.out)
    clear rBg180_
    have ox091_ := Lib.hid (show OwU (wE1) (w3.heap.size + 1 + 1) (w4.heap.size) [] [own shFrame (.slice x00_1p x00_1n x00_1c) xs0_1] from OwU.grow ox081_.out g)
    clear ox081_
    have og92_ := Lib.hid (show OwU (wE1) (w4.heap.size + 1) (w5.heap.size) [] [own shFrame (.slice gr0_1p gr0_1n gr0_1c) xsr0_1, own shI (.slice gr1_1p gr1_1n gr1_1c) xsr1_1] from OwU.grow og82_.out g)
    clear og82_
    have G93_ := Lib.hid (show (W).grownBy (wE1) none from gby_trans G83_.out g)
    have qw94_ := Lib.hid (show (w3).grownBy (wE1) none from gby_trans qw84_.out g)
    clear qw84_
    clear g
    have Bx0_0_ : (wE1).cell? ⟨w4.heap.size, 0, none⟩ = some (.int .i64 i0_0) := cell_of_row _ _ 0 _ _ _ rBx088_.out
    have Bx0_1_ : (wE1).cell? ⟨w4.heap.size, 1, none⟩ = some ((.slice x00_1p x00_1n x00_1c)) := cell_of_row _ _ 1 _ _ _ rBx088_.out
    have Bx0_2_ : (wE1).cell? ⟨w4.heap.size, 2, none⟩ = some (.int .i64 i0_2) := cell_of_row _ _ 2 _ _ _ rBx088_.out
    go_wp2_with fail
    go_at_call 15
    refine (markSender_d _ (w3.heap.size + 1 + 1) (w4.heap.size) (1) i0_0 (.slice x00_1p x00_1n x00_1c) i0_2 xs0_1 [] [] ox091_.out (by first | omega | (simp only [World.size_alloc]; omega)) hl0_1 (by omega)).mono ?_
    rintro e w8 ⟨rfl, o, c⟩
    clear Bx0_0_ Bx0_1_ Bx0_2_
    have szw8 := c.size
    try simp only [World.size_alloc] at szw8
    have rA095_ := Lib.hid (show (w8).heap[W.heap.size]? = some (.cells #[.int .i64 i0_0, a0_1, .int .i64 i0_2] 24 (0, 0)) from Chg.keep c rA085_.out (by omega))
    clear rA085_
    have rBw096_ := Lib.hid (show (w8).heap[w3.heap.size]? = some (.cells #[.int .i64 ir0_0, (.slice wr0_1p wr0_1n wr0_1c), .int .i64 ir0_2] 29 (0, 0)) from Chg.keep c rBw086_.out (by omega))
    clear rBw086_
    have rBw197_ := Lib.hid (show (w8).heap[w3.heap.size + 1]? = some (.cells #[.int .i64 ir1_0, (.slice wr1_1p wr1_1n wr1_1c)] 37 (0, 0)) from Chg.keep c rBw187_.out (by omega))
    clear rBw187_
    have rBx098_ := Lib.hid (show (w8).heap[w4.heap.size]? = some (.cells #[.int .i64 i0_0, (.slice x00_1p x00_1n x00_1c), .int .i64 i0_2] 29 (0, 0)) from Chg.keep c rBx088_.out (by omega))
    clear rBx088_
    have rBg099_ := Lib.hid (show (w8).heap[w5.heap.size]? = some (.cells #[.int .i64 ir0_0, (.slice gr0_1p gr0_1n gr0_1c), .int .i64 ir0_2] 29 (0, 0)) from Chg.keep c rBg089_.out (by omega))
    clear rBg089_
    have rBg1100_ := Lib.hid (show (w8).heap[w5.heap.size + 1]? = some (.cells #[.int .i64 ir1_0, (.slice gr1_1p gr1_1n gr1_1c)] 37 (0, 0)) from Chg.keep c rBg190_.out (by omega))
    clear rBg190_
    have og101_ := Lib.hid (show OwU (w8) (w4.heap.size + 1) (w5.heap.size) [] [own shFrame (.slice gr0_1p gr0_1n gr0_1c) xsr0_1, own shI (.slice gr1_1p gr1_1n gr1_1c) xsr1_1] from OwU.keep c (by omega) og92_.out)
    clear og92_
    have G102_ := Lib.hid (show (W).grownBy (w8) none from gby_chg G93_.out c (by omega))
    have qw103_ := Lib.hid (show (w3).grownBy (w8) none from gby_chg qw94_.out c (by omega))
    clear qw94_
    have ox0104_ := Lib.hid (show OwU (w8) (w3.heap.size + 1 + 1) (w4.heap.size) [] [own shFrame (.slice x00_1p x00_1n x00_1c) (emL shFrame (1) xs0_1)] from o)
    clear ox091_ o c
    have Bg0_0_ : (w8).cell? ⟨w5.heap.size, 0, none⟩ = some (.int .i64 ir0_0) := cell_of_row _ _ 0 _ _ _ rBg099_.out
    have Bg0_1_ : (w8).cell? ⟨w5.heap.size, 1, none⟩ = some ((.slice gr0_1p gr0_1n gr0_1c)) := cell_of_row _ _ 1 _ _ _ rBg099_.out
    have Bg0_2_ : (w8).cell? ⟨w5.heap.size, 2, none⟩ = some (.int .i64 ir0_2) := cell_of_row _ _ 2 _ _ _ rBg099_.out
    have Bw0_0_ : (w8).cell? ⟨w3.heap.size, 0, none⟩ = some (.int .i64 ir0_0) := cell_of_row _ _ 0 _ _ _ rBw096_.out
    have Bw0_1_ : (w8).cell? ⟨w3.heap.size, 1, none⟩ = some ((.slice wr0_1p wr0_1n wr0_1c)) := cell_of_row _ _ 1 _ _ _ rBw096_.out
    have Bw0_2_ : (w8).cell? ⟨w3.heap.size, 2, none⟩ = some (.int .i64 ir0_2) := cell_of_row _ _ 2 _ _ _ rBw096_.out
    go_wp2_with fail
    go_at_call 12
    refine (eqSender_d _ ir0_0 (.slice gr0_1p gr0_1n gr0_1c) ir0_2 (.slice wr0_1p wr0_1n wr0_1c) xsr0_1 (OwU.rd og101_.out) (RdL.grow rd11_.out qw103_.out) hLr0_1).mono ?_
    rintro e w9 ⟨rfl, g⟩
    have zs14 := World.grownBy.size g
    try simp only [World.size_alloc] at zs14
    clear Bg0_0_ Bg0_1_ Bg0_2_ Bw0_0_ Bw0_1_ Bw0_2_
    have rA0105_ := Lib.hid (show (w9).heap[W.heap.size]? = some (.cells #[.int .i64 i0_0, a0_1, .int .i64 i0_2] 24 (0, 0)) from row_held g rA095_.out)
    clear rA095_
    have rBw0106_ := Lib.hid (show (w9).heap[w3.heap.size]? = some (.cells #[.int .i64 ir0_0, (.slice wr0_1p wr0_1n wr0_1c), .int .i64 ir0_2] 29 (0, 0)) from row_held g rBw096_.out)
    clear rBw096_
    have rBw1107_ := Lib.hid (show (w9).heap[w3.heap.size + 1]? = some (.cells #[.int .i64 ir1_0, (.slice wr1_1p wr1_1n wr1_1c)] 37 (0, 0)) from row_held g rBw197_.out)
    clear rBw197_
    have rBx0108_ := Lib.hid (show (w9).heap[w4.heap.size]? = some (.cells #[.int .i64 i0_0, (.slice x00_1p x00_1n x00_1c), .int .i64 i0_2] 29 (0, 0)) from row_held g rBx098_.out)
    clear rBx098_
    have rBg0109_ := Lib.hid (show (w9).heap[w5.heap.size]? = some (.cells #[.int .i64 ir0_0, (.slice gr0_1p gr0_1n gr0_1c), .int .i64 ir0_2] 29 (0, 0)) from row_held g rBg099_.out)
    clear rBg099_
    have rBg1110_ := Lib.hid (show (w9).heap[w5.heap.size + 1]? = some (.cells #[.int .i64 ir1_0, (.slice gr1_1p gr1_1n gr1_1c)] 37 (0, 0)) from row_held g rBg1100_.out)
    clear rBg1100_
    have ox0111_ := Lib.hid (show OwU (w9) (w3.heap.size + 1 + 1) (w4.heap.size) [] [own shFrame (.slice x00_1p x00_1n x00_1c) (emL shFrame (1) xs0_1)] from OwU.grow ox0104_.out g)
    clear ox0104_
    have og112_ := Lib.hid (show OwU (w9) (w4.heap.size + 1) (w5.heap.size) [] [own shFrame (.slice gr0_1p gr0_1n gr0_1c) xsr0_1, own shI (.slice gr1_1p gr1_1n gr1_1c) xsr1_1] from OwU.grow og101_.out g)
    clear og101_
    have G113_ := Lib.hid (show (W).grownBy (w9) none from gby_trans G102_.out g)
    have qw114_ := Lib.hid (show (w3).grownBy (w9) none from gby_trans qw103_.out g)
    clear qw103_
    clear g
    have Bg1_0_ : (w9).cell? ⟨w5.heap.size + 1, 0, none⟩ = some (.int .i64 ir1_0) := cell_of_row _ _ 0 _ _ _ rBg1110_.out
    have Bg1_1_ : (w9).cell? ⟨w5.heap.size + 1, 1, none⟩ = some ((.slice gr1_1p gr1_1n gr1_1c)) := cell_of_row _ _ 1 _ _ _ rBg1110_.out
    have Bw1_0_ : (w9).cell? ⟨w3.heap.size + 1, 0, none⟩ = some (.int .i64 ir1_0) := cell_of_row _ _ 0 _ _ _ rBw1107_.out
    have Bw1_1_ : (w9).cell? ⟨w3.heap.size + 1, 1, none⟩ = some ((.slice wr1_1p wr1_1n wr1_1c)) := cell_of_row _ _ 1 _ _ _ rBw1107_.out
    go_wp2_with fail
    go_at_call 19
    refine (eqFrame_d _ ir1_0 (.slice gr1_1p gr1_1n gr1_1c) (.slice wr1_1p wr1_1n wr1_1c) xsr1_1 (OwU.rd (OwU.tail og112_.out)) (RdL.grow rd12_.out qw114_.out) hLr1_1).mono ?_
    rintro e w10 ⟨rfl, g⟩
    have zs15 := World.grownBy.size g
    try simp only [World.size_alloc] at zs15
    clear Bg1_0_ Bg1_1_ Bw1_0_ Bw1_1_
    have rA0115_ := Lib.hid (show (w10).heap[W.heap.size]? = some (.cells #[.int .i64 i0_0, a0_1, .int .i64 i0_2] 24 (0, 0)) from row_held g rA0105_.out)
    clear rA0105_
    have rBw0116_ := Lib.hid (show (w10).heap[w3.heap.size]? = some (.cells #[.int .i64 ir0_0, (.slice wr0_1p wr0_1n wr0_1c), .int .i64 ir0_2] 29 (0, 0)) from row_held g rBw0106_.out)
    clear rBw0106_
    have rBw1117_ := Lib.hid (show (w10).heap[w3.heap.size + 1]? = some (.cells #[.int .i64 ir1_0, (.slice wr1_1p wr1_1n wr1_1c)] 37 (0, 0)) from row_held g rBw1107_.out)
    clear rBw1107_
    have rBx0118_ := Lib.hid (show (w10).heap[w4.heap.size]? = some (.cells #[.int .i64 i0_0, (.slice x00_1p x00_1n x00_1c), .int .i64 i0_2] 29 (0, 0)) from row_held g rBx0108_.out)
    clear rBx0108_
    have rBg0119_ := Lib.hid (show (w10).heap[w5.heap.size]? = some (.cells #[.int .i64 ir0_0, (.slice gr0_1p gr0_1n gr0_1c), .int .i64 ir0_2] 29 (0, 0)) from row_held g rBg0109_.out)
    clear rBg0109_
    have rBg1120_ := Lib.hid (show (w10).heap[w5.heap.size + 1]? = some (.cells #[.int .i64 ir1_0, (.slice gr1_1p gr1_1n gr1_1c)] 37 (0, 0)) from row_held g rBg1110_.out)
    clear rBg1110_
    have ox0121_ := Lib.hid (show OwU (w10) (w3.heap.size + 1 + 1) (w4.heap.size) [] [own shFrame (.slice x00_1p x00_1n x00_1c) (emL shFrame (1) xs0_1)] from OwU.grow ox0111_.out g)
    clear ox0111_
    have og122_ := Lib.hid (show OwU (w10) (w4.heap.size + 1) (w5.heap.size) [] [own shFrame (.slice gr0_1p gr0_1n gr0_1c) xsr0_1, own shI (.slice gr1_1p gr1_1n gr1_1c) xsr1_1] from OwU.grow og112_.out g)
    clear og112_
    have G123_ := Lib.hid (show (W).grownBy (w10) none from gby_trans G113_.out g)
    have qw124_ := Lib.hid (show (w3).grownBy (w10) none from gby_trans qw114_.out g)
    clear qw114_
    clear g
    have Bg0_0_ : (w10).cell? ⟨w5.heap.size, 0, none⟩ = some (.int .i64 ir0_0) := cell_of_row _ _ 0 _ _ _ rBg0119_.out
    have Bg0_1_ : (w10).cell? ⟨w5.heap.size, 1, none⟩ = some ((.slice gr0_1p gr0_1n gr0_1c)) := cell_of_row _ _ 1 _ _ _ rBg0119_.out
    have Bg0_2_ : (w10).cell? ⟨w5.heap.size, 2, none⟩ = some (.int .i64 ir0_2) := cell_of_row _ _ 2 _ _ _ rBg0119_.out
    go_wp2_with fail
    go_at_call 15
    refine (markSender_d _ (w4.heap.size + 1) (w5.heap.size) (1) ir0_0 (.slice gr0_1p gr0_1n gr0_1c) ir0_2 xsr0_1 [] [own shI (.slice gr1_1p gr1_1n gr1_1c) xsr1_1] og122_.out (by first | omega | (simp only [World.size_alloc]; omega)) hLr0_1 (by omega)).mono ?_
    rintro e w11 ⟨rfl, o, c⟩
    clear Bg0_0_ Bg0_1_ Bg0_2_
    have szw11 := c.size
    try simp only [World.size_alloc] at szw11
    have rA0125_ := Lib.hid (show (w11).heap[W.heap.size]? = some (.cells #[.int .i64 i0_0, a0_1, .int .i64 i0_2] 24 (0, 0)) from Chg.keep c rA0115_.out (by omega))
    clear rA0115_
    have rBw0126_ := Lib.hid (show (w11).heap[w3.heap.size]? = some (.cells #[.int .i64 ir0_0, (.slice wr0_1p wr0_1n wr0_1c), .int .i64 ir0_2] 29 (0, 0)) from Chg.keep c rBw0116_.out (by omega))
    clear rBw0116_
    have rBw1127_ := Lib.hid (show (w11).heap[w3.heap.size + 1]? = some (.cells #[.int .i64 ir1_0, (.slice wr1_1p wr1_1n wr1_1c)] 37 (0, 0)) from Chg.keep c rBw1117_.out (by omega))
    clear rBw1117_
    have rBx0128_ := Lib.hid (show (w11).heap[w4.heap.size]? = some (.cells #[.int .i64 i0_0, (.slice x00_1p x00_1n x00_1c), .int .i64 i0_2] 29 (0, 0)) from Chg.keep c rBx0118_.out (by omega))
    clear rBx0118_
    have rBg0129_ := Lib.hid (show (w11).heap[w5.heap.size]? = some (.cells #[.int .i64 ir0_0, (.slice gr0_1p gr0_1n gr0_1c), .int .i64 ir0_2] 29 (0, 0)) from Chg.keep c rBg0119_.out (by omega))
    clear rBg0119_
    have rBg1130_ := Lib.hid (show (w11).heap[w5.heap.size + 1]? = some (.cells #[.int .i64 ir1_0, (.slice gr1_1p gr1_1n gr1_1c)] 37 (0, 0)) from Chg.keep c rBg1120_.out (by omega))
    clear rBg1120_
    have ox0131_ := Lib.hid (show OwU (w11) (w3.heap.size + 1 + 1) (w4.heap.size) [] [own shFrame (.slice x00_1p x00_1n x00_1c) (emL shFrame (1) xs0_1)] from OwU.keep c (by omega) ox0121_.out)
    clear ox0121_
    have G132_ := Lib.hid (show (W).grownBy (w11) none from gby_chg G123_.out c (by omega))
    have qw133_ := Lib.hid (show (w3).grownBy (w11) none from gby_chg qw124_.out c (by omega))
    clear qw124_
    have og134_ := Lib.hid (show OwU (w11) (w4.heap.size + 1) (w5.heap.size) [] [own shFrame (.slice gr0_1p gr0_1n gr0_1c) (emL shFrame (1) xsr0_1), own shI (.slice gr1_1p gr1_1n gr1_1c) xsr1_1] from o)
    clear og122_ o c
    have Bg1_0_ : (w11).cell? ⟨w5.heap.size + 1, 0, none⟩ = some (.int .i64 ir1_0) := cell_of_row _ _ 0 _ _ _ rBg1130_.out
    have Bg1_1_ : (w11).cell? ⟨w5.heap.size + 1, 1, none⟩ = some ((.slice gr1_1p gr1_1n gr1_1c)) := cell_of_row _ _ 1 _ _ _ rBg1130_.out
    go_wp2_with fail
    go_at_call 20
    refine (markFrame_d _ (w4.heap.size + 1) (w5.heap.size) (1 + ecL shFrame xsr0_1) ir1_0 (.slice gr1_1p gr1_1n gr1_1c) xsr1_1 [own shFrame (.slice gr0_1p gr0_1n gr0_1c) (emL shFrame (1) xsr0_1)] [] og134_.out (by first | omega | (simp only [World.size_alloc]; omega)) hLr1_1 (by omega)).mono ?_
    rintro e w12 ⟨rfl, o, c⟩
    clear Bg1_0_ Bg1_1_
    have szw12 := c.size
    try simp only [World.size_alloc] at szw12
    have rA0135_ := Lib.hid (show (w12).heap[W.heap.size]? = some (.cells #[.int .i64 i0_0, a0_1, .int .i64 i0_2] 24 (0, 0)) from Chg.keep c rA0125_.out (by omega))
    clear rA0125_
    have rBw0136_ := Lib.hid (show (w12).heap[w3.heap.size]? = some (.cells #[.int .i64 ir0_0, (.slice wr0_1p wr0_1n wr0_1c), .int .i64 ir0_2] 29 (0, 0)) from Chg.keep c rBw0126_.out (by omega))
    clear rBw0126_
    have rBw1137_ := Lib.hid (show (w12).heap[w3.heap.size + 1]? = some (.cells #[.int .i64 ir1_0, (.slice wr1_1p wr1_1n wr1_1c)] 37 (0, 0)) from Chg.keep c rBw1127_.out (by omega))
    clear rBw1127_
    have rBx0138_ := Lib.hid (show (w12).heap[w4.heap.size]? = some (.cells #[.int .i64 i0_0, (.slice x00_1p x00_1n x00_1c), .int .i64 i0_2] 29 (0, 0)) from Chg.keep c rBx0128_.out (by omega))
    clear rBx0128_
    have rBg0139_ := Lib.hid (show (w12).heap[w5.heap.size]? = some (.cells #[.int .i64 ir0_0, (.slice gr0_1p gr0_1n gr0_1c), .int .i64 ir0_2] 29 (0, 0)) from Chg.keep c rBg0129_.out (by omega))
    clear rBg0129_
    have rBg1140_ := Lib.hid (show (w12).heap[w5.heap.size + 1]? = some (.cells #[.int .i64 ir1_0, (.slice gr1_1p gr1_1n gr1_1c)] 37 (0, 0)) from Chg.keep c rBg1130_.out (by omega))
    clear rBg1130_
    have ox0141_ := Lib.hid (show OwU (w12) (w3.heap.size + 1 + 1) (w4.heap.size) [] [own shFrame (.slice x00_1p x00_1n x00_1c) (emL shFrame (1) xs0_1)] from OwU.keep c (by omega) ox0131_.out)
    clear ox0131_
    have G142_ := Lib.hid (show (W).grownBy (w12) none from gby_chg G132_.out c (by omega))
    have qw143_ := Lib.hid (show (w3).grownBy (w12) none from gby_chg qw133_.out c (by omega))
    clear qw133_
    have og144_ := Lib.hid (show OwU (w12) (w4.heap.size + 1) (w5.heap.size) [] [own shFrame (.slice gr0_1p gr0_1n gr0_1c) (emL shFrame (1) xsr0_1), own shI (.slice gr1_1p gr1_1n gr1_1c) (emL shI (1 + ecL shFrame xsr0_1) xsr1_1)] from o)
    clear og134_ o c
    have Bg0_0_ : (w12).cell? ⟨w5.heap.size, 0, none⟩ = some (.int .i64 ir0_0) := cell_of_row _ _ 0 _ _ _ rBg0139_.out
    have Bg0_1_ : (w12).cell? ⟨w5.heap.size, 1, none⟩ = some ((.slice gr0_1p gr0_1n gr0_1c)) := cell_of_row _ _ 1 _ _ _ rBg0139_.out
    have Bg0_2_ : (w12).cell? ⟨w5.heap.size, 2, none⟩ = some (.int .i64 ir0_2) := cell_of_row _ _ 2 _ _ _ rBg0139_.out
    go_wp2_with fail
    go_at_call 16
    refine (heldSender_d _ (1) ir0_0 (.slice gr0_1p gr0_1n gr0_1c) ir0_2 xsr0_1 (OwU.rd og144_.out) hLr0_1 (by omega)).mono ?_
    rintro e w13 ⟨rfl, g⟩
    have zs16 := World.grownBy.size g
    try simp only [World.size_alloc] at zs16
    clear Bg0_0_ Bg0_1_ Bg0_2_
    have rA0145_ := Lib.hid (show (w13).heap[W.heap.size]? = some (.cells #[.int .i64 i0_0, a0_1, .int .i64 i0_2] 24 (0, 0)) from row_held g rA0135_.out)
    clear rA0135_
    have rBw0146_ := Lib.hid (show (w13).heap[w3.heap.size]? = some (.cells #[.int .i64 ir0_0, (.slice wr0_1p wr0_1n wr0_1c), .int .i64 ir0_2] 29 (0, 0)) from row_held g rBw0136_.out)
    clear rBw0136_
    have rBw1147_ := Lib.hid (show (w13).heap[w3.heap.size + 1]? = some (.cells #[.int .i64 ir1_0, (.slice wr1_1p wr1_1n wr1_1c)] 37 (0, 0)) from row_held g rBw1137_.out)
    clear rBw1137_
    have rBx0148_ := Lib.hid (show (w13).heap[w4.heap.size]? = some (.cells #[.int .i64 i0_0, (.slice x00_1p x00_1n x00_1c), .int .i64 i0_2] 29 (0, 0)) from row_held g rBx0138_.out)
    clear rBx0138_
    have rBg0149_ := Lib.hid (show (w13).heap[w5.heap.size]? = some (.cells #[.int .i64 ir0_0, (.slice gr0_1p gr0_1n gr0_1c), .int .i64 ir0_2] 29 (0, 0)) from row_held g rBg0139_.out)
    clear rBg0139_
    have rBg1150_ := Lib.hid (show (w13).heap[w5.heap.size + 1]? = some (.cells #[.int .i64 ir1_0, (.slice gr1_1p gr1_1n gr1_1c)] 37 (0, 0)) from row_held g rBg1140_.out)
    clear rBg1140_
    have ox0151_ := Lib.hid (show OwU (w13) (w3.heap.size + 1 + 1) (w4.heap.size) [] [own shFrame (.slice x00_1p x00_1n x00_1c) (emL shFrame (1) xs0_1)] from OwU.grow ox0141_.out g)
    clear ox0141_
    have og152_ := Lib.hid (show OwU (w13) (w4.heap.size + 1) (w5.heap.size) [] [own shFrame (.slice gr0_1p gr0_1n gr0_1c) (emL shFrame (1) xsr0_1), own shI (.slice gr1_1p gr1_1n gr1_1c) (emL shI (1 + ecL shFrame xsr0_1) xsr1_1)] from OwU.grow og144_.out g)
    clear og144_
    have G153_ := Lib.hid (show (W).grownBy (w13) none from gby_trans G142_.out g)
    have qw154_ := Lib.hid (show (w3).grownBy (w13) none from gby_trans qw143_.out g)
    clear qw143_
    clear g
    have ng13 : ¬ (((1 + ecL shFrame xsr0_1 : Nat) : Int) < 0) := by omega
    have Bg1_0_ : (w13).cell? ⟨w5.heap.size + 1, 0, none⟩ = some (.int .i64 ir1_0) := cell_of_row _ _ 0 _ _ _ rBg1150_.out
    have Bg1_1_ : (w13).cell? ⟨w5.heap.size + 1, 1, none⟩ = some ((.slice gr1_1p gr1_1n gr1_1c)) := cell_of_row _ _ 1 _ _ _ rBg1150_.out
    go_wp2_with fail
    go_at_call 21
    refine (heldFrame_d _ (1 + ecL shFrame xsr0_1) ir1_0 (.slice gr1_1p gr1_1n gr1_1c) xsr1_1 (OwU.rd (OwU.tail og152_.out)) hLr1_1 (by omega)).mono ?_
    rintro e w14 ⟨rfl, g⟩
    have zs17 := World.grownBy.size g
    try simp only [World.size_alloc] at zs17
    clear Bg1_0_ Bg1_1_
    have rA0155_ := Lib.hid (show (w14).heap[W.heap.size]? = some (.cells #[.int .i64 i0_0, a0_1, .int .i64 i0_2] 24 (0, 0)) from row_held g rA0145_.out)
    clear rA0145_
    have rBw0156_ := Lib.hid (show (w14).heap[w3.heap.size]? = some (.cells #[.int .i64 ir0_0, (.slice wr0_1p wr0_1n wr0_1c), .int .i64 ir0_2] 29 (0, 0)) from row_held g rBw0146_.out)
    clear rBw0146_
    have rBw1157_ := Lib.hid (show (w14).heap[w3.heap.size + 1]? = some (.cells #[.int .i64 ir1_0, (.slice wr1_1p wr1_1n wr1_1c)] 37 (0, 0)) from row_held g rBw1147_.out)
    clear rBw1147_
    have rBx0158_ := Lib.hid (show (w14).heap[w4.heap.size]? = some (.cells #[.int .i64 i0_0, (.slice x00_1p x00_1n x00_1c), .int .i64 i0_2] 29 (0, 0)) from row_held g rBx0148_.out)
    clear rBx0148_
    have rBg0159_ := Lib.hid (show (w14).heap[w5.heap.size]? = some (.cells #[.int .i64 ir0_0, (.slice gr0_1p gr0_1n gr0_1c), .int .i64 ir0_2] 29 (0, 0)) from row_held g rBg0149_.out)
    clear rBg0149_
    have rBg1160_ := Lib.hid (show (w14).heap[w5.heap.size + 1]? = some (.cells #[.int .i64 ir1_0, (.slice gr1_1p gr1_1n gr1_1c)] 37 (0, 0)) from row_held g rBg1150_.out)
    clear rBg1150_
    have ox0161_ := Lib.hid (show OwU (w14) (w3.heap.size + 1 + 1) (w4.heap.size) [] [own shFrame (.slice x00_1p x00_1n x00_1c) (emL shFrame (1) xs0_1)] from OwU.grow ox0151_.out g)
    clear ox0151_
    have og162_ := Lib.hid (show OwU (w14) (w4.heap.size + 1) (w5.heap.size) [] [own shFrame (.slice gr0_1p gr0_1n gr0_1c) (emL shFrame (1) xsr0_1), own shI (.slice gr1_1p gr1_1n gr1_1c) (emL shI (1 + ecL shFrame xsr0_1) xsr1_1)] from OwU.grow og152_.out g)
    clear og152_
    have G163_ := Lib.hid (show (W).grownBy (w14) none from gby_trans G153_.out g)
    have qw164_ := Lib.hid (show (w3).grownBy (w14) none from gby_trans qw154_.out g)
    clear qw154_
    clear g
    have ng14 : ¬ (((1 + ecL shFrame xsr0_1 + ecL shI xsr1_1 : Nat) : Int) < 0) := by omega
    have A0_0_ : (w14).cell? ⟨W.heap.size, 0, none⟩ = some (.int .i64 i0_0) := cell_of_row _ _ 0 _ _ _ rA0155_.out
    have A0_1_ : (w14).cell? ⟨W.heap.size, 1, none⟩ = some (a0_1) := cell_of_row _ _ 1 _ _ _ rA0155_.out
    have A0_2_ : (w14).cell? ⟨W.heap.size, 2, none⟩ = some (.int .i64 i0_2) := cell_of_row _ _ 2 _ _ _ rA0155_.out
    go_wp2_with fail
    go_at_call 10
    refine (toSender_d _ i0_0 a0_1 i0_2 xs0_1 (HI0_1.out.grow G163_.out) hl0_1).mono ?_
    rintro e w15 ⟨t30_1, rfl, o, g⟩
    have sz_ := g.size
    try simp only [World.size_alloc] at sz_
    try simp only [World.size_alloc] at o
    have zs18 := World.grownBy.size g
    try simp only [World.size_alloc] at zs18
    clear A0_0_ A0_1_ A0_2_
    have rA0165_ := Lib.hid (show (w15).heap[W.heap.size]? = some (.cells #[.int .i64 i0_0, a0_1, .int .i64 i0_2] 24 (0, 0)) from row_held g rA0155_.out)
    clear rA0155_
    have rBw0166_ := Lib.hid (show (w15).heap[w3.heap.size]? = some (.cells #[.int .i64 ir0_0, (.slice wr0_1p wr0_1n wr0_1c), .int .i64 ir0_2] 29 (0, 0)) from row_held g rBw0156_.out)
    clear rBw0156_
    have rBw1167_ := Lib.hid (show (w15).heap[w3.heap.size + 1]? = some (.cells #[.int .i64 ir1_0, (.slice wr1_1p wr1_1n wr1_1c)] 37 (0, 0)) from row_held g rBw1157_.out)
    clear rBw1157_
    have rBx0168_ := Lib.hid (show (w15).heap[w4.heap.size]? = some (.cells #[.int .i64 i0_0, (.slice x00_1p x00_1n x00_1c), .int .i64 i0_2] 29 (0, 0)) from row_held g rBx0158_.out)
    clear rBx0158_
    have rBg0169_ := Lib.hid (show (w15).heap[w5.heap.size]? = some (.cells #[.int .i64 ir0_0, (.slice gr0_1p gr0_1n gr0_1c), .int .i64 ir0_2] 29 (0, 0)) from row_held g rBg0159_.out)
    clear rBg0159_
    have rBg1170_ := Lib.hid (show (w15).heap[w5.heap.size + 1]? = some (.cells #[.int .i64 ir1_0, (.slice gr1_1p gr1_1n gr1_1c)] 37 (0, 0)) from row_held g rBg1160_.out)
    clear rBg1160_
    have ox0171_ := Lib.hid (show OwU (w15) (w3.heap.size + 1 + 1) (w4.heap.size) [] [own shFrame (.slice x00_1p x00_1n x00_1c) (emL shFrame (1) xs0_1)] from OwU.grow ox0161_.out g)
    clear ox0161_
    have og172_ := Lib.hid (show OwU (w15) (w4.heap.size + 1) (w5.heap.size) [] [own shFrame (.slice gr0_1p gr0_1n gr0_1c) (emL shFrame (1) xsr0_1), own shI (.slice gr1_1p gr1_1n gr1_1c) (emL shI (1 + ecL shFrame xsr0_1) xsr1_1)] from OwU.grow og162_.out g)
    clear og162_
    have G173_ := Lib.hid (show (W).grownBy (w15) none from gby_trans G163_.out g)
    have qw174_ := Lib.hid (show (w3).grownBy (w15) none from gby_trans qw164_.out g)
    clear qw164_
    clear g
    have szw15 := sz_
    clear sz_
    obtain ⟨t30_1p, t30_1n, t30_1c, hv_⟩ := RdL.form (OwU.rd o)
    subst hv_
    have oT3175_ := Lib.hid (show OwU (w15) (w14.heap.size) (w15.heap.size) [] [own shFrame (.slice t30_1p t30_1n t30_1c) xs0_1] from o)
    clear o
    try unfold vSender
    go_wp2_with fail
    go_at_call 18
    refine (HM.out _ (.slice t30_1p t30_1n t30_1c) (OwU.rd oT3175_.out)).mono ?_
    rintro e w16 ⟨hr0_1, hr1_1, rfl, o, g⟩
    have sz_ := g.size
    try simp only [World.size_alloc] at sz_
    try simp only [World.size_alloc] at o
    have zs19 := World.grownBy.size g
    try simp only [World.size_alloc] at zs19
    have rA0176_ := Lib.hid (show (w16).heap[W.heap.size]? = some (.cells #[.int .i64 i0_0, a0_1, .int .i64 i0_2] 24 (0, 0)) from row_held g rA0165_.out)
    clear rA0165_
    have rBw0177_ := Lib.hid (show (w16).heap[w3.heap.size]? = some (.cells #[.int .i64 ir0_0, (.slice wr0_1p wr0_1n wr0_1c), .int .i64 ir0_2] 29 (0, 0)) from row_held g rBw0166_.out)
    clear rBw0166_
    have rBw1178_ := Lib.hid (show (w16).heap[w3.heap.size + 1]? = some (.cells #[.int .i64 ir1_0, (.slice wr1_1p wr1_1n wr1_1c)] 37 (0, 0)) from row_held g rBw1167_.out)
    clear rBw1167_
    have rBx0179_ := Lib.hid (show (w16).heap[w4.heap.size]? = some (.cells #[.int .i64 i0_0, (.slice x00_1p x00_1n x00_1c), .int .i64 i0_2] 29 (0, 0)) from row_held g rBx0168_.out)
    clear rBx0168_
    have rBg0180_ := Lib.hid (show (w16).heap[w5.heap.size]? = some (.cells #[.int .i64 ir0_0, (.slice gr0_1p gr0_1n gr0_1c), .int .i64 ir0_2] 29 (0, 0)) from row_held g rBg0169_.out)
    clear rBg0169_
    have rBg1181_ := Lib.hid (show (w16).heap[w5.heap.size + 1]? = some (.cells #[.int .i64 ir1_0, (.slice gr1_1p gr1_1n gr1_1c)] 37 (0, 0)) from row_held g rBg1170_.out)
    clear rBg1170_
    have ox0182_ := Lib.hid (show OwU (w16) (w3.heap.size + 1 + 1) (w4.heap.size) [] [own shFrame (.slice x00_1p x00_1n x00_1c) (emL shFrame (1) xs0_1)] from OwU.grow ox0171_.out g)
    clear ox0171_
    have og183_ := Lib.hid (show OwU (w16) (w4.heap.size + 1) (w5.heap.size) [] [own shFrame (.slice gr0_1p gr0_1n gr0_1c) (emL shFrame (1) xsr0_1), own shI (.slice gr1_1p gr1_1n gr1_1c) (emL shI (1 + ecL shFrame xsr0_1) xsr1_1)] from OwU.grow og172_.out g)
    clear og172_
    have oT3184_ := Lib.hid (show OwU (w16) (w14.heap.size) (w15.heap.size) [] [own shFrame (.slice t30_1p t30_1n t30_1c) xs0_1] from OwU.grow oT3175_.out g)
    clear oT3175_
    have G185_ := Lib.hid (show (W).grownBy (w16) none from gby_trans G173_.out g)
    have qw186_ := Lib.hid (show (w3).grownBy (w16) none from gby_trans qw174_.out g)
    clear qw174_
    clear g
    have szw16 := sz_
    clear sz_
    obtain ⟨hr0_1p, hr0_1n, hr0_1c, hv_⟩ := RdL.form (OwU.rd o)
    subst hv_
    obtain ⟨hr1_1p, hr1_1n, hr1_1c, hv_⟩ := RdL.form (OwU.rd (OwU.tail o))
    subst hv_
    have oh187_ := Lib.hid (show OwU (w16) (w15.heap.size) (w16.heap.size) [] [own shFrame (.slice hr0_1p hr0_1n hr0_1c) xsr0_1, own shI (.slice hr1_1p hr1_1n hr1_1c) xsr1_1] from o)
    clear o
    have al : (w16).grownBy ((w16).alloc (.cells #[.int .i64 ir0_0, (.slice hr0_1p hr0_1n hr0_1c), .int .i64 ir0_2] 29)) none := gby_alloc (gby_refl _ _) _
    have zs20 := World.grownBy.size al
    try simp only [World.size_alloc] at zs20
    have rA0188_ := Lib.hid (show ((w16.alloc (.cells #[.int .i64 ir0_0, (.slice hr0_1p hr0_1n hr0_1c), .int .i64 ir0_2] 29))).heap[W.heap.size]? = some (.cells #[.int .i64 i0_0, a0_1, .int .i64 i0_2] 24 (0, 0)) from row_held al rA0176_.out)
    clear rA0176_
    have rBw0189_ := Lib.hid (show ((w16.alloc (.cells #[.int .i64 ir0_0, (.slice hr0_1p hr0_1n hr0_1c), .int .i64 ir0_2] 29))).heap[w3.heap.size]? = some (.cells #[.int .i64 ir0_0, (.slice wr0_1p wr0_1n wr0_1c), .int .i64 ir0_2] 29 (0, 0)) from row_held al rBw0177_.out)
    clear rBw0177_
    have rBw1190_ := Lib.hid (show ((w16.alloc (.cells #[.int .i64 ir0_0, (.slice hr0_1p hr0_1n hr0_1c), .int .i64 ir0_2] 29))).heap[w3.heap.size + 1]? = some (.cells #[.int .i64 ir1_0, (.slice wr1_1p wr1_1n wr1_1c)] 37 (0, 0)) from row_held al rBw1178_.out)
    clear rBw1178_
    have rBx0191_ := Lib.hid (show ((w16.alloc (.cells #[.int .i64 ir0_0, (.slice hr0_1p hr0_1n hr0_1c), .int .i64 ir0_2] 29))).heap[w4.heap.size]? = some (.cells #[.int .i64 i0_0, (.slice x00_1p x00_1n x00_1c), .int .i64 i0_2] 29 (0, 0)) from row_held al rBx0179_.out)
    clear rBx0179_
    have rBg0192_ := Lib.hid (show ((w16.alloc (.cells #[.int .i64 ir0_0, (.slice hr0_1p hr0_1n hr0_1c), .int .i64 ir0_2] 29))).heap[w5.heap.size]? = some (.cells #[.int .i64 ir0_0, (.slice gr0_1p gr0_1n gr0_1c), .int .i64 ir0_2] 29 (0, 0)) from row_held al rBg0180_.out)
    clear rBg0180_
    have rBg1193_ := Lib.hid (show ((w16.alloc (.cells #[.int .i64 ir0_0, (.slice hr0_1p hr0_1n hr0_1c), .int .i64 ir0_2] 29))).heap[w5.heap.size + 1]? = some (.cells #[.int .i64 ir1_0, (.slice gr1_1p gr1_1n gr1_1c)] 37 (0, 0)) from row_held al rBg1181_.out)
    clear rBg1181_
    have ox0194_ := Lib.hid (show OwU ((w16.alloc (.cells #[.int .i64 ir0_0, (.slice hr0_1p hr0_1n hr0_1c), .int .i64 ir0_2] 29))) (w3.heap.size + 1 + 1) (w4.heap.size) [] [own shFrame (.slice x00_1p x00_1n x00_1c) (emL shFrame (1) xs0_1)] from OwU.grow ox0182_.out al)
    clear ox0182_
    have og195_ := Lib.hid (show OwU ((w16.alloc (.cells #[.int .i64 ir0_0, (.slice hr0_1p hr0_1n hr0_1c), .int .i64 ir0_2] 29))) (w4.heap.size + 1) (w5.heap.size) [] [own shFrame (.slice gr0_1p gr0_1n gr0_1c) (emL shFrame (1) xsr0_1), own shI (.slice gr1_1p gr1_1n gr1_1c) (emL shI (1 + ecL shFrame xsr0_1) xsr1_1)] from OwU.grow og183_.out al)
    clear og183_
    have oT3196_ := Lib.hid (show OwU ((w16.alloc (.cells #[.int .i64 ir0_0, (.slice hr0_1p hr0_1n hr0_1c), .int .i64 ir0_2] 29))) (w14.heap.size) (w15.heap.size) [] [own shFrame (.slice t30_1p t30_1n t30_1c) xs0_1] from OwU.grow oT3184_.out al)
    clear oT3184_
    have oh197_ := Lib.hid (show OwU ((w16.alloc (.cells #[.int .i64 ir0_0, (.slice hr0_1p hr0_1n hr0_1c), .int .i64 ir0_2] 29))) (w15.heap.size) (w16.heap.size) [] [own shFrame (.slice hr0_1p hr0_1n hr0_1c) xsr0_1, own shI (.slice hr1_1p hr1_1n hr1_1c) xsr1_1] from OwU.grow oh187_.out al)
    clear oh187_
    have G198_ := Lib.hid (show (W).grownBy ((w16.alloc (.cells #[.int .i64 ir0_0, (.slice hr0_1p hr0_1n hr0_1c), .int .i64 ir0_2] 29))) none from gby_trans G185_.out al)
    have qw199_ := Lib.hid (show (w3).grownBy ((w16.alloc (.cells #[.int .i64 ir0_0, (.slice hr0_1p hr0_1n hr0_1c), .int .i64 ir0_2] 29))) none from gby_trans qw186_.out al)
    clear qw186_
    have rBh0200_ := Lib.hid (show ((w16.alloc (.cells #[.int .i64 ir0_0, (.slice hr0_1p hr0_1n hr0_1c), .int .i64 ir0_2] 29))).heap[w16.heap.size]? = some (.cells #[.int .i64 ir0_0, (.slice hr0_1p hr0_1n hr0_1c), .int .i64 ir0_2] 29 (0, 0)) from by first | exact heap_alloc_new _ _ | exact heap_pair _ _ _ | exact heap_trip _ _ _ _)
    clear al
    have al : ((w16.alloc (.cells #[.int .i64 ir0_0, (.slice hr0_1p hr0_1n hr0_1c), .int .i64 ir0_2] 29))).grownBy (((w16.alloc (.cells #[.int .i64 ir0_0, (.slice hr0_1p hr0_1n hr0_1c), .int .i64 ir0_2] 29))).alloc (.cells #[.int .i64 ir1_0, (.slice hr1_1p hr1_1n hr1_1c)] 37)) none := gby_alloc (gby_refl _ _) _
    have zs21 := World.grownBy.size al
    try simp only [World.size_alloc] at zs21
    have rA0201_ := Lib.hid (show (((w16.alloc (.cells #[.int .i64 ir0_0, (.slice hr0_1p hr0_1n hr0_1c), .int .i64 ir0_2] 29)).alloc (.cells #[.int .i64 ir1_0, (.slice hr1_1p hr1_1n hr1_1c)] 37))).heap[W.heap.size]? = some (.cells #[.int .i64 i0_0, a0_1, .int .i64 i0_2] 24 (0, 0)) from row_held al rA0188_.out)
    clear rA0188_
    have rBw0202_ := Lib.hid (show (((w16.alloc (.cells #[.int .i64 ir0_0, (.slice hr0_1p hr0_1n hr0_1c), .int .i64 ir0_2] 29)).alloc (.cells #[.int .i64 ir1_0, (.slice hr1_1p hr1_1n hr1_1c)] 37))).heap[w3.heap.size]? = some (.cells #[.int .i64 ir0_0, (.slice wr0_1p wr0_1n wr0_1c), .int .i64 ir0_2] 29 (0, 0)) from row_held al rBw0189_.out)
    clear rBw0189_
    have rBw1203_ := Lib.hid (show (((w16.alloc (.cells #[.int .i64 ir0_0, (.slice hr0_1p hr0_1n hr0_1c), .int .i64 ir0_2] 29)).alloc (.cells #[.int .i64 ir1_0, (.slice hr1_1p hr1_1n hr1_1c)] 37))).heap[w3.heap.size + 1]? = some (.cells #[.int .i64 ir1_0, (.slice wr1_1p wr1_1n wr1_1c)] 37 (0, 0)) from row_held al rBw1190_.out)
    clear rBw1190_
    have rBx0204_ := Lib.hid (show (((w16.alloc (.cells #[.int .i64 ir0_0, (.slice hr0_1p hr0_1n hr0_1c), .int .i64 ir0_2] 29)).alloc (.cells #[.int .i64 ir1_0, (.slice hr1_1p hr1_1n hr1_1c)] 37))).heap[w4.heap.size]? = some (.cells #[.int .i64 i0_0, (.slice x00_1p x00_1n x00_1c), .int .i64 i0_2] 29 (0, 0)) from row_held al rBx0191_.out)
    clear rBx0191_
    have rBg0205_ := Lib.hid (show (((w16.alloc (.cells #[.int .i64 ir0_0, (.slice hr0_1p hr0_1n hr0_1c), .int .i64 ir0_2] 29)).alloc (.cells #[.int .i64 ir1_0, (.slice hr1_1p hr1_1n hr1_1c)] 37))).heap[w5.heap.size]? = some (.cells #[.int .i64 ir0_0, (.slice gr0_1p gr0_1n gr0_1c), .int .i64 ir0_2] 29 (0, 0)) from row_held al rBg0192_.out)
    clear rBg0192_
    have rBg1206_ := Lib.hid (show (((w16.alloc (.cells #[.int .i64 ir0_0, (.slice hr0_1p hr0_1n hr0_1c), .int .i64 ir0_2] 29)).alloc (.cells #[.int .i64 ir1_0, (.slice hr1_1p hr1_1n hr1_1c)] 37))).heap[w5.heap.size + 1]? = some (.cells #[.int .i64 ir1_0, (.slice gr1_1p gr1_1n gr1_1c)] 37 (0, 0)) from row_held al rBg1193_.out)
    clear rBg1193_
    have rBh0207_ := Lib.hid (show (((w16.alloc (.cells #[.int .i64 ir0_0, (.slice hr0_1p hr0_1n hr0_1c), .int .i64 ir0_2] 29)).alloc (.cells #[.int .i64 ir1_0, (.slice hr1_1p hr1_1n hr1_1c)] 37))).heap[w16.heap.size]? = some (.cells #[.int .i64 ir0_0, (.slice hr0_1p hr0_1n hr0_1c), .int .i64 ir0_2] 29 (0, 0)) from row_held al rBh0200_.out)
    clear rBh0200_
    have ox0208_ := Lib.hid (show OwU (((w16.alloc (.cells #[.int .i64 ir0_0, (.slice hr0_1p hr0_1n hr0_1c), .int .i64 ir0_2] 29)).alloc (.cells #[.int .i64 ir1_0, (.slice hr1_1p hr1_1n hr1_1c)] 37))) (w3.heap.size + 1 + 1) (w4.heap.size) [] [own shFrame (.slice x00_1p x00_1n x00_1c) (emL shFrame (1) xs0_1)] from OwU.grow ox0194_.out al)
    clear ox0194_
    have og209_ := Lib.hid (show OwU (((w16.alloc (.cells #[.int .i64 ir0_0, (.slice hr0_1p hr0_1n hr0_1c), .int .i64 ir0_2] 29)).alloc (.cells #[.int .i64 ir1_0, (.slice hr1_1p hr1_1n hr1_1c)] 37))) (w4.heap.size + 1) (w5.heap.size) [] [own shFrame (.slice gr0_1p gr0_1n gr0_1c) (emL shFrame (1) xsr0_1), own shI (.slice gr1_1p gr1_1n gr1_1c) (emL shI (1 + ecL shFrame xsr0_1) xsr1_1)] from OwU.grow og195_.out al)
    clear og195_
    have oT3210_ := Lib.hid (show OwU (((w16.alloc (.cells #[.int .i64 ir0_0, (.slice hr0_1p hr0_1n hr0_1c), .int .i64 ir0_2] 29)).alloc (.cells #[.int .i64 ir1_0, (.slice hr1_1p hr1_1n hr1_1c)] 37))) (w14.heap.size) (w15.heap.size) [] [own shFrame (.slice t30_1p t30_1n t30_1c) xs0_1] from OwU.grow oT3196_.out al)
    clear oT3196_
    have oh211_ := Lib.hid (show OwU (((w16.alloc (.cells #[.int .i64 ir0_0, (.slice hr0_1p hr0_1n hr0_1c), .int .i64 ir0_2] 29)).alloc (.cells #[.int .i64 ir1_0, (.slice hr1_1p hr1_1n hr1_1c)] 37))) (w15.heap.size) (w16.heap.size) [] [own shFrame (.slice hr0_1p hr0_1n hr0_1c) xsr0_1, own shI (.slice hr1_1p hr1_1n hr1_1c) xsr1_1] from OwU.grow oh197_.out al)
    clear oh197_
    have G212_ := Lib.hid (show (W).grownBy (((w16.alloc (.cells #[.int .i64 ir0_0, (.slice hr0_1p hr0_1n hr0_1c), .int .i64 ir0_2] 29)).alloc (.cells #[.int .i64 ir1_0, (.slice hr1_1p hr1_1n hr1_1c)] 37))) none from gby_trans G198_.out al)
    have qw213_ := Lib.hid (show (w3).grownBy (((w16.alloc (.cells #[.int .i64 ir0_0, (.slice hr0_1p hr0_1n hr0_1c), .int .i64 ir0_2] 29)).alloc (.cells #[.int .i64 ir1_0, (.slice hr1_1p hr1_1n hr1_1c)] 37))) none from gby_trans qw199_.out al)
    clear qw199_
    have rBh1214_ := Lib.hid (show (((w16.alloc (.cells #[.int .i64 ir0_0, (.slice hr0_1p hr0_1n hr0_1c), .int .i64 ir0_2] 29)).alloc (.cells #[.int .i64 ir1_0, (.slice hr1_1p hr1_1n hr1_1c)] 37))).heap[w16.heap.size + 1]? = some (.cells #[.int .i64 ir1_0, (.slice hr1_1p hr1_1n hr1_1c)] 37 (0, 0)) from by first | exact heap_alloc_new _ _ | exact heap_pair _ _ _ | exact heap_trip _ _ _ _)
    clear al
    clear oT3210_
    have Bh0_0_ : (((w16.alloc (.cells #[.int .i64 ir0_0, (.slice hr0_1p hr0_1n hr0_1c), .int .i64 ir0_2] 29)).alloc (.cells #[.int .i64 ir1_0, (.slice hr1_1p hr1_1n hr1_1c)] 37))).cell? ⟨w16.heap.size, 0, none⟩ = some (.int .i64 ir0_0) := cell_of_row _ _ 0 _ _ _ rBh0207_.out
    have Bh0_1_ : (((w16.alloc (.cells #[.int .i64 ir0_0, (.slice hr0_1p hr0_1n hr0_1c), .int .i64 ir0_2] 29)).alloc (.cells #[.int .i64 ir1_0, (.slice hr1_1p hr1_1n hr1_1c)] 37))).cell? ⟨w16.heap.size, 1, none⟩ = some ((.slice hr0_1p hr0_1n hr0_1c)) := cell_of_row _ _ 1 _ _ _ rBh0207_.out
    have Bh0_2_ : (((w16.alloc (.cells #[.int .i64 ir0_0, (.slice hr0_1p hr0_1n hr0_1c), .int .i64 ir0_2] 29)).alloc (.cells #[.int .i64 ir1_0, (.slice hr1_1p hr1_1n hr1_1c)] 37))).cell? ⟨w16.heap.size, 2, none⟩ = some (.int .i64 ir0_2) := cell_of_row _ _ 2 _ _ _ rBh0207_.out
    have Bw0_0_ : (((w16.alloc (.cells #[.int .i64 ir0_0, (.slice hr0_1p hr0_1n hr0_1c), .int .i64 ir0_2] 29)).alloc (.cells #[.int .i64 ir1_0, (.slice hr1_1p hr1_1n hr1_1c)] 37))).cell? ⟨w3.heap.size, 0, none⟩ = some (.int .i64 ir0_0) := cell_of_row _ _ 0 _ _ _ rBw0202_.out
    have Bw0_1_ : (((w16.alloc (.cells #[.int .i64 ir0_0, (.slice hr0_1p hr0_1n hr0_1c), .int .i64 ir0_2] 29)).alloc (.cells #[.int .i64 ir1_0, (.slice hr1_1p hr1_1n hr1_1c)] 37))).cell? ⟨w3.heap.size, 1, none⟩ = some ((.slice wr0_1p wr0_1n wr0_1c)) := cell_of_row _ _ 1 _ _ _ rBw0202_.out
    have Bw0_2_ : (((w16.alloc (.cells #[.int .i64 ir0_0, (.slice hr0_1p hr0_1n hr0_1c), .int .i64 ir0_2] 29)).alloc (.cells #[.int .i64 ir1_0, (.slice hr1_1p hr1_1n hr1_1c)] 37))).cell? ⟨w3.heap.size, 2, none⟩ = some (.int .i64 ir0_2) := cell_of_row _ _ 2 _ _ _ rBw0202_.out
    go_wp2_with fail
    go_at_call 12
    refine (eqSender_d _ ir0_0 (.slice hr0_1p hr0_1n hr0_1c) ir0_2 (.slice wr0_1p wr0_1n wr0_1c) xsr0_1 (OwU.rd oh211_.out) (RdL.grow rd11_.out qw213_.out) hLr0_1).mono ?_
    rintro e w17 ⟨rfl, g⟩
    have zs22 := World.grownBy.size g
    try simp only [World.size_alloc] at zs22
    clear Bh0_0_ Bh0_1_ Bh0_2_ Bw0_0_ Bw0_1_ Bw0_2_
    have rA0215_ := Lib.hid (show (w17).heap[W.heap.size]? = some (.cells #[.int .i64 i0_0, a0_1, .int .i64 i0_2] 24 (0, 0)) from row_held g rA0201_.out)
    clear rA0201_
    have rBw0216_ := Lib.hid (show (w17).heap[w3.heap.size]? = some (.cells #[.int .i64 ir0_0, (.slice wr0_1p wr0_1n wr0_1c), .int .i64 ir0_2] 29 (0, 0)) from row_held g rBw0202_.out)
    clear rBw0202_
    have rBw1217_ := Lib.hid (show (w17).heap[w3.heap.size + 1]? = some (.cells #[.int .i64 ir1_0, (.slice wr1_1p wr1_1n wr1_1c)] 37 (0, 0)) from row_held g rBw1203_.out)
    clear rBw1203_
    have rBx0218_ := Lib.hid (show (w17).heap[w4.heap.size]? = some (.cells #[.int .i64 i0_0, (.slice x00_1p x00_1n x00_1c), .int .i64 i0_2] 29 (0, 0)) from row_held g rBx0204_.out)
    clear rBx0204_
    have rBg0219_ := Lib.hid (show (w17).heap[w5.heap.size]? = some (.cells #[.int .i64 ir0_0, (.slice gr0_1p gr0_1n gr0_1c), .int .i64 ir0_2] 29 (0, 0)) from row_held g rBg0205_.out)
    clear rBg0205_
    have rBg1220_ := Lib.hid (show (w17).heap[w5.heap.size + 1]? = some (.cells #[.int .i64 ir1_0, (.slice gr1_1p gr1_1n gr1_1c)] 37 (0, 0)) from row_held g rBg1206_.out)
    clear rBg1206_
    have rBh0221_ := Lib.hid (show (w17).heap[w16.heap.size]? = some (.cells #[.int .i64 ir0_0, (.slice hr0_1p hr0_1n hr0_1c), .int .i64 ir0_2] 29 (0, 0)) from row_held g rBh0207_.out)
    clear rBh0207_
    have rBh1222_ := Lib.hid (show (w17).heap[w16.heap.size + 1]? = some (.cells #[.int .i64 ir1_0, (.slice hr1_1p hr1_1n hr1_1c)] 37 (0, 0)) from row_held g rBh1214_.out)
    clear rBh1214_
    have ox0223_ := Lib.hid (show OwU (w17) (w3.heap.size + 1 + 1) (w4.heap.size) [] [own shFrame (.slice x00_1p x00_1n x00_1c) (emL shFrame (1) xs0_1)] from OwU.grow ox0208_.out g)
    clear ox0208_
    have og224_ := Lib.hid (show OwU (w17) (w4.heap.size + 1) (w5.heap.size) [] [own shFrame (.slice gr0_1p gr0_1n gr0_1c) (emL shFrame (1) xsr0_1), own shI (.slice gr1_1p gr1_1n gr1_1c) (emL shI (1 + ecL shFrame xsr0_1) xsr1_1)] from OwU.grow og209_.out g)
    clear og209_
    have oh225_ := Lib.hid (show OwU (w17) (w15.heap.size) (w16.heap.size) [] [own shFrame (.slice hr0_1p hr0_1n hr0_1c) xsr0_1, own shI (.slice hr1_1p hr1_1n hr1_1c) xsr1_1] from OwU.grow oh211_.out g)
    clear oh211_
    have G226_ := Lib.hid (show (W).grownBy (w17) none from gby_trans G212_.out g)
    have qw227_ := Lib.hid (show (w3).grownBy (w17) none from gby_trans qw213_.out g)
    clear qw213_
    clear g
    have Bh1_0_ : (w17).cell? ⟨w16.heap.size + 1, 0, none⟩ = some (.int .i64 ir1_0) := cell_of_row _ _ 0 _ _ _ rBh1222_.out
    have Bh1_1_ : (w17).cell? ⟨w16.heap.size + 1, 1, none⟩ = some ((.slice hr1_1p hr1_1n hr1_1c)) := cell_of_row _ _ 1 _ _ _ rBh1222_.out
    have Bw1_0_ : (w17).cell? ⟨w3.heap.size + 1, 0, none⟩ = some (.int .i64 ir1_0) := cell_of_row _ _ 0 _ _ _ rBw1217_.out
    have Bw1_1_ : (w17).cell? ⟨w3.heap.size + 1, 1, none⟩ = some ((.slice wr1_1p wr1_1n wr1_1c)) := cell_of_row _ _ 1 _ _ _ rBw1217_.out
    go_wp2_with fail
    go_at_call 19
    refine (eqFrame_d _ ir1_0 (.slice hr1_1p hr1_1n hr1_1c) (.slice wr1_1p wr1_1n wr1_1c) xsr1_1 (OwU.rd (OwU.tail oh225_.out)) (RdL.grow rd12_.out qw227_.out) hLr1_1).mono ?_
    rintro e w18 ⟨rfl, g⟩
    have zs23 := World.grownBy.size g
    try simp only [World.size_alloc] at zs23
    clear Bh1_0_ Bh1_1_ Bw1_0_ Bw1_1_
    have rA0228_ := Lib.hid (show (w18).heap[W.heap.size]? = some (.cells #[.int .i64 i0_0, a0_1, .int .i64 i0_2] 24 (0, 0)) from row_held g rA0215_.out)
    clear rA0215_
    have rBw0229_ := Lib.hid (show (w18).heap[w3.heap.size]? = some (.cells #[.int .i64 ir0_0, (.slice wr0_1p wr0_1n wr0_1c), .int .i64 ir0_2] 29 (0, 0)) from row_held g rBw0216_.out)
    clear rBw0216_
    have rBw1230_ := Lib.hid (show (w18).heap[w3.heap.size + 1]? = some (.cells #[.int .i64 ir1_0, (.slice wr1_1p wr1_1n wr1_1c)] 37 (0, 0)) from row_held g rBw1217_.out)
    clear rBw1217_
    have rBx0231_ := Lib.hid (show (w18).heap[w4.heap.size]? = some (.cells #[.int .i64 i0_0, (.slice x00_1p x00_1n x00_1c), .int .i64 i0_2] 29 (0, 0)) from row_held g rBx0218_.out)
    clear rBx0218_
    have rBg0232_ := Lib.hid (show (w18).heap[w5.heap.size]? = some (.cells #[.int .i64 ir0_0, (.slice gr0_1p gr0_1n gr0_1c), .int .i64 ir0_2] 29 (0, 0)) from row_held g rBg0219_.out)
    clear rBg0219_
    have rBg1233_ := Lib.hid (show (w18).heap[w5.heap.size + 1]? = some (.cells #[.int .i64 ir1_0, (.slice gr1_1p gr1_1n gr1_1c)] 37 (0, 0)) from row_held g rBg1220_.out)
    clear rBg1220_
    have rBh0234_ := Lib.hid (show (w18).heap[w16.heap.size]? = some (.cells #[.int .i64 ir0_0, (.slice hr0_1p hr0_1n hr0_1c), .int .i64 ir0_2] 29 (0, 0)) from row_held g rBh0221_.out)
    clear rBh0221_
    have rBh1235_ := Lib.hid (show (w18).heap[w16.heap.size + 1]? = some (.cells #[.int .i64 ir1_0, (.slice hr1_1p hr1_1n hr1_1c)] 37 (0, 0)) from row_held g rBh1222_.out)
    clear rBh1222_
    have ox0236_ := Lib.hid (show OwU (w18) (w3.heap.size + 1 + 1) (w4.heap.size) [] [own shFrame (.slice x00_1p x00_1n x00_1c) (emL shFrame (1) xs0_1)] from OwU.grow ox0223_.out g)
    clear ox0223_
    have og237_ := Lib.hid (show OwU (w18) (w4.heap.size + 1) (w5.heap.size) [] [own shFrame (.slice gr0_1p gr0_1n gr0_1c) (emL shFrame (1) xsr0_1), own shI (.slice gr1_1p gr1_1n gr1_1c) (emL shI (1 + ecL shFrame xsr0_1) xsr1_1)] from OwU.grow og224_.out g)
    clear og224_
    have oh238_ := Lib.hid (show OwU (w18) (w15.heap.size) (w16.heap.size) [] [own shFrame (.slice hr0_1p hr0_1n hr0_1c) xsr0_1, own shI (.slice hr1_1p hr1_1n hr1_1c) xsr1_1] from OwU.grow oh225_.out g)
    clear oh225_
    have G239_ := Lib.hid (show (W).grownBy (w18) none from gby_trans G226_.out g)
    have qw240_ := Lib.hid (show (w3).grownBy (w18) none from gby_trans qw227_.out g)
    clear qw227_
    clear g
    have Bg0_0_ : (w18).cell? ⟨w5.heap.size, 0, none⟩ = some (.int .i64 ir0_0) := cell_of_row _ _ 0 _ _ _ rBg0232_.out
    have Bg0_1_ : (w18).cell? ⟨w5.heap.size, 1, none⟩ = some ((.slice gr0_1p gr0_1n gr0_1c)) := cell_of_row _ _ 1 _ _ _ rBg0232_.out
    have Bg0_2_ : (w18).cell? ⟨w5.heap.size, 2, none⟩ = some (.int .i64 ir0_2) := cell_of_row _ _ 2 _ _ _ rBg0232_.out
    go_wp2_with fail
    go_at_call 16
    refine (heldSender_d _ (1) ir0_0 (.slice gr0_1p gr0_1n gr0_1c) ir0_2 xsr0_1 (OwU.rd og237_.out) hLr0_1 (by omega)).mono ?_
    rintro e w19 ⟨rfl, g⟩
    have zs24 := World.grownBy.size g
    try simp only [World.size_alloc] at zs24
    clear Bg0_0_ Bg0_1_ Bg0_2_
    have rA0241_ := Lib.hid (show (w19).heap[W.heap.size]? = some (.cells #[.int .i64 i0_0, a0_1, .int .i64 i0_2] 24 (0, 0)) from row_held g rA0228_.out)
    clear rA0228_
    have rBw0242_ := Lib.hid (show (w19).heap[w3.heap.size]? = some (.cells #[.int .i64 ir0_0, (.slice wr0_1p wr0_1n wr0_1c), .int .i64 ir0_2] 29 (0, 0)) from row_held g rBw0229_.out)
    clear rBw0229_
    have rBw1243_ := Lib.hid (show (w19).heap[w3.heap.size + 1]? = some (.cells #[.int .i64 ir1_0, (.slice wr1_1p wr1_1n wr1_1c)] 37 (0, 0)) from row_held g rBw1230_.out)
    clear rBw1230_
    have rBx0244_ := Lib.hid (show (w19).heap[w4.heap.size]? = some (.cells #[.int .i64 i0_0, (.slice x00_1p x00_1n x00_1c), .int .i64 i0_2] 29 (0, 0)) from row_held g rBx0231_.out)
    clear rBx0231_
    have rBg0245_ := Lib.hid (show (w19).heap[w5.heap.size]? = some (.cells #[.int .i64 ir0_0, (.slice gr0_1p gr0_1n gr0_1c), .int .i64 ir0_2] 29 (0, 0)) from row_held g rBg0232_.out)
    clear rBg0232_
    have rBg1246_ := Lib.hid (show (w19).heap[w5.heap.size + 1]? = some (.cells #[.int .i64 ir1_0, (.slice gr1_1p gr1_1n gr1_1c)] 37 (0, 0)) from row_held g rBg1233_.out)
    clear rBg1233_
    have rBh0247_ := Lib.hid (show (w19).heap[w16.heap.size]? = some (.cells #[.int .i64 ir0_0, (.slice hr0_1p hr0_1n hr0_1c), .int .i64 ir0_2] 29 (0, 0)) from row_held g rBh0234_.out)
    clear rBh0234_
    have rBh1248_ := Lib.hid (show (w19).heap[w16.heap.size + 1]? = some (.cells #[.int .i64 ir1_0, (.slice hr1_1p hr1_1n hr1_1c)] 37 (0, 0)) from row_held g rBh1235_.out)
    clear rBh1235_
    have ox0249_ := Lib.hid (show OwU (w19) (w3.heap.size + 1 + 1) (w4.heap.size) [] [own shFrame (.slice x00_1p x00_1n x00_1c) (emL shFrame (1) xs0_1)] from OwU.grow ox0236_.out g)
    clear ox0236_
    have og250_ := Lib.hid (show OwU (w19) (w4.heap.size + 1) (w5.heap.size) [] [own shFrame (.slice gr0_1p gr0_1n gr0_1c) (emL shFrame (1) xsr0_1), own shI (.slice gr1_1p gr1_1n gr1_1c) (emL shI (1 + ecL shFrame xsr0_1) xsr1_1)] from OwU.grow og237_.out g)
    clear og237_
    have oh251_ := Lib.hid (show OwU (w19) (w15.heap.size) (w16.heap.size) [] [own shFrame (.slice hr0_1p hr0_1n hr0_1c) xsr0_1, own shI (.slice hr1_1p hr1_1n hr1_1c) xsr1_1] from OwU.grow oh238_.out g)
    clear oh238_
    have G252_ := Lib.hid (show (W).grownBy (w19) none from gby_trans G239_.out g)
    have qw253_ := Lib.hid (show (w3).grownBy (w19) none from gby_trans qw240_.out g)
    clear qw240_
    clear g
    have ng19 : ¬ (((1 + ecL shFrame xsr0_1 : Nat) : Int) < 0) := by omega
    have Bg1_0_ : (w19).cell? ⟨w5.heap.size + 1, 0, none⟩ = some (.int .i64 ir1_0) := cell_of_row _ _ 0 _ _ _ rBg1246_.out
    have Bg1_1_ : (w19).cell? ⟨w5.heap.size + 1, 1, none⟩ = some ((.slice gr1_1p gr1_1n gr1_1c)) := cell_of_row _ _ 1 _ _ _ rBg1246_.out
    go_wp2_with fail
    go_at_call 21
    refine (heldFrame_d _ (1 + ecL shFrame xsr0_1) ir1_0 (.slice gr1_1p gr1_1n gr1_1c) xsr1_1 (OwU.rd (OwU.tail og250_.out)) hLr1_1 (by omega)).mono ?_
    rintro e w20 ⟨rfl, g⟩
    have zs25 := World.grownBy.size g
    try simp only [World.size_alloc] at zs25
    clear Bg1_0_ Bg1_1_
    have rA0254_ := Lib.hid (show (w20).heap[W.heap.size]? = some (.cells #[.int .i64 i0_0, a0_1, .int .i64 i0_2] 24 (0, 0)) from row_held g rA0241_.out)
    clear rA0241_
    have rBw0255_ := Lib.hid (show (w20).heap[w3.heap.size]? = some (.cells #[.int .i64 ir0_0, (.slice wr0_1p wr0_1n wr0_1c), .int .i64 ir0_2] 29 (0, 0)) from row_held g rBw0242_.out)
    clear rBw0242_
    have rBw1256_ := Lib.hid (show (w20).heap[w3.heap.size + 1]? = some (.cells #[.int .i64 ir1_0, (.slice wr1_1p wr1_1n wr1_1c)] 37 (0, 0)) from row_held g rBw1243_.out)
    clear rBw1243_
    have rBx0257_ := Lib.hid (show (w20).heap[w4.heap.size]? = some (.cells #[.int .i64 i0_0, (.slice x00_1p x00_1n x00_1c), .int .i64 i0_2] 29 (0, 0)) from row_held g rBx0244_.out)
    clear rBx0244_
    have rBg0258_ := Lib.hid (show (w20).heap[w5.heap.size]? = some (.cells #[.int .i64 ir0_0, (.slice gr0_1p gr0_1n gr0_1c), .int .i64 ir0_2] 29 (0, 0)) from row_held g rBg0245_.out)
    clear rBg0245_
    have rBg1259_ := Lib.hid (show (w20).heap[w5.heap.size + 1]? = some (.cells #[.int .i64 ir1_0, (.slice gr1_1p gr1_1n gr1_1c)] 37 (0, 0)) from row_held g rBg1246_.out)
    clear rBg1246_
    have rBh0260_ := Lib.hid (show (w20).heap[w16.heap.size]? = some (.cells #[.int .i64 ir0_0, (.slice hr0_1p hr0_1n hr0_1c), .int .i64 ir0_2] 29 (0, 0)) from row_held g rBh0247_.out)
    clear rBh0247_
    have rBh1261_ := Lib.hid (show (w20).heap[w16.heap.size + 1]? = some (.cells #[.int .i64 ir1_0, (.slice hr1_1p hr1_1n hr1_1c)] 37 (0, 0)) from row_held g rBh1248_.out)
    clear rBh1248_
    have ox0262_ := Lib.hid (show OwU (w20) (w3.heap.size + 1 + 1) (w4.heap.size) [] [own shFrame (.slice x00_1p x00_1n x00_1c) (emL shFrame (1) xs0_1)] from OwU.grow ox0249_.out g)
    clear ox0249_
    have og263_ := Lib.hid (show OwU (w20) (w4.heap.size + 1) (w5.heap.size) [] [own shFrame (.slice gr0_1p gr0_1n gr0_1c) (emL shFrame (1) xsr0_1), own shI (.slice gr1_1p gr1_1n gr1_1c) (emL shI (1 + ecL shFrame xsr0_1) xsr1_1)] from OwU.grow og250_.out g)
    clear og250_
    have oh264_ := Lib.hid (show OwU (w20) (w15.heap.size) (w16.heap.size) [] [own shFrame (.slice hr0_1p hr0_1n hr0_1c) xsr0_1, own shI (.slice hr1_1p hr1_1n hr1_1c) xsr1_1] from OwU.grow oh251_.out g)
    clear oh251_
    have G265_ := Lib.hid (show (W).grownBy (w20) none from gby_trans G252_.out g)
    have qw266_ := Lib.hid (show (w3).grownBy (w20) none from gby_trans qw253_.out g)
    clear qw253_
    clear g
    have ng20 : ¬ (((1 + ecL shFrame xsr0_1 + ecL shI xsr1_1 : Nat) : Int) < 0) := by omega
    go_wp2
    go_ret
    exact ⟨rfl, gby_below G265_.out⟩

end Go.Proofs.Ytcenngekjopjpaa
