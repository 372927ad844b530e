/-
  The walk of FnExactQueueFrame: at every argument the program answers as its model and writes nothing that was there, and its answer owns its memory.
-/
import Derived.Test.YtcenngekjopjpaaQSender
import Derived.Test.YtcenngekjopjpaaRQueueFrame
import Derived.Test.YtcenngekjopjpaaShpI
import Derived.WalkKit
import Derived.Deep.RegionHeld3
import Derived.Below
namespace Go.Proofs.Ytcenngekjopjpaa
open Go Go.RowKit

set_option maxRecDepth 8000 in
set_option maxHeartbeats 16000000 in
theorem walk_exactQueueFrame_of (both : ∀ (i0_0 : Int) (xs0_1 : List DFrame) (i0_2 : Int) (xs1 : List Int), szL shFrame xs0_1 ≤ 1048576 → szL shI xs1 ≤ 1048576 → ∃ (ir0_0 : Int) (xsr0_1 : List DFrame) (ir0_2 : Int) (br1 : Bool), szL shFrame xsr0_1 ≤ 1048576 ∧ (∀ (W : World), ∀ u0_1 u1, RdL shFrame W u0_1 xs0_1 → RdL shI W u1 xs1 → Calls Try.prog 24 #[.agg #[.int .i64 i0_0, u0_1, .int .i64 i0_2], u1] W (ResSQueueFrame ir0_0 xsr0_1 ir0_2 br1 W)) ∧ ∀ (W : World), ∀ u0_1 u1, RdL shFrame W u0_1 xs0_1 → RdL shI W u1 xs1 → Calls Try.prog 26 #[.agg #[.int .i64 i0_0, u0_1, .int .i64 i0_2], u1] W (ResIQueueFrame ir0_0 xsr0_1 ir0_2 br1 W))
    (W : World) (i0_0 : Int) (a0_1 : Value) (xs0_1 : List DFrame) (i0_2 : Int) (a1 : Value) (xs1 : List Int) (H0_1 : RdL shFrame W a0_1 xs0_1) (H1 : RdL shI W a1 xs1) :
    Calls Try.prog 7 #[.agg #[.int .i64 i0_0, a0_1, .int .i64 i0_2], a1] W fun e w' => e = .returned (.bool true) ∧ Below W.heap.size W w' := by
  have HI0_1 := Lib.hid H0_1
  have hmx0_1 := H0_1.max
  clear H0_1
  have HI1 := Lib.hid H1
  have hmx1 := H1.max
  clear H1
  have hlen1 : ∃ p n c, a1 = .slice p n c ∧ n = xs1.length := by
    obtain ⟨p, c, h, _⟩ := HI1.out
    exact ⟨p, _, c, h, rfl⟩
  obtain ⟨p1, n1, c1, hv1, hnx1⟩ := hlen1
  subst hv1
  by_cases hbig1 : (1048576 : Int) < (n1 : Int)
  · have HN := Lib.hid hnx1
    clear hnx1
    go_enter Try.func7, Try.ntmps7
    go_wp2
    go_ret
    exact ⟨rfl, by first | exact Below.refl _ _ | exact gby_below (by repeat (with_reducible refine gby_alloc ?_ _); exact gby_refl _ _)⟩
  have hl1 : szL shI xs1 ≤ 1048576 := by have : szL shI xs1 = xs1.length := szL_I _; omega
  have HN1 := Lib.hid hnx1
  clear hnx1
  by_cases hs0 : (1048576 : Int) < (((szL shFrame xs0_1) : Nat) : Int)
  · have hneg : (-1 : Int) < 0 := by omega
    go_enter Try.func7, Try.ntmps7
    have rA01_ := Lib.hid (show ((W.alloc (.cells #[.int .i64 i0_0, a0_1, .int .i64 i0_2] 24))).heap[W.heap.size]? = some (.cells #[.int .i64 i0_0, a0_1, .int .i64 i0_2] 24 (0, 0)) from by exact heap_alloc_new _ _)
    have G2_ := Lib.hid (show (W).grownBy ((W.alloc (.cells #[.int .i64 i0_0, a0_1, .int .i64 i0_2] 24))) none from (gby_alloc (gby_refl _ _) _))
    have A0_0_ : ((W.alloc (.cells #[.int .i64 i0_0, a0_1, .int .i64 i0_2] 24))).cell? ⟨W.heap.size, 0, none⟩ = some (.int .i64 i0_0) := cell_of_row _ _ 0 _ _ _ rA01_.out
    have A0_1_ : ((W.alloc (.cells #[.int .i64 i0_0, a0_1, .int .i64 i0_2] 24))).cell? ⟨W.heap.size, 1, none⟩ = some (a0_1) := cell_of_row _ _ 1 _ _ _ rA01_.out
    have A0_2_ : ((W.alloc (.cells #[.int .i64 i0_0, a0_1, .int .i64 i0_2] 24))).cell? ⟨W.heap.size, 2, none⟩ = some (.int .i64 i0_2) := cell_of_row _ _ 2 _ _ _ rA01_.out
    go_wp2_with fail
    go_at_call 8
    refine (szSender_d _ 1048576 i0_0 a0_1 i0_2 xs0_1 (HI0_1.out.grow G2_.out) (by omega) (by omega)).mono ?_
    rintro e w1 ⟨he, g⟩
    rw [show lessN 1048576 (szL shFrame xs0_1) = -1 from if_pos hs0] at he
    subst he
    clear A0_0_ A0_1_ A0_2_
    have rA03_ := Lib.hid (show (w1).heap[W.heap.size]? = some (.cells #[.int .i64 i0_0, a0_1, .int .i64 i0_2] 24 (0, 0)) from row_held g rA01_.out)
    clear rA01_
    have G4_ := Lib.hid (show (W).grownBy (w1) none from gby_trans G2_.out g)
    clear g
    go_wp2
    go_ret
    exact ⟨rfl, gby_below G4_.out⟩
  obtain ⟨rr0, hr0⟩ : ∃ r, r = lessN 1048576 (szL shFrame xs0_1) := ⟨_, rfl⟩
  have hrr0 : rr0 = (1048576 : Int) - (((szL shFrame xs0_1) : Nat) : Int) := hr0.trans (if_neg hs0)
  have hn0 : ¬ rr0 < 0 := by omega
  have hu0 : rr0 ≤ 1048576 := by omega
  have hl0_1 : szL shFrame xs0_1 ≤ 1048576 := by omega
  have HR0 := Lib.hid hr0
  clear hs0 hr0 hrr0
  obtain ⟨ir0_0, xsr0_1, ir0_2, br1, hLr0_1, hs_, hi_⟩ := both i0_0 xs0_1 i0_2 xs1 hl0_1 hl1
  have HS := Lib.hid hs_
  have HM := Lib.hid hi_
  clear hs_ hi_
  try clear both
  have hb_br1 : (br1 != br1) = false := by simp
  have hq0_1 : ecL shFrame xs0_1 ≤ 104857600 := Nat.le_trans (ecL_le _ _) (Nat.le_trans (Nat.mul_le_mul_left _ hl0_1) (Nat.mul_le_mul_right 1048576 (show shFrame.c ≤ 100 by decide)))
  have hq1 : ecL shI xs1 ≤ 104857600 := Nat.le_trans (ecL_le _ _) (Nat.le_trans (Nat.mul_le_mul_left _ hl1) (Nat.mul_le_mul_right 1048576 (show shI.c ≤ 100 by decide)))
  have hqr0_1 : ecL shFrame xsr0_1 ≤ 104857600 := Nat.le_trans (ecL_le _ _) (Nat.le_trans (Nat.mul_le_mul_left _ hLr0_1) (Nat.mul_le_mul_right 1048576 (show shFrame.c ≤ 100 by decide)))
  go_enter Try.func7, Try.ntmps7
  have rA01_ := Lib.hid (show ((W.alloc (.cells #[.int .i64 i0_0, a0_1, .int .i64 i0_2] 24))).heap[W.heap.size]? = some (.cells #[.int .i64 i0_0, a0_1, .int .i64 i0_2] 24 (0, 0)) from by exact heap_alloc_new _ _)
  have G2_ := Lib.hid (show (W).grownBy ((W.alloc (.cells #[.int .i64 i0_0, a0_1, .int .i64 i0_2] 24))) none from (gby_alloc (gby_refl _ _) _))
  have A0_0_ : ((W.alloc (.cells #[.int .i64 i0_0, a0_1, .int .i64 i0_2] 24))).cell? ⟨W.heap.size, 0, none⟩ = some (.int .i64 i0_0) := cell_of_row _ _ 0 _ _ _ rA01_.out
  have A0_1_ : ((W.alloc (.cells #[.int .i64 i0_0, a0_1, .int .i64 i0_2] 24))).cell? ⟨W.heap.size, 1, none⟩ = some (a0_1) := cell_of_row _ _ 1 _ _ _ rA01_.out
  have A0_2_ : ((W.alloc (.cells #[.int .i64 i0_0, a0_1, .int .i64 i0_2] 24))).cell? ⟨W.heap.size, 2, none⟩ = some (.int .i64 i0_2) := cell_of_row _ _ 2 _ _ _ rA01_.out
  go_wp2_with fail
  go_at_call 8
  refine (szSender_d _ 1048576 i0_0 a0_1 i0_2 xs0_1 (HI0_1.out.grow G2_.out) (by omega) (by omega)).mono ?_
  rintro e w1 ⟨he, g⟩
  rw [← HR0.out] at he
  subst he
  have zs1 := World.grownBy.size g
  try simp only [World.size_alloc] at zs1
  clear A0_0_ A0_1_ A0_2_
  have rA03_ := Lib.hid (show (w1).heap[W.heap.size]? = some (.cells #[.int .i64 i0_0, a0_1, .int .i64 i0_2] 24 (0, 0)) from row_held g rA01_.out)
  clear rA01_
  have G4_ := Lib.hid (show (W).grownBy (w1) none from gby_trans G2_.out g)
  clear g
  have A0_0_ : (w1).cell? ⟨W.heap.size, 0, none⟩ = some (.int .i64 i0_0) := cell_of_row _ _ 0 _ _ _ rA03_.out
  have A0_1_ : (w1).cell? ⟨W.heap.size, 1, none⟩ = some (a0_1) := cell_of_row _ _ 1 _ _ _ rA03_.out
  have A0_2_ : (w1).cell? ⟨W.heap.size, 2, none⟩ = some (.int .i64 i0_2) := cell_of_row _ _ 2 _ _ _ rA03_.out
  go_wp2_with fail
  go_at_call 10
  refine (toSender_d _ i0_0 a0_1 i0_2 xs0_1 (HI0_1.out.grow G4_.out) hl0_1).mono ?_
  rintro e w2 ⟨t10_1, rfl, o, g⟩
  have sz_ := g.size
  try simp only [World.size_alloc] at sz_
  try simp only [World.size_alloc] at o
  have zs2 := World.grownBy.size g
  try simp only [World.size_alloc] at zs2
  clear A0_0_ A0_1_ A0_2_
  have rA05_ := Lib.hid (show (w2).heap[W.heap.size]? = some (.cells #[.int .i64 i0_0, a0_1, .int .i64 i0_2] 24 (0, 0)) from row_held g rA03_.out)
  clear rA03_
  have G6_ := Lib.hid (show (W).grownBy (w2) none from gby_trans G4_.out g)
  clear g
  have szw2 := sz_
  clear sz_
  obtain ⟨t10_1p, t10_1n, t10_1c, hv_⟩ := RdL.form (OwU.rd o)
  subst hv_
  have oT17_ := Lib.hid (show OwU (w2) (w1.heap.size) (w2.heap.size) [] [own shFrame (.slice t10_1p t10_1n t10_1c) xs0_1] from o)
  clear o
  try unfold vSender
  go_wp2_with fail
  go_at_call 25
  refine (toIntS_d _ (.slice p1 n1 c1) xs1 (HI1.out.grow G6_.out) hl1).mono ?_
  rintro e w3 ⟨t21, rfl, o, g⟩
  have sz_ := g.size
  try simp only [World.size_alloc] at sz_
  try simp only [World.size_alloc] at o
  have zs3 := World.grownBy.size g
  try simp only [World.size_alloc] at zs3
  have rA08_ := Lib.hid (show (w3).heap[W.heap.size]? = some (.cells #[.int .i64 i0_0, a0_1, .int .i64 i0_2] 24 (0, 0)) from row_held g rA05_.out)
  clear rA05_
  have oT19_ := Lib.hid (show OwU (w3) (w1.heap.size) (w2.heap.size) [] [own shFrame (.slice t10_1p t10_1n t10_1c) xs0_1] from OwU.grow oT17_.out g)
  clear oT17_
  have G10_ := Lib.hid (show (W).grownBy (w3) none from gby_trans G6_.out g)
  clear g
  have szw3 := sz_
  clear sz_
  obtain ⟨t21p, t21n, t21c, hv_⟩ := RdL.form (OwL.rd o)
  subst hv_
  have oT211_ := Lib.hid (show OwU (w3) (w2.heap.size) (w3.heap.size) [] [own shI (.slice t21p t21n t21c) xs1] from OwU.one o)
  clear o
  go_wp2_with fail
  go_at_call 24
  refine (HS.out _ (.slice t10_1p t10_1n t10_1c) (.slice t21p t21n t21c) (OwU.rd oT19_.out) (OwU.rd oT211_.out)).mono ?_
  rintro e w4 ⟨wr0_1, rfl, or0_1, g⟩
  have sz_ := g.size
  try simp only [World.size_alloc] at sz_
  have zs4 := World.grownBy.size g
  try simp only [World.size_alloc] at zs4
  have rA012_ := Lib.hid (show (w4).heap[W.heap.size]? = some (.cells #[.int .i64 i0_0, a0_1, .int .i64 i0_2] 24 (0, 0)) from row_held g rA08_.out)
  clear rA08_
  have oT113_ := Lib.hid (show OwU (w4) (w1.heap.size) (w2.heap.size) [] [own shFrame (.slice t10_1p t10_1n t10_1c) xs0_1] from OwU.grow oT19_.out g)
  clear oT19_
  have oT214_ := Lib.hid (show OwU (w4) (w2.heap.size) (w3.heap.size) [] [own shI (.slice t21p t21n t21c) xs1] from OwU.grow oT211_.out g)
  clear oT211_
  have G15_ := Lib.hid (show (W).grownBy (w4) none from gby_trans G10_.out g)
  clear g
  have szw4 := sz_
  clear sz_
  obtain ⟨wr0_1p, wr0_1n, wr0_1c, hv_⟩ := RdL.form (or0_1)
  subst hv_
  have rd16_ := Lib.hid or0_1
  clear or0_1
  have qG17_ := Lib.hid (gby_refl w4 none)
  have al : (w4).grownBy ((w4).alloc (.cells #[.int .i64 ir0_0, (.slice wr0_1p wr0_1n wr0_1c), .int .i64 ir0_2] 29)) none := gby_alloc (gby_refl _ _) _
  have zs5 := World.grownBy.size al
  try simp only [World.size_alloc] at zs5
  have rA018_ := Lib.hid (show ((w4.alloc (.cells #[.int .i64 ir0_0, (.slice wr0_1p wr0_1n wr0_1c), .int .i64 ir0_2] 29))).heap[W.heap.size]? = some (.cells #[.int .i64 i0_0, a0_1, .int .i64 i0_2] 24 (0, 0)) from row_held al rA012_.out)
  clear rA012_
  have oT119_ := Lib.hid (show OwU ((w4.alloc (.cells #[.int .i64 ir0_0, (.slice wr0_1p wr0_1n wr0_1c), .int .i64 ir0_2] 29))) (w1.heap.size) (w2.heap.size) [] [own shFrame (.slice t10_1p t10_1n t10_1c) xs0_1] from OwU.grow oT113_.out al)
  clear oT113_
  have oT220_ := Lib.hid (show OwU ((w4.alloc (.cells #[.int .i64 ir0_0, (.slice wr0_1p wr0_1n wr0_1c), .int .i64 ir0_2] 29))) (w2.heap.size) (w3.heap.size) [] [own shI (.slice t21p t21n t21c) xs1] from OwU.grow oT214_.out al)
  clear oT214_
  have G21_ := Lib.hid (show (W).grownBy ((w4.alloc (.cells #[.int .i64 ir0_0, (.slice wr0_1p wr0_1n wr0_1c), .int .i64 ir0_2] 29))) none from gby_trans G15_.out al)
  have qw22_ := Lib.hid (show (w4).grownBy ((w4.alloc (.cells #[.int .i64 ir0_0, (.slice wr0_1p wr0_1n wr0_1c), .int .i64 ir0_2] 29))) none from gby_trans qG17_.out al)
  clear qG17_
  have rBw023_ := Lib.hid (show ((w4.alloc (.cells #[.int .i64 ir0_0, (.slice wr0_1p wr0_1n wr0_1c), .int .i64 ir0_2] 29))).heap[w4.heap.size]? = some (.cells #[.int .i64 ir0_0, (.slice wr0_1p wr0_1n wr0_1c), .int .i64 ir0_2] 29 (0, 0)) from by first | exact heap_alloc_new _ _ | exact heap_pair _ _ _ | exact heap_trip _ _ _ _)
  clear al
  clear oT119_
  clear oT220_
  have A0_0_ : ((w4.alloc (.cells #[.int .i64 ir0_0, (.slice wr0_1p wr0_1n wr0_1c), .int .i64 ir0_2] 29))).cell? ⟨W.heap.size, 0, none⟩ = some (.int .i64 i0_0) := cell_of_row _ _ 0 _ _ _ rA018_.out
  have A0_1_ : ((w4.alloc (.cells #[.int .i64 ir0_0, (.slice wr0_1p wr0_1n wr0_1c), .int .i64 ir0_2] 29))).cell? ⟨W.heap.size, 1, none⟩ = some (a0_1) := cell_of_row _ _ 1 _ _ _ rA018_.out
  have A0_2_ : ((w4.alloc (.cells #[.int .i64 ir0_0, (.slice wr0_1p wr0_1n wr0_1c), .int .i64 ir0_2] 29))).cell? ⟨W.heap.size, 2, none⟩ = some (.int .i64 i0_2) := cell_of_row _ _ 2 _ _ _ rA018_.out
  go_wp2_with fail
  go_at_call 10
  refine (toSender_d _ i0_0 a0_1 i0_2 xs0_1 (HI0_1.out.grow G21_.out) hl0_1).mono ?_
  rintro e w5 ⟨x00_1, rfl, o, g⟩
  have sz_ := g.size
  try simp only [World.size_alloc] at sz_
  try simp only [World.size_alloc] at o
  have zs6 := World.grownBy.size g
  try simp only [World.size_alloc] at zs6
  clear A0_0_ A0_1_ A0_2_
  have rA024_ := Lib.hid (show (w5).heap[W.heap.size]? = some (.cells #[.int .i64 i0_0, a0_1, .int .i64 i0_2] 24 (0, 0)) from row_held g rA018_.out)
  clear rA018_
  have rBw025_ := Lib.hid (show (w5).heap[w4.heap.size]? = some (.cells #[.int .i64 ir0_0, (.slice wr0_1p wr0_1n wr0_1c), .int .i64 ir0_2] 29 (0, 0)) from row_held g rBw023_.out)
  clear rBw023_
  have G26_ := Lib.hid (show (W).grownBy (w5) none from gby_trans G21_.out g)
  have qw27_ := Lib.hid (show (w4).grownBy (w5) none from gby_trans qw22_.out g)
  clear qw22_
  clear g
  have szw5 := sz_
  clear sz_
  obtain ⟨x00_1p, x00_1n, x00_1c, hv_⟩ := RdL.form (OwU.rd o)
  subst hv_
  have ox028_ := Lib.hid (show OwU (w5) (w4.heap.size + 1) (w5.heap.size) [] [own shFrame (.slice x00_1p x00_1n x00_1c) xs0_1] from o)
  clear o
  try unfold vSender
  have al : (w5).grownBy ((w5).alloc (.cells #[.int .i64 i0_0, (.slice x00_1p x00_1n x00_1c), .int .i64 i0_2] 29)) none := gby_alloc (gby_refl _ _) _
  have zs7 := World.grownBy.size al
  try simp only [World.size_alloc] at zs7
  have rA029_ := Lib.hid (show ((w5.alloc (.cells #[.int .i64 i0_0, (.slice x00_1p x00_1n x00_1c), .int .i64 i0_2] 29))).heap[W.heap.size]? = some (.cells #[.int .i64 i0_0, a0_1, .int .i64 i0_2] 24 (0, 0)) from row_held al rA024_.out)
  clear rA024_
  have rBw030_ := Lib.hid (show ((w5.alloc (.cells #[.int .i64 i0_0, (.slice x00_1p x00_1n x00_1c), .int .i64 i0_2] 29))).heap[w4.heap.size]? = some (.cells #[.int .i64 ir0_0, (.slice wr0_1p wr0_1n wr0_1c), .int .i64 ir0_2] 29 (0, 0)) from row_held al rBw025_.out)
  clear rBw025_
  have ox031_ := Lib.hid (show OwU ((w5.alloc (.cells #[.int .i64 i0_0, (.slice x00_1p x00_1n x00_1c), .int .i64 i0_2] 29))) (w4.heap.size + 1) (w5.heap.size) [] [own shFrame (.slice x00_1p x00_1n x00_1c) xs0_1] from OwU.grow ox028_.out al)
  clear ox028_
  have G32_ := Lib.hid (show (W).grownBy ((w5.alloc (.cells #[.int .i64 i0_0, (.slice x00_1p x00_1n x00_1c), .int .i64 i0_2] 29))) none from gby_trans G26_.out al)
  have qw33_ := Lib.hid (show (w4).grownBy ((w5.alloc (.cells #[.int .i64 i0_0, (.slice x00_1p x00_1n x00_1c), .int .i64 i0_2] 29))) none from gby_trans qw27_.out al)
  clear qw27_
  have rBx034_ := Lib.hid (show ((w5.alloc (.cells #[.int .i64 i0_0, (.slice x00_1p x00_1n x00_1c), .int .i64 i0_2] 29))).heap[w5.heap.size]? = some (.cells #[.int .i64 i0_0, (.slice x00_1p x00_1n x00_1c), .int .i64 i0_2] 29 (0, 0)) from by first | exact heap_alloc_new _ _ | exact heap_pair _ _ _ | exact heap_trip _ _ _ _)
  clear al
  go_wp2_with fail
  go_at_call 25
  refine (toIntS_d _ (.slice p1 n1 c1) xs1 (HI1.out.grow G32_.out) hl1).mono ?_
  rintro e w6 ⟨x11, rfl, o, g⟩
  have sz_ := g.size
  try simp only [World.size_alloc] at sz_
  try simp only [World.size_alloc] at o
  have zs8 := World.grownBy.size g
  try simp only [World.size_alloc] at zs8
  have rA035_ := Lib.hid (show (w6).heap[W.heap.size]? = some (.cells #[.int .i64 i0_0, a0_1, .int .i64 i0_2] 24 (0, 0)) from row_held g rA029_.out)
  clear rA029_
  have rBw036_ := Lib.hid (show (w6).heap[w4.heap.size]? = some (.cells #[.int .i64 ir0_0, (.slice wr0_1p wr0_1n wr0_1c), .int .i64 ir0_2] 29 (0, 0)) from row_held g rBw030_.out)
  clear rBw030_
  have rBx037_ := Lib.hid (show (w6).heap[w5.heap.size]? = some (.cells #[.int .i64 i0_0, (.slice x00_1p x00_1n x00_1c), .int .i64 i0_2] 29 (0, 0)) from row_held g rBx034_.out)
  clear rBx034_
  have ox038_ := Lib.hid (show OwU (w6) (w4.heap.size + 1) (w5.heap.size) [] [own shFrame (.slice x00_1p x00_1n x00_1c) xs0_1] from OwU.grow ox031_.out g)
  clear ox031_
  have G39_ := Lib.hid (show (W).grownBy (w6) none from gby_trans G32_.out g)
  have qw40_ := Lib.hid (show (w4).grownBy (w6) none from gby_trans qw33_.out g)
  clear qw33_
  clear g
  have szw6 := sz_
  clear sz_
  obtain ⟨x11p, x11n, x11c, hv_⟩ := RdL.form (OwL.rd o)
  subst hv_
  have ox141_ := Lib.hid (show OwU (w6) (w5.heap.size + 1) (w6.heap.size) [] [own shI (.slice x11p x11n x11c) xs1] from OwU.one o)
  clear o
  have Bx0_0_ : (w6).cell? ⟨w5.heap.size, 0, none⟩ = some (.int .i64 i0_0) := cell_of_row _ _ 0 _ _ _ rBx037_.out
  have Bx0_1_ : (w6).cell? ⟨w5.heap.size, 1, none⟩ = some ((.slice x00_1p x00_1n x00_1c)) := cell_of_row _ _ 1 _ _ _ rBx037_.out
  have Bx0_2_ : (w6).cell? ⟨w5.heap.size, 2, none⟩ = some (.int .i64 i0_2) := cell_of_row _ _ 2 _ _ _ rBx037_.out
  go_wp2_with fail
  go_at_call 26
  refine (HM.out _ (.slice x00_1p x00_1n x00_1c) (.slice x11p x11n x11c) (OwU.rd ox038_.out) (OwU.rd ox141_.out)).mono ?_
  rintro e w7 ⟨gr0_1, rfl, o, g⟩
  have sz_ := g.size
  try simp only [World.size_alloc] at sz_
  try simp only [World.size_alloc] at o
  have zs9 := World.grownBy.size g
  try simp only [World.size_alloc] at zs9
  clear Bx0_0_ Bx0_1_ Bx0_2_
  have rA042_ := Lib.hid (show (w7).heap[W.heap.size]? = some (.cells #[.int .i64 i0_0, a0_1, .int .i64 i0_2] 24 (0, 0)) from row_held g rA035_.out)
  clear rA035_
  have rBw043_ := Lib.hid (show (w7).heap[w4.heap.size]? = some (.cells #[.int .i64 ir0_0, (.slice wr0_1p wr0_1n wr0_1c), .int .i64 ir0_2] 29 (0, 0)) from row_held g rBw036_.out)
  clear rBw036_
  have rBx044_ := Lib.hid (show (w7).heap[w5.heap.size]? = some (.cells #[.int .i64 i0_0, (.slice x00_1p x00_1n x00_1c), .int .i64 i0_2] 29 (0, 0)) from row_held g rBx037_.out)
  clear rBx037_
  have ox045_ := Lib.hid (show OwU (w7) (w4.heap.size + 1) (w5.heap.size) [] [own shFrame (.slice x00_1p x00_1n x00_1c) xs0_1] from OwU.grow ox038_.out g)
  clear ox038_
  have ox146_ := Lib.hid (show OwU (w7) (w5.heap.size + 1) (w6.heap.size) [] [own shI (.slice x11p x11n x11c) xs1] from OwU.grow ox141_.out g)
  clear ox141_
  have G47_ := Lib.hid (show (W).grownBy (w7) none from gby_trans G39_.out g)
  have qw48_ := Lib.hid (show (w4).grownBy (w7) none from gby_trans qw40_.out g)
  clear qw40_
  clear g
  have szw7 := sz_
  clear sz_
  obtain ⟨gr0_1p, gr0_1n, gr0_1c, hv_⟩ := RdL.form (OwU.rd o)
  subst hv_
  have og49_ := Lib.hid (show OwU (w7) (w6.heap.size) (w7.heap.size) [] [own shFrame (.slice gr0_1p gr0_1n gr0_1c) xsr0_1] from o)
  clear o
  have al : (w7).grownBy ((w7).alloc (.cells #[.int .i64 ir0_0, (.slice gr0_1p gr0_1n gr0_1c), .int .i64 ir0_2] 29)) none := gby_alloc (gby_refl _ _) _
  have zs10 := World.grownBy.size al
  try simp only [World.size_alloc] at zs10
  have rA050_ := Lib.hid (show ((w7.alloc (.cells #[.int .i64 ir0_0, (.slice gr0_1p gr0_1n gr0_1c), .int .i64 ir0_2] 29))).heap[W.heap.size]? = some (.cells #[.int .i64 i0_0, a0_1, .int .i64 i0_2] 24 (0, 0)) from row_held al rA042_.out)
  clear rA042_
  have rBw051_ := Lib.hid (show ((w7.alloc (.cells #[.int .i64 ir0_0, (.slice gr0_1p gr0_1n gr0_1c), .int .i64 ir0_2] 29))).heap[w4.heap.size]? = some (.cells #[.int .i64 ir0_0, (.slice wr0_1p wr0_1n wr0_1c), .int .i64 ir0_2] 29 (0, 0)) from row_held al rBw043_.out)
  clear rBw043_
  have rBx052_ := Lib.hid (show ((w7.alloc (.cells #[.int .i64 ir0_0, (.slice gr0_1p gr0_1n gr0_1c), .int .i64 ir0_2] 29))).heap[w5.heap.size]? = some (.cells #[.int .i64 i0_0, (.slice x00_1p x00_1n x00_1c), .int .i64 i0_2] 29 (0, 0)) from row_held al rBx044_.out)
  clear rBx044_
  have ox053_ := Lib.hid (show OwU ((w7.alloc (.cells #[.int .i64 ir0_0, (.slice gr0_1p gr0_1n gr0_1c), .int .i64 ir0_2] 29))) (w4.heap.size + 1) (w5.heap.size) [] [own shFrame (.slice x00_1p x00_1n x00_1c) xs0_1] from OwU.grow ox045_.out al)
  clear ox045_
  have ox154_ := Lib.hid (show OwU ((w7.alloc (.cells #[.int .i64 ir0_0, (.slice gr0_1p gr0_1n gr0_1c), .int .i64 ir0_2] 29))) (w5.heap.size + 1) (w6.heap.size) [] [own shI (.slice x11p x11n x11c) xs1] from OwU.grow ox146_.out al)
  clear ox146_
  have og55_ := Lib.hid (show OwU ((w7.alloc (.cells #[.int .i64 ir0_0, (.slice gr0_1p gr0_1n gr0_1c), .int .i64 ir0_2] 29))) (w6.heap.size) (w7.heap.size) [] [own shFrame (.slice gr0_1p gr0_1n gr0_1c) xsr0_1] from OwU.grow og49_.out al)
  clear og49_
  have G56_ := Lib.hid (show (W).grownBy ((w7.alloc (.cells #[.int .i64 ir0_0, (.slice gr0_1p gr0_1n gr0_1c), .int .i64 ir0_2] 29))) none from gby_trans G47_.out al)
  have qw57_ := Lib.hid (show (w4).grownBy ((w7.alloc (.cells #[.int .i64 ir0_0, (.slice gr0_1p gr0_1n gr0_1c), .int .i64 ir0_2] 29))) none from gby_trans qw48_.out al)
  clear qw48_
  have rBg058_ := Lib.hid (show ((w7.alloc (.cells #[.int .i64 ir0_0, (.slice gr0_1p gr0_1n gr0_1c), .int .i64 ir0_2] 29))).heap[w7.heap.size]? = some (.cells #[.int .i64 ir0_0, (.slice gr0_1p gr0_1n gr0_1c), .int .i64 ir0_2] 29 (0, 0)) from by first | exact heap_alloc_new _ _ | exact heap_pair _ _ _ | exact heap_trip _ _ _ _)
  clear al
  have Bg0_0_ : ((w7.alloc (.cells #[.int .i64 ir0_0, (.slice gr0_1p gr0_1n gr0_1c), .int .i64 ir0_2] 29))).cell? ⟨w7.heap.size, 0, none⟩ = some (.int .i64 ir0_0) := cell_of_row _ _ 0 _ _ _ rBg058_.out
  have Bg0_1_ : ((w7.alloc (.cells #[.int .i64 ir0_0, (.slice gr0_1p gr0_1n gr0_1c), .int .i64 ir0_2] 29))).cell? ⟨w7.heap.size, 1, none⟩ = some ((.slice gr0_1p gr0_1n gr0_1c)) := cell_of_row _ _ 1 _ _ _ rBg058_.out
  have Bg0_2_ : ((w7.alloc (.cells #[.int .i64 ir0_0, (.slice gr0_1p gr0_1n gr0_1c), .int .i64 ir0_2] 29))).cell? ⟨w7.heap.size, 2, none⟩ = some (.int .i64 ir0_2) := cell_of_row _ _ 2 _ _ _ rBg058_.out
  have Bw0_0_ : ((w7.alloc (.cells #[.int .i64 ir0_0, (.slice gr0_1p gr0_1n gr0_1c), .int .i64 ir0_2] 29))).cell? ⟨w4.heap.size, 0, none⟩ = some (.int .i64 ir0_0) := cell_of_row _ _ 0 _ _ _ rBw051_.out
  have Bw0_1_ : ((w7.alloc (.cells #[.int .i64 ir0_0, (.slice gr0_1p gr0_1n gr0_1c), .int .i64 ir0_2] 29))).cell? ⟨w4.heap.size, 1, none⟩ = some ((.slice wr0_1p wr0_1n wr0_1c)) := cell_of_row _ _ 1 _ _ _ rBw051_.out
  have Bw0_2_ : ((w7.alloc (.cells #[.int .i64 ir0_0, (.slice gr0_1p gr0_1n gr0_1c), .int .i64 ir0_2] 29))).cell? ⟨w4.heap.size, 2, none⟩ = some (.int .i64 ir0_2) := cell_of_row _ _ 2 _ _ _ rBw051_.out
  go_wp2_with fail
  go_at_call 12
  refine (eqSender_d _ ir0_0 (.slice gr0_1p gr0_1n gr0_1c) ir0_2 (.slice wr0_1p wr0_1n wr0_1c) xsr0_1 (OwU.rd og55_.out) (RdL.grow rd16_.out qw57_.out) hLr0_1).mono ?_
  rintro e w8 ⟨rfl, g⟩
  have zs11 := World.grownBy.size g
  try simp only [World.size_alloc] at zs11
  clear Bg0_0_ Bg0_1_ Bg0_2_ Bw0_0_ Bw0_1_ Bw0_2_
  have rA059_ := Lib.hid (show (w8).heap[W.heap.size]? = some (.cells #[.int .i64 i0_0, a0_1, .int .i64 i0_2] 24 (0, 0)) from row_held g rA050_.out)
  clear rA050_
  have rBw060_ := Lib.hid (show (w8).heap[w4.heap.size]? = some (.cells #[.int .i64 ir0_0, (.slice wr0_1p wr0_1n wr0_1c), .int .i64 ir0_2] 29 (0, 0)) from row_held g rBw051_.out)
  clear rBw051_
  have rBx061_ := Lib.hid (show (w8).heap[w5.heap.size]? = some (.cells #[.int .i64 i0_0, (.slice x00_1p x00_1n x00_1c), .int .i64 i0_2] 29 (0, 0)) from row_held g rBx052_.out)
  clear rBx052_
  have rBg062_ := Lib.hid (show (w8).heap[w7.heap.size]? = some (.cells #[.int .i64 ir0_0, (.slice gr0_1p gr0_1n gr0_1c), .int .i64 ir0_2] 29 (0, 0)) from row_held g rBg058_.out)
  clear rBg058_
  have ox063_ := Lib.hid (show OwU (w8) (w4.heap.size + 1) (w5.heap.size) [] [own shFrame (.slice x00_1p x00_1n x00_1c) xs0_1] from OwU.grow ox053_.out g)
  clear ox053_
  have ox164_ := Lib.hid (show OwU (w8) (w5.heap.size + 1) (w6.heap.size) [] [own shI (.slice x11p x11n x11c) xs1] from OwU.grow ox154_.out g)
  clear ox154_
  have og65_ := Lib.hid (show OwU (w8) (w6.heap.size) (w7.heap.size) [] [own shFrame (.slice gr0_1p gr0_1n gr0_1c) xsr0_1] from OwU.grow og55_.out g)
  clear og55_
  have G66_ := Lib.hid (show (W).grownBy (w8) none from gby_trans G56_.out g)
  have qw67_ := Lib.hid (show (w4).grownBy (w8) none from gby_trans qw57_.out g)
  clear qw57_
  clear g
  have A0_0_ : (w8).cell? ⟨W.heap.size, 0, none⟩ = some (.int .i64 i0_0) := cell_of_row _ _ 0 _ _ _ rA059_.out
  have A0_1_ : (w8).cell? ⟨W.heap.size, 1, none⟩ = some (a0_1) := cell_of_row _ _ 1 _ _ _ rA059_.out
  have A0_2_ : (w8).cell? ⟨W.heap.size, 2, none⟩ = some (.int .i64 i0_2) := cell_of_row _ _ 2 _ _ _ rA059_.out
  have Bx0_0_ : (w8).cell? ⟨w5.heap.size, 0, none⟩ = some (.int .i64 i0_0) := cell_of_row _ _ 0 _ _ _ rBx061_.out
  have Bx0_1_ : (w8).cell? ⟨w5.heap.size, 1, none⟩ = some ((.slice x00_1p x00_1n x00_1c)) := cell_of_row _ _ 1 _ _ _ rBx061_.out
  have Bx0_2_ : (w8).cell? ⟨w5.heap.size, 2, none⟩ = some (.int .i64 i0_2) := cell_of_row _ _ 2 _ _ _ rBx061_.out
  go_wp2_with fail
  go_region_held3 (fun w' => w'.cell? ⟨W.heap.size, 0, none⟩ = some (.int .i64 i0_0) ∧ w'.cell? ⟨W.heap.size, 1, none⟩ = some (a0_1) ∧ w'.cell? ⟨W.heap.size, 2, none⟩ = some (.int .i64 i0_2) ∧ w'.cell? ⟨w5.heap.size, 0, none⟩ = some (.int .i64 i0_0) ∧ w'.cell? ⟨w5.heap.size, 1, none⟩ = some ((.slice x00_1p x00_1n x00_1c)) ∧ w'.cell? ⟨w5.heap.size, 2, none⟩ = some (.int .i64 i0_2))
    (first
      | exact ⟨A0_0_, A0_1_, A0_2_, Bx0_0_, Bx0_1_, Bx0_2_⟩
      | exact ⟨(gT.cell A0_0_ (by simp)), (gT.cell A0_1_ (by simp)), (gT.cell A0_2_ (by simp)), (gT.cell Bx0_0_ (by simp)), (gT.cell Bx0_1_ (by simp)), (gT.cell Bx0_2_ (by simp))⟩
      | exact ⟨(gE.cell (gT.cell A0_0_ (by simp)) (by simp)), (gE.cell (gT.cell A0_1_ (by simp)) (by simp)), (gE.cell (gT.cell A0_2_ (by simp)) (by simp)), (gE.cell (gT.cell Bx0_0_ (by simp)) (by simp)), (gE.cell (gT.cell Bx0_1_ (by simp)) (by simp)), (gE.cell (gT.cell Bx0_2_ (by simp)) (by simp))⟩)
    (first
      | (go_at_call 10; refine (toSender_d _ i0_0 a0_1 i0_2 xs0_1 (HI0_1.out.grow (gby_drew G66_.out)) hl0_1).mono ?_; rintro e wT1 ⟨t30_1, rfl, oT, gT⟩; obtain ⟨t30_1p, t30_1n, t30_1c, hv_⟩ := RdL.form ((OwU.rd oT)); subst hv_; try unfold vSender)
      | (go_at_call 12; refine (eqSender_d _ i0_0 (.slice x00_1p x00_1n x00_1c) i0_2 (.slice t30_1p t30_1n t30_1c) xs0_1 (RdL.grow (RdL.grow (OwU.rd ox063_.out) (gby_drew (gby_refl _ _))) gT) (OwU.rd oT) hl0_1).mono ?_; rintro e wE1 ⟨rfl, gE⟩))
  all_goals
    have g : (w8).grownBy wE1 none := gby_trans (gby_trans (gby_drew (gby_refl _ _)) gT) gE
    clear gT gE oT
    clear A0_0_ A0_1_ A0_2_ Bx0_0_ Bx0_1_ Bx0_2_
    have zs12 := World.grownBy.size g
    try simp only [World.size_alloc] at zs12
    have rA068_ := Lib.hid (show (wE1).heap[W.heap.size]? = some (.cells #[.int .i64 i0_0, a0_1, .int .i64 i0_2] 24 (0, 0)) from row_held g rA059_.out)
    clear rA059_
    have rBw069_ := Lib.hid (show (wE1).heap[w4.heap.size]? = some (.cells #[.int .i64 ir0_0, (.slice wr0_1p wr0_1n wr0_1c), .int .i64 ir0_2] 29 (0, 0)) from row_held g rBw060_.out)
    clear rBw060_
    have rBx070_ := Lib.hid (show (wE1).heap[w5.heap.size]? = some (.cells #[.int .i64 i0_0, (.slice x00_1p x00_1n x00_1c), .int .i64 i0_2] 29 (0, 0)) from row_held g rBx061_.out)
    clear rBx061_
    have rBg071_ := Lib.hid (show (wE1).heap[w7.heap.size]? = some (.cells #[.int .i64 ir0_0, (.slice gr0_1p gr0_1n gr0_1c), .int .i64 ir0_2] 29 (0, 0)) from row_held g rBg062_.out)
    clear rBg062_
    have ox072_ := Lib.hid (show OwU (wE1) (w4.heap.size + 1) (w5.heap.size) [] [own shFrame (.slice x00_1p x00_1n x00_1c) xs0_1] from OwU.grow ox063_.out g)
    clear ox063_
    have ox173_ := Lib.hid (show OwU (wE1) (w5.heap.size + 1) (w6.heap.size) [] [own shI (.slice x11p x11n x11c) xs1] from OwU.grow ox164_.out g)
    clear ox164_
    have og74_ := Lib.hid (show OwU (wE1) (w6.heap.size) (w7.heap.size) [] [own shFrame (.slice gr0_1p gr0_1n gr0_1c) xsr0_1] from OwU.grow og65_.out g)
    clear og65_
    have G75_ := Lib.hid (show (W).grownBy (wE1) none from gby_trans G66_.out g)
    have qw76_ := Lib.hid (show (w4).grownBy (wE1) none from gby_trans qw67_.out g)
    clear qw67_
    clear g
    go_wp2_with fail
    go_at_call 25
    refine (toIntS_d _ (.slice p1 n1 c1) xs1 (HI1.out.grow G75_.out) hl1).mono ?_
    rintro e w9 ⟨t41, rfl, o, g⟩
    have sz_ := g.size
    try simp only [World.size_alloc] at sz_
    try simp only [World.size_alloc] at o
    have zs13 := World.grownBy.size g
    try simp only [World.size_alloc] at zs13
    have rA077_ := Lib.hid (show (w9).heap[W.heap.size]? = some (.cells #[.int .i64 i0_0, a0_1, .int .i64 i0_2] 24 (0, 0)) from row_held g rA068_.out)
    clear rA068_
    have rBw078_ := Lib.hid (show (w9).heap[w4.heap.size]? = some (.cells #[.int .i64 ir0_0, (.slice wr0_1p wr0_1n wr0_1c), .int .i64 ir0_2] 29 (0, 0)) from row_held g rBw069_.out)
    clear rBw069_
    have rBx079_ := Lib.hid (show (w9).heap[w5.heap.size]? = some (.cells #[.int .i64 i0_0, (.slice x00_1p x00_1n x00_1c), .int .i64 i0_2] 29 (0, 0)) from row_held g rBx070_.out)
    clear rBx070_
    have rBg080_ := Lib.hid (show (w9).heap[w7.heap.size]? = some (.cells #[.int .i64 ir0_0, (.slice gr0_1p gr0_1n gr0_1c), .int .i64 ir0_2] 29 (0, 0)) from row_held g rBg071_.out)
    clear rBg071_
    have ox081_ := Lib.hid (show OwU (w9) (w4.heap.size + 1) (w5.heap.size) [] [own shFrame (.slice x00_1p x00_1n x00_1c) xs0_1] from OwU.grow ox072_.out g)
    clear ox072_
    have ox182_ := Lib.hid (show OwU (w9) (w5.heap.size + 1) (w6.heap.size) [] [own shI (.slice x11p x11n x11c) xs1] from OwU.grow ox173_.out g)
    clear ox173_
    have og83_ := Lib.hid (show OwU (w9) (w6.heap.size) (w7.heap.size) [] [own shFrame (.slice gr0_1p gr0_1n gr0_1c) xsr0_1] from OwU.grow og74_.out g)
    clear og74_
    have G84_ := Lib.hid (show (W).grownBy (w9) none from gby_trans G75_.out g)
    have qw85_ := Lib.hid (show (w4).grownBy (w9) none from gby_trans qw76_.out g)
    clear qw76_
    clear g
    have szw9 := sz_
    clear sz_
    obtain ⟨t41p, t41n, t41c, hv_⟩ := RdL.form (OwL.rd o)
    subst hv_
    have oT486_ := Lib.hid (show OwU (w9) (wE1.heap.size) (w9.heap.size) [] [own shI (.slice t41p t41n t41c) xs1] from OwU.one o)
    clear o
    go_wp2_with fail
    go_at_call 27
    refine (eqIntS_d _ (.slice x11p x11n x11c) (.slice t41p t41n t41c) xs1 (OwU.rd ox182_.out) (OwU.rd oT486_.out) hl1).mono ?_
    rintro e w10 ⟨rfl, g⟩
    have zs14 := World.grownBy.size g
    try simp only [World.size_alloc] at zs14
    have rA087_ := Lib.hid (show (w10).heap[W.heap.size]? = some (.cells #[.int .i64 i0_0, a0_1, .int .i64 i0_2] 24 (0, 0)) from row_held g rA077_.out)
    clear rA077_
    have rBw088_ := Lib.hid (show (w10).heap[w4.heap.size]? = some (.cells #[.int .i64 ir0_0, (.slice wr0_1p wr0_1n wr0_1c), .int .i64 ir0_2] 29 (0, 0)) from row_held g rBw078_.out)
    clear rBw078_
    have rBx089_ := Lib.hid (show (w10).heap[w5.heap.size]? = some (.cells #[.int .i64 i0_0, (.slice x00_1p x00_1n x00_1c), .int .i64 i0_2] 29 (0, 0)) from row_held g rBx079_.out)
    clear rBx079_
    have rBg090_ := Lib.hid (show (w10).heap[w7.heap.size]? = some (.cells #[.int .i64 ir0_0, (.slice gr0_1p gr0_1n gr0_1c), .int .i64 ir0_2] 29 (0, 0)) from row_held g rBg080_.out)
    clear rBg080_
    have ox091_ := Lib.hid (show OwU (w10) (w4.heap.size + 1) (w5.heap.size) [] [own shFrame (.slice x00_1p x00_1n x00_1c) xs0_1] from OwU.grow ox081_.out g)
    clear ox081_
    have ox192_ := Lib.hid (show OwU (w10) (w5.heap.size + 1) (w6.heap.size) [] [own shI (.slice x11p x11n x11c) xs1] from OwU.grow ox182_.out g)
    clear ox182_
    have og93_ := Lib.hid (show OwU (w10) (w6.heap.size) (w7.heap.size) [] [own shFrame (.slice gr0_1p gr0_1n gr0_1c) xsr0_1] from OwU.grow og83_.out g)
    clear og83_
    have oT494_ := Lib.hid (show OwU (w10) (wE1.heap.size) (w9.heap.size) [] [own shI (.slice t41p t41n t41c) xs1] from OwU.grow oT486_.out g)
    clear oT486_
    have G95_ := Lib.hid (show (W).grownBy (w10) none from gby_trans G84_.out g)
    have qw96_ := Lib.hid (show (w4).grownBy (w10) none from gby_trans qw85_.out g)
    clear qw85_
    clear g
    clear oT494_
    have Bx0_0_ : (w10).cell? ⟨w5.heap.size, 0, none⟩ = some (.int .i64 i0_0) := cell_of_row _ _ 0 _ _ _ rBx089_.out
    have Bx0_1_ : (w10).cell? ⟨w5.heap.size, 1, none⟩ = some ((.slice x00_1p x00_1n x00_1c)) := cell_of_row _ _ 1 _ _ _ rBx089_.out
    have Bx0_2_ : (w10).cell? ⟨w5.heap.size, 2, none⟩ = some (.int .i64 i0_2) := cell_of_row _ _ 2 _ _ _ rBx089_.out
    go_wp2_with fail
    go_at_call 15
    refine (markSender_d _ (w4.heap.size + 1) (w5.heap.size) (1) i0_0 (.slice x00_1p x00_1n x00_1c) i0_2 xs0_1 [] [] ox091_.out (by first | omega | (simp only [World.size_alloc]; omega)) hl0_1 (by omega)).mono ?_
    rintro e w11 ⟨rfl, o, c⟩
    clear Bx0_0_ Bx0_1_ Bx0_2_
    have szw11 := c.size
    try simp only [World.size_alloc] at szw11
    have rA097_ := Lib.hid (show (w11).heap[W.heap.size]? = some (.cells #[.int .i64 i0_0, a0_1, .int .i64 i0_2] 24 (0, 0)) from Chg.keep c rA087_.out (by omega))
    clear rA087_
    have rBw098_ := Lib.hid (show (w11).heap[w4.heap.size]? = some (.cells #[.int .i64 ir0_0, (.slice wr0_1p wr0_1n wr0_1c), .int .i64 ir0_2] 29 (0, 0)) from Chg.keep c rBw088_.out (by omega))
    clear rBw088_
    have rBx099_ := Lib.hid (show (w11).heap[w5.heap.size]? = some (.cells #[.int .i64 i0_0, (.slice x00_1p x00_1n x00_1c), .int .i64 i0_2] 29 (0, 0)) from Chg.keep c rBx089_.out (by omega))
    clear rBx089_
    have rBg0100_ := Lib.hid (show (w11).heap[w7.heap.size]? = some (.cells #[.int .i64 ir0_0, (.slice gr0_1p gr0_1n gr0_1c), .int .i64 ir0_2] 29 (0, 0)) from Chg.keep c rBg090_.out (by omega))
    clear rBg090_
    have ox1101_ := Lib.hid (show OwU (w11) (w5.heap.size + 1) (w6.heap.size) [] [own shI (.slice x11p x11n x11c) xs1] from OwU.keep c (by omega) ox192_.out)
    clear ox192_
    have og102_ := Lib.hid (show OwU (w11) (w6.heap.size) (w7.heap.size) [] [own shFrame (.slice gr0_1p gr0_1n gr0_1c) xsr0_1] from OwU.keep c (by omega) og93_.out)
    clear og93_
    have G103_ := Lib.hid (show (W).grownBy (w11) none from gby_chg G95_.out c (by omega))
    have qw104_ := Lib.hid (show (w4).grownBy (w11) none from gby_chg qw96_.out c (by omega))
    clear qw96_
    have ox0105_ := Lib.hid (show OwU (w11) (w4.heap.size + 1) (w5.heap.size) [] [own shFrame (.slice x00_1p x00_1n x00_1c) (emL shFrame (1) xs0_1)] from o)
    clear ox091_ o c
    obtain ⟨lo_, hi_, l_, u_, _, oo, ff⟩ := OwU.focus (pre := []) (p := own shI (.slice x11p x11n x11c) xs1) (post := []) ox1101_.out
    have FF := Lib.hid ff
    clear ff
    go_wp2_with fail
    go_at_call 28
    refine (markIntS_d _ lo_ hi_ (1 + ecL shFrame xs0_1) (.slice x11p x11n x11c) xs1 oo hl1 (by omega)).mono ?_
    rintro e w12 ⟨rfl, o, c⟩
    have o_ := c
    have c' := chg_wide c (lo' := w5.heap.size + 1) (hi' := w6.heap.size) l_ u_
    clear c
    have c := c'
    clear c'
    have szw12 := c.size
    try simp only [World.size_alloc] at szw12
    have rA0106_ := Lib.hid (show (w12).heap[W.heap.size]? = some (.cells #[.int .i64 i0_0, a0_1, .int .i64 i0_2] 24 (0, 0)) from Chg.keep c rA097_.out (by omega))
    clear rA097_
    have rBw0107_ := Lib.hid (show (w12).heap[w4.heap.size]? = some (.cells #[.int .i64 ir0_0, (.slice wr0_1p wr0_1n wr0_1c), .int .i64 ir0_2] 29 (0, 0)) from Chg.keep c rBw098_.out (by omega))
    clear rBw098_
    have rBx0108_ := Lib.hid (show (w12).heap[w5.heap.size]? = some (.cells #[.int .i64 i0_0, (.slice x00_1p x00_1n x00_1c), .int .i64 i0_2] 29 (0, 0)) from Chg.keep c rBx099_.out (by omega))
    clear rBx099_
    have rBg0109_ := Lib.hid (show (w12).heap[w7.heap.size]? = some (.cells #[.int .i64 ir0_0, (.slice gr0_1p gr0_1n gr0_1c), .int .i64 ir0_2] 29 (0, 0)) from Chg.keep c rBg0100_.out (by omega))
    clear rBg0100_
    have ox0110_ := Lib.hid (show OwU (w12) (w4.heap.size + 1) (w5.heap.size) [] [own shFrame (.slice x00_1p x00_1n x00_1c) (emL shFrame (1) xs0_1)] from OwU.keep c (by omega) ox0105_.out)
    clear ox0105_
    have og111_ := Lib.hid (show OwU (w12) (w6.heap.size) (w7.heap.size) [] [own shFrame (.slice gr0_1p gr0_1n gr0_1c) xsr0_1] from OwU.keep c (by omega) og102_.out)
    clear og102_
    have G112_ := Lib.hid (show (W).grownBy (w12) none from gby_chg G103_.out c (by omega))
    have qw113_ := Lib.hid (show (w4).grownBy (w12) none from gby_chg qw104_.out c (by omega))
    clear qw104_
    have ox1114_ := Lib.hid (show OwU (w12) (w5.heap.size + 1) (w6.heap.size) [] [own shI (.slice x11p x11n x11c) (emL shI (1 + ecL shFrame xs0_1) xs1)] from FF.out _ (own shI (.slice x11p x11n x11c) (emL shI (1 + ecL shFrame xs0_1) xs1)) o_ o)
    clear ox1101_ o c oo FF o_
    have Bg0_0_ : (w12).cell? ⟨w7.heap.size, 0, none⟩ = some (.int .i64 ir0_0) := cell_of_row _ _ 0 _ _ _ rBg0109_.out
    have Bg0_1_ : (w12).cell? ⟨w7.heap.size, 1, none⟩ = some ((.slice gr0_1p gr0_1n gr0_1c)) := cell_of_row _ _ 1 _ _ _ rBg0109_.out
    have Bg0_2_ : (w12).cell? ⟨w7.heap.size, 2, none⟩ = some (.int .i64 ir0_2) := cell_of_row _ _ 2 _ _ _ rBg0109_.out
    have Bw0_0_ : (w12).cell? ⟨w4.heap.size, 0, none⟩ = some (.int .i64 ir0_0) := cell_of_row _ _ 0 _ _ _ rBw0107_.out
    have Bw0_1_ : (w12).cell? ⟨w4.heap.size, 1, none⟩ = some ((.slice wr0_1p wr0_1n wr0_1c)) := cell_of_row _ _ 1 _ _ _ rBw0107_.out
    have Bw0_2_ : (w12).cell? ⟨w4.heap.size, 2, none⟩ = some (.int .i64 ir0_2) := cell_of_row _ _ 2 _ _ _ rBw0107_.out
    go_wp2_with fail
    go_at_call 12
    refine (eqSender_d _ ir0_0 (.slice gr0_1p gr0_1n gr0_1c) ir0_2 (.slice wr0_1p wr0_1n wr0_1c) xsr0_1 (OwU.rd og111_.out) (RdL.grow rd16_.out qw113_.out) hLr0_1).mono ?_
    rintro e w13 ⟨rfl, g⟩
    have zs15 := World.grownBy.size g
    try simp only [World.size_alloc] at zs15
    clear Bg0_0_ Bg0_1_ Bg0_2_ Bw0_0_ Bw0_1_ Bw0_2_
    have rA0115_ := Lib.hid (show (w13).heap[W.heap.size]? = some (.cells #[.int .i64 i0_0, a0_1, .int .i64 i0_2] 24 (0, 0)) from row_held g rA0106_.out)
    clear rA0106_
    have rBw0116_ := Lib.hid (show (w13).heap[w4.heap.size]? = some (.cells #[.int .i64 ir0_0, (.slice wr0_1p wr0_1n wr0_1c), .int .i64 ir0_2] 29 (0, 0)) from row_held g rBw0107_.out)
    clear rBw0107_
    have rBx0117_ := Lib.hid (show (w13).heap[w5.heap.size]? = some (.cells #[.int .i64 i0_0, (.slice x00_1p x00_1n x00_1c), .int .i64 i0_2] 29 (0, 0)) from row_held g rBx0108_.out)
    clear rBx0108_
    have rBg0118_ := Lib.hid (show (w13).heap[w7.heap.size]? = some (.cells #[.int .i64 ir0_0, (.slice gr0_1p gr0_1n gr0_1c), .int .i64 ir0_2] 29 (0, 0)) from row_held g rBg0109_.out)
    clear rBg0109_
    have ox0119_ := Lib.hid (show OwU (w13) (w4.heap.size + 1) (w5.heap.size) [] [own shFrame (.slice x00_1p x00_1n x00_1c) (emL shFrame (1) xs0_1)] from OwU.grow ox0110_.out g)
    clear ox0110_
    have ox1120_ := Lib.hid (show OwU (w13) (w5.heap.size + 1) (w6.heap.size) [] [own shI (.slice x11p x11n x11c) (emL shI (1 + ecL shFrame xs0_1) xs1)] from OwU.grow ox1114_.out g)
    clear ox1114_
    have og121_ := Lib.hid (show OwU (w13) (w6.heap.size) (w7.heap.size) [] [own shFrame (.slice gr0_1p gr0_1n gr0_1c) xsr0_1] from OwU.grow og111_.out g)
    clear og111_
    have G122_ := Lib.hid (show (W).grownBy (w13) none from gby_trans G112_.out g)
    have qw123_ := Lib.hid (show (w4).grownBy (w13) none from gby_trans qw113_.out g)
    clear qw113_
    clear g
    have Bg0_0_ : (w13).cell? ⟨w7.heap.size, 0, none⟩ = some (.int .i64 ir0_0) := cell_of_row _ _ 0 _ _ _ rBg0118_.out
    have Bg0_1_ : (w13).cell? ⟨w7.heap.size, 1, none⟩ = some ((.slice gr0_1p gr0_1n gr0_1c)) := cell_of_row _ _ 1 _ _ _ rBg0118_.out
    have Bg0_2_ : (w13).cell? ⟨w7.heap.size, 2, none⟩ = some (.int .i64 ir0_2) := cell_of_row _ _ 2 _ _ _ rBg0118_.out
    go_wp2_with fail
    go_at_call 15
    refine (markSender_d _ (w6.heap.size) (w7.heap.size) (1) ir0_0 (.slice gr0_1p gr0_1n gr0_1c) ir0_2 xsr0_1 [] [] og121_.out (by first | omega | (simp only [World.size_alloc]; omega)) hLr0_1 (by omega)).mono ?_
    rintro e w14 ⟨rfl, o, c⟩
    clear Bg0_0_ Bg0_1_ Bg0_2_
    have szw14 := c.size
    try simp only [World.size_alloc] at szw14
    have rA0124_ := Lib.hid (show (w14).heap[W.heap.size]? = some (.cells #[.int .i64 i0_0, a0_1, .int .i64 i0_2] 24 (0, 0)) from Chg.keep c rA0115_.out (by omega))
    clear rA0115_
    have rBw0125_ := Lib.hid (show (w14).heap[w4.heap.size]? = some (.cells #[.int .i64 ir0_0, (.slice wr0_1p wr0_1n wr0_1c), .int .i64 ir0_2] 29 (0, 0)) from Chg.keep c rBw0116_.out (by omega))
    clear rBw0116_
    have rBx0126_ := Lib.hid (show (w14).heap[w5.heap.size]? = some (.cells #[.int .i64 i0_0, (.slice x00_1p x00_1n x00_1c), .int .i64 i0_2] 29 (0, 0)) from Chg.keep c rBx0117_.out (by omega))
    clear rBx0117_
    have rBg0127_ := Lib.hid (show (w14).heap[w7.heap.size]? = some (.cells #[.int .i64 ir0_0, (.slice gr0_1p gr0_1n gr0_1c), .int .i64 ir0_2] 29 (0, 0)) from Chg.keep c rBg0118_.out (by omega))
    clear rBg0118_
    have ox0128_ := Lib.hid (show OwU (w14) (w4.heap.size + 1) (w5.heap.size) [] [own shFrame (.slice x00_1p x00_1n x00_1c) (emL shFrame (1) xs0_1)] from OwU.keep c (by omega) ox0119_.out)
    clear ox0119_
    have ox1129_ := Lib.hid (show OwU (w14) (w5.heap.size + 1) (w6.heap.size) [] [own shI (.slice x11p x11n x11c) (emL shI (1 + ecL shFrame xs0_1) xs1)] from OwU.keep c (by omega) ox1120_.out)
    clear ox1120_
    have G130_ := Lib.hid (show (W).grownBy (w14) none from gby_chg G122_.out c (by omega))
    have qw131_ := Lib.hid (show (w4).grownBy (w14) none from gby_chg qw123_.out c (by omega))
    clear qw123_
    have og132_ := Lib.hid (show OwU (w14) (w6.heap.size) (w7.heap.size) [] [own shFrame (.slice gr0_1p gr0_1n gr0_1c) (emL shFrame (1) xsr0_1)] from o)
    clear og121_ o c
    have Bg0_0_ : (w14).cell? ⟨w7.heap.size, 0, none⟩ = some (.int .i64 ir0_0) := cell_of_row _ _ 0 _ _ _ rBg0127_.out
    have Bg0_1_ : (w14).cell? ⟨w7.heap.size, 1, none⟩ = some ((.slice gr0_1p gr0_1n gr0_1c)) := cell_of_row _ _ 1 _ _ _ rBg0127_.out
    have Bg0_2_ : (w14).cell? ⟨w7.heap.size, 2, none⟩ = some (.int .i64 ir0_2) := cell_of_row _ _ 2 _ _ _ rBg0127_.out
    go_wp2_with fail
    go_at_call 16
    refine (heldSender_d _ (1) ir0_0 (.slice gr0_1p gr0_1n gr0_1c) ir0_2 xsr0_1 (OwU.rd og132_.out) hLr0_1 (by omega)).mono ?_
    rintro e w15 ⟨rfl, g⟩
    have zs16 := World.grownBy.size g
    try simp only [World.size_alloc] at zs16
    clear Bg0_0_ Bg0_1_ Bg0_2_
    have rA0133_ := Lib.hid (show (w15).heap[W.heap.size]? = some (.cells #[.int .i64 i0_0, a0_1, .int .i64 i0_2] 24 (0, 0)) from row_held g rA0124_.out)
    clear rA0124_
    have rBw0134_ := Lib.hid (show (w15).heap[w4.heap.size]? = some (.cells #[.int .i64 ir0_0, (.slice wr0_1p wr0_1n wr0_1c), .int .i64 ir0_2] 29 (0, 0)) from row_held g rBw0125_.out)
    clear rBw0125_
    have rBx0135_ := Lib.hid (show (w15).heap[w5.heap.size]? = some (.cells #[.int .i64 i0_0, (.slice x00_1p x00_1n x00_1c), .int .i64 i0_2] 29 (0, 0)) from row_held g rBx0126_.out)
    clear rBx0126_
    have rBg0136_ := Lib.hid (show (w15).heap[w7.heap.size]? = some (.cells #[.int .i64 ir0_0, (.slice gr0_1p gr0_1n gr0_1c), .int .i64 ir0_2] 29 (0, 0)) from row_held g rBg0127_.out)
    clear rBg0127_
    have ox0137_ := Lib.hid (show OwU (w15) (w4.heap.size + 1) (w5.heap.size) [] [own shFrame (.slice x00_1p x00_1n x00_1c) (emL shFrame (1) xs0_1)] from OwU.grow ox0128_.out g)
    clear ox0128_
    have ox1138_ := Lib.hid (show OwU (w15) (w5.heap.size + 1) (w6.heap.size) [] [own shI (.slice x11p x11n x11c) (emL shI (1 + ecL shFrame xs0_1) xs1)] from OwU.grow ox1129_.out g)
    clear ox1129_
    have og139_ := Lib.hid (show OwU (w15) (w6.heap.size) (w7.heap.size) [] [own shFrame (.slice gr0_1p gr0_1n gr0_1c) (emL shFrame (1) xsr0_1)] from OwU.grow og132_.out g)
    clear og132_
    have G140_ := Lib.hid (show (W).grownBy (w15) none from gby_trans G130_.out g)
    have qw141_ := Lib.hid (show (w4).grownBy (w15) none from gby_trans qw131_.out g)
    clear qw131_
    clear g
    have ng15 : ¬ (((1 + ecL shFrame xsr0_1 : Nat) : Int) < 0) := by omega
    have A0_0_ : (w15).cell? ⟨W.heap.size, 0, none⟩ = some (.int .i64 i0_0) := cell_of_row _ _ 0 _ _ _ rA0133_.out
    have A0_1_ : (w15).cell? ⟨W.heap.size, 1, none⟩ = some (a0_1) := cell_of_row _ _ 1 _ _ _ rA0133_.out
    have A0_2_ : (w15).cell? ⟨W.heap.size, 2, none⟩ = some (.int .i64 i0_2) := cell_of_row _ _ 2 _ _ _ rA0133_.out
    go_wp2_with fail
    go_at_call 10
    refine (toSender_d _ i0_0 a0_1 i0_2 xs0_1 (HI0_1.out.grow G140_.out) hl0_1).mono ?_
    rintro e w16 ⟨t50_1, rfl, o, g⟩
    have sz_ := g.size
    try simp only [World.size_alloc] at sz_
    try simp only [World.size_alloc] at o
    have zs17 := World.grownBy.size g
    try simp only [World.size_alloc] at zs17
    clear A0_0_ A0_1_ A0_2_
    have rA0142_ := Lib.hid (show (w16).heap[W.heap.size]? = some (.cells #[.int .i64 i0_0, a0_1, .int .i64 i0_2] 24 (0, 0)) from row_held g rA0133_.out)
    clear rA0133_
    have rBw0143_ := Lib.hid (show (w16).heap[w4.heap.size]? = some (.cells #[.int .i64 ir0_0, (.slice wr0_1p wr0_1n wr0_1c), .int .i64 ir0_2] 29 (0, 0)) from row_held g rBw0134_.out)
    clear rBw0134_
    have rBx0144_ := Lib.hid (show (w16).heap[w5.heap.size]? = some (.cells #[.int .i64 i0_0, (.slice x00_1p x00_1n x00_1c), .int .i64 i0_2] 29 (0, 0)) from row_held g rBx0135_.out)
    clear rBx0135_
    have rBg0145_ := Lib.hid (show (w16).heap[w7.heap.size]? = some (.cells #[.int .i64 ir0_0, (.slice gr0_1p gr0_1n gr0_1c), .int .i64 ir0_2] 29 (0, 0)) from row_held g rBg0136_.out)
    clear rBg0136_
    have ox0146_ := Lib.hid (show OwU (w16) (w4.heap.size + 1) (w5.heap.size) [] [own shFrame (.slice x00_1p x00_1n x00_1c) (emL shFrame (1) xs0_1)] from OwU.grow ox0137_.out g)
    clear ox0137_
    have ox1147_ := Lib.hid (show OwU (w16) (w5.heap.size + 1) (w6.heap.size) [] [own shI (.slice x11p x11n x11c) (emL shI (1 + ecL shFrame xs0_1) xs1)] from OwU.grow ox1138_.out g)
    clear ox1138_
    have og148_ := Lib.hid (show OwU (w16) (w6.heap.size) (w7.heap.size) [] [own shFrame (.slice gr0_1p gr0_1n gr0_1c) (emL shFrame (1) xsr0_1)] from OwU.grow og139_.out g)
    clear og139_
    have G149_ := Lib.hid (show (W).grownBy (w16) none from gby_trans G140_.out g)
    have qw150_ := Lib.hid (show (w4).grownBy (w16) none from gby_trans qw141_.out g)
    clear qw141_
    clear g
    have szw16 := sz_
    clear sz_
    obtain ⟨t50_1p, t50_1n, t50_1c, hv_⟩ := RdL.form (OwU.rd o)
    subst hv_
    have oT5151_ := Lib.hid (show OwU (w16) (w15.heap.size) (w16.heap.size) [] [own shFrame (.slice t50_1p t50_1n t50_1c) xs0_1] from o)
    clear o
    try unfold vSender
    go_wp2_with fail
    go_at_call 25
    refine (toIntS_d _ (.slice p1 n1 c1) xs1 (HI1.out.grow G149_.out) hl1).mono ?_
    rintro e w17 ⟨t61, rfl, o, g⟩
    have sz_ := g.size
    try simp only [World.size_alloc] at sz_
    try simp only [World.size_alloc] at o
    have zs18 := World.grownBy.size g
    try simp only [World.size_alloc] at zs18
    have rA0152_ := Lib.hid (show (w17).heap[W.heap.size]? = some (.cells #[.int .i64 i0_0, a0_1, .int .i64 i0_2] 24 (0, 0)) from row_held g rA0142_.out)
    clear rA0142_
    have rBw0153_ := Lib.hid (show (w17).heap[w4.heap.size]? = some (.cells #[.int .i64 ir0_0, (.slice wr0_1p wr0_1n wr0_1c), .int .i64 ir0_2] 29 (0, 0)) from row_held g rBw0143_.out)
    clear rBw0143_
    have rBx0154_ := Lib.hid (show (w17).heap[w5.heap.size]? = some (.cells #[.int .i64 i0_0, (.slice x00_1p x00_1n x00_1c), .int .i64 i0_2] 29 (0, 0)) from row_held g rBx0144_.out)
    clear rBx0144_
    have rBg0155_ := Lib.hid (show (w17).heap[w7.heap.size]? = some (.cells #[.int .i64 ir0_0, (.slice gr0_1p gr0_1n gr0_1c), .int .i64 ir0_2] 29 (0, 0)) from row_held g rBg0145_.out)
    clear rBg0145_
    have ox0156_ := Lib.hid (show OwU (w17) (w4.heap.size + 1) (w5.heap.size) [] [own shFrame (.slice x00_1p x00_1n x00_1c) (emL shFrame (1) xs0_1)] from OwU.grow ox0146_.out g)
    clear ox0146_
    have ox1157_ := Lib.hid (show OwU (w17) (w5.heap.size + 1) (w6.heap.size) [] [own shI (.slice x11p x11n x11c) (emL shI (1 + ecL shFrame xs0_1) xs1)] from OwU.grow ox1147_.out g)
    clear ox1147_
    have og158_ := Lib.hid (show OwU (w17) (w6.heap.size) (w7.heap.size) [] [own shFrame (.slice gr0_1p gr0_1n gr0_1c) (emL shFrame (1) xsr0_1)] from OwU.grow og148_.out g)
    clear og148_
    have oT5159_ := Lib.hid (show OwU (w17) (w15.heap.size) (w16.heap.size) [] [own shFrame (.slice t50_1p t50_1n t50_1c) xs0_1] from OwU.grow oT5151_.out g)
    clear oT5151_
    have G160_ := Lib.hid (show (W).grownBy (w17) none from gby_trans G149_.out g)
    have qw161_ := Lib.hid (show (w4).grownBy (w17) none from gby_trans qw150_.out g)
    clear qw150_
    clear g
    have szw17 := sz_
    clear sz_
    obtain ⟨t61p, t61n, t61c, hv_⟩ := RdL.form (OwL.rd o)
    subst hv_
    have oT6162_ := Lib.hid (show OwU (w17) (w16.heap.size) (w17.heap.size) [] [own shI (.slice t61p t61n t61c) xs1] from OwU.one o)
    clear o
    go_wp2_with fail
    go_at_call 26
    refine (HM.out _ (.slice t50_1p t50_1n t50_1c) (.slice t61p t61n t61c) (OwU.rd oT5159_.out) (OwU.rd oT6162_.out)).mono ?_
    rintro e w18 ⟨hr0_1, rfl, o, g⟩
    have sz_ := g.size
    try simp only [World.size_alloc] at sz_
    try simp only [World.size_alloc] at o
    have zs19 := World.grownBy.size g
    try simp only [World.size_alloc] at zs19
    have rA0163_ := Lib.hid (show (w18).heap[W.heap.size]? = some (.cells #[.int .i64 i0_0, a0_1, .int .i64 i0_2] 24 (0, 0)) from row_held g rA0152_.out)
    clear rA0152_
    have rBw0164_ := Lib.hid (show (w18).heap[w4.heap.size]? = some (.cells #[.int .i64 ir0_0, (.slice wr0_1p wr0_1n wr0_1c), .int .i64 ir0_2] 29 (0, 0)) from row_held g rBw0153_.out)
    clear rBw0153_
    have rBx0165_ := Lib.hid (show (w18).heap[w5.heap.size]? = some (.cells #[.int .i64 i0_0, (.slice x00_1p x00_1n x00_1c), .int .i64 i0_2] 29 (0, 0)) from row_held g rBx0154_.out)
    clear rBx0154_
    have rBg0166_ := Lib.hid (show (w18).heap[w7.heap.size]? = some (.cells #[.int .i64 ir0_0, (.slice gr0_1p gr0_1n gr0_1c), .int .i64 ir0_2] 29 (0, 0)) from row_held g rBg0155_.out)
    clear rBg0155_
    have ox0167_ := Lib.hid (show OwU (w18) (w4.heap.size + 1) (w5.heap.size) [] [own shFrame (.slice x00_1p x00_1n x00_1c) (emL shFrame (1) xs0_1)] from OwU.grow ox0156_.out g)
    clear ox0156_
    have ox1168_ := Lib.hid (show OwU (w18) (w5.heap.size + 1) (w6.heap.size) [] [own shI (.slice x11p x11n x11c) (emL shI (1 + ecL shFrame xs0_1) xs1)] from OwU.grow ox1157_.out g)
    clear ox1157_
    have og169_ := Lib.hid (show OwU (w18) (w6.heap.size) (w7.heap.size) [] [own shFrame (.slice gr0_1p gr0_1n gr0_1c) (emL shFrame (1) xsr0_1)] from OwU.grow og158_.out g)
    clear og158_
    have oT5170_ := Lib.hid (show OwU (w18) (w15.heap.size) (w16.heap.size) [] [own shFrame (.slice t50_1p t50_1n t50_1c) xs0_1] from OwU.grow oT5159_.out g)
    clear oT5159_
    have oT6171_ := Lib.hid (show OwU (w18) (w16.heap.size) (w17.heap.size) [] [own shI (.slice t61p t61n t61c) xs1] from OwU.grow oT6162_.out g)
    clear oT6162_
    have G172_ := Lib.hid (show (W).grownBy (w18) none from gby_trans G160_.out g)
    have qw173_ := Lib.hid (show (w4).grownBy (w18) none from gby_trans qw161_.out g)
    clear qw161_
    clear g
    have szw18 := sz_
    clear sz_
    obtain ⟨hr0_1p, hr0_1n, hr0_1c, hv_⟩ := RdL.form (OwU.rd o)
    subst hv_
    have oh174_ := Lib.hid (show OwU (w18) (w17.heap.size) (w18.heap.size) [] [own shFrame (.slice hr0_1p hr0_1n hr0_1c) xsr0_1] from o)
    clear o
    have al : (w18).grownBy ((w18).alloc (.cells #[.int .i64 ir0_0, (.slice hr0_1p hr0_1n hr0_1c), .int .i64 ir0_2] 29)) none := gby_alloc (gby_refl _ _) _
    have zs20 := World.grownBy.size al
    try simp only [World.size_alloc] at zs20
    have rA0175_ := Lib.hid (show ((w18.alloc (.cells #[.int .i64 ir0_0, (.slice hr0_1p hr0_1n hr0_1c), .int .i64 ir0_2] 29))).heap[W.heap.size]? = some (.cells #[.int .i64 i0_0, a0_1, .int .i64 i0_2] 24 (0, 0)) from row_held al rA0163_.out)
    clear rA0163_
    have rBw0176_ := Lib.hid (show ((w18.alloc (.cells #[.int .i64 ir0_0, (.slice hr0_1p hr0_1n hr0_1c), .int .i64 ir0_2] 29))).heap[w4.heap.size]? = some (.cells #[.int .i64 ir0_0, (.slice wr0_1p wr0_1n wr0_1c), .int .i64 ir0_2] 29 (0, 0)) from row_held al rBw0164_.out)
    clear rBw0164_
    have rBx0177_ := Lib.hid (show ((w18.alloc (.cells #[.int .i64 ir0_0, (.slice hr0_1p hr0_1n hr0_1c), .int .i64 ir0_2] 29))).heap[w5.heap.size]? = some (.cells #[.int .i64 i0_0, (.slice x00_1p x00_1n x00_1c), .int .i64 i0_2] 29 (0, 0)) from row_held al rBx0165_.out)
    clear rBx0165_
    have rBg0178_ := Lib.hid (show ((w18.alloc (.cells #[.int .i64 ir0_0, (.slice hr0_1p hr0_1n hr0_1c), .int .i64 ir0_2] 29))).heap[w7.heap.size]? = some (.cells #[.int .i64 ir0_0, (.slice gr0_1p gr0_1n gr0_1c), .int .i64 ir0_2] 29 (0, 0)) from row_held al rBg0166_.out)
    clear rBg0166_
    have ox0179_ := Lib.hid (show OwU ((w18.alloc (.cells #[.int .i64 ir0_0, (.slice hr0_1p hr0_1n hr0_1c), .int .i64 ir0_2] 29))) (w4.heap.size + 1) (w5.heap.size) [] [own shFrame (.slice x00_1p x00_1n x00_1c) (emL shFrame (1) xs0_1)] from OwU.grow ox0167_.out al)
    clear ox0167_
    have ox1180_ := Lib.hid (show OwU ((w18.alloc (.cells #[.int .i64 ir0_0, (.slice hr0_1p hr0_1n hr0_1c), .int .i64 ir0_2] 29))) (w5.heap.size + 1) (w6.heap.size) [] [own shI (.slice x11p x11n x11c) (emL shI (1 + ecL shFrame xs0_1) xs1)] from OwU.grow ox1168_.out al)
    clear ox1168_
    have og181_ := Lib.hid (show OwU ((w18.alloc (.cells #[.int .i64 ir0_0, (.slice hr0_1p hr0_1n hr0_1c), .int .i64 ir0_2] 29))) (w6.heap.size) (w7.heap.size) [] [own shFrame (.slice gr0_1p gr0_1n gr0_1c) (emL shFrame (1) xsr0_1)] from OwU.grow og169_.out al)
    clear og169_
    have oT5182_ := Lib.hid (show OwU ((w18.alloc (.cells #[.int .i64 ir0_0, (.slice hr0_1p hr0_1n hr0_1c), .int .i64 ir0_2] 29))) (w15.heap.size) (w16.heap.size) [] [own shFrame (.slice t50_1p t50_1n t50_1c) xs0_1] from OwU.grow oT5170_.out al)
    clear oT5170_
    have oT6183_ := Lib.hid (show OwU ((w18.alloc (.cells #[.int .i64 ir0_0, (.slice hr0_1p hr0_1n hr0_1c), .int .i64 ir0_2] 29))) (w16.heap.size) (w17.heap.size) [] [own shI (.slice t61p t61n t61c) xs1] from OwU.grow oT6171_.out al)
    clear oT6171_
    have oh184_ := Lib.hid (show OwU ((w18.alloc (.cells #[.int .i64 ir0_0, (.slice hr0_1p hr0_1n hr0_1c), .int .i64 ir0_2] 29))) (w17.heap.size) (w18.heap.size) [] [own shFrame (.slice hr0_1p hr0_1n hr0_1c) xsr0_1] from OwU.grow oh174_.out al)
    clear oh174_
    have G185_ := Lib.hid (show (W).grownBy ((w18.alloc (.cells #[.int .i64 ir0_0, (.slice hr0_1p hr0_1n hr0_1c), .int .i64 ir0_2] 29))) none from gby_trans G172_.out al)
    have qw186_ := Lib.hid (show (w4).grownBy ((w18.alloc (.cells #[.int .i64 ir0_0, (.slice hr0_1p hr0_1n hr0_1c), .int .i64 ir0_2] 29))) none from gby_trans qw173_.out al)
    clear qw173_
    have rBh0187_ := Lib.hid (show ((w18.alloc (.cells #[.int .i64 ir0_0, (.slice hr0_1p hr0_1n hr0_1c), .int .i64 ir0_2] 29))).heap[w18.heap.size]? = some (.cells #[.int .i64 ir0_0, (.slice hr0_1p hr0_1n hr0_1c), .int .i64 ir0_2] 29 (0, 0)) from by first | exact heap_alloc_new _ _ | exact heap_pair _ _ _ | exact heap_trip _ _ _ _)
    clear al
    clear oT5182_
    clear oT6183_
    have Bh0_0_ : ((w18.alloc (.cells #[.int .i64 ir0_0, (.slice hr0_1p hr0_1n hr0_1c), .int .i64 ir0_2] 29))).cell? ⟨w18.heap.size, 0, none⟩ = some (.int .i64 ir0_0) := cell_of_row _ _ 0 _ _ _ rBh0187_.out
    have Bh0_1_ : ((w18.alloc (.cells #[.int .i64 ir0_0, (.slice hr0_1p hr0_1n hr0_1c), .int .i64 ir0_2] 29))).cell? ⟨w18.heap.size, 1, none⟩ = some ((.slice hr0_1p hr0_1n hr0_1c)) := cell_of_row _ _ 1 _ _ _ rBh0187_.out
    have Bh0_2_ : ((w18.alloc (.cells #[.int .i64 ir0_0, (.slice hr0_1p hr0_1n hr0_1c), .int .i64 ir0_2] 29))).cell? ⟨w18.heap.size, 2, none⟩ = some (.int .i64 ir0_2) := cell_of_row _ _ 2 _ _ _ rBh0187_.out
    have Bw0_0_ : ((w18.alloc (.cells #[.int .i64 ir0_0, (.slice hr0_1p hr0_1n hr0_1c), .int .i64 ir0_2] 29))).cell? ⟨w4.heap.size, 0, none⟩ = some (.int .i64 ir0_0) := cell_of_row _ _ 0 _ _ _ rBw0176_.out
    have Bw0_1_ : ((w18.alloc (.cells #[.int .i64 ir0_0, (.slice hr0_1p hr0_1n hr0_1c), .int .i64 ir0_2] 29))).cell? ⟨w4.heap.size, 1, none⟩ = some ((.slice wr0_1p wr0_1n wr0_1c)) := cell_of_row _ _ 1 _ _ _ rBw0176_.out
    have Bw0_2_ : ((w18.alloc (.cells #[.int .i64 ir0_0, (.slice hr0_1p hr0_1n hr0_1c), .int .i64 ir0_2] 29))).cell? ⟨w4.heap.size, 2, none⟩ = some (.int .i64 ir0_2) := cell_of_row _ _ 2 _ _ _ rBw0176_.out
    go_wp2_with fail
    go_at_call 12
    refine (eqSender_d _ ir0_0 (.slice hr0_1p hr0_1n hr0_1c) ir0_2 (.slice wr0_1p wr0_1n wr0_1c) xsr0_1 (OwU.rd oh184_.out) (RdL.grow rd16_.out qw186_.out) hLr0_1).mono ?_
    rintro e w19 ⟨rfl, g⟩
    have zs21 := World.grownBy.size g
    try simp only [World.size_alloc] at zs21
    clear Bh0_0_ Bh0_1_ Bh0_2_ Bw0_0_ Bw0_1_ Bw0_2_
    have rA0188_ := Lib.hid (show (w19).heap[W.heap.size]? = some (.cells #[.int .i64 i0_0, a0_1, .int .i64 i0_2] 24 (0, 0)) from row_held g rA0175_.out)
    clear rA0175_
    have rBw0189_ := Lib.hid (show (w19).heap[w4.heap.size]? = some (.cells #[.int .i64 ir0_0, (.slice wr0_1p wr0_1n wr0_1c), .int .i64 ir0_2] 29 (0, 0)) from row_held g rBw0176_.out)
    clear rBw0176_
    have rBx0190_ := Lib.hid (show (w19).heap[w5.heap.size]? = some (.cells #[.int .i64 i0_0, (.slice x00_1p x00_1n x00_1c), .int .i64 i0_2] 29 (0, 0)) from row_held g rBx0177_.out)
    clear rBx0177_
    have rBg0191_ := Lib.hid (show (w19).heap[w7.heap.size]? = some (.cells #[.int .i64 ir0_0, (.slice gr0_1p gr0_1n gr0_1c), .int .i64 ir0_2] 29 (0, 0)) from row_held g rBg0178_.out)
    clear rBg0178_
    have rBh0192_ := Lib.hid (show (w19).heap[w18.heap.size]? = some (.cells #[.int .i64 ir0_0, (.slice hr0_1p hr0_1n hr0_1c), .int .i64 ir0_2] 29 (0, 0)) from row_held g rBh0187_.out)
    clear rBh0187_
    have ox0193_ := Lib.hid (show OwU (w19) (w4.heap.size + 1) (w5.heap.size) [] [own shFrame (.slice x00_1p x00_1n x00_1c) (emL shFrame (1) xs0_1)] from OwU.grow ox0179_.out g)
    clear ox0179_
    have ox1194_ := Lib.hid (show OwU (w19) (w5.heap.size + 1) (w6.heap.size) [] [own shI (.slice x11p x11n x11c) (emL shI (1 + ecL shFrame xs0_1) xs1)] from OwU.grow ox1180_.out g)
    clear ox1180_
    have og195_ := Lib.hid (show OwU (w19) (w6.heap.size) (w7.heap.size) [] [own shFrame (.slice gr0_1p gr0_1n gr0_1c) (emL shFrame (1) xsr0_1)] from OwU.grow og181_.out g)
    clear og181_
    have oh196_ := Lib.hid (show OwU (w19) (w17.heap.size) (w18.heap.size) [] [own shFrame (.slice hr0_1p hr0_1n hr0_1c) xsr0_1] from OwU.grow oh184_.out g)
    clear oh184_
    have G197_ := Lib.hid (show (W).grownBy (w19) none from gby_trans G185_.out g)
    have qw198_ := Lib.hid (show (w4).grownBy (w19) none from gby_trans qw186_.out g)
    clear qw186_
    clear g
    have Bg0_0_ : (w19).cell? ⟨w7.heap.size, 0, none⟩ = some (.int .i64 ir0_0) := cell_of_row _ _ 0 _ _ _ rBg0191_.out
    have Bg0_1_ : (w19).cell? ⟨w7.heap.size, 1, none⟩ = some ((.slice gr0_1p gr0_1n gr0_1c)) := cell_of_row _ _ 1 _ _ _ rBg0191_.out
    have Bg0_2_ : (w19).cell? ⟨w7.heap.size, 2, none⟩ = some (.int .i64 ir0_2) := cell_of_row _ _ 2 _ _ _ rBg0191_.out
    go_wp2_with fail
    go_at_call 16
    refine (heldSender_d _ (1) ir0_0 (.slice gr0_1p gr0_1n gr0_1c) ir0_2 xsr0_1 (OwU.rd og195_.out) hLr0_1 (by omega)).mono ?_
    rintro e w20 ⟨rfl, g⟩
    have zs22 := World.grownBy.size g
    try simp only [World.size_alloc] at zs22
    clear Bg0_0_ Bg0_1_ Bg0_2_
    have rA0199_ := Lib.hid (show (w20).heap[W.heap.size]? = some (.cells #[.int .i64 i0_0, a0_1, .int .i64 i0_2] 24 (0, 0)) from row_held g rA0188_.out)
    clear rA0188_
    have rBw0200_ := Lib.hid (show (w20).heap[w4.heap.size]? = some (.cells #[.int .i64 ir0_0, (.slice wr0_1p wr0_1n wr0_1c), .int .i64 ir0_2] 29 (0, 0)) from row_held g rBw0189_.out)
    clear rBw0189_
    have rBx0201_ := Lib.hid (show (w20).heap[w5.heap.size]? = some (.cells #[.int .i64 i0_0, (.slice x00_1p x00_1n x00_1c), .int .i64 i0_2] 29 (0, 0)) from row_held g rBx0190_.out)
    clear rBx0190_
    have rBg0202_ := Lib.hid (show (w20).heap[w7.heap.size]? = some (.cells #[.int .i64 ir0_0, (.slice gr0_1p gr0_1n gr0_1c), .int .i64 ir0_2] 29 (0, 0)) from row_held g rBg0191_.out)
    clear rBg0191_
    have rBh0203_ := Lib.hid (show (w20).heap[w18.heap.size]? = some (.cells #[.int .i64 ir0_0, (.slice hr0_1p hr0_1n hr0_1c), .int .i64 ir0_2] 29 (0, 0)) from row_held g rBh0192_.out)
    clear rBh0192_
    have ox0204_ := Lib.hid (show OwU (w20) (w4.heap.size + 1) (w5.heap.size) [] [own shFrame (.slice x00_1p x00_1n x00_1c) (emL shFrame (1) xs0_1)] from OwU.grow ox0193_.out g)
    clear ox0193_
    have ox1205_ := Lib.hid (show OwU (w20) (w5.heap.size + 1) (w6.heap.size) [] [own shI (.slice x11p x11n x11c) (emL shI (1 + ecL shFrame xs0_1) xs1)] from OwU.grow ox1194_.out g)
    clear ox1194_
    have og206_ := Lib.hid (show OwU (w20) (w6.heap.size) (w7.heap.size) [] [own shFrame (.slice gr0_1p gr0_1n gr0_1c) (emL shFrame (1) xsr0_1)] from OwU.grow og195_.out g)
    clear og195_
    have oh207_ := Lib.hid (show OwU (w20) (w17.heap.size) (w18.heap.size) [] [own shFrame (.slice hr0_1p hr0_1n hr0_1c) xsr0_1] from OwU.grow oh196_.out g)
    clear oh196_
    have G208_ := Lib.hid (show (W).grownBy (w20) none from gby_trans G197_.out g)
    have qw209_ := Lib.hid (show (w4).grownBy (w20) none from gby_trans qw198_.out g)
    clear qw198_
    clear g
    have ng20 : ¬ (((1 + ecL shFrame xsr0_1 : Nat) : Int) < 0) := by omega
    go_wp2
    go_ret
    exact ⟨rfl, gby_below G208_.out⟩

end Go.Proofs.Ytcenngekjopjpaa
