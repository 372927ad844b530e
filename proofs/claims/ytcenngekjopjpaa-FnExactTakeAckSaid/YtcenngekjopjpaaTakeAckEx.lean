/-
  The walk of FnExactTakeAck: at every argument the program answers as its model and writes nothing that was there, and its answer owns its memory.
-/
import Derived.Test.YtcenngekjopjpaaQSender
import Derived.Test.YtcenngekjopjpaaRTakeAck
import Derived.WalkKit
import Derived.Deep.RegionHeld3
import Derived.Below
namespace Go.Proofs.Ytcenngekjopjpaa
open Go Go.RowKit

set_option maxRecDepth 8000 in
set_option maxHeartbeats 16000000 in
theorem walk_exactTakeAck_of (both : ∀ (i0_0 : Int) (xs0_1 : List DFrame) (i0_2 : Int) (i1 : Int), szL shFrame xs0_1 ≤ 1048576 → ∃ (ir0_0 : Int) (xsr0_1 : List DFrame) (ir0_2 : Int) (br1 : Bool), szL shFrame xsr0_1 ≤ 1048576 ∧ (∀ (W : World), ∀ u0_1, RdL shFrame W u0_1 xs0_1 → Calls Try.prog 22 #[.agg #[.int .i64 i0_0, u0_1, .int .i64 i0_2], .int .i64 i1] W (ResSTakeAck ir0_0 xsr0_1 ir0_2 br1 W)) ∧ ∀ (W : World), ∀ u0_1, RdL shFrame W u0_1 xs0_1 → Calls Try.prog 23 #[.agg #[.int .i64 i0_0, u0_1, .int .i64 i0_2], .int .i64 i1] W (ResITakeAck ir0_0 xsr0_1 ir0_2 br1 W))
    (W : World) (i0_0 : Int) (a0_1 : Value) (xs0_1 : List DFrame) (i0_2 : Int) (i1 : Int) (H0_1 : RdL shFrame W a0_1 xs0_1) :
    Calls Try.prog 6 #[.agg #[.int .i64 i0_0, a0_1, .int .i64 i0_2], .int .i64 i1] W fun e w' => e = .returned (.bool true) ∧ Below W.heap.size W w' := by
  have HI0_1 := Lib.hid H0_1
  have hmx0_1 := H0_1.max
  clear H0_1
  by_cases hs0 : (1048576 : Int) < (((szL shFrame xs0_1) : Nat) : Int)
  · have hneg : (-1 : Int) < 0 := by omega
    go_enter Try.func6, Try.ntmps6
    have rA01_ := Lib.hid (show ((W.alloc (.cells #[.int .i64 i0_0, a0_1, .int .i64 i0_2] 24))).heap[W.heap.size]? = some (.cells #[.int .i64 i0_0, a0_1, .int .i64 i0_2] 24 (0, 0)) from by exact heap_alloc_new _ _)
    have G2_ := Lib.hid (show (W).grownBy ((W.alloc (.cells #[.int .i64 i0_0, a0_1, .int .i64 i0_2] 24))) none from (gby_alloc (gby_refl _ _) _))
    have A0_0_ : ((W.alloc (.cells #[.int .i64 i0_0, a0_1, .int .i64 i0_2] 24))).cell? ⟨W.heap.size, 0, none⟩ = some (.int .i64 i0_0) := cell_of_row _ _ 0 _ _ _ rA01_.out
    have A0_1_ : ((W.alloc (.cells #[.int .i64 i0_0, a0_1, .int .i64 i0_2] 24))).cell? ⟨W.heap.size, 1, none⟩ = some (a0_1) := cell_of_row _ _ 1 _ _ _ rA01_.out
    have A0_2_ : ((W.alloc (.cells #[.int .i64 i0_0, a0_1, .int .i64 i0_2] 24))).cell? ⟨W.heap.size, 2, none⟩ = some (.int .i64 i0_2) := cell_of_row _ _ 2 _ _ _ rA01_.out
    go_wp2_with fail
    go_at_call 8
    refine (szSender_d _ 1048576 i0_0 a0_1 i0_2 xs0_1 (HI0_1.out.grow G2_.out) (by omega) (by omega)).mono ?_
    rintro e w1 ⟨he, g⟩
    rw [show lessN 1048576 (szL shFrame xs0_1) = -1 from if_pos hs0] at he
    subst he
    clear A0_0_ A0_1_ A0_2_
    have rA03_ := Lib.hid (show (w1).heap[W.heap.size]? = some (.cells #[.int .i64 i0_0, a0_1, .int .i64 i0_2] 24 (0, 0)) from row_held g rA01_.out)
    clear rA01_
    have G4_ := Lib.hid (show (W).grownBy (w1) none from gby_trans G2_.out g)
    clear g
    go_wp2
    go_ret
    exact ⟨rfl, gby_below G4_.out⟩
  obtain ⟨rr0, hr0⟩ : ∃ r, r = lessN 1048576 (szL shFrame xs0_1) := ⟨_, rfl⟩
  have hrr0 : rr0 = (1048576 : Int) - (((szL shFrame xs0_1) : Nat) : Int) := hr0.trans (if_neg hs0)
  have hn0 : ¬ rr0 < 0 := by omega
  have hu0 : rr0 ≤ 1048576 := by omega
  have hl0_1 : szL shFrame xs0_1 ≤ 1048576 := by omega
  have HR0 := Lib.hid hr0
  clear hs0 hr0 hrr0
  obtain ⟨ir0_0, xsr0_1, ir0_2, br1, hLr0_1, hs_, hi_⟩ := both i0_0 xs0_1 i0_2 i1 hl0_1
  have HS := Lib.hid hs_
  have HM := Lib.hid hi_
  clear hs_ hi_
  try clear both
  have hb_br1 : (br1 != br1) = false := by simp
  have hq0_1 : ecL shFrame xs0_1 ≤ 104857600 := Nat.le_trans (ecL_le _ _) (Nat.le_trans (Nat.mul_le_mul_left _ hl0_1) (Nat.mul_le_mul_right 1048576 (show shFrame.c ≤ 100 by decide)))
  have hqr0_1 : ecL shFrame xsr0_1 ≤ 104857600 := Nat.le_trans (ecL_le _ _) (Nat.le_trans (Nat.mul_le_mul_left _ hLr0_1) (Nat.mul_le_mul_right 1048576 (show shFrame.c ≤ 100 by decide)))
  go_enter Try.func6, Try.ntmps6
  have rA01_ := Lib.hid (show ((W.alloc (.cells #[.int .i64 i0_0, a0_1, .int .i64 i0_2] 24))).heap[W.heap.size]? = some (.cells #[.int .i64 i0_0, a0_1, .int .i64 i0_2] 24 (0, 0)) from by exact heap_alloc_new _ _)
  have G2_ := Lib.hid (show (W).grownBy ((W.alloc (.cells #[.int .i64 i0_0, a0_1, .int .i64 i0_2] 24))) none from (gby_alloc (gby_refl _ _) _))
  have A0_0_ : ((W.alloc (.cells #[.int .i64 i0_0, a0_1, .int .i64 i0_2] 24))).cell? ⟨W.heap.size, 0, none⟩ = some (.int .i64 i0_0) := cell_of_row _ _ 0 _ _ _ rA01_.out
  have A0_1_ : ((W.alloc (.cells #[.int .i64 i0_0, a0_1, .int .i64 i0_2] 24))).cell? ⟨W.heap.size, 1, none⟩ = some (a0_1) := cell_of_row _ _ 1 _ _ _ rA01_.out
  have A0_2_ : ((W.alloc (.cells #[.int .i64 i0_0, a0_1, .int .i64 i0_2] 24))).cell? ⟨W.heap.size, 2, none⟩ = some (.int .i64 i0_2) := cell_of_row _ _ 2 _ _ _ rA01_.out
  go_wp2_with fail
  go_at_call 8
  refine (szSender_d _ 1048576 i0_0 a0_1 i0_2 xs0_1 (HI0_1.out.grow G2_.out) (by omega) (by omega)).mono ?_
  rintro e w1 ⟨he, g⟩
  rw [← HR0.out] at he
  subst he
  have zs1 := World.grownBy.size g
  try simp only [World.size_alloc] at zs1
  clear A0_0_ A0_1_ A0_2_
  have rA03_ := Lib.hid (show (w1).heap[W.heap.size]? = some (.cells #[.int .i64 i0_0, a0_1, .int .i64 i0_2] 24 (0, 0)) from row_held g rA01_.out)
  clear rA01_
  have G4_ := Lib.hid (show (W).grownBy (w1) none from gby_trans G2_.out g)
  clear g
  have A0_0_ : (w1).cell? ⟨W.heap.size, 0, none⟩ = some (.int .i64 i0_0) := cell_of_row _ _ 0 _ _ _ rA03_.out
  have A0_1_ : (w1).cell? ⟨W.heap.size, 1, none⟩ = some (a0_1) := cell_of_row _ _ 1 _ _ _ rA03_.out
  have A0_2_ : (w1).cell? ⟨W.heap.size, 2, none⟩ = some (.int .i64 i0_2) := cell_of_row _ _ 2 _ _ _ rA03_.out
  go_wp2_with fail
  go_at_call 10
  refine (toSender_d _ i0_0 a0_1 i0_2 xs0_1 (HI0_1.out.grow G4_.out) hl0_1).mono ?_
  rintro e w2 ⟨t10_1, rfl, o, g⟩
  have sz_ := g.size
  try simp only [World.size_alloc] at sz_
  try simp only [World.size_alloc] at o
  have zs2 := World.grownBy.size g
  try simp only [World.size_alloc] at zs2
  clear A0_0_ A0_1_ A0_2_
  have rA05_ := Lib.hid (show (w2).heap[W.heap.size]? = some (.cells #[.int .i64 i0_0, a0_1, .int .i64 i0_2] 24 (0, 0)) from row_held g rA03_.out)
  clear rA03_
  have G6_ := Lib.hid (show (W).grownBy (w2) none from gby_trans G4_.out g)
  clear g
  have szw2 := sz_
  clear sz_
  obtain ⟨t10_1p, t10_1n, t10_1c, hv_⟩ := RdL.form (OwU.rd o)
  subst hv_
  have oT17_ := Lib.hid (show OwU (w2) (w1.heap.size) (w2.heap.size) [] [own shFrame (.slice t10_1p t10_1n t10_1c) xs0_1] from o)
  clear o
  try unfold vSender
  go_wp2_with fail
  go_at_call 22
  refine (HS.out _ (.slice t10_1p t10_1n t10_1c) (OwU.rd oT17_.out)).mono ?_
  rintro e w3 ⟨wr0_1, rfl, or0_1, g⟩
  have sz_ := g.size
  try simp only [World.size_alloc] at sz_
  have zs3 := World.grownBy.size g
  try simp only [World.size_alloc] at zs3
  have rA08_ := Lib.hid (show (w3).heap[W.heap.size]? = some (.cells #[.int .i64 i0_0, a0_1, .int .i64 i0_2] 24 (0, 0)) from row_held g rA05_.out)
  clear rA05_
  have oT19_ := Lib.hid (show OwU (w3) (w1.heap.size) (w2.heap.size) [] [own shFrame (.slice t10_1p t10_1n t10_1c) xs0_1] from OwU.grow oT17_.out g)
  clear oT17_
  have G10_ := Lib.hid (show (W).grownBy (w3) none from gby_trans G6_.out g)
  clear g
  have szw3 := sz_
  clear sz_
  obtain ⟨wr0_1p, wr0_1n, wr0_1c, hv_⟩ := RdL.form (or0_1)
  subst hv_
  have rd11_ := Lib.hid or0_1
  clear or0_1
  have qG12_ := Lib.hid (gby_refl w3 none)
  have al : (w3).grownBy ((w3).alloc (.cells #[.int .i64 ir0_0, (.slice wr0_1p wr0_1n wr0_1c), .int .i64 ir0_2] 29)) none := gby_alloc (gby_refl _ _) _
  have zs4 := World.grownBy.size al
  try simp only [World.size_alloc] at zs4
  have rA013_ := Lib.hid (show ((w3.alloc (.cells #[.int .i64 ir0_0, (.slice wr0_1p wr0_1n wr0_1c), .int .i64 ir0_2] 29))).heap[W.heap.size]? = some (.cells #[.int .i64 i0_0, a0_1, .int .i64 i0_2] 24 (0, 0)) from row_held al rA08_.out)
  clear rA08_
  have oT114_ := Lib.hid (show OwU ((w3.alloc (.cells #[.int .i64 ir0_0, (.slice wr0_1p wr0_1n wr0_1c), .int .i64 ir0_2] 29))) (w1.heap.size) (w2.heap.size) [] [own shFrame (.slice t10_1p t10_1n t10_1c) xs0_1] from OwU.grow oT19_.out al)
  clear oT19_
  have G15_ := Lib.hid (show (W).grownBy ((w3.alloc (.cells #[.int .i64 ir0_0, (.slice wr0_1p wr0_1n wr0_1c), .int .i64 ir0_2] 29))) none from gby_trans G10_.out al)
  have qw16_ := Lib.hid (show (w3).grownBy ((w3.alloc (.cells #[.int .i64 ir0_0, (.slice wr0_1p wr0_1n wr0_1c), .int .i64 ir0_2] 29))) none from gby_trans qG12_.out al)
  clear qG12_
  have rBw017_ := Lib.hid (show ((w3.alloc (.cells #[.int .i64 ir0_0, (.slice wr0_1p wr0_1n wr0_1c), .int .i64 ir0_2] 29))).heap[w3.heap.size]? = some (.cells #[.int .i64 ir0_0, (.slice wr0_1p wr0_1n wr0_1c), .int .i64 ir0_2] 29 (0, 0)) from by first | exact heap_alloc_new _ _ | exact heap_pair _ _ _ | exact heap_trip _ _ _ _)
  clear al
  clear oT114_
  have A0_0_ : ((w3.alloc (.cells #[.int .i64 ir0_0, (.slice wr0_1p wr0_1n wr0_1c), .int .i64 ir0_2] 29))).cell? ⟨W.heap.size, 0, none⟩ = some (.int .i64 i0_0) := cell_of_row _ _ 0 _ _ _ rA013_.out
  have A0_1_ : ((w3.alloc (.cells #[.int .i64 ir0_0, (.slice wr0_1p wr0_1n wr0_1c), .int .i64 ir0_2] 29))).cell? ⟨W.heap.size, 1, none⟩ = some (a0_1) := cell_of_row _ _ 1 _ _ _ rA013_.out
  have A0_2_ : ((w3.alloc (.cells #[.int .i64 ir0_0, (.slice wr0_1p wr0_1n wr0_1c), .int .i64 ir0_2] 29))).cell? ⟨W.heap.size, 2, none⟩ = some (.int .i64 i0_2) := cell_of_row _ _ 2 _ _ _ rA013_.out
  go_wp2_with fail
  go_at_call 10
  refine (toSender_d _ i0_0 a0_1 i0_2 xs0_1 (HI0_1.out.grow G15_.out) hl0_1).mono ?_
  rintro e w4 ⟨x00_1, rfl, o, g⟩
  have sz_ := g.size
  try simp only [World.size_alloc] at sz_
  try simp only [World.size_alloc] at o
  have zs5 := World.grownBy.size g
  try simp only [World.size_alloc] at zs5
  clear A0_0_ A0_1_ A0_2_
  have rA018_ := Lib.hid (show (w4).heap[W.heap.size]? = some (.cells #[.int .i64 i0_0, a0_1, .int .i64 i0_2] 24 (0, 0)) from row_held g rA013_.out)
  clear rA013_
  have rBw019_ := Lib.hid (show (w4).heap[w3.heap.size]? = some (.cells #[.int .i64 ir0_0, (.slice wr0_1p wr0_1n wr0_1c), .int .i64 ir0_2] 29 (0, 0)) from row_held g rBw017_.out)
  clear rBw017_
  have G20_ := Lib.hid (show (W).grownBy (w4) none from gby_trans G15_.out g)
  have qw21_ := Lib.hid (show (w3).grownBy (w4) none from gby_trans qw16_.out g)
  clear qw16_
  clear g
  have szw4 := sz_
  clear sz_
  obtain ⟨x00_1p, x00_1n, x00_1c, hv_⟩ := RdL.form (OwU.rd o)
  subst hv_
  have ox022_ := Lib.hid (show OwU (w4) (w3.heap.size + 1) (w4.heap.size) [] [own shFrame (.slice x00_1p x00_1n x00_1c) xs0_1] from o)
  clear o
  try unfold vSender
  have al : (w4).grownBy ((w4).alloc (.cells #[.int .i64 i0_0, (.slice x00_1p x00_1n x00_1c), .int .i64 i0_2] 29)) none := gby_alloc (gby_refl _ _) _
  have zs6 := World.grownBy.size al
  try simp only [World.size_alloc] at zs6
  have rA023_ := Lib.hid (show ((w4.alloc (.cells #[.int .i64 i0_0, (.slice x00_1p x00_1n x00_1c), .int .i64 i0_2] 29))).heap[W.heap.size]? = some (.cells #[.int .i64 i0_0, a0_1, .int .i64 i0_2] 24 (0, 0)) from row_held al rA018_.out)
  clear rA018_
  have rBw024_ := Lib.hid (show ((w4.alloc (.cells #[.int .i64 i0_0, (.slice x00_1p x00_1n x00_1c), .int .i64 i0_2] 29))).heap[w3.heap.size]? = some (.cells #[.int .i64 ir0_0, (.slice wr0_1p wr0_1n wr0_1c), .int .i64 ir0_2] 29 (0, 0)) from row_held al rBw019_.out)
  clear rBw019_
  have ox025_ := Lib.hid (show OwU ((w4.alloc (.cells #[.int .i64 i0_0, (.slice x00_1p x00_1n x00_1c), .int .i64 i0_2] 29))) (w3.heap.size + 1) (w4.heap.size) [] [own shFrame (.slice x00_1p x00_1n x00_1c) xs0_1] from OwU.grow ox022_.out al)
  clear ox022_
  have G26_ := Lib.hid (show (W).grownBy ((w4.alloc (.cells #[.int .i64 i0_0, (.slice x00_1p x00_1n x00_1c), .int .i64 i0_2] 29))) none from gby_trans G20_.out al)
  have qw27_ := Lib.hid (show (w3).grownBy ((w4.alloc (.cells #[.int .i64 i0_0, (.slice x00_1p x00_1n x00_1c), .int .i64 i0_2] 29))) none from gby_trans qw21_.out al)
  clear qw21_
  have rBx028_ := Lib.hid (show ((w4.alloc (.cells #[.int .i64 i0_0, (.slice x00_1p x00_1n x00_1c), .int .i64 i0_2] 29))).heap[w4.heap.size]? = some (.cells #[.int .i64 i0_0, (.slice x00_1p x00_1n x00_1c), .int .i64 i0_2] 29 (0, 0)) from by first | exact heap_alloc_new _ _ | exact heap_pair _ _ _ | exact heap_trip _ _ _ _)
  clear al
  have Bx0_0_ : ((w4.alloc (.cells #[.int .i64 i0_0, (.slice x00_1p x00_1n x00_1c), .int .i64 i0_2] 29))).cell? ⟨w4.heap.size, 0, none⟩ = some (.int .i64 i0_0) := cell_of_row _ _ 0 _ _ _ rBx028_.out
  have Bx0_1_ : ((w4.alloc (.cells #[.int .i64 i0_0, (.slice x00_1p x00_1n x00_1c), .int .i64 i0_2] 29))).cell? ⟨w4.heap.size, 1, none⟩ = some ((.slice x00_1p x00_1n x00_1c)) := cell_of_row _ _ 1 _ _ _ rBx028_.out
  have Bx0_2_ : ((w4.alloc (.cells #[.int .i64 i0_0, (.slice x00_1p x00_1n x00_1c), .int .i64 i0_2] 29))).cell? ⟨w4.heap.size, 2, none⟩ = some (.int .i64 i0_2) := cell_of_row _ _ 2 _ _ _ rBx028_.out
  go_wp2_with fail
  go_at_call 23
  refine (HM.out _ (.slice x00_1p x00_1n x00_1c) (OwU.rd ox025_.out)).mono ?_
  rintro e w5 ⟨gr0_1, rfl, o, g⟩
  have sz_ := g.size
  try simp only [World.size_alloc] at sz_
  try simp only [World.size_alloc] at o
  have zs7 := World.grownBy.size g
  try simp only [World.size_alloc] at zs7
  clear Bx0_0_ Bx0_1_ Bx0_2_
  have rA029_ := Lib.hid (show (w5).heap[W.heap.size]? = some (.cells #[.int .i64 i0_0, a0_1, .int .i64 i0_2] 24 (0, 0)) from row_held g rA023_.out)
  clear rA023_
  have rBw030_ := Lib.hid (show (w5).heap[w3.heap.size]? = some (.cells #[.int .i64 ir0_0, (.slice wr0_1p wr0_1n wr0_1c), .int .i64 ir0_2] 29 (0, 0)) from row_held g rBw024_.out)
  clear rBw024_
  have rBx031_ := Lib.hid (show (w5).heap[w4.heap.size]? = some (.cells #[.int .i64 i0_0, (.slice x00_1p x00_1n x00_1c), .int .i64 i0_2] 29 (0, 0)) from row_held g rBx028_.out)
  clear rBx028_
  have ox032_ := Lib.hid (show OwU (w5) (w3.heap.size + 1) (w4.heap.size) [] [own shFrame (.slice x00_1p x00_1n x00_1c) xs0_1] from OwU.grow ox025_.out g)
  clear ox025_
  have G33_ := Lib.hid (show (W).grownBy (w5) none from gby_trans G26_.out g)
  have qw34_ := Lib.hid (show (w3).grownBy (w5) none from gby_trans qw27_.out g)
  clear qw27_
  clear g
  have szw5 := sz_
  clear sz_
  obtain ⟨gr0_1p, gr0_1n, gr0_1c, hv_⟩ := RdL.form (OwU.rd o)
  subst hv_
  have og35_ := Lib.hid (show OwU (w5) (w4.heap.size + 1) (w5.heap.size) [] [own shFrame (.slice gr0_1p gr0_1n gr0_1c) xsr0_1] from o)
  clear o
  have al : (w5).grownBy ((w5).alloc (.cells #[.int .i64 ir0_0, (.slice gr0_1p gr0_1n gr0_1c), .int .i64 ir0_2] 29)) none := gby_alloc (gby_refl _ _) _
  have zs8 := World.grownBy.size al
  try simp only [World.size_alloc] at zs8
  have rA036_ := Lib.hid (show ((w5.alloc (.cells #[.int .i64 ir0_0, (.slice gr0_1p gr0_1n gr0_1c), .int .i64 ir0_2] 29))).heap[W.heap.size]? = some (.cells #[.int .i64 i0_0, a0_1, .int .i64 i0_2] 24 (0, 0)) from row_held al rA029_.out)
  clear rA029_
  have rBw037_ := Lib.hid (show ((w5.alloc (.cells #[.int .i64 ir0_0, (.slice gr0_1p gr0_1n gr0_1c), .int .i64 ir0_2] 29))).heap[w3.heap.size]? = some (.cells #[.int .i64 ir0_0, (.slice wr0_1p wr0_1n wr0_1c), .int .i64 ir0_2] 29 (0, 0)) from row_held al rBw030_.out)
  clear rBw030_
  have rBx038_ := Lib.hid (show ((w5.alloc (.cells #[.int .i64 ir0_0, (.slice gr0_1p gr0_1n gr0_1c), .int .i64 ir0_2] 29))).heap[w4.heap.size]? = some (.cells #[.int .i64 i0_0, (.slice x00_1p x00_1n x00_1c), .int .i64 i0_2] 29 (0, 0)) from row_held al rBx031_.out)
  clear rBx031_
  have ox039_ := Lib.hid (show OwU ((w5.alloc (.cells #[.int .i64 ir0_0, (.slice gr0_1p gr0_1n gr0_1c), .int .i64 ir0_2] 29))) (w3.heap.size + 1) (w4.heap.size) [] [own shFrame (.slice x00_1p x00_1n x00_1c) xs0_1] from OwU.grow ox032_.out al)
  clear ox032_
  have og40_ := Lib.hid (show OwU ((w5.alloc (.cells #[.int .i64 ir0_0, (.slice gr0_1p gr0_1n gr0_1c), .int .i64 ir0_2] 29))) (w4.heap.size + 1) (w5.heap.size) [] [own shFrame (.slice gr0_1p gr0_1n gr0_1c) xsr0_1] from OwU.grow og35_.out al)
  clear og35_
  have G41_ := Lib.hid (show (W).grownBy ((w5.alloc (.cells #[.int .i64 ir0_0, (.slice gr0_1p gr0_1n gr0_1c), .int .i64 ir0_2] 29))) none from gby_trans G33_.out al)
  have qw42_ := Lib.hid (show (w3).grownBy ((w5.alloc (.cells #[.int .i64 ir0_0, (.slice gr0_1p gr0_1n gr0_1c), .int .i64 ir0_2] 29))) none from gby_trans qw34_.out al)
  clear qw34_
  have rBg043_ := Lib.hid (show ((w5.alloc (.cells #[.int .i64 ir0_0, (.slice gr0_1p gr0_1n gr0_1c), .int .i64 ir0_2] 29))).heap[w5.heap.size]? = some (.cells #[.int .i64 ir0_0, (.slice gr0_1p gr0_1n gr0_1c), .int .i64 ir0_2] 29 (0, 0)) from by first | exact heap_alloc_new _ _ | exact heap_pair _ _ _ | exact heap_trip _ _ _ _)
  clear al
  have Bg0_0_ : ((w5.alloc (.cells #[.int .i64 ir0_0, (.slice gr0_1p gr0_1n gr0_1c), .int .i64 ir0_2] 29))).cell? ⟨w5.heap.size, 0, none⟩ = some (.int .i64 ir0_0) := cell_of_row _ _ 0 _ _ _ rBg043_.out
  have Bg0_1_ : ((w5.alloc (.cells #[.int .i64 ir0_0, (.slice gr0_1p gr0_1n gr0_1c), .int .i64 ir0_2] 29))).cell? ⟨w5.heap.size, 1, none⟩ = some ((.slice gr0_1p gr0_1n gr0_1c)) := cell_of_row _ _ 1 _ _ _ rBg043_.out
  have Bg0_2_ : ((w5.alloc (.cells #[.int .i64 ir0_0, (.slice gr0_1p gr0_1n gr0_1c), .int .i64 ir0_2] 29))).cell? ⟨w5.heap.size, 2, none⟩ = some (.int .i64 ir0_2) := cell_of_row _ _ 2 _ _ _ rBg043_.out
  have Bw0_0_ : ((w5.alloc (.cells #[.int .i64 ir0_0, (.slice gr0_1p gr0_1n gr0_1c), .int .i64 ir0_2] 29))).cell? ⟨w3.heap.size, 0, none⟩ = some (.int .i64 ir0_0) := cell_of_row _ _ 0 _ _ _ rBw037_.out
  have Bw0_1_ : ((w5.alloc (.cells #[.int .i64 ir0_0, (.slice gr0_1p gr0_1n gr0_1c), .int .i64 ir0_2] 29))).cell? ⟨w3.heap.size, 1, none⟩ = some ((.slice wr0_1p wr0_1n wr0_1c)) := cell_of_row _ _ 1 _ _ _ rBw037_.out
  have Bw0_2_ : ((w5.alloc (.cells #[.int .i64 ir0_0, (.slice gr0_1p gr0_1n gr0_1c), .int .i64 ir0_2] 29))).cell? ⟨w3.heap.size, 2, none⟩ = some (.int .i64 ir0_2) := cell_of_row _ _ 2 _ _ _ rBw037_.out
  go_wp2_with fail
  go_at_call 12
  refine (eqSender_d _ ir0_0 (.slice gr0_1p gr0_1n gr0_1c) ir0_2 (.slice wr0_1p wr0_1n wr0_1c) xsr0_1 (OwU.rd og40_.out) (RdL.grow rd11_.out qw42_.out) hLr0_1).mono ?_
  rintro e w6 ⟨rfl, g⟩
  have zs9 := World.grownBy.size g
  try simp only [World.size_alloc] at zs9
  clear Bg0_0_ Bg0_1_ Bg0_2_ Bw0_0_ Bw0_1_ Bw0_2_
  have rA044_ := Lib.hid (show (w6).heap[W.heap.size]? = some (.cells #[.int .i64 i0_0, a0_1, .int .i64 i0_2] 24 (0, 0)) from row_held g rA036_.out)
  clear rA036_
  have rBw045_ := Lib.hid (show (w6).heap[w3.heap.size]? = some (.cells #[.int .i64 ir0_0, (.slice wr0_1p wr0_1n wr0_1c), .int .i64 ir0_2] 29 (0, 0)) from row_held g rBw037_.out)
  clear rBw037_
  have rBx046_ := Lib.hid (show (w6).heap[w4.heap.size]? = some (.cells #[.int .i64 i0_0, (.slice x00_1p x00_1n x00_1c), .int .i64 i0_2] 29 (0, 0)) from row_held g rBx038_.out)
  clear rBx038_
  have rBg047_ := Lib.hid (show (w6).heap[w5.heap.size]? = some (.cells #[.int .i64 ir0_0, (.slice gr0_1p gr0_1n gr0_1c), .int .i64 ir0_2] 29 (0, 0)) from row_held g rBg043_.out)
  clear rBg043_
  have ox048_ := Lib.hid (show OwU (w6) (w3.heap.size + 1) (w4.heap.size) [] [own shFrame (.slice x00_1p x00_1n x00_1c) xs0_1] from OwU.grow ox039_.out g)
  clear ox039_
  have og49_ := Lib.hid (show OwU (w6) (w4.heap.size + 1) (w5.heap.size) [] [own shFrame (.slice gr0_1p gr0_1n gr0_1c) xsr0_1] from OwU.grow og40_.out g)
  clear og40_
  have G50_ := Lib.hid (show (W).grownBy (w6) none from gby_trans G41_.out g)
  have qw51_ := Lib.hid (show (w3).grownBy (w6) none from gby_trans qw42_.out g)
  clear qw42_
  clear g
  have A0_0_ : (w6).cell? ⟨W.heap.size, 0, none⟩ = some (.int .i64 i0_0) := cell_of_row _ _ 0 _ _ _ rA044_.out
  have A0_1_ : (w6).cell? ⟨W.heap.size, 1, none⟩ = some (a0_1) := cell_of_row _ _ 1 _ _ _ rA044_.out
  have A0_2_ : (w6).cell? ⟨W.heap.size, 2, none⟩ = some (.int .i64 i0_2) := cell_of_row _ _ 2 _ _ _ rA044_.out
  have Bx0_0_ : (w6).cell? ⟨w4.heap.size, 0, none⟩ = some (.int .i64 i0_0) := cell_of_row _ _ 0 _ _ _ rBx046_.out
  have Bx0_1_ : (w6).cell? ⟨w4.heap.size, 1, none⟩ = some ((.slice x00_1p x00_1n x00_1c)) := cell_of_row _ _ 1 _ _ _ rBx046_.out
  have Bx0_2_ : (w6).cell? ⟨w4.heap.size, 2, none⟩ = some (.int .i64 i0_2) := cell_of_row _ _ 2 _ _ _ rBx046_.out
  go_wp2_with fail
  go_region_held3 (fun w' => w'.cell? ⟨W.heap.size, 0, none⟩ = some (.int .i64 i0_0) ∧ w'.cell? ⟨W.heap.size, 1, none⟩ = some (a0_1) ∧ w'.cell? ⟨W.heap.size, 2, none⟩ = some (.int .i64 i0_2) ∧ w'.cell? ⟨w4.heap.size, 0, none⟩ = some (.int .i64 i0_0) ∧ w'.cell? ⟨w4.heap.size, 1, none⟩ = some ((.slice x00_1p x00_1n x00_1c)) ∧ w'.cell? ⟨w4.heap.size, 2, none⟩ = some (.int .i64 i0_2))
    (first
      | exact ⟨A0_0_, A0_1_, A0_2_, Bx0_0_, Bx0_1_, Bx0_2_⟩
      | exact ⟨(gT.cell A0_0_ (by simp)), (gT.cell A0_1_ (by simp)), (gT.cell A0_2_ (by simp)), (gT.cell Bx0_0_ (by simp)), (gT.cell Bx0_1_ (by simp)), (gT.cell Bx0_2_ (by simp))⟩
      | exact ⟨(gE.cell (gT.cell A0_0_ (by simp)) (by simp)), (gE.cell (gT.cell A0_1_ (by simp)) (by simp)), (gE.cell (gT.cell A0_2_ (by simp)) (by simp)), (gE.cell (gT.cell Bx0_0_ (by simp)) (by simp)), (gE.cell (gT.cell Bx0_1_ (by simp)) (by simp)), (gE.cell (gT.cell Bx0_2_ (by simp)) (by simp))⟩)
    (first
      | (go_at_call 10; refine (toSender_d _ i0_0 a0_1 i0_2 xs0_1 (HI0_1.out.grow (gby_drew G50_.out)) hl0_1).mono ?_; rintro e wT1 ⟨t20_1, rfl, oT, gT⟩; obtain ⟨t20_1p, t20_1n, t20_1c, hv_⟩ := RdL.form ((OwU.rd oT)); subst hv_; try unfold vSender)
      | (go_at_call 12; refine (eqSender_d _ i0_0 (.slice x00_1p x00_1n x00_1c) i0_2 (.slice t20_1p t20_1n t20_1c) xs0_1 (RdL.grow (RdL.grow (OwU.rd ox048_.out) (gby_drew (gby_refl _ _))) gT) (OwU.rd oT) hl0_1).mono ?_; rintro e wE1 ⟨rfl, gE⟩))
  all_goals
    have g : (w6).grownBy wE1 none := gby_trans (gby_trans (gby_drew (gby_refl _ _)) gT) gE
    clear gT gE oT
    clear A0_0_ A0_1_ A0_2_ Bx0_0_ Bx0_1_ Bx0_2_
    have zs10 := World.grownBy.size g
    try simp only [World.size_alloc] at zs10
    have rA052_ := Lib.hid (show (wE1).heap[W.heap.size]? = some (.cells #[.int .i64 i0_0, a0_1, .int .i64 i0_2] 24 (0, 0)) from row_held g rA044_.out)
    clear rA044_
    have rBw053_ := Lib.hid (show (wE1).heap[w3.heap.size]? = some (.cells #[.int .i64 ir0_0, (.slice wr0_1p wr0_1n wr0_1c), .int .i64 ir0_2] 29 (0, 0)) from row_held g rBw045_.out)
    clear rBw045_
    have rBx054_ := Lib.hid (show (wE1).heap[w4.heap.size]? = some (.cells #[.int .i64 i0_0, (.slice x00_1p x00_1n x00_1c), .int .i64 i0_2] 29 (0, 0)) from row_held g rBx046_.out)
    clear rBx046_
    have rBg055_ := Lib.hid (show (wE1).heap[w5.heap.size]? = some (.cells #[.int .i64 ir0_0, (.slice gr0_1p gr0_1n gr0_1c), .int .i64 ir0_2] 29 (0, 0)) from row_held g rBg047_.out)
    clear rBg047_
    have ox056_ := Lib.hid (show OwU (wE1) (w3.heap.size + 1) (w4.heap.size) [] [own shFrame (.slice x00_1p x00_1n x00_1c) xs0_1] from OwU.grow ox048_.out g)
    clear ox048_
    have og57_ := Lib.hid (show OwU (wE1) (w4.heap.size + 1) (w5.heap.size) [] [own shFrame (.slice gr0_1p gr0_1n gr0_1c) xsr0_1] from OwU.grow og49_.out g)
    clear og49_
    have G58_ := Lib.hid (show (W).grownBy (wE1) none from gby_trans G50_.out g)
    have qw59_ := Lib.hid (show (w3).grownBy (wE1) none from gby_trans qw51_.out g)
    clear qw51_
    clear g
    have Bx0_0_ : (wE1).cell? ⟨w4.heap.size, 0, none⟩ = some (.int .i64 i0_0) := cell_of_row _ _ 0 _ _ _ rBx054_.out
    have Bx0_1_ : (wE1).cell? ⟨w4.heap.size, 1, none⟩ = some ((.slice x00_1p x00_1n x00_1c)) := cell_of_row _ _ 1 _ _ _ rBx054_.out
    have Bx0_2_ : (wE1).cell? ⟨w4.heap.size, 2, none⟩ = some (.int .i64 i0_2) := cell_of_row _ _ 2 _ _ _ rBx054_.out
    go_wp2_with fail
    go_at_call 15
    refine (markSender_d _ (w3.heap.size + 1) (w4.heap.size) (1) i0_0 (.slice x00_1p x00_1n x00_1c) i0_2 xs0_1 [] [] ox056_.out (by first | omega | (simp only [World.size_alloc]; omega)) hl0_1 (by omega)).mono ?_
    rintro e w7 ⟨rfl, o, c⟩
    clear Bx0_0_ Bx0_1_ Bx0_2_
    have szw7 := c.size
    try simp only [World.size_alloc] at szw7
    have rA060_ := Lib.hid (show (w7).heap[W.heap.size]? = some (.cells #[.int .i64 i0_0, a0_1, .int .i64 i0_2] 24 (0, 0)) from Chg.keep c rA052_.out (by omega))
    clear rA052_
    have rBw061_ := Lib.hid (show (w7).heap[w3.heap.size]? = some (.cells #[.int .i64 ir0_0, (.slice wr0_1p wr0_1n wr0_1c), .int .i64 ir0_2] 29 (0, 0)) from Chg.keep c rBw053_.out (by omega))
    clear rBw053_
    have rBx062_ := Lib.hid (show (w7).heap[w4.heap.size]? = some (.cells #[.int .i64 i0_0, (.slice x00_1p x00_1n x00_1c), .int .i64 i0_2] 29 (0, 0)) from Chg.keep c rBx054_.out (by omega))
    clear rBx054_
    have rBg063_ := Lib.hid (show (w7).heap[w5.heap.size]? = some (.cells #[.int .i64 ir0_0, (.slice gr0_1p gr0_1n gr0_1c), .int .i64 ir0_2] 29 (0, 0)) from Chg.keep c rBg055_.out (by omega))
    clear rBg055_
    have og64_ := Lib.hid (show OwU (w7) (w4.heap.size + 1) (w5.heap.size) [] [own shFrame (.slice gr0_1p gr0_1n gr0_1c) xsr0_1] from OwU.keep c (by omega) og57_.out)
    clear og57_
    have G65_ := Lib.hid (show (W).grownBy (w7) none from gby_chg G58_.out c (by omega))
    have qw66_ := Lib.hid (show (w3).grownBy (w7) none from gby_chg qw59_.out c (by omega))
    clear qw59_
    have ox067_ := Lib.hid (show OwU (w7) (w3.heap.size + 1) (w4.heap.size) [] [own shFrame (.slice x00_1p x00_1n x00_1c) (emL shFrame (1) xs0_1)] from o)
    clear ox056_ o c
    have Bg0_0_ : (w7).cell? ⟨w5.heap.size, 0, none⟩ = some (.int .i64 ir0_0) := cell_of_row _ _ 0 _ _ _ rBg063_.out
    have Bg0_1_ : (w7).cell? ⟨w5.heap.size, 1, none⟩ = some ((.slice gr0_1p gr0_1n gr0_1c)) := cell_of_row _ _ 1 _ _ _ rBg063_.out
    have Bg0_2_ : (w7).cell? ⟨w5.heap.size, 2, none⟩ = some (.int .i64 ir0_2) := cell_of_row _ _ 2 _ _ _ rBg063_.out
    have Bw0_0_ : (w7).cell? ⟨w3.heap.size, 0, none⟩ = some (.int .i64 ir0_0) := cell_of_row _ _ 0 _ _ _ rBw061_.out
    have Bw0_1_ : (w7).cell? ⟨w3.heap.size, 1, none⟩ = some ((.slice wr0_1p wr0_1n wr0_1c)) := cell_of_row _ _ 1 _ _ _ rBw061_.out
    have Bw0_2_ : (w7).cell? ⟨w3.heap.size, 2, none⟩ = some (.int .i64 ir0_2) := cell_of_row _ _ 2 _ _ _ rBw061_.out
    go_wp2_with fail
    go_at_call 12
    refine (eqSender_d _ ir0_0 (.slice gr0_1p gr0_1n gr0_1c) ir0_2 (.slice wr0_1p wr0_1n wr0_1c) xsr0_1 (OwU.rd og64_.out) (RdL.grow rd11_.out qw66_.out) hLr0_1).mono ?_
    rintro e w8 ⟨rfl, g⟩
    have zs11 := World.grownBy.size g
    try simp only [World.size_alloc] at zs11
    clear Bg0_0_ Bg0_1_ Bg0_2_ Bw0_0_ Bw0_1_ Bw0_2_
    have rA068_ := Lib.hid (show (w8).heap[W.heap.size]? = some (.cells #[.int .i64 i0_0, a0_1, .int .i64 i0_2] 24 (0, 0)) from row_held g rA060_.out)
    clear rA060_
    have rBw069_ := Lib.hid (show (w8).heap[w3.heap.size]? = some (.cells #[.int .i64 ir0_0, (.slice wr0_1p wr0_1n wr0_1c), .int .i64 ir0_2] 29 (0, 0)) from row_held g rBw061_.out)
    clear rBw061_
    have rBx070_ := Lib.hid (show (w8).heap[w4.heap.size]? = some (.cells #[.int .i64 i0_0, (.slice x00_1p x00_1n x00_1c), .int .i64 i0_2] 29 (0, 0)) from row_held g rBx062_.out)
    clear rBx062_
    have rBg071_ := Lib.hid (show (w8).heap[w5.heap.size]? = some (.cells #[.int .i64 ir0_0, (.slice gr0_1p gr0_1n gr0_1c), .int .i64 ir0_2] 29 (0, 0)) from row_held g rBg063_.out)
    clear rBg063_
    have ox072_ := Lib.hid (show OwU (w8) (w3.heap.size + 1) (w4.heap.size) [] [own shFrame (.slice x00_1p x00_1n x00_1c) (emL shFrame (1) xs0_1)] from OwU.grow ox067_.out g)
    clear ox067_
    have og73_ := Lib.hid (show OwU (w8) (w4.heap.size + 1) (w5.heap.size) [] [own shFrame (.slice gr0_1p gr0_1n gr0_1c) xsr0_1] from OwU.grow og64_.out g)
    clear og64_
    have G74_ := Lib.hid (show (W).grownBy (w8) none from gby_trans G65_.out g)
    have qw75_ := Lib.hid (show (w3).grownBy (w8) none from gby_trans qw66_.out g)
    clear qw66_
    clear g
    have Bg0_0_ : (w8).cell? ⟨w5.heap.size, 0, none⟩ = some (.int .i64 ir0_0) := cell_of_row _ _ 0 _ _ _ rBg071_.out
    have Bg0_1_ : (w8).cell? ⟨w5.heap.size, 1, none⟩ = some ((.slice gr0_1p gr0_1n gr0_1c)) := cell_of_row _ _ 1 _ _ _ rBg071_.out
    have Bg0_2_ : (w8).cell? ⟨w5.heap.size, 2, none⟩ = some (.int .i64 ir0_2) := cell_of_row _ _ 2 _ _ _ rBg071_.out
    go_wp2_with fail
    go_at_call 15
    refine (markSender_d _ (w4.heap.size + 1) (w5.heap.size) (1) ir0_0 (.slice gr0_1p gr0_1n gr0_1c) ir0_2 xsr0_1 [] [] og73_.out (by first | omega | (simp only [World.size_alloc]; omega)) hLr0_1 (by omega)).mono ?_
    rintro e w9 ⟨rfl, o, c⟩
    clear Bg0_0_ Bg0_1_ Bg0_2_
    have szw9 := c.size
    try simp only [World.size_alloc] at szw9
    have rA076_ := Lib.hid (show (w9).heap[W.heap.size]? = some (.cells #[.int .i64 i0_0, a0_1, .int .i64 i0_2] 24 (0, 0)) from Chg.keep c rA068_.out (by omega))
    clear rA068_
    have rBw077_ := Lib.hid (show (w9).heap[w3.heap.size]? = some (.cells #[.int .i64 ir0_0, (.slice wr0_1p wr0_1n wr0_1c), .int .i64 ir0_2] 29 (0, 0)) from Chg.keep c rBw069_.out (by omega))
    clear rBw069_
    have rBx078_ := Lib.hid (show (w9).heap[w4.heap.size]? = some (.cells #[.int .i64 i0_0, (.slice x00_1p x00_1n x00_1c), .int .i64 i0_2] 29 (0, 0)) from Chg.keep c rBx070_.out (by omega))
    clear rBx070_
    have rBg079_ := Lib.hid (show (w9).heap[w5.heap.size]? = some (.cells #[.int .i64 ir0_0, (.slice gr0_1p gr0_1n gr0_1c), .int .i64 ir0_2] 29 (0, 0)) from Chg.keep c rBg071_.out (by omega))
    clear rBg071_
    have ox080_ := Lib.hid (show OwU (w9) (w3.heap.size + 1) (w4.heap.size) [] [own shFrame (.slice x00_1p x00_1n x00_1c) (emL shFrame (1) xs0_1)] from OwU.keep c (by omega) ox072_.out)
    clear ox072_
    have G81_ := Lib.hid (show (W).grownBy (w9) none from gby_chg G74_.out c (by omega))
    have qw82_ := Lib.hid (show (w3).grownBy (w9) none from gby_chg qw75_.out c (by omega))
    clear qw75_
    have og83_ := Lib.hid (show OwU (w9) (w4.heap.size + 1) (w5.heap.size) [] [own shFrame (.slice gr0_1p gr0_1n gr0_1c) (emL shFrame (1) xsr0_1)] from o)
    clear og73_ o c
    have Bg0_0_ : (w9).cell? ⟨w5.heap.size, 0, none⟩ = some (.int .i64 ir0_0) := cell_of_row _ _ 0 _ _ _ rBg079_.out
    have Bg0_1_ : (w9).cell? ⟨w5.heap.size, 1, none⟩ = some ((.slice gr0_1p gr0_1n gr0_1c)) := cell_of_row _ _ 1 _ _ _ rBg079_.out
    have Bg0_2_ : (w9).cell? ⟨w5.heap.size, 2, none⟩ = some (.int .i64 ir0_2) := cell_of_row _ _ 2 _ _ _ rBg079_.out
    go_wp2_with fail
    go_at_call 16
    refine (heldSender_d _ (1) ir0_0 (.slice gr0_1p gr0_1n gr0_1c) ir0_2 xsr0_1 (OwU.rd og83_.out) hLr0_1 (by omega)).mono ?_
    rintro e w10 ⟨rfl, g⟩
    have zs12 := World.grownBy.size g
    try simp only [World.size_alloc] at zs12
    clear Bg0_0_ Bg0_1_ Bg0_2_
    have rA084_ := Lib.hid (show (w10).heap[W.heap.size]? = some (.cells #[.int .i64 i0_0, a0_1, .int .i64 i0_2] 24 (0, 0)) from row_held g rA076_.out)
    clear rA076_
    have rBw085_ := Lib.hid (show (w10).heap[w3.heap.size]? = some (.cells #[.int .i64 ir0_0, (.slice wr0_1p wr0_1n wr0_1c), .int .i64 ir0_2] 29 (0, 0)) from row_held g rBw077_.out)
    clear rBw077_
    have rBx086_ := Lib.hid (show (w10).heap[w4.heap.size]? = some (.cells #[.int .i64 i0_0, (.slice x00_1p x00_1n x00_1c), .int .i64 i0_2] 29 (0, 0)) from row_held g rBx078_.out)
    clear rBx078_
    have rBg087_ := Lib.hid (show (w10).heap[w5.heap.size]? = some (.cells #[.int .i64 ir0_0, (.slice gr0_1p gr0_1n gr0_1c), .int .i64 ir0_2] 29 (0, 0)) from row_held g rBg079_.out)
    clear rBg079_
    have ox088_ := Lib.hid (show OwU (w10) (w3.heap.size + 1) (w4.heap.size) [] [own shFrame (.slice x00_1p x00_1n x00_1c) (emL shFrame (1) xs0_1)] from OwU.grow ox080_.out g)
    clear ox080_
    have og89_ := Lib.hid (show OwU (w10) (w4.heap.size + 1) (w5.heap.size) [] [own shFrame (.slice gr0_1p gr0_1n gr0_1c) (emL shFrame (1) xsr0_1)] from OwU.grow og83_.out g)
    clear og83_
    have G90_ := Lib.hid (show (W).grownBy (w10) none from gby_trans G81_.out g)
    have qw91_ := Lib.hid (show (w3).grownBy (w10) none from gby_trans qw82_.out g)
    clear qw82_
    clear g
    have ng10 : ¬ (((1 + ecL shFrame xsr0_1 : Nat) : Int) < 0) := by omega
    have A0_0_ : (w10).cell? ⟨W.heap.size, 0, none⟩ = some (.int .i64 i0_0) := cell_of_row _ _ 0 _ _ _ rA084_.out
    have A0_1_ : (w10).cell? ⟨W.heap.size, 1, none⟩ = some (a0_1) := cell_of_row _ _ 1 _ _ _ rA084_.out
    have A0_2_ : (w10).cell? ⟨W.heap.size, 2, none⟩ = some (.int .i64 i0_2) := cell_of_row _ _ 2 _ _ _ rA084_.out
    go_wp2_with fail
    go_at_call 10
    refine (toSender_d _ i0_0 a0_1 i0_2 xs0_1 (HI0_1.out.grow G90_.out) hl0_1).mono ?_
    rintro e w11 ⟨t30_1, rfl, o, g⟩
    have sz_ := g.size
    try simp only [World.size_alloc] at sz_
    try simp only [World.size_alloc] at o
    have zs13 := World.grownBy.size g
    try simp only [World.size_alloc] at zs13
    clear A0_0_ A0_1_ A0_2_
    have rA092_ := Lib.hid (show (w11).heap[W.heap.size]? = some (.cells #[.int .i64 i0_0, a0_1, .int .i64 i0_2] 24 (0, 0)) from row_held g rA084_.out)
    clear rA084_
    have rBw093_ := Lib.hid (show (w11).heap[w3.heap.size]? = some (.cells #[.int .i64 ir0_0, (.slice wr0_1p wr0_1n wr0_1c), .int .i64 ir0_2] 29 (0, 0)) from row_held g rBw085_.out)
    clear rBw085_
    have rBx094_ := Lib.hid (show (w11).heap[w4.heap.size]? = some (.cells #[.int .i64 i0_0, (.slice x00_1p x00_1n x00_1c), .int .i64 i0_2] 29 (0, 0)) from row_held g rBx086_.out)
    clear rBx086_
    have rBg095_ := Lib.hid (show (w11).heap[w5.heap.size]? = some (.cells #[.int .i64 ir0_0, (.slice gr0_1p gr0_1n gr0_1c), .int .i64 ir0_2] 29 (0, 0)) from row_held g rBg087_.out)
    clear rBg087_
    have ox096_ := Lib.hid (show OwU (w11) (w3.heap.size + 1) (w4.heap.size) [] [own shFrame (.slice x00_1p x00_1n x00_1c) (emL shFrame (1) xs0_1)] from OwU.grow ox088_.out g)
    clear ox088_
    have og97_ := Lib.hid (show OwU (w11) (w4.heap.size + 1) (w5.heap.size) [] [own shFrame (.slice gr0_1p gr0_1n gr0_1c) (emL shFrame (1) xsr0_1)] from OwU.grow og89_.out g)
    clear og89_
    have G98_ := Lib.hid (show (W).grownBy (w11) none from gby_trans G90_.out g)
    have qw99_ := Lib.hid (show (w3).grownBy (w11) none from gby_trans qw91_.out g)
    clear qw91_
    clear g
    have szw11 := sz_
    clear sz_
    obtain ⟨t30_1p, t30_1n, t30_1c, hv_⟩ := RdL.form (OwU.rd o)
    subst hv_
    have oT3100_ := Lib.hid (show OwU (w11) (w10.heap.size) (w11.heap.size) [] [own shFrame (.slice t30_1p t30_1n t30_1c) xs0_1] from o)
    clear o
    try unfold vSender
    go_wp2_with fail
    go_at_call 23
    refine (HM.out _ (.slice t30_1p t30_1n t30_1c) (OwU.rd oT3100_.out)).mono ?_
    rintro e w12 ⟨hr0_1, rfl, o, g⟩
    have sz_ := g.size
    try simp only [World.size_alloc] at sz_
    try simp only [World.size_alloc] at o
    have zs14 := World.grownBy.size g
    try simp only [World.size_alloc] at zs14
    have rA0101_ := Lib.hid (show (w12).heap[W.heap.size]? = some (.cells #[.int .i64 i0_0, a0_1, .int .i64 i0_2] 24 (0, 0)) from row_held g rA092_.out)
    clear rA092_
    have rBw0102_ := Lib.hid (show (w12).heap[w3.heap.size]? = some (.cells #[.int .i64 ir0_0, (.slice wr0_1p wr0_1n wr0_1c), .int .i64 ir0_2] 29 (0, 0)) from row_held g rBw093_.out)
    clear rBw093_
    have rBx0103_ := Lib.hid (show (w12).heap[w4.heap.size]? = some (.cells #[.int .i64 i0_0, (.slice x00_1p x00_1n x00_1c), .int .i64 i0_2] 29 (0, 0)) from row_held g rBx094_.out)
    clear rBx094_
    have rBg0104_ := Lib.hid (show (w12).heap[w5.heap.size]? = some (.cells #[.int .i64 ir0_0, (.slice gr0_1p gr0_1n gr0_1c), .int .i64 ir0_2] 29 (0, 0)) from row_held g rBg095_.out)
    clear rBg095_
    have ox0105_ := Lib.hid (show OwU (w12) (w3.heap.size + 1) (w4.heap.size) [] [own shFrame (.slice x00_1p x00_1n x00_1c) (emL shFrame (1) xs0_1)] from OwU.grow ox096_.out g)
    clear ox096_
    have og106_ := Lib.hid (show OwU (w12) (w4.heap.size + 1) (w5.heap.size) [] [own shFrame (.slice gr0_1p gr0_1n gr0_1c) (emL shFrame (1) xsr0_1)] from OwU.grow og97_.out g)
    clear og97_
    have oT3107_ := Lib.hid (show OwU (w12) (w10.heap.size) (w11.heap.size) [] [own shFrame (.slice t30_1p t30_1n t30_1c) xs0_1] from OwU.grow oT3100_.out g)
    clear oT3100_
    have G108_ := Lib.hid (show (W).grownBy (w12) none from gby_trans G98_.out g)
    have qw109_ := Lib.hid (show (w3).grownBy (w12) none from gby_trans qw99_.out g)
    clear qw99_
    clear g
    have szw12 := sz_
    clear sz_
    obtain ⟨hr0_1p, hr0_1n, hr0_1c, hv_⟩ := RdL.form (OwU.rd o)
    subst hv_
    have oh110_ := Lib.hid (show OwU (w12) (w11.heap.size) (w12.heap.size) [] [own shFrame (.slice hr0_1p hr0_1n hr0_1c) xsr0_1] from o)
    clear o
    have al : (w12).grownBy ((w12).alloc (.cells #[.int .i64 ir0_0, (.slice hr0_1p hr0_1n hr0_1c), .int .i64 ir0_2] 29)) none := gby_alloc (gby_refl _ _) _
    have zs15 := World.grownBy.size al
    try simp only [World.size_alloc] at zs15
    have rA0111_ := Lib.hid (show ((w12.alloc (.cells #[.int .i64 ir0_0, (.slice hr0_1p hr0_1n hr0_1c), .int .i64 ir0_2] 29))).heap[W.heap.size]? = some (.cells #[.int .i64 i0_0, a0_1, .int .i64 i0_2] 24 (0, 0)) from row_held al rA0101_.out)
    clear rA0101_
    have rBw0112_ := Lib.hid (show ((w12.alloc (.cells #[.int .i64 ir0_0, (.slice hr0_1p hr0_1n hr0_1c), .int .i64 ir0_2] 29))).heap[w3.heap.size]? = some (.cells #[.int .i64 ir0_0, (.slice wr0_1p wr0_1n wr0_1c), .int .i64 ir0_2] 29 (0, 0)) from row_held al rBw0102_.out)
    clear rBw0102_
    have rBx0113_ := Lib.hid (show ((w12.alloc (.cells #[.int .i64 ir0_0, (.slice hr0_1p hr0_1n hr0_1c), .int .i64 ir0_2] 29))).heap[w4.heap.size]? = some (.cells #[.int .i64 i0_0, (.slice x00_1p x00_1n x00_1c), .int .i64 i0_2] 29 (0, 0)) from row_held al rBx0103_.out)
    clear rBx0103_
    have rBg0114_ := Lib.hid (show ((w12.alloc (.cells #[.int .i64 ir0_0, (.slice hr0_1p hr0_1n hr0_1c), .int .i64 ir0_2] 29))).heap[w5.heap.size]? = some (.cells #[.int .i64 ir0_0, (.slice gr0_1p gr0_1n gr0_1c), .int .i64 ir0_2] 29 (0, 0)) from row_held al rBg0104_.out)
    clear rBg0104_
    have ox0115_ := Lib.hid (show OwU ((w12.alloc (.cells #[.int .i64 ir0_0, (.slice hr0_1p hr0_1n hr0_1c), .int .i64 ir0_2] 29))) (w3.heap.size + 1) (w4.heap.size) [] [own shFrame (.slice x00_1p x00_1n x00_1c) (emL shFrame (1) xs0_1)] from OwU.grow ox0105_.out al)
    clear ox0105_
    have og116_ := Lib.hid (show OwU ((w12.alloc (.cells #[.int .i64 ir0_0, (.slice hr0_1p hr0_1n hr0_1c), .int .i64 ir0_2] 29))) (w4.heap.size + 1) (w5.heap.size) [] [own shFrame (.slice gr0_1p gr0_1n gr0_1c) (emL shFrame (1) xsr0_1)] from OwU.grow og106_.out al)
    clear og106_
    have oT3117_ := Lib.hid (show OwU ((w12.alloc (.cells #[.int .i64 ir0_0, (.slice hr0_1p hr0_1n hr0_1c), .int .i64 ir0_2] 29))) (w10.heap.size) (w11.heap.size) [] [own shFrame (.slice t30_1p t30_1n t30_1c) xs0_1] from OwU.grow oT3107_.out al)
    clear oT3107_
    have oh118_ := Lib.hid (show OwU ((w12.alloc (.cells #[.int .i64 ir0_0, (.slice hr0_1p hr0_1n hr0_1c), .int .i64 ir0_2] 29))) (w11.heap.size) (w12.heap.size) [] [own shFrame (.slice hr0_1p hr0_1n hr0_1c) xsr0_1] from OwU.grow oh110_.out al)
    clear oh110_
    have G119_ := Lib.hid (show (W).grownBy ((w12.alloc (.cells #[.int .i64 ir0_0, (.slice hr0_1p hr0_1n hr0_1c), .int .i64 ir0_2] 29))) none from gby_trans G108_.out al)
    have qw120_ := Lib.hid (show (w3).grownBy ((w12.alloc (.cells #[.int .i64 ir0_0, (.slice hr0_1p hr0_1n hr0_1c), .int .i64 ir0_2] 29))) none from gby_trans qw109_.out al)
    clear qw109_
    have rBh0121_ := Lib.hid (show ((w12.alloc (.cells #[.int .i64 ir0_0, (.slice hr0_1p hr0_1n hr0_1c), .int .i64 ir0_2] 29))).heap[w12.heap.size]? = some (.cells #[.int .i64 ir0_0, (.slice hr0_1p hr0_1n hr0_1c), .int .i64 ir0_2] 29 (0, 0)) from by first | exact heap_alloc_new _ _ | exact heap_pair _ _ _ | exact heap_trip _ _ _ _)
    clear al
    clear oT3117_
    have Bh0_0_ : ((w12.alloc (.cells #[.int .i64 ir0_0, (.slice hr0_1p hr0_1n hr0_1c), .int .i64 ir0_2] 29))).cell? ⟨w12.heap.size, 0, none⟩ = some (.int .i64 ir0_0) := cell_of_row _ _ 0 _ _ _ rBh0121_.out
    have Bh0_1_ : ((w12.alloc (.cells #[.int .i64 ir0_0, (.slice hr0_1p hr0_1n hr0_1c), .int .i64 ir0_2] 29))).cell? ⟨w12.heap.size, 1, none⟩ = some ((.slice hr0_1p hr0_1n hr0_1c)) := cell_of_row _ _ 1 _ _ _ rBh0121_.out
    have Bh0_2_ : ((w12.alloc (.cells #[.int .i64 ir0_0, (.slice hr0_1p hr0_1n hr0_1c), .int .i64 ir0_2] 29))).cell? ⟨w12.heap.size, 2, none⟩ = some (.int .i64 ir0_2) := cell_of_row _ _ 2 _ _ _ rBh0121_.out
    have Bw0_0_ : ((w12.alloc (.cells #[.int .i64 ir0_0, (.slice hr0_1p hr0_1n hr0_1c), .int .i64 ir0_2] 29))).cell? ⟨w3.heap.size, 0, none⟩ = some (.int .i64 ir0_0) := cell_of_row _ _ 0 _ _ _ rBw0112_.out
    have Bw0_1_ : ((w12.alloc (.cells #[.int .i64 ir0_0, (.slice hr0_1p hr0_1n hr0_1c), .int .i64 ir0_2] 29))).cell? ⟨w3.heap.size, 1, none⟩ = some ((.slice wr0_1p wr0_1n wr0_1c)) := cell_of_row _ _ 1 _ _ _ rBw0112_.out
    have Bw0_2_ : ((w12.alloc (.cells #[.int .i64 ir0_0, (.slice hr0_1p hr0_1n hr0_1c), .int .i64 ir0_2] 29))).cell? ⟨w3.heap.size, 2, none⟩ = some (.int .i64 ir0_2) := cell_of_row _ _ 2 _ _ _ rBw0112_.out
    go_wp2_with fail
    go_at_call 12
    refine (eqSender_d _ ir0_0 (.slice hr0_1p hr0_1n hr0_1c) ir0_2 (.slice wr0_1p wr0_1n wr0_1c) xsr0_1 (OwU.rd oh118_.out) (RdL.grow rd11_.out qw120_.out) hLr0_1).mono ?_
    rintro e w13 ⟨rfl, g⟩
    have zs16 := World.grownBy.size g
    try simp only [World.size_alloc] at zs16
    clear Bh0_0_ Bh0_1_ Bh0_2_ Bw0_0_ Bw0_1_ Bw0_2_
    have rA0122_ := Lib.hid (show (w13).heap[W.heap.size]? = some (.cells #[.int .i64 i0_0, a0_1, .int .i64 i0_2] 24 (0, 0)) from row_held g rA0111_.out)
    clear rA0111_
    have rBw0123_ := Lib.hid (show (w13).heap[w3.heap.size]? = some (.cells #[.int .i64 ir0_0, (.slice wr0_1p wr0_1n wr0_1c), .int .i64 ir0_2] 29 (0, 0)) from row_held g rBw0112_.out)
    clear rBw0112_
    have rBx0124_ := Lib.hid (show (w13).heap[w4.heap.size]? = some (.cells #[.int .i64 i0_0, (.slice x00_1p x00_1n x00_1c), .int .i64 i0_2] 29 (0, 0)) from row_held g rBx0113_.out)
    clear rBx0113_
    have rBg0125_ := Lib.hid (show (w13).heap[w5.heap.size]? = some (.cells #[.int .i64 ir0_0, (.slice gr0_1p gr0_1n gr0_1c), .int .i64 ir0_2] 29 (0, 0)) from row_held g rBg0114_.out)
    clear rBg0114_
    have rBh0126_ := Lib.hid (show (w13).heap[w12.heap.size]? = some (.cells #[.int .i64 ir0_0, (.slice hr0_1p hr0_1n hr0_1c), .int .i64 ir0_2] 29 (0, 0)) from row_held g rBh0121_.out)
    clear rBh0121_
    have ox0127_ := Lib.hid (show OwU (w13) (w3.heap.size + 1) (w4.heap.size) [] [own shFrame (.slice x00_1p x00_1n x00_1c) (emL shFrame (1) xs0_1)] from OwU.grow ox0115_.out g)
    clear ox0115_
    have og128_ := Lib.hid (show OwU (w13) (w4.heap.size + 1) (w5.heap.size) [] [own shFrame (.slice gr0_1p gr0_1n gr0_1c) (emL shFrame (1) xsr0_1)] from OwU.grow og116_.out g)
    clear og116_
    have oh129_ := Lib.hid (show OwU (w13) (w11.heap.size) (w12.heap.size) [] [own shFrame (.slice hr0_1p hr0_1n hr0_1c) xsr0_1] from OwU.grow oh118_.out g)
    clear oh118_
    have G130_ := Lib.hid (show (W).grownBy (w13) none from gby_trans G119_.out g)
    have qw131_ := Lib.hid (show (w3).grownBy (w13) none from gby_trans qw120_.out g)
    clear qw120_
    clear g
    have Bg0_0_ : (w13).cell? ⟨w5.heap.size, 0, none⟩ = some (.int .i64 ir0_0) := cell_of_row _ _ 0 _ _ _ rBg0125_.out
    have Bg0_1_ : (w13).cell? ⟨w5.heap.size, 1, none⟩ = some ((.slice gr0_1p gr0_1n gr0_1c)) := cell_of_row _ _ 1 _ _ _ rBg0125_.out
    have Bg0_2_ : (w13).cell? ⟨w5.heap.size, 2, none⟩ = some (.int .i64 ir0_2) := cell_of_row _ _ 2 _ _ _ rBg0125_.out
    go_wp2_with fail
    go_at_call 16
    refine (heldSender_d _ (1) ir0_0 (.slice gr0_1p gr0_1n gr0_1c) ir0_2 xsr0_1 (OwU.rd og128_.out) hLr0_1 (by omega)).mono ?_
    rintro e w14 ⟨rfl, g⟩
    have zs17 := World.grownBy.size g
    try simp only [World.size_alloc] at zs17
    clear Bg0_0_ Bg0_1_ Bg0_2_
    have rA0132_ := Lib.hid (show (w14).heap[W.heap.size]? = some (.cells #[.int .i64 i0_0, a0_1, .int .i64 i0_2] 24 (0, 0)) from row_held g rA0122_.out)
    clear rA0122_
    have rBw0133_ := Lib.hid (show (w14).heap[w3.heap.size]? = some (.cells #[.int .i64 ir0_0, (.slice wr0_1p wr0_1n wr0_1c), .int .i64 ir0_2] 29 (0, 0)) from row_held g rBw0123_.out)
    clear rBw0123_
    have rBx0134_ := Lib.hid (show (w14).heap[w4.heap.size]? = some (.cells #[.int .i64 i0_0, (.slice x00_1p x00_1n x00_1c), .int .i64 i0_2] 29 (0, 0)) from row_held g rBx0124_.out)
    clear rBx0124_
    have rBg0135_ := Lib.hid (show (w14).heap[w5.heap.size]? = some (.cells #[.int .i64 ir0_0, (.slice gr0_1p gr0_1n gr0_1c), .int .i64 ir0_2] 29 (0, 0)) from row_held g rBg0125_.out)
    clear rBg0125_
    have rBh0136_ := Lib.hid (show (w14).heap[w12.heap.size]? = some (.cells #[.int .i64 ir0_0, (.slice hr0_1p hr0_1n hr0_1c), .int .i64 ir0_2] 29 (0, 0)) from row_held g rBh0126_.out)
    clear rBh0126_
    have ox0137_ := Lib.hid (show OwU (w14) (w3.heap.size + 1) (w4.heap.size) [] [own shFrame (.slice x00_1p x00_1n x00_1c) (emL shFrame (1) xs0_1)] from OwU.grow ox0127_.out g)
    clear ox0127_
    have og138_ := Lib.hid (show OwU (w14) (w4.heap.size + 1) (w5.heap.size) [] [own shFrame (.slice gr0_1p gr0_1n gr0_1c) (emL shFrame (1) xsr0_1)] from OwU.grow og128_.out g)
    clear og128_
    have oh139_ := Lib.hid (show OwU (w14) (w11.heap.size) (w12.heap.size) [] [own shFrame (.slice hr0_1p hr0_1n hr0_1c) xsr0_1] from OwU.grow oh129_.out g)
    clear oh129_
    have G140_ := Lib.hid (show (W).grownBy (w14) none from gby_trans G130_.out g)
    have qw141_ := Lib.hid (show (w3).grownBy (w14) none from gby_trans qw131_.out g)
    clear qw131_
    clear g
    have ng14 : ¬ (((1 + ecL shFrame xsr0_1 : Nat) : Int) < 0) := by omega
    go_wp2
    go_ret
    exact ⟨rfl, gby_below G140_.out⟩

end Go.Proofs.Ytcenngekjopjpaa
