/-
  The walk of FnExactLinkOk: at every argument the program answers as its model and writes nothing that was there.
-/
import Derived.Test.YtnighnkkeiegnabQLink
import Derived.Test.YtnighnkkeiegnabRLinkOk
import Derived.WalkKit
import Derived.Deep.RegionHeld3
import Derived.Below
namespace Go.Proofs.Ytnighnkkeiegnab
open Go Go.RowKit

set_option maxRecDepth 8000 in
set_option maxHeartbeats 16000000 in
theorem walk_exactLinkOk_of (both : ∀ (i0_0 : Int) (xs0_1 : List DFrame) (i0_2 : Int) (i0_3 : Int) (xs0_4 : List (List Int)) (xs0_5 : List (List Int)) (xs0_6 : List Int), szL shFrame xs0_1 ≤ 1048576 → szL (shL shI) xs0_4 ≤ 1048576 → szL (shL shI) xs0_5 ≤ 1048576 → szL shI xs0_6 ≤ 1048576 → ∃ (br0 : Bool), (∀ (W : World), ∀ u0_1 u0_4 u0_5 u0_6, RdL shFrame W u0_1 xs0_1 → RdL (shL shI) W u0_4 xs0_4 → RdL (shL shI) W u0_5 xs0_5 → RdL shI W u0_6 xs0_6 → Calls Try.prog 16 #[.agg #[.int .i64 i0_0, u0_1, .int .i64 i0_2, .int .i64 i0_3, u0_4, u0_5, u0_6]] W (ResSLinkOk br0 W)) ∧ ∀ (W : World), ∀ u0_1 u0_4 u0_5 u0_6, RdL shFrame W u0_1 xs0_1 → RdL (shL shI) W u0_4 xs0_4 → RdL (shL shI) W u0_5 xs0_5 → RdL shI W u0_6 xs0_6 → Calls Try.prog 18 #[.agg #[.int .i64 i0_0, u0_1, .int .i64 i0_2, .int .i64 i0_3, u0_4, u0_5, u0_6]] W (ResILinkOk br0 W))
    (W : World) (i0_0 : Int) (a0_1 : Value) (xs0_1 : List DFrame) (i0_2 : Int) (i0_3 : Int) (a0_4 : Value) (xs0_4 : List (List Int)) (a0_5 : Value) (xs0_5 : List (List Int)) (a0_6 : Value) (xs0_6 : List Int) (H0_1 : RdL shFrame W a0_1 xs0_1) (H0_4 : RdL (shL shI) W a0_4 xs0_4) (H0_5 : RdL (shL shI) W a0_5 xs0_5) (H0_6 : RdL shI W a0_6 xs0_6) :
    Calls Try.prog 4 #[.agg #[.int .i64 i0_0, a0_1, .int .i64 i0_2, .int .i64 i0_3, a0_4, a0_5, a0_6]] W fun e w' => e = .returned (.bool true) ∧ Below W.heap.size W w' := by
  have HI0_1 := Lib.hid H0_1
  have hmx0_1 := H0_1.max
  clear H0_1
  have HI0_4 := Lib.hid H0_4
  have hmx0_4 := H0_4.max
  clear H0_4
  have HI0_5 := Lib.hid H0_5
  have hmx0_5 := H0_5.max
  clear H0_5
  have HI0_6 := Lib.hid H0_6
  have hmx0_6 := H0_6.max
  clear H0_6
  by_cases hs0 : (1048576 : Int) < (((szL shFrame xs0_1 + szL (shL shI) xs0_4 + szL (shL shI) xs0_5 + szL shI xs0_6) : Nat) : Int)
  · have hneg : (-1 : Int) < 0 := by omega
    go_enter Try.func4, Try.ntmps4
    have rA01_ := Lib.hid (show ((W.alloc (.cells #[.int .i64 i0_0, a0_1, .int .i64 i0_2, .int .i64 i0_3, a0_4, a0_5, a0_6] 46))).heap[W.heap.size]? = some (.cells #[.int .i64 i0_0, a0_1, .int .i64 i0_2, .int .i64 i0_3, a0_4, a0_5, a0_6] 46 (0, 0)) from by exact heap_alloc_new _ _)
    have G2_ := Lib.hid (show (W).grownBy ((W.alloc (.cells #[.int .i64 i0_0, a0_1, .int .i64 i0_2, .int .i64 i0_3, a0_4, a0_5, a0_6] 46))) none from (gby_alloc (gby_refl _ _) _))
    have A0_0_ : ((W.alloc (.cells #[.int .i64 i0_0, a0_1, .int .i64 i0_2, .int .i64 i0_3, a0_4, a0_5, a0_6] 46))).cell? ⟨W.heap.size, 0, none⟩ = some (.int .i64 i0_0) := cell_of_row _ _ 0 _ _ _ rA01_.out
    have A0_1_ : ((W.alloc (.cells #[.int .i64 i0_0, a0_1, .int .i64 i0_2, .int .i64 i0_3, a0_4, a0_5, a0_6] 46))).cell? ⟨W.heap.size, 1, none⟩ = some (a0_1) := cell_of_row _ _ 1 _ _ _ rA01_.out
    have A0_2_ : ((W.alloc (.cells #[.int .i64 i0_0, a0_1, .int .i64 i0_2, .int .i64 i0_3, a0_4, a0_5, a0_6] 46))).cell? ⟨W.heap.size, 2, none⟩ = some (.int .i64 i0_2) := cell_of_row _ _ 2 _ _ _ rA01_.out
    have A0_3_ : ((W.alloc (.cells #[.int .i64 i0_0, a0_1, .int .i64 i0_2, .int .i64 i0_3, a0_4, a0_5, a0_6] 46))).cell? ⟨W.heap.size, 3, none⟩ = some (.int .i64 i0_3) := cell_of_row _ _ 3 _ _ _ rA01_.out
    have A0_4_ : ((W.alloc (.cells #[.int .i64 i0_0, a0_1, .int .i64 i0_2, .int .i64 i0_3, a0_4, a0_5, a0_6] 46))).cell? ⟨W.heap.size, 4, none⟩ = some (a0_4) := cell_of_row _ _ 4 _ _ _ rA01_.out
    have A0_5_ : ((W.alloc (.cells #[.int .i64 i0_0, a0_1, .int .i64 i0_2, .int .i64 i0_3, a0_4, a0_5, a0_6] 46))).cell? ⟨W.heap.size, 5, none⟩ = some (a0_5) := cell_of_row _ _ 5 _ _ _ rA01_.out
    have A0_6_ : ((W.alloc (.cells #[.int .i64 i0_0, a0_1, .int .i64 i0_2, .int .i64 i0_3, a0_4, a0_5, a0_6] 46))).cell? ⟨W.heap.size, 6, none⟩ = some (a0_6) := cell_of_row _ _ 6 _ _ _ rA01_.out
    go_wp2_with fail
    go_at_call 15
    refine (szLink_d _ 1048576 i0_0 a0_1 i0_2 i0_3 a0_4 a0_5 a0_6 xs0_1 xs0_4 xs0_5 xs0_6 (HI0_1.out.grow G2_.out) (HI0_4.out.grow G2_.out) (HI0_5.out.grow G2_.out) (HI0_6.out.grow G2_.out) (by omega) (by omega)).mono ?_
    rintro e w1 ⟨he, g⟩
    rw [show lessN 1048576 (szL shFrame xs0_1 + szL (shL shI) xs0_4 + szL (shL shI) xs0_5 + szL shI xs0_6) = -1 from if_pos hs0] at he
    subst he
    clear A0_0_ A0_1_ A0_2_ A0_3_ A0_4_ A0_5_ A0_6_
    have rA03_ := Lib.hid (show (w1).heap[W.heap.size]? = some (.cells #[.int .i64 i0_0, a0_1, .int .i64 i0_2, .int .i64 i0_3, a0_4, a0_5, a0_6] 46 (0, 0)) from row_held g rA01_.out)
    clear rA01_
    have G4_ := Lib.hid (show (W).grownBy (w1) none from gby_trans G2_.out g)
    clear g
    go_wp2
    go_ret
    exact ⟨rfl, gby_below G4_.out⟩
  obtain ⟨rr0, hr0⟩ : ∃ r, r = lessN 1048576 (szL shFrame xs0_1 + szL (shL shI) xs0_4 + szL (shL shI) xs0_5 + szL shI xs0_6) := ⟨_, rfl⟩
  have hrr0 : rr0 = (1048576 : Int) - (((szL shFrame xs0_1 + szL (shL shI) xs0_4 + szL (shL shI) xs0_5 + szL shI xs0_6) : Nat) : Int) := hr0.trans (if_neg hs0)
  have hn0 : ¬ rr0 < 0 := by omega
  have hu0 : rr0 ≤ 1048576 := by omega
  have hl0_1 : szL shFrame xs0_1 ≤ 1048576 := by omega
  have hl0_4 : szL (shL shI) xs0_4 ≤ 1048576 := by omega
  have hl0_5 : szL (shL shI) xs0_5 ≤ 1048576 := by omega
  have hl0_6 : szL shI xs0_6 ≤ 1048576 := by omega
  have HR0 := Lib.hid hr0
  clear hs0 hr0 hrr0
  obtain ⟨br0, hs_, hi_⟩ := both i0_0 xs0_1 i0_2 i0_3 xs0_4 xs0_5 xs0_6 hl0_1 hl0_4 hl0_5 hl0_6
  have HS := Lib.hid hs_
  have HM := Lib.hid hi_
  clear hs_ hi_
  try clear both
  have hb_br0 : (br0 != br0) = false := by simp
  go_enter Try.func4, Try.ntmps4
  have rA01_ := Lib.hid (show ((W.alloc (.cells #[.int .i64 i0_0, a0_1, .int .i64 i0_2, .int .i64 i0_3, a0_4, a0_5, a0_6] 46))).heap[W.heap.size]? = some (.cells #[.int .i64 i0_0, a0_1, .int .i64 i0_2, .int .i64 i0_3, a0_4, a0_5, a0_6] 46 (0, 0)) from by exact heap_alloc_new _ _)
  have G2_ := Lib.hid (show (W).grownBy ((W.alloc (.cells #[.int .i64 i0_0, a0_1, .int .i64 i0_2, .int .i64 i0_3, a0_4, a0_5, a0_6] 46))) none from (gby_alloc (gby_refl _ _) _))
  have A0_0_ : ((W.alloc (.cells #[.int .i64 i0_0, a0_1, .int .i64 i0_2, .int .i64 i0_3, a0_4, a0_5, a0_6] 46))).cell? ⟨W.heap.size, 0, none⟩ = some (.int .i64 i0_0) := cell_of_row _ _ 0 _ _ _ rA01_.out
  have A0_1_ : ((W.alloc (.cells #[.int .i64 i0_0, a0_1, .int .i64 i0_2, .int .i64 i0_3, a0_4, a0_5, a0_6] 46))).cell? ⟨W.heap.size, 1, none⟩ = some (a0_1) := cell_of_row _ _ 1 _ _ _ rA01_.out
  have A0_2_ : ((W.alloc (.cells #[.int .i64 i0_0, a0_1, .int .i64 i0_2, .int .i64 i0_3, a0_4, a0_5, a0_6] 46))).cell? ⟨W.heap.size, 2, none⟩ = some (.int .i64 i0_2) := cell_of_row _ _ 2 _ _ _ rA01_.out
  have A0_3_ : ((W.alloc (.cells #[.int .i64 i0_0, a0_1, .int .i64 i0_2, .int .i64 i0_3, a0_4, a0_5, a0_6] 46))).cell? ⟨W.heap.size, 3, none⟩ = some (.int .i64 i0_3) := cell_of_row _ _ 3 _ _ _ rA01_.out
  have A0_4_ : ((W.alloc (.cells #[.int .i64 i0_0, a0_1, .int .i64 i0_2, .int .i64 i0_3, a0_4, a0_5, a0_6] 46))).cell? ⟨W.heap.size, 4, none⟩ = some (a0_4) := cell_of_row _ _ 4 _ _ _ rA01_.out
  have A0_5_ : ((W.alloc (.cells #[.int .i64 i0_0, a0_1, .int .i64 i0_2, .int .i64 i0_3, a0_4, a0_5, a0_6] 46))).cell? ⟨W.heap.size, 5, none⟩ = some (a0_5) := cell_of_row _ _ 5 _ _ _ rA01_.out
  have A0_6_ : ((W.alloc (.cells #[.int .i64 i0_0, a0_1, .int .i64 i0_2, .int .i64 i0_3, a0_4, a0_5, a0_6] 46))).cell? ⟨W.heap.size, 6, none⟩ = some (a0_6) := cell_of_row _ _ 6 _ _ _ rA01_.out
  go_wp2_with fail
  go_at_call 15
  refine (szLink_d _ 1048576 i0_0 a0_1 i0_2 i0_3 a0_4 a0_5 a0_6 xs0_1 xs0_4 xs0_5 xs0_6 (HI0_1.out.grow G2_.out) (HI0_4.out.grow G2_.out) (HI0_5.out.grow G2_.out) (HI0_6.out.grow G2_.out) (by omega) (by omega)).mono ?_
  rintro e w1 ⟨he, g⟩
  rw [← HR0.out] at he
  subst he
  have zs1 := World.grownBy.size g
  try simp only [World.size_alloc] at zs1
  clear A0_0_ A0_1_ A0_2_ A0_3_ A0_4_ A0_5_ A0_6_
  have rA03_ := Lib.hid (show (w1).heap[W.heap.size]? = some (.cells #[.int .i64 i0_0, a0_1, .int .i64 i0_2, .int .i64 i0_3, a0_4, a0_5, a0_6] 46 (0, 0)) from row_held g rA01_.out)
  clear rA01_
  have G4_ := Lib.hid (show (W).grownBy (w1) none from gby_trans G2_.out g)
  clear g
  have A0_0_ : (w1).cell? ⟨W.heap.size, 0, none⟩ = some (.int .i64 i0_0) := cell_of_row _ _ 0 _ _ _ rA03_.out
  have A0_1_ : (w1).cell? ⟨W.heap.size, 1, none⟩ = some (a0_1) := cell_of_row _ _ 1 _ _ _ rA03_.out
  have A0_2_ : (w1).cell? ⟨W.heap.size, 2, none⟩ = some (.int .i64 i0_2) := cell_of_row _ _ 2 _ _ _ rA03_.out
  have A0_3_ : (w1).cell? ⟨W.heap.size, 3, none⟩ = some (.int .i64 i0_3) := cell_of_row _ _ 3 _ _ _ rA03_.out
  have A0_4_ : (w1).cell? ⟨W.heap.size, 4, none⟩ = some (a0_4) := cell_of_row _ _ 4 _ _ _ rA03_.out
  have A0_5_ : (w1).cell? ⟨W.heap.size, 5, none⟩ = some (a0_5) := cell_of_row _ _ 5 _ _ _ rA03_.out
  have A0_6_ : (w1).cell? ⟨W.heap.size, 6, none⟩ = some (a0_6) := cell_of_row _ _ 6 _ _ _ rA03_.out
  go_wp2_with fail
  go_at_call 17
  refine (toLink_d _ i0_0 a0_1 i0_2 i0_3 a0_4 a0_5 a0_6 xs0_1 xs0_4 xs0_5 xs0_6 (HI0_1.out.grow G4_.out) hl0_1 (HI0_4.out.grow G4_.out) hl0_4 (HI0_5.out.grow G4_.out) hl0_5 (HI0_6.out.grow G4_.out) hl0_6).mono ?_
  rintro e w2 ⟨t10_1, t10_4, t10_5, t10_6, rfl, o, g⟩
  have sz_ := g.size
  try simp only [World.size_alloc] at sz_
  try simp only [World.size_alloc] at o
  have zs2 := World.grownBy.size g
  try simp only [World.size_alloc] at zs2
  clear A0_0_ A0_1_ A0_2_ A0_3_ A0_4_ A0_5_ A0_6_
  have rA05_ := Lib.hid (show (w2).heap[W.heap.size]? = some (.cells #[.int .i64 i0_0, a0_1, .int .i64 i0_2, .int .i64 i0_3, a0_4, a0_5, a0_6] 46 (0, 0)) from row_held g rA03_.out)
  clear rA03_
  have G6_ := Lib.hid (show (W).grownBy (w2) none from gby_trans G4_.out g)
  clear g
  have szw2 := sz_
  clear sz_
  obtain ⟨t10_1p, t10_1n, t10_1c, hv_⟩ := RdL.form (OwU.rd o)
  subst hv_
  obtain ⟨t10_4p, t10_4n, t10_4c, hv_⟩ := RdL.form (OwU.rd (OwU.tail o))
  subst hv_
  obtain ⟨t10_5p, t10_5n, t10_5c, hv_⟩ := RdL.form (OwU.rd (OwU.tail (OwU.tail o)))
  subst hv_
  obtain ⟨t10_6p, t10_6n, t10_6c, hv_⟩ := RdL.form (OwU.rd (OwU.tail (OwU.tail (OwU.tail o))))
  subst hv_
  have oT17_ := Lib.hid (show OwU (w2) (w1.heap.size) (w2.heap.size) [] [own shFrame (.slice t10_1p t10_1n t10_1c) xs0_1, own (shL shI) (.slice t10_4p t10_4n t10_4c) xs0_4, own (shL shI) (.slice t10_5p t10_5n t10_5c) xs0_5, own shI (.slice t10_6p t10_6n t10_6c) xs0_6] from o)
  clear o
  try unfold vLink
  go_wp2_with fail
  go_at_call 16
  refine (HS.out _ (.slice t10_1p t10_1n t10_1c) (.slice t10_4p t10_4n t10_4c) (.slice t10_5p t10_5n t10_5c) (.slice t10_6p t10_6n t10_6c) (OwU.rd oT17_.out) (OwU.rd (OwU.tail oT17_.out)) (OwU.rd (OwU.tail (OwU.tail oT17_.out))) (OwU.rd (OwU.tail (OwU.tail (OwU.tail oT17_.out))))).mono ?_
  rintro e w3 ⟨rfl, g⟩
  have sz_ := g.size
  try simp only [World.size_alloc] at sz_
  have zs3 := World.grownBy.size g
  try simp only [World.size_alloc] at zs3
  have rA08_ := Lib.hid (show (w3).heap[W.heap.size]? = some (.cells #[.int .i64 i0_0, a0_1, .int .i64 i0_2, .int .i64 i0_3, a0_4, a0_5, a0_6] 46 (0, 0)) from row_held g rA05_.out)
  clear rA05_
  have oT19_ := Lib.hid (show OwU (w3) (w1.heap.size) (w2.heap.size) [] [own shFrame (.slice t10_1p t10_1n t10_1c) xs0_1, own (shL shI) (.slice t10_4p t10_4n t10_4c) xs0_4, own (shL shI) (.slice t10_5p t10_5n t10_5c) xs0_5, own shI (.slice t10_6p t10_6n t10_6c) xs0_6] from OwU.grow oT17_.out g)
  clear oT17_
  have G10_ := Lib.hid (show (W).grownBy (w3) none from gby_trans G6_.out g)
  clear g
  have szw3 := sz_
  clear sz_
  clear oT19_
  have A0_0_ : (w3).cell? ⟨W.heap.size, 0, none⟩ = some (.int .i64 i0_0) := cell_of_row _ _ 0 _ _ _ rA08_.out
  have A0_1_ : (w3).cell? ⟨W.heap.size, 1, none⟩ = some (a0_1) := cell_of_row _ _ 1 _ _ _ rA08_.out
  have A0_2_ : (w3).cell? ⟨W.heap.size, 2, none⟩ = some (.int .i64 i0_2) := cell_of_row _ _ 2 _ _ _ rA08_.out
  have A0_3_ : (w3).cell? ⟨W.heap.size, 3, none⟩ = some (.int .i64 i0_3) := cell_of_row _ _ 3 _ _ _ rA08_.out
  have A0_4_ : (w3).cell? ⟨W.heap.size, 4, none⟩ = some (a0_4) := cell_of_row _ _ 4 _ _ _ rA08_.out
  have A0_5_ : (w3).cell? ⟨W.heap.size, 5, none⟩ = some (a0_5) := cell_of_row _ _ 5 _ _ _ rA08_.out
  have A0_6_ : (w3).cell? ⟨W.heap.size, 6, none⟩ = some (a0_6) := cell_of_row _ _ 6 _ _ _ rA08_.out
  go_wp2_with fail
  go_at_call 17
  refine (toLink_d _ i0_0 a0_1 i0_2 i0_3 a0_4 a0_5 a0_6 xs0_1 xs0_4 xs0_5 xs0_6 (HI0_1.out.grow G10_.out) hl0_1 (HI0_4.out.grow G10_.out) hl0_4 (HI0_5.out.grow G10_.out) hl0_5 (HI0_6.out.grow G10_.out) hl0_6).mono ?_
  rintro e w4 ⟨x00_1, x00_4, x00_5, x00_6, rfl, o, g⟩
  have sz_ := g.size
  try simp only [World.size_alloc] at sz_
  try simp only [World.size_alloc] at o
  have zs4 := World.grownBy.size g
  try simp only [World.size_alloc] at zs4
  clear A0_0_ A0_1_ A0_2_ A0_3_ A0_4_ A0_5_ A0_6_
  have rA011_ := Lib.hid (show (w4).heap[W.heap.size]? = some (.cells #[.int .i64 i0_0, a0_1, .int .i64 i0_2, .int .i64 i0_3, a0_4, a0_5, a0_6] 46 (0, 0)) from row_held g rA08_.out)
  clear rA08_
  have G12_ := Lib.hid (show (W).grownBy (w4) none from gby_trans G10_.out g)
  clear g
  have szw4 := sz_
  clear sz_
  obtain ⟨x00_1p, x00_1n, x00_1c, hv_⟩ := RdL.form (OwU.rd o)
  subst hv_
  obtain ⟨x00_4p, x00_4n, x00_4c, hv_⟩ := RdL.form (OwU.rd (OwU.tail o))
  subst hv_
  obtain ⟨x00_5p, x00_5n, x00_5c, hv_⟩ := RdL.form (OwU.rd (OwU.tail (OwU.tail o)))
  subst hv_
  obtain ⟨x00_6p, x00_6n, x00_6c, hv_⟩ := RdL.form (OwU.rd (OwU.tail (OwU.tail (OwU.tail o))))
  subst hv_
  have ox013_ := Lib.hid (show OwU (w4) (w3.heap.size) (w4.heap.size) [] [own shFrame (.slice x00_1p x00_1n x00_1c) xs0_1, own (shL shI) (.slice x00_4p x00_4n x00_4c) xs0_4, own (shL shI) (.slice x00_5p x00_5n x00_5c) xs0_5, own shI (.slice x00_6p x00_6n x00_6c) xs0_6] from o)
  clear o
  try unfold vLink
  have al : (w4).grownBy ((w4).alloc (.cells #[.int .i64 i0_0, (.slice x00_1p x00_1n x00_1c), .int .i64 i0_2, .int .i64 i0_3, (.slice x00_4p x00_4n x00_4c), (.slice x00_5p x00_5n x00_5c), (.slice x00_6p x00_6n x00_6c)] 54)) none := gby_alloc (gby_refl _ _) _
  have zs5 := World.grownBy.size al
  try simp only [World.size_alloc] at zs5
  have rA014_ := Lib.hid (show ((w4.alloc (.cells #[.int .i64 i0_0, (.slice x00_1p x00_1n x00_1c), .int .i64 i0_2, .int .i64 i0_3, (.slice x00_4p x00_4n x00_4c), (.slice x00_5p x00_5n x00_5c), (.slice x00_6p x00_6n x00_6c)] 54))).heap[W.heap.size]? = some (.cells #[.int .i64 i0_0, a0_1, .int .i64 i0_2, .int .i64 i0_3, a0_4, a0_5, a0_6] 46 (0, 0)) from row_held al rA011_.out)
  clear rA011_
  have ox015_ := Lib.hid (show OwU ((w4.alloc (.cells #[.int .i64 i0_0, (.slice x00_1p x00_1n x00_1c), .int .i64 i0_2, .int .i64 i0_3, (.slice x00_4p x00_4n x00_4c), (.slice x00_5p x00_5n x00_5c), (.slice x00_6p x00_6n x00_6c)] 54))) (w3.heap.size) (w4.heap.size) [] [own shFrame (.slice x00_1p x00_1n x00_1c) xs0_1, own (shL shI) (.slice x00_4p x00_4n x00_4c) xs0_4, own (shL shI) (.slice x00_5p x00_5n x00_5c) xs0_5, own shI (.slice x00_6p x00_6n x00_6c) xs0_6] from OwU.grow ox013_.out al)
  clear ox013_
  have G16_ := Lib.hid (show (W).grownBy ((w4.alloc (.cells #[.int .i64 i0_0, (.slice x00_1p x00_1n x00_1c), .int .i64 i0_2, .int .i64 i0_3, (.slice x00_4p x00_4n x00_4c), (.slice x00_5p x00_5n x00_5c), (.slice x00_6p x00_6n x00_6c)] 54))) none from gby_trans G12_.out al)
  have rBx017_ := Lib.hid (show ((w4.alloc (.cells #[.int .i64 i0_0, (.slice x00_1p x00_1n x00_1c), .int .i64 i0_2, .int .i64 i0_3, (.slice x00_4p x00_4n x00_4c), (.slice x00_5p x00_5n x00_5c), (.slice x00_6p x00_6n x00_6c)] 54))).heap[w4.heap.size]? = some (.cells #[.int .i64 i0_0, (.slice x00_1p x00_1n x00_1c), .int .i64 i0_2, .int .i64 i0_3, (.slice x00_4p x00_4n x00_4c), (.slice x00_5p x00_5n x00_5c), (.slice x00_6p x00_6n x00_6c)] 54 (0, 0)) from by first | exact heap_alloc_new _ _ | exact heap_pair _ _ _ | exact heap_trip _ _ _ _)
  clear al
  have Bx0_0_ : ((w4.alloc (.cells #[.int .i64 i0_0, (.slice x00_1p x00_1n x00_1c), .int .i64 i0_2, .int .i64 i0_3, (.slice x00_4p x00_4n x00_4c), (.slice x00_5p x00_5n x00_5c), (.slice x00_6p x00_6n x00_6c)] 54))).cell? ⟨w4.heap.size, 0, none⟩ = some (.int .i64 i0_0) := cell_of_row _ _ 0 _ _ _ rBx017_.out
  have Bx0_1_ : ((w4.alloc (.cells #[.int .i64 i0_0, (.slice x00_1p x00_1n x00_1c), .int .i64 i0_2, .int .i64 i0_3, (.slice x00_4p x00_4n x00_4c), (.slice x00_5p x00_5n x00_5c), (.slice x00_6p x00_6n x00_6c)] 54))).cell? ⟨w4.heap.size, 1, none⟩ = some ((.slice x00_1p x00_1n x00_1c)) := cell_of_row _ _ 1 _ _ _ rBx017_.out
  have Bx0_2_ : ((w4.alloc (.cells #[.int .i64 i0_0, (.slice x00_1p x00_1n x00_1c), .int .i64 i0_2, .int .i64 i0_3, (.slice x00_4p x00_4n x00_4c), (.slice x00_5p x00_5n x00_5c), (.slice x00_6p x00_6n x00_6c)] 54))).cell? ⟨w4.heap.size, 2, none⟩ = some (.int .i64 i0_2) := cell_of_row _ _ 2 _ _ _ rBx017_.out
  have Bx0_3_ : ((w4.alloc (.cells #[.int .i64 i0_0, (.slice x00_1p x00_1n x00_1c), .int .i64 i0_2, .int .i64 i0_3, (.slice x00_4p x00_4n x00_4c), (.slice x00_5p x00_5n x00_5c), (.slice x00_6p x00_6n x00_6c)] 54))).cell? ⟨w4.heap.size, 3, none⟩ = some (.int .i64 i0_3) := cell_of_row _ _ 3 _ _ _ rBx017_.out
  have Bx0_4_ : ((w4.alloc (.cells #[.int .i64 i0_0, (.slice x00_1p x00_1n x00_1c), .int .i64 i0_2, .int .i64 i0_3, (.slice x00_4p x00_4n x00_4c), (.slice x00_5p x00_5n x00_5c), (.slice x00_6p x00_6n x00_6c)] 54))).cell? ⟨w4.heap.size, 4, none⟩ = some ((.slice x00_4p x00_4n x00_4c)) := cell_of_row _ _ 4 _ _ _ rBx017_.out
  have Bx0_5_ : ((w4.alloc (.cells #[.int .i64 i0_0, (.slice x00_1p x00_1n x00_1c), .int .i64 i0_2, .int .i64 i0_3, (.slice x00_4p x00_4n x00_4c), (.slice x00_5p x00_5n x00_5c), (.slice x00_6p x00_6n x00_6c)] 54))).cell? ⟨w4.heap.size, 5, none⟩ = some ((.slice x00_5p x00_5n x00_5c)) := cell_of_row _ _ 5 _ _ _ rBx017_.out
  have Bx0_6_ : ((w4.alloc (.cells #[.int .i64 i0_0, (.slice x00_1p x00_1n x00_1c), .int .i64 i0_2, .int .i64 i0_3, (.slice x00_4p x00_4n x00_4c), (.slice x00_5p x00_5n x00_5c), (.slice x00_6p x00_6n x00_6c)] 54))).cell? ⟨w4.heap.size, 6, none⟩ = some ((.slice x00_6p x00_6n x00_6c)) := cell_of_row _ _ 6 _ _ _ rBx017_.out
  go_wp2_with fail
  go_at_call 18
  refine (HM.out _ (.slice x00_1p x00_1n x00_1c) (.slice x00_4p x00_4n x00_4c) (.slice x00_5p x00_5n x00_5c) (.slice x00_6p x00_6n x00_6c) (OwU.rd ox015_.out) (OwU.rd (OwU.tail ox015_.out)) (OwU.rd (OwU.tail (OwU.tail ox015_.out))) (OwU.rd (OwU.tail (OwU.tail (OwU.tail ox015_.out))))).mono ?_
  rintro e w5 ⟨rfl, g⟩
  have sz_ := g.size
  try simp only [World.size_alloc] at sz_
  have zs6 := World.grownBy.size g
  try simp only [World.size_alloc] at zs6
  clear Bx0_0_ Bx0_1_ Bx0_2_ Bx0_3_ Bx0_4_ Bx0_5_ Bx0_6_
  have rA018_ := Lib.hid (show (w5).heap[W.heap.size]? = some (.cells #[.int .i64 i0_0, a0_1, .int .i64 i0_2, .int .i64 i0_3, a0_4, a0_5, a0_6] 46 (0, 0)) from row_held g rA014_.out)
  clear rA014_
  have rBx019_ := Lib.hid (show (w5).heap[w4.heap.size]? = some (.cells #[.int .i64 i0_0, (.slice x00_1p x00_1n x00_1c), .int .i64 i0_2, .int .i64 i0_3, (.slice x00_4p x00_4n x00_4c), (.slice x00_5p x00_5n x00_5c), (.slice x00_6p x00_6n x00_6c)] 54 (0, 0)) from row_held g rBx017_.out)
  clear rBx017_
  have ox020_ := Lib.hid (show OwU (w5) (w3.heap.size) (w4.heap.size) [] [own shFrame (.slice x00_1p x00_1n x00_1c) xs0_1, own (shL shI) (.slice x00_4p x00_4n x00_4c) xs0_4, own (shL shI) (.slice x00_5p x00_5n x00_5c) xs0_5, own shI (.slice x00_6p x00_6n x00_6c) xs0_6] from OwU.grow ox015_.out g)
  clear ox015_
  have G21_ := Lib.hid (show (W).grownBy (w5) none from gby_trans G16_.out g)
  clear g
  have szw5 := sz_
  clear sz_
  have A0_0_ : (w5).cell? ⟨W.heap.size, 0, none⟩ = some (.int .i64 i0_0) := cell_of_row _ _ 0 _ _ _ rA018_.out
  have A0_1_ : (w5).cell? ⟨W.heap.size, 1, none⟩ = some (a0_1) := cell_of_row _ _ 1 _ _ _ rA018_.out
  have A0_2_ : (w5).cell? ⟨W.heap.size, 2, none⟩ = some (.int .i64 i0_2) := cell_of_row _ _ 2 _ _ _ rA018_.out
  have A0_3_ : (w5).cell? ⟨W.heap.size, 3, none⟩ = some (.int .i64 i0_3) := cell_of_row _ _ 3 _ _ _ rA018_.out
  have A0_4_ : (w5).cell? ⟨W.heap.size, 4, none⟩ = some (a0_4) := cell_of_row _ _ 4 _ _ _ rA018_.out
  have A0_5_ : (w5).cell? ⟨W.heap.size, 5, none⟩ = some (a0_5) := cell_of_row _ _ 5 _ _ _ rA018_.out
  have A0_6_ : (w5).cell? ⟨W.heap.size, 6, none⟩ = some (a0_6) := cell_of_row _ _ 6 _ _ _ rA018_.out
  have Bx0_0_ : (w5).cell? ⟨w4.heap.size, 0, none⟩ = some (.int .i64 i0_0) := cell_of_row _ _ 0 _ _ _ rBx019_.out
  have Bx0_1_ : (w5).cell? ⟨w4.heap.size, 1, none⟩ = some ((.slice x00_1p x00_1n x00_1c)) := cell_of_row _ _ 1 _ _ _ rBx019_.out
  have Bx0_2_ : (w5).cell? ⟨w4.heap.size, 2, none⟩ = some (.int .i64 i0_2) := cell_of_row _ _ 2 _ _ _ rBx019_.out
  have Bx0_3_ : (w5).cell? ⟨w4.heap.size, 3, none⟩ = some (.int .i64 i0_3) := cell_of_row _ _ 3 _ _ _ rBx019_.out
  have Bx0_4_ : (w5).cell? ⟨w4.heap.size, 4, none⟩ = some ((.slice x00_4p x00_4n x00_4c)) := cell_of_row _ _ 4 _ _ _ rBx019_.out
  have Bx0_5_ : (w5).cell? ⟨w4.heap.size, 5, none⟩ = some ((.slice x00_5p x00_5n x00_5c)) := cell_of_row _ _ 5 _ _ _ rBx019_.out
  have Bx0_6_ : (w5).cell? ⟨w4.heap.size, 6, none⟩ = some ((.slice x00_6p x00_6n x00_6c)) := cell_of_row _ _ 6 _ _ _ rBx019_.out
  go_wp2_with fail
  go_region_held3 (fun w' => w'.cell? ⟨W.heap.size, 0, none⟩ = some (.int .i64 i0_0) ∧ w'.cell? ⟨W.heap.size, 1, none⟩ = some (a0_1) ∧ w'.cell? ⟨W.heap.size, 2, none⟩ = some (.int .i64 i0_2) ∧ w'.cell? ⟨W.heap.size, 3, none⟩ = some (.int .i64 i0_3) ∧ w'.cell? ⟨W.heap.size, 4, none⟩ = some (a0_4) ∧ w'.cell? ⟨W.heap.size, 5, none⟩ = some (a0_5) ∧ w'.cell? ⟨W.heap.size, 6, none⟩ = some (a0_6) ∧ w'.cell? ⟨w4.heap.size, 0, none⟩ = some (.int .i64 i0_0) ∧ w'.cell? ⟨w4.heap.size, 1, none⟩ = some ((.slice x00_1p x00_1n x00_1c)) ∧ w'.cell? ⟨w4.heap.size, 2, none⟩ = some (.int .i64 i0_2) ∧ w'.cell? ⟨w4.heap.size, 3, none⟩ = some (.int .i64 i0_3) ∧ w'.cell? ⟨w4.heap.size, 4, none⟩ = some ((.slice x00_4p x00_4n x00_4c)) ∧ w'.cell? ⟨w4.heap.size, 5, none⟩ = some ((.slice x00_5p x00_5n x00_5c)) ∧ w'.cell? ⟨w4.heap.size, 6, none⟩ = some ((.slice x00_6p x00_6n x00_6c)))
    (first
      | exact ⟨A0_0_, A0_1_, A0_2_, A0_3_, A0_4_, A0_5_, A0_6_, Bx0_0_, Bx0_1_, Bx0_2_, Bx0_3_, Bx0_4_, Bx0_5_, Bx0_6_⟩
      | exact ⟨(gT.cell A0_0_ (by simp)), (gT.cell A0_1_ (by simp)), (gT.cell A0_2_ (by simp)), (gT.cell A0_3_ (by simp)), (gT.cell A0_4_ (by simp)), (gT.cell A0_5_ (by simp)), (gT.cell A0_6_ (by simp)), (gT.cell Bx0_0_ (by simp)), (gT.cell Bx0_1_ (by simp)), (gT.cell Bx0_2_ (by simp)), (gT.cell Bx0_3_ (by simp)), (gT.cell Bx0_4_ (by simp)), (gT.cell Bx0_5_ (by simp)), (gT.cell Bx0_6_ (by simp))⟩
      | exact ⟨(gE.cell (gT.cell A0_0_ (by simp)) (by simp)), (gE.cell (gT.cell A0_1_ (by simp)) (by simp)), (gE.cell (gT.cell A0_2_ (by simp)) (by simp)), (gE.cell (gT.cell A0_3_ (by simp)) (by simp)), (gE.cell (gT.cell A0_4_ (by simp)) (by simp)), (gE.cell (gT.cell A0_5_ (by simp)) (by simp)), (gE.cell (gT.cell A0_6_ (by simp)) (by simp)), (gE.cell (gT.cell Bx0_0_ (by simp)) (by simp)), (gE.cell (gT.cell Bx0_1_ (by simp)) (by simp)), (gE.cell (gT.cell Bx0_2_ (by simp)) (by simp)), (gE.cell (gT.cell Bx0_3_ (by simp)) (by simp)), (gE.cell (gT.cell Bx0_4_ (by simp)) (by simp)), (gE.cell (gT.cell Bx0_5_ (by simp)) (by simp)), (gE.cell (gT.cell Bx0_6_ (by simp)) (by simp))⟩)
    (first
      | (go_at_call 17; refine (toLink_d _ i0_0 a0_1 i0_2 i0_3 a0_4 a0_5 a0_6 xs0_1 xs0_4 xs0_5 xs0_6 (HI0_1.out.grow (gby_drew G21_.out)) hl0_1 (HI0_4.out.grow (gby_drew G21_.out)) hl0_4 (HI0_5.out.grow (gby_drew G21_.out)) hl0_5 (HI0_6.out.grow (gby_drew G21_.out)) hl0_6).mono ?_; rintro e wT1 ⟨t20_1, t20_4, t20_5, t20_6, rfl, oT, gT⟩; obtain ⟨t20_1p, t20_1n, t20_1c, hv_⟩ := RdL.form ((OwU.rd oT)); subst hv_; obtain ⟨t20_4p, t20_4n, t20_4c, hv_⟩ := RdL.form ((OwU.rd (OwU.tail oT))); subst hv_; obtain ⟨t20_5p, t20_5n, t20_5c, hv_⟩ := RdL.form ((OwU.rd (OwU.tail (OwU.tail oT)))); subst hv_; obtain ⟨t20_6p, t20_6n, t20_6c, hv_⟩ := RdL.form ((OwU.rd (OwU.tail (OwU.tail (OwU.tail oT))))); subst hv_; try unfold vLink)
      | (go_at_call 19; refine (eqLink_d _ i0_0 (.slice x00_1p x00_1n x00_1c) i0_2 i0_3 (.slice x00_4p x00_4n x00_4c) (.slice x00_5p x00_5n x00_5c) (.slice x00_6p x00_6n x00_6c) (.slice t20_1p t20_1n t20_1c) (.slice t20_4p t20_4n t20_4c) (.slice t20_5p t20_5n t20_5c) (.slice t20_6p t20_6n t20_6c) xs0_1 xs0_4 xs0_5 xs0_6 (RdL.grow (RdL.grow (OwU.rd ox020_.out) (gby_drew (gby_refl _ _))) gT) (OwU.rd oT) hl0_1 (RdL.grow (RdL.grow (OwU.rd (OwU.tail ox020_.out)) (gby_drew (gby_refl _ _))) gT) (OwU.rd (OwU.tail oT)) hl0_4 (RdL.grow (RdL.grow (OwU.rd (OwU.tail (OwU.tail ox020_.out))) (gby_drew (gby_refl _ _))) gT) (OwU.rd (OwU.tail (OwU.tail oT))) hl0_5 (RdL.grow (RdL.grow (OwU.rd (OwU.tail (OwU.tail (OwU.tail ox020_.out)))) (gby_drew (gby_refl _ _))) gT) (OwU.rd (OwU.tail (OwU.tail (OwU.tail oT)))) hl0_6).mono ?_; rintro e wE1 ⟨rfl, gE⟩))
  all_goals
    have g : (w5).grownBy wE1 none := gby_trans (gby_trans (gby_drew (gby_refl _ _)) gT) gE
    clear gT gE oT
    clear A0_0_ A0_1_ A0_2_ A0_3_ A0_4_ A0_5_ A0_6_ Bx0_0_ Bx0_1_ Bx0_2_ Bx0_3_ Bx0_4_ Bx0_5_ Bx0_6_
    have zs7 := World.grownBy.size g
    try simp only [World.size_alloc] at zs7
    have rA022_ := Lib.hid (show (wE1).heap[W.heap.size]? = some (.cells #[.int .i64 i0_0, a0_1, .int .i64 i0_2, .int .i64 i0_3, a0_4, a0_5, a0_6] 46 (0, 0)) from row_held g rA018_.out)
    clear rA018_
    have rBx023_ := Lib.hid (show (wE1).heap[w4.heap.size]? = some (.cells #[.int .i64 i0_0, (.slice x00_1p x00_1n x00_1c), .int .i64 i0_2, .int .i64 i0_3, (.slice x00_4p x00_4n x00_4c), (.slice x00_5p x00_5n x00_5c), (.slice x00_6p x00_6n x00_6c)] 54 (0, 0)) from row_held g rBx019_.out)
    clear rBx019_
    have ox024_ := Lib.hid (show OwU (wE1) (w3.heap.size) (w4.heap.size) [] [own shFrame (.slice x00_1p x00_1n x00_1c) xs0_1, own (shL shI) (.slice x00_4p x00_4n x00_4c) xs0_4, own (shL shI) (.slice x00_5p x00_5n x00_5c) xs0_5, own shI (.slice x00_6p x00_6n x00_6c) xs0_6] from OwU.grow ox020_.out g)
    clear ox020_
    have G25_ := Lib.hid (show (W).grownBy (wE1) none from gby_trans G21_.out g)
    clear g
    go_wp2
    go_ret
    exact ⟨rfl, gby_below G25_.out⟩

end Go.Proofs.Ytnighnkkeiegnab
