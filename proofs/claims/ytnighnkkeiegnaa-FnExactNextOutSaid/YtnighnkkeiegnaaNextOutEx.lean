/-
  The walk of FnExactNextOut: at every argument the program answers as its model and writes nothing that was there.
-/
import Derived.Test.YtnighnkkeiegnaaQQueue
import Derived.Test.YtnighnkkeiegnaaRNextOut
import Derived.WalkKit
import Derived.Deep.RegionHeld3
import Derived.Below
namespace Go.Proofs.Ytnighnkkeiegnaa
open Go Go.RowKit

set_option maxRecDepth 8000 in
set_option maxHeartbeats 16000000 in
theorem walk_exactNextOut_of (both : ∀ (xs0_0 : List DPacket) (xs0_1 : List Int) (xs0_2 : List Int) (xs0_3 : List DPacket), szL shPacket xs0_0 ≤ 1048576 → szL shI xs0_1 ≤ 1048576 → szL shI xs0_2 ≤ 1048576 → szL shPacket xs0_3 ≤ 1048576 → ∃ (ir0 : Int), (∀ (W : World), ∀ u0_0 u0_1 u0_2 u0_3, RdL shPacket W u0_0 xs0_0 → RdL shI W u0_1 xs0_1 → RdL shI W u0_2 xs0_2 → RdL shPacket W u0_3 xs0_3 → Calls Try.prog 15 #[.agg #[u0_0, u0_1, u0_2, u0_3]] W (ResSNextOut ir0 W)) ∧ ∀ (W : World), ∀ u0_0 u0_1 u0_2 u0_3, RdL shPacket W u0_0 xs0_0 → RdL shI W u0_1 xs0_1 → RdL shI W u0_2 xs0_2 → RdL shPacket W u0_3 xs0_3 → Calls Try.prog 17 #[.agg #[u0_0, u0_1, u0_2, u0_3]] W (ResINextOut ir0 W))
    (W : World) (a0_0 : Value) (xs0_0 : List DPacket) (a0_1 : Value) (xs0_1 : List Int) (a0_2 : Value) (xs0_2 : List Int) (a0_3 : Value) (xs0_3 : List DPacket) (H0_0 : RdL shPacket W a0_0 xs0_0) (H0_1 : RdL shI W a0_1 xs0_1) (H0_2 : RdL shI W a0_2 xs0_2) (H0_3 : RdL shPacket W a0_3 xs0_3) :
    Calls Try.prog 3 #[.agg #[a0_0, a0_1, a0_2, a0_3]] W fun e w' => e = .returned (.bool true) ∧ Below W.heap.size W w' := by
  have HI0_0 := Lib.hid H0_0
  have hmx0_0 := H0_0.max
  clear H0_0
  have HI0_1 := Lib.hid H0_1
  have hmx0_1 := H0_1.max
  clear H0_1
  have HI0_2 := Lib.hid H0_2
  have hmx0_2 := H0_2.max
  clear H0_2
  have HI0_3 := Lib.hid H0_3
  have hmx0_3 := H0_3.max
  clear H0_3
  by_cases hs0 : (1048576 : Int) < (((szL shPacket xs0_0 + szL shI xs0_1 + szL shI xs0_2 + szL shPacket xs0_3) : Nat) : Int)
  · have hneg : (-1 : Int) < 0 := by omega
    go_enter Try.func3, Try.ntmps3
    have rA01_ := Lib.hid (show ((W.alloc (.cells #[a0_0, a0_1, a0_2, a0_3] 27))).heap[W.heap.size]? = some (.cells #[a0_0, a0_1, a0_2, a0_3] 27 (0, 0)) from by exact heap_alloc_new _ _)
    have G2_ := Lib.hid (show (W).grownBy ((W.alloc (.cells #[a0_0, a0_1, a0_2, a0_3] 27))) none from (gby_alloc (gby_refl _ _) _))
    have A0_0_ : ((W.alloc (.cells #[a0_0, a0_1, a0_2, a0_3] 27))).cell? ⟨W.heap.size, 0, none⟩ = some (a0_0) := cell_of_row _ _ 0 _ _ _ rA01_.out
    have A0_1_ : ((W.alloc (.cells #[a0_0, a0_1, a0_2, a0_3] 27))).cell? ⟨W.heap.size, 1, none⟩ = some (a0_1) := cell_of_row _ _ 1 _ _ _ rA01_.out
    have A0_2_ : ((W.alloc (.cells #[a0_0, a0_1, a0_2, a0_3] 27))).cell? ⟨W.heap.size, 2, none⟩ = some (a0_2) := cell_of_row _ _ 2 _ _ _ rA01_.out
    have A0_3_ : ((W.alloc (.cells #[a0_0, a0_1, a0_2, a0_3] 27))).cell? ⟨W.heap.size, 3, none⟩ = some (a0_3) := cell_of_row _ _ 3 _ _ _ rA01_.out
    go_wp2_with fail
    go_at_call 14
    refine (szQueue_d _ 1048576 a0_0 a0_1 a0_2 a0_3 xs0_0 xs0_1 xs0_2 xs0_3 (HI0_0.out.grow G2_.out) (HI0_1.out.grow G2_.out) (HI0_2.out.grow G2_.out) (HI0_3.out.grow G2_.out) (by omega) (by omega)).mono ?_
    rintro e w1 ⟨he, g⟩
    rw [show lessN 1048576 (szL shPacket xs0_0 + szL shI xs0_1 + szL shI xs0_2 + szL shPacket xs0_3) = -1 from if_pos hs0] at he
    subst he
    clear A0_0_ A0_1_ A0_2_ A0_3_
    have rA03_ := Lib.hid (show (w1).heap[W.heap.size]? = some (.cells #[a0_0, a0_1, a0_2, a0_3] 27 (0, 0)) from row_held g rA01_.out)
    clear rA01_
    have G4_ := Lib.hid (show (W).grownBy (w1) none from gby_trans G2_.out g)
    clear g
    go_wp2
    go_ret
    exact ⟨rfl, gby_below G4_.out⟩
  obtain ⟨rr0, hr0⟩ : ∃ r, r = lessN 1048576 (szL shPacket xs0_0 + szL shI xs0_1 + szL shI xs0_2 + szL shPacket xs0_3) := ⟨_, rfl⟩
  have hrr0 : rr0 = (1048576 : Int) - (((szL shPacket xs0_0 + szL shI xs0_1 + szL shI xs0_2 + szL shPacket xs0_3) : Nat) : Int) := hr0.trans (if_neg hs0)
  have hn0 : ¬ rr0 < 0 := by omega
  have hu0 : rr0 ≤ 1048576 := by omega
  have hl0_0 : szL shPacket xs0_0 ≤ 1048576 := by omega
  have hl0_1 : szL shI xs0_1 ≤ 1048576 := by omega
  have hl0_2 : szL shI xs0_2 ≤ 1048576 := by omega
  have hl0_3 : szL shPacket xs0_3 ≤ 1048576 := by omega
  have HR0 := Lib.hid hr0
  clear hs0 hr0 hrr0
  obtain ⟨ir0, hs_, hi_⟩ := both xs0_0 xs0_1 xs0_2 xs0_3 hl0_0 hl0_1 hl0_2 hl0_3
  have HS := Lib.hid hs_
  have HM := Lib.hid hi_
  clear hs_ hi_
  try clear both
  have hb_ir0 : (ir0 != ir0) = false := by simp
  go_enter Try.func3, Try.ntmps3
  have rA01_ := Lib.hid (show ((W.alloc (.cells #[a0_0, a0_1, a0_2, a0_3] 27))).heap[W.heap.size]? = some (.cells #[a0_0, a0_1, a0_2, a0_3] 27 (0, 0)) from by exact heap_alloc_new _ _)
  have G2_ := Lib.hid (show (W).grownBy ((W.alloc (.cells #[a0_0, a0_1, a0_2, a0_3] 27))) none from (gby_alloc (gby_refl _ _) _))
  have A0_0_ : ((W.alloc (.cells #[a0_0, a0_1, a0_2, a0_3] 27))).cell? ⟨W.heap.size, 0, none⟩ = some (a0_0) := cell_of_row _ _ 0 _ _ _ rA01_.out
  have A0_1_ : ((W.alloc (.cells #[a0_0, a0_1, a0_2, a0_3] 27))).cell? ⟨W.heap.size, 1, none⟩ = some (a0_1) := cell_of_row _ _ 1 _ _ _ rA01_.out
  have A0_2_ : ((W.alloc (.cells #[a0_0, a0_1, a0_2, a0_3] 27))).cell? ⟨W.heap.size, 2, none⟩ = some (a0_2) := cell_of_row _ _ 2 _ _ _ rA01_.out
  have A0_3_ : ((W.alloc (.cells #[a0_0, a0_1, a0_2, a0_3] 27))).cell? ⟨W.heap.size, 3, none⟩ = some (a0_3) := cell_of_row _ _ 3 _ _ _ rA01_.out
  go_wp2_with fail
  go_at_call 14
  refine (szQueue_d _ 1048576 a0_0 a0_1 a0_2 a0_3 xs0_0 xs0_1 xs0_2 xs0_3 (HI0_0.out.grow G2_.out) (HI0_1.out.grow G2_.out) (HI0_2.out.grow G2_.out) (HI0_3.out.grow G2_.out) (by omega) (by omega)).mono ?_
  rintro e w1 ⟨he, g⟩
  rw [← HR0.out] at he
  subst he
  have zs1 := World.grownBy.size g
  try simp only [World.size_alloc] at zs1
  clear A0_0_ A0_1_ A0_2_ A0_3_
  have rA03_ := Lib.hid (show (w1).heap[W.heap.size]? = some (.cells #[a0_0, a0_1, a0_2, a0_3] 27 (0, 0)) from row_held g rA01_.out)
  clear rA01_
  have G4_ := Lib.hid (show (W).grownBy (w1) none from gby_trans G2_.out g)
  clear g
  have A0_0_ : (w1).cell? ⟨W.heap.size, 0, none⟩ = some (a0_0) := cell_of_row _ _ 0 _ _ _ rA03_.out
  have A0_1_ : (w1).cell? ⟨W.heap.size, 1, none⟩ = some (a0_1) := cell_of_row _ _ 1 _ _ _ rA03_.out
  have A0_2_ : (w1).cell? ⟨W.heap.size, 2, none⟩ = some (a0_2) := cell_of_row _ _ 2 _ _ _ rA03_.out
  have A0_3_ : (w1).cell? ⟨W.heap.size, 3, none⟩ = some (a0_3) := cell_of_row _ _ 3 _ _ _ rA03_.out
  go_wp2_with fail
  go_at_call 16
  refine (toQueue_d _ a0_0 a0_1 a0_2 a0_3 xs0_0 xs0_1 xs0_2 xs0_3 (HI0_0.out.grow G4_.out) hl0_0 (HI0_1.out.grow G4_.out) hl0_1 (HI0_2.out.grow G4_.out) hl0_2 (HI0_3.out.grow G4_.out) hl0_3).mono ?_
  rintro e w2 ⟨t10_0, t10_1, t10_2, t10_3, rfl, o, g⟩
  have sz_ := g.size
  try simp only [World.size_alloc] at sz_
  try simp only [World.size_alloc] at o
  have zs2 := World.grownBy.size g
  try simp only [World.size_alloc] at zs2
  clear A0_0_ A0_1_ A0_2_ A0_3_
  have rA05_ := Lib.hid (show (w2).heap[W.heap.size]? = some (.cells #[a0_0, a0_1, a0_2, a0_3] 27 (0, 0)) from row_held g rA03_.out)
  clear rA03_
  have G6_ := Lib.hid (show (W).grownBy (w2) none from gby_trans G4_.out g)
  clear g
  have szw2 := sz_
  clear sz_
  obtain ⟨t10_0p, t10_0n, t10_0c, hv_⟩ := RdL.form (OwU.rd o)
  subst hv_
  obtain ⟨t10_1p, t10_1n, t10_1c, hv_⟩ := RdL.form (OwU.rd (OwU.tail o))
  subst hv_
  obtain ⟨t10_2p, t10_2n, t10_2c, hv_⟩ := RdL.form (OwU.rd (OwU.tail (OwU.tail o)))
  subst hv_
  obtain ⟨t10_3p, t10_3n, t10_3c, hv_⟩ := RdL.form (OwU.rd (OwU.tail (OwU.tail (OwU.tail o))))
  subst hv_
  have oT17_ := Lib.hid (show OwU (w2) (w1.heap.size) (w2.heap.size) [] [own shPacket (.slice t10_0p t10_0n t10_0c) xs0_0, own shI (.slice t10_1p t10_1n t10_1c) xs0_1, own shI (.slice t10_2p t10_2n t10_2c) xs0_2, own shPacket (.slice t10_3p t10_3n t10_3c) xs0_3] from o)
  clear o
  try unfold vQueue
  go_wp2_with fail
  go_at_call 15
  refine (HS.out _ (.slice t10_0p t10_0n t10_0c) (.slice t10_1p t10_1n t10_1c) (.slice t10_2p t10_2n t10_2c) (.slice t10_3p t10_3n t10_3c) (OwU.rd oT17_.out) (OwU.rd (OwU.tail oT17_.out)) (OwU.rd (OwU.tail (OwU.tail oT17_.out))) (OwU.rd (OwU.tail (OwU.tail (OwU.tail oT17_.out))))).mono ?_
  rintro e w3 ⟨rfl, g⟩
  have sz_ := g.size
  try simp only [World.size_alloc] at sz_
  have zs3 := World.grownBy.size g
  try simp only [World.size_alloc] at zs3
  have rA08_ := Lib.hid (show (w3).heap[W.heap.size]? = some (.cells #[a0_0, a0_1, a0_2, a0_3] 27 (0, 0)) from row_held g rA05_.out)
  clear rA05_
  have oT19_ := Lib.hid (show OwU (w3) (w1.heap.size) (w2.heap.size) [] [own shPacket (.slice t10_0p t10_0n t10_0c) xs0_0, own shI (.slice t10_1p t10_1n t10_1c) xs0_1, own shI (.slice t10_2p t10_2n t10_2c) xs0_2, own shPacket (.slice t10_3p t10_3n t10_3c) xs0_3] from OwU.grow oT17_.out g)
  clear oT17_
  have G10_ := Lib.hid (show (W).grownBy (w3) none from gby_trans G6_.out g)
  clear g
  have szw3 := sz_
  clear sz_
  clear oT19_
  have A0_0_ : (w3).cell? ⟨W.heap.size, 0, none⟩ = some (a0_0) := cell_of_row _ _ 0 _ _ _ rA08_.out
  have A0_1_ : (w3).cell? ⟨W.heap.size, 1, none⟩ = some (a0_1) := cell_of_row _ _ 1 _ _ _ rA08_.out
  have A0_2_ : (w3).cell? ⟨W.heap.size, 2, none⟩ = some (a0_2) := cell_of_row _ _ 2 _ _ _ rA08_.out
  have A0_3_ : (w3).cell? ⟨W.heap.size, 3, none⟩ = some (a0_3) := cell_of_row _ _ 3 _ _ _ rA08_.out
  go_wp2_with fail
  go_at_call 16
  refine (toQueue_d _ a0_0 a0_1 a0_2 a0_3 xs0_0 xs0_1 xs0_2 xs0_3 (HI0_0.out.grow G10_.out) hl0_0 (HI0_1.out.grow G10_.out) hl0_1 (HI0_2.out.grow G10_.out) hl0_2 (HI0_3.out.grow G10_.out) hl0_3).mono ?_
  rintro e w4 ⟨x00_0, x00_1, x00_2, x00_3, rfl, o, g⟩
  have sz_ := g.size
  try simp only [World.size_alloc] at sz_
  try simp only [World.size_alloc] at o
  have zs4 := World.grownBy.size g
  try simp only [World.size_alloc] at zs4
  clear A0_0_ A0_1_ A0_2_ A0_3_
  have rA011_ := Lib.hid (show (w4).heap[W.heap.size]? = some (.cells #[a0_0, a0_1, a0_2, a0_3] 27 (0, 0)) from row_held g rA08_.out)
  clear rA08_
  have G12_ := Lib.hid (show (W).grownBy (w4) none from gby_trans G10_.out g)
  clear g
  have szw4 := sz_
  clear sz_
  obtain ⟨x00_0p, x00_0n, x00_0c, hv_⟩ := RdL.form (OwU.rd o)
  subst hv_
  obtain ⟨x00_1p, x00_1n, x00_1c, hv_⟩ := RdL.form (OwU.rd (OwU.tail o))
  subst hv_
  obtain ⟨x00_2p, x00_2n, x00_2c, hv_⟩ := RdL.form (OwU.rd (OwU.tail (OwU.tail o)))
  subst hv_
  obtain ⟨x00_3p, x00_3n, x00_3c, hv_⟩ := RdL.form (OwU.rd (OwU.tail (OwU.tail (OwU.tail o))))
  subst hv_
  have ox013_ := Lib.hid (show OwU (w4) (w3.heap.size) (w4.heap.size) [] [own shPacket (.slice x00_0p x00_0n x00_0c) xs0_0, own shI (.slice x00_1p x00_1n x00_1c) xs0_1, own shI (.slice x00_2p x00_2n x00_2c) xs0_2, own shPacket (.slice x00_3p x00_3n x00_3c) xs0_3] from o)
  clear o
  try unfold vQueue
  have al : (w4).grownBy ((w4).alloc (.cells #[(.slice x00_0p x00_0n x00_0c), (.slice x00_1p x00_1n x00_1c), (.slice x00_2p x00_2n x00_2c), (.slice x00_3p x00_3n x00_3c)] 33)) none := gby_alloc (gby_refl _ _) _
  have zs5 := World.grownBy.size al
  try simp only [World.size_alloc] at zs5
  have rA014_ := Lib.hid (show ((w4.alloc (.cells #[(.slice x00_0p x00_0n x00_0c), (.slice x00_1p x00_1n x00_1c), (.slice x00_2p x00_2n x00_2c), (.slice x00_3p x00_3n x00_3c)] 33))).heap[W.heap.size]? = some (.cells #[a0_0, a0_1, a0_2, a0_3] 27 (0, 0)) from row_held al rA011_.out)
  clear rA011_
  have ox015_ := Lib.hid (show OwU ((w4.alloc (.cells #[(.slice x00_0p x00_0n x00_0c), (.slice x00_1p x00_1n x00_1c), (.slice x00_2p x00_2n x00_2c), (.slice x00_3p x00_3n x00_3c)] 33))) (w3.heap.size) (w4.heap.size) [] [own shPacket (.slice x00_0p x00_0n x00_0c) xs0_0, own shI (.slice x00_1p x00_1n x00_1c) xs0_1, own shI (.slice x00_2p x00_2n x00_2c) xs0_2, own shPacket (.slice x00_3p x00_3n x00_3c) xs0_3] from OwU.grow ox013_.out al)
  clear ox013_
  have G16_ := Lib.hid (show (W).grownBy ((w4.alloc (.cells #[(.slice x00_0p x00_0n x00_0c), (.slice x00_1p x00_1n x00_1c), (.slice x00_2p x00_2n x00_2c), (.slice x00_3p x00_3n x00_3c)] 33))) none from gby_trans G12_.out al)
  have rBx017_ := Lib.hid (show ((w4.alloc (.cells #[(.slice x00_0p x00_0n x00_0c), (.slice x00_1p x00_1n x00_1c), (.slice x00_2p x00_2n x00_2c), (.slice x00_3p x00_3n x00_3c)] 33))).heap[w4.heap.size]? = some (.cells #[(.slice x00_0p x00_0n x00_0c), (.slice x00_1p x00_1n x00_1c), (.slice x00_2p x00_2n x00_2c), (.slice x00_3p x00_3n x00_3c)] 33 (0, 0)) from by first | exact heap_alloc_new _ _ | exact heap_pair _ _ _ | exact heap_trip _ _ _ _)
  clear al
  have Bx0_0_ : ((w4.alloc (.cells #[(.slice x00_0p x00_0n x00_0c), (.slice x00_1p x00_1n x00_1c), (.slice x00_2p x00_2n x00_2c), (.slice x00_3p x00_3n x00_3c)] 33))).cell? ⟨w4.heap.size, 0, none⟩ = some ((.slice x00_0p x00_0n x00_0c)) := cell_of_row _ _ 0 _ _ _ rBx017_.out
  have Bx0_1_ : ((w4.alloc (.cells #[(.slice x00_0p x00_0n x00_0c), (.slice x00_1p x00_1n x00_1c), (.slice x00_2p x00_2n x00_2c), (.slice x00_3p x00_3n x00_3c)] 33))).cell? ⟨w4.heap.size, 1, none⟩ = some ((.slice x00_1p x00_1n x00_1c)) := cell_of_row _ _ 1 _ _ _ rBx017_.out
  have Bx0_2_ : ((w4.alloc (.cells #[(.slice x00_0p x00_0n x00_0c), (.slice x00_1p x00_1n x00_1c), (.slice x00_2p x00_2n x00_2c), (.slice x00_3p x00_3n x00_3c)] 33))).cell? ⟨w4.heap.size, 2, none⟩ = some ((.slice x00_2p x00_2n x00_2c)) := cell_of_row _ _ 2 _ _ _ rBx017_.out
  have Bx0_3_ : ((w4.alloc (.cells #[(.slice x00_0p x00_0n x00_0c), (.slice x00_1p x00_1n x00_1c), (.slice x00_2p x00_2n x00_2c), (.slice x00_3p x00_3n x00_3c)] 33))).cell? ⟨w4.heap.size, 3, none⟩ = some ((.slice x00_3p x00_3n x00_3c)) := cell_of_row _ _ 3 _ _ _ rBx017_.out
  go_wp2_with fail
  go_at_call 17
  refine (HM.out _ (.slice x00_0p x00_0n x00_0c) (.slice x00_1p x00_1n x00_1c) (.slice x00_2p x00_2n x00_2c) (.slice x00_3p x00_3n x00_3c) (OwU.rd ox015_.out) (OwU.rd (OwU.tail ox015_.out)) (OwU.rd (OwU.tail (OwU.tail ox015_.out))) (OwU.rd (OwU.tail (OwU.tail (OwU.tail ox015_.out))))).mono ?_
  rintro e w5 ⟨rfl, g⟩
  have sz_ := g.size
  try simp only [World.size_alloc] at sz_
  have zs6 := World.grownBy.size g
  try simp only [World.size_alloc] at zs6
  clear Bx0_0_ Bx0_1_ Bx0_2_ Bx0_3_
  have rA018_ := Lib.hid (show (w5).heap[W.heap.size]? = some (.cells #[a0_0, a0_1, a0_2, a0_3] 27 (0, 0)) from row_held g rA014_.out)
  clear rA014_
  have rBx019_ := Lib.hid (show (w5).heap[w4.heap.size]? = some (.cells #[(.slice x00_0p x00_0n x00_0c), (.slice x00_1p x00_1n x00_1c), (.slice x00_2p x00_2n x00_2c), (.slice x00_3p x00_3n x00_3c)] 33 (0, 0)) from row_held g rBx017_.out)
  clear rBx017_
  have ox020_ := Lib.hid (show OwU (w5) (w3.heap.size) (w4.heap.size) [] [own shPacket (.slice x00_0p x00_0n x00_0c) xs0_0, own shI (.slice x00_1p x00_1n x00_1c) xs0_1, own shI (.slice x00_2p x00_2n x00_2c) xs0_2, own shPacket (.slice x00_3p x00_3n x00_3c) xs0_3] from OwU.grow ox015_.out g)
  clear ox015_
  have G21_ := Lib.hid (show (W).grownBy (w5) none from gby_trans G16_.out g)
  clear g
  have szw5 := sz_
  clear sz_
  have A0_0_ : (w5).cell? ⟨W.heap.size, 0, none⟩ = some (a0_0) := cell_of_row _ _ 0 _ _ _ rA018_.out
  have A0_1_ : (w5).cell? ⟨W.heap.size, 1, none⟩ = some (a0_1) := cell_of_row _ _ 1 _ _ _ rA018_.out
  have A0_2_ : (w5).cell? ⟨W.heap.size, 2, none⟩ = some (a0_2) := cell_of_row _ _ 2 _ _ _ rA018_.out
  have A0_3_ : (w5).cell? ⟨W.heap.size, 3, none⟩ = some (a0_3) := cell_of_row _ _ 3 _ _ _ rA018_.out
  have Bx0_0_ : (w5).cell? ⟨w4.heap.size, 0, none⟩ = some ((.slice x00_0p x00_0n x00_0c)) := cell_of_row _ _ 0 _ _ _ rBx019_.out
  have Bx0_1_ : (w5).cell? ⟨w4.heap.size, 1, none⟩ = some ((.slice x00_1p x00_1n x00_1c)) := cell_of_row _ _ 1 _ _ _ rBx019_.out
  have Bx0_2_ : (w5).cell? ⟨w4.heap.size, 2, none⟩ = some ((.slice x00_2p x00_2n x00_2c)) := cell_of_row _ _ 2 _ _ _ rBx019_.out
  have Bx0_3_ : (w5).cell? ⟨w4.heap.size, 3, none⟩ = some ((.slice x00_3p x00_3n x00_3c)) := cell_of_row _ _ 3 _ _ _ rBx019_.out
  go_wp2_with fail
  go_region_held3 (fun w' => w'.cell? ⟨W.heap.size, 0, none⟩ = some (a0_0) ∧ w'.cell? ⟨W.heap.size, 1, none⟩ = some (a0_1) ∧ w'.cell? ⟨W.heap.size, 2, none⟩ = some (a0_2) ∧ w'.cell? ⟨W.heap.size, 3, none⟩ = some (a0_3) ∧ w'.cell? ⟨w4.heap.size, 0, none⟩ = some ((.slice x00_0p x00_0n x00_0c)) ∧ w'.cell? ⟨w4.heap.size, 1, none⟩ = some ((.slice x00_1p x00_1n x00_1c)) ∧ w'.cell? ⟨w4.heap.size, 2, none⟩ = some ((.slice x00_2p x00_2n x00_2c)) ∧ w'.cell? ⟨w4.heap.size, 3, none⟩ = some ((.slice x00_3p x00_3n x00_3c)))
    (first
      | exact ⟨A0_0_, A0_1_, A0_2_, A0_3_, Bx0_0_, Bx0_1_, Bx0_2_, Bx0_3_⟩
      | exact ⟨(gT.cell A0_0_ (by simp)), (gT.cell A0_1_ (by simp)), (gT.cell A0_2_ (by simp)), (gT.cell A0_3_ (by simp)), (gT.cell Bx0_0_ (by simp)), (gT.cell Bx0_1_ (by simp)), (gT.cell Bx0_2_ (by simp)), (gT.cell Bx0_3_ (by simp))⟩
      | exact ⟨(gE.cell (gT.cell A0_0_ (by simp)) (by simp)), (gE.cell (gT.cell A0_1_ (by simp)) (by simp)), (gE.cell (gT.cell A0_2_ (by simp)) (by simp)), (gE.cell (gT.cell A0_3_ (by simp)) (by simp)), (gE.cell (gT.cell Bx0_0_ (by simp)) (by simp)), (gE.cell (gT.cell Bx0_1_ (by simp)) (by simp)), (gE.cell (gT.cell Bx0_2_ (by simp)) (by simp)), (gE.cell (gT.cell Bx0_3_ (by simp)) (by simp))⟩)
    (first
      | (go_at_call 16; refine (toQueue_d _ a0_0 a0_1 a0_2 a0_3 xs0_0 xs0_1 xs0_2 xs0_3 (HI0_0.out.grow (gby_drew G21_.out)) hl0_0 (HI0_1.out.grow (gby_drew G21_.out)) hl0_1 (HI0_2.out.grow (gby_drew G21_.out)) hl0_2 (HI0_3.out.grow (gby_drew G21_.out)) hl0_3).mono ?_; rintro e wT1 ⟨t20_0, t20_1, t20_2, t20_3, rfl, oT, gT⟩; obtain ⟨t20_0p, t20_0n, t20_0c, hv_⟩ := RdL.form ((OwU.rd oT)); subst hv_; obtain ⟨t20_1p, t20_1n, t20_1c, hv_⟩ := RdL.form ((OwU.rd (OwU.tail oT))); subst hv_; obtain ⟨t20_2p, t20_2n, t20_2c, hv_⟩ := RdL.form ((OwU.rd (OwU.tail (OwU.tail oT)))); subst hv_; obtain ⟨t20_3p, t20_3n, t20_3c, hv_⟩ := RdL.form ((OwU.rd (OwU.tail (OwU.tail (OwU.tail oT))))); subst hv_; try unfold vQueue)
      | (go_at_call 18; refine (eqQueue_d _ (.slice x00_0p x00_0n x00_0c) (.slice x00_1p x00_1n x00_1c) (.slice x00_2p x00_2n x00_2c) (.slice x00_3p x00_3n x00_3c) (.slice t20_0p t20_0n t20_0c) (.slice t20_1p t20_1n t20_1c) (.slice t20_2p t20_2n t20_2c) (.slice t20_3p t20_3n t20_3c) xs0_0 xs0_1 xs0_2 xs0_3 (RdL.grow (RdL.grow (OwU.rd ox020_.out) (gby_drew (gby_refl _ _))) gT) (OwU.rd oT) hl0_0 (RdL.grow (RdL.grow (OwU.rd (OwU.tail ox020_.out)) (gby_drew (gby_refl _ _))) gT) (OwU.rd (OwU.tail oT)) hl0_1 (RdL.grow (RdL.grow (OwU.rd (OwU.tail (OwU.tail ox020_.out))) (gby_drew (gby_refl _ _))) gT) (OwU.rd (OwU.tail (OwU.tail oT))) hl0_2 (RdL.grow (RdL.grow (OwU.rd (OwU.tail (OwU.tail (OwU.tail ox020_.out)))) (gby_drew (gby_refl _ _))) gT) (OwU.rd (OwU.tail (OwU.tail (OwU.tail oT)))) hl0_3).mono ?_; rintro e wE1 ⟨rfl, gE⟩))
  all_goals
    have g : (w5).grownBy wE1 none := gby_trans (gby_trans (gby_drew (gby_refl _ _)) gT) gE
    clear gT gE oT
    clear A0_0_ A0_1_ A0_2_ A0_3_ Bx0_0_ Bx0_1_ Bx0_2_ Bx0_3_
    have zs7 := World.grownBy.size g
    try simp only [World.size_alloc] at zs7
    have rA022_ := Lib.hid (show (wE1).heap[W.heap.size]? = some (.cells #[a0_0, a0_1, a0_2, a0_3] 27 (0, 0)) from row_held g rA018_.out)
    clear rA018_
    have rBx023_ := Lib.hid (show (wE1).heap[w4.heap.size]? = some (.cells #[(.slice x00_0p x00_0n x00_0c), (.slice x00_1p x00_1n x00_1c), (.slice x00_2p x00_2n x00_2c), (.slice x00_3p x00_3n x00_3c)] 33 (0, 0)) from row_held g rBx019_.out)
    clear rBx019_
    have ox024_ := Lib.hid (show OwU (wE1) (w3.heap.size) (w4.heap.size) [] [own shPacket (.slice x00_0p x00_0n x00_0c) xs0_0, own shI (.slice x00_1p x00_1n x00_1c) xs0_1, own shI (.slice x00_2p x00_2n x00_2c) xs0_2, own shPacket (.slice x00_3p x00_3n x00_3c) xs0_3] from OwU.grow ox020_.out g)
    clear ox020_
    have G25_ := Lib.hid (show (W).grownBy (wE1) none from gby_trans G21_.out g)
    clear g
    go_wp2
    go_ret
    exact ⟨rfl, gby_below G25_.out⟩

end Go.Proofs.Ytnighnkkeiegnaa
