/-
  The walk of FnExactPendingOf: at every argument the program answers as its model and writes nothing that was there, and its answer owns its memory.
-/
import Derived.Test.YtoedgncidoldaabQVectors
import Derived.Test.YtoedgncidoldaabRPendingOf
import Derived.Test.YtoedgncidoldaabShpI
import Derived.WalkKit
import Derived.Deep.RegionHeld3
import Derived.Below
namespace Go.Proofs.Ytoedgncidoldaab
open Go Go.RowKit

set_option maxRecDepth 8000 in
set_option maxHeartbeats 16000000 in
theorem walk_exactPendingOf_of (both : ∀ (i0_0 : Int) (xs0_1 : List Bool) (xs0_2 : List Bool), szL shB xs0_1 ≤ 1048576 → szL shB xs0_2 ≤ 1048576 → ∃ (xsr0 : List Int), szL shI xsr0 ≤ 1048576 ∧ (∀ (W : World), ∀ u0_1 u0_2, RdL shB W u0_1 xs0_1 → RdL shB W u0_2 xs0_2 → Calls Try.prog 35 #[.agg #[.int .i64 i0_0, u0_1, u0_2]] W (ResSPendingOf xsr0 W)) ∧ ∀ (W : World), ∀ u0_1 u0_2, RdL shB W u0_1 xs0_1 → RdL shB W u0_2 xs0_2 → Calls Try.prog 36 #[.agg #[.int .i64 i0_0, u0_1, u0_2]] W (ResIPendingOf xsr0 W))
    (W : World) (i0_0 : Int) (a0_1 : Value) (xs0_1 : List Bool) (a0_2 : Value) (xs0_2 : List Bool) (H0_1 : RdL shB W a0_1 xs0_1) (H0_2 : RdL shB W a0_2 xs0_2) :
    Calls Try.prog 10 #[.agg #[.int .i64 i0_0, a0_1, a0_2]] W fun e w' => e = .returned (.bool true) ∧ Below W.heap.size W w' := by
  have HI0_1 := Lib.hid H0_1
  have hmx0_1 := H0_1.max
  clear H0_1
  have HI0_2 := Lib.hid H0_2
  have hmx0_2 := H0_2.max
  clear H0_2
  by_cases hs0 : (1048576 : Int) < (((szL shB xs0_1 + szL shB xs0_2) : Nat) : Int)
  · have hneg : (-1 : Int) < 0 := by omega
    go_enter Try.func10, Try.ntmps10
    have rA01_ := Lib.hid (show ((W.alloc (.cells #[.int .i64 i0_0, a0_1, a0_2] 45))).heap[W.heap.size]? = some (.cells #[.int .i64 i0_0, a0_1, a0_2] 45 (0, 0)) from by exact heap_alloc_new _ _)
    have G2_ := Lib.hid (show (W).grownBy ((W.alloc (.cells #[.int .i64 i0_0, a0_1, a0_2] 45))) none from (gby_alloc (gby_refl _ _) _))
    have A0_0_ : ((W.alloc (.cells #[.int .i64 i0_0, a0_1, a0_2] 45))).cell? ⟨W.heap.size, 0, none⟩ = some (.int .i64 i0_0) := cell_of_row _ _ 0 _ _ _ rA01_.out
    have A0_1_ : ((W.alloc (.cells #[.int .i64 i0_0, a0_1, a0_2] 45))).cell? ⟨W.heap.size, 1, none⟩ = some (a0_1) := cell_of_row _ _ 1 _ _ _ rA01_.out
    have A0_2_ : ((W.alloc (.cells #[.int .i64 i0_0, a0_1, a0_2] 45))).cell? ⟨W.heap.size, 2, none⟩ = some (a0_2) := cell_of_row _ _ 2 _ _ _ rA01_.out
    go_wp2_with fail
    go_at_call 30
    refine (szVectors_d _ 1048576 i0_0 a0_1 a0_2 xs0_1 xs0_2 (HI0_1.out.grow G2_.out) (HI0_2.out.grow G2_.out) (by omega) (by omega)).mono ?_
    rintro e w1 ⟨he, g⟩
    rw [show lessN 1048576 (szL shB xs0_1 + szL shB xs0_2) = -1 from if_pos hs0] at he
    subst he
    clear A0_0_ A0_1_ A0_2_
    have rA03_ := Lib.hid (show (w1).heap[W.heap.size]? = some (.cells #[.int .i64 i0_0, a0_1, a0_2] 45 (0, 0)) from row_held g rA01_.out)
    clear rA01_
    have G4_ := Lib.hid (show (W).grownBy (w1) none from gby_trans G2_.out g)
    clear g
    go_wp2
    go_ret
    exact ⟨rfl, gby_below G4_.out⟩
  obtain ⟨rr0, hr0⟩ : ∃ r, r = lessN 1048576 (szL shB xs0_1 + szL shB xs0_2) := ⟨_, rfl⟩
  have hrr0 : rr0 = (1048576 : Int) - (((szL shB xs0_1 + szL shB xs0_2) : Nat) : Int) := hr0.trans (if_neg hs0)
  have hn0 : ¬ rr0 < 0 := by omega
  have hu0 : rr0 ≤ 1048576 := by omega
  have hl0_1 : szL shB xs0_1 ≤ 1048576 := by omega
  have hl0_2 : szL shB xs0_2 ≤ 1048576 := by omega
  have HR0 := Lib.hid hr0
  clear hs0 hr0 hrr0
  obtain ⟨xsr0, hLr0, hs_, hi_⟩ := both i0_0 xs0_1 xs0_2 hl0_1 hl0_2
  have HS := Lib.hid hs_
  have HM := Lib.hid hi_
  clear hs_ hi_
  try clear both
  have hq0_1 : ecL shB xs0_1 ≤ 104857600 := Nat.le_trans (ecL_le _ _) (Nat.le_trans (Nat.mul_le_mul_left _ hl0_1) (Nat.mul_le_mul_right 1048576 (show shB.c ≤ 100 by decide)))
  have hq0_2 : ecL shB xs0_2 ≤ 104857600 := Nat.le_trans (ecL_le _ _) (Nat.le_trans (Nat.mul_le_mul_left _ hl0_2) (Nat.mul_le_mul_right 1048576 (show shB.c ≤ 100 by decide)))
  have hqr0 : ecL shI xsr0 ≤ 104857600 := Nat.le_trans (ecL_le _ _) (Nat.le_trans (Nat.mul_le_mul_left _ hLr0) (Nat.mul_le_mul_right 1048576 (show shI.c ≤ 100 by decide)))
  go_enter Try.func10, Try.ntmps10
  have rA01_ := Lib.hid (show ((W.alloc (.cells #[.int .i64 i0_0, a0_1, a0_2] 45))).heap[W.heap.size]? = some (.cells #[.int .i64 i0_0, a0_1, a0_2] 45 (0, 0)) from by exact heap_alloc_new _ _)
  have G2_ := Lib.hid (show (W).grownBy ((W.alloc (.cells #[.int .i64 i0_0, a0_1, a0_2] 45))) none from (gby_alloc (gby_refl _ _) _))
  have A0_0_ : ((W.alloc (.cells #[.int .i64 i0_0, a0_1, a0_2] 45))).cell? ⟨W.heap.size, 0, none⟩ = some (.int .i64 i0_0) := cell_of_row _ _ 0 _ _ _ rA01_.out
  have A0_1_ : ((W.alloc (.cells #[.int .i64 i0_0, a0_1, a0_2] 45))).cell? ⟨W.heap.size, 1, none⟩ = some (a0_1) := cell_of_row _ _ 1 _ _ _ rA01_.out
  have A0_2_ : ((W.alloc (.cells #[.int .i64 i0_0, a0_1, a0_2] 45))).cell? ⟨W.heap.size, 2, none⟩ = some (a0_2) := cell_of_row _ _ 2 _ _ _ rA01_.out
  go_wp2_with fail
  go_at_call 30
  refine (szVectors_d _ 1048576 i0_0 a0_1 a0_2 xs0_1 xs0_2 (HI0_1.out.grow G2_.out) (HI0_2.out.grow G2_.out) (by omega) (by omega)).mono ?_
  rintro e w1 ⟨he, g⟩
  rw [← HR0.out] at he
  subst he
  have zs1 := World.grownBy.size g
  try simp only [World.size_alloc] at zs1
  clear A0_0_ A0_1_ A0_2_
  have rA03_ := Lib.hid (show (w1).heap[W.heap.size]? = some (.cells #[.int .i64 i0_0, a0_1, a0_2] 45 (0, 0)) from row_held g rA01_.out)
  clear rA01_
  have G4_ := Lib.hid (show (W).grownBy (w1) none from gby_trans G2_.out g)
  clear g
  have A0_0_ : (w1).cell? ⟨W.heap.size, 0, none⟩ = some (.int .i64 i0_0) := cell_of_row _ _ 0 _ _ _ rA03_.out
  have A0_1_ : (w1).cell? ⟨W.heap.size, 1, none⟩ = some (a0_1) := cell_of_row _ _ 1 _ _ _ rA03_.out
  have A0_2_ : (w1).cell? ⟨W.heap.size, 2, none⟩ = some (a0_2) := cell_of_row _ _ 2 _ _ _ rA03_.out
  go_wp2_with fail
  go_at_call 32
  refine (toVectors_d _ i0_0 a0_1 a0_2 xs0_1 xs0_2 (HI0_1.out.grow G4_.out) hl0_1 (HI0_2.out.grow G4_.out) hl0_2).mono ?_
  rintro e w2 ⟨t10_1, t10_2, rfl, o, g⟩
  have sz_ := g.size
  try simp only [World.size_alloc] at sz_
  try simp only [World.size_alloc] at o
  have zs2 := World.grownBy.size g
  try simp only [World.size_alloc] at zs2
  clear A0_0_ A0_1_ A0_2_
  have rA05_ := Lib.hid (show (w2).heap[W.heap.size]? = some (.cells #[.int .i64 i0_0, a0_1, a0_2] 45 (0, 0)) from row_held g rA03_.out)
  clear rA03_
  have G6_ := Lib.hid (show (W).grownBy (w2) none from gby_trans G4_.out g)
  clear g
  have szw2 := sz_
  clear sz_
  obtain ⟨t10_1p, t10_1n, t10_1c, hv_⟩ := RdL.form (OwU.rd o)
  subst hv_
  obtain ⟨t10_2p, t10_2n, t10_2c, hv_⟩ := RdL.form (OwU.rd (OwU.tail o))
  subst hv_
  have oT17_ := Lib.hid (show OwU (w2) (w1.heap.size) (w2.heap.size) [] [own shB (.slice t10_1p t10_1n t10_1c) xs0_1, own shB (.slice t10_2p t10_2n t10_2c) xs0_2] from o)
  clear o
  try unfold vVectors
  go_wp2_with fail
  go_at_call 35
  refine (HS.out _ (.slice t10_1p t10_1n t10_1c) (.slice t10_2p t10_2n t10_2c) (OwU.rd oT17_.out) (OwU.rd (OwU.tail oT17_.out))).mono ?_
  rintro e w3 ⟨wr0, rfl, or0, g⟩
  have sz_ := g.size
  try simp only [World.size_alloc] at sz_
  have zs3 := World.grownBy.size g
  try simp only [World.size_alloc] at zs3
  have rA08_ := Lib.hid (show (w3).heap[W.heap.size]? = some (.cells #[.int .i64 i0_0, a0_1, a0_2] 45 (0, 0)) from row_held g rA05_.out)
  clear rA05_
  have oT19_ := Lib.hid (show OwU (w3) (w1.heap.size) (w2.heap.size) [] [own shB (.slice t10_1p t10_1n t10_1c) xs0_1, own shB (.slice t10_2p t10_2n t10_2c) xs0_2] from OwU.grow oT17_.out g)
  clear oT17_
  have G10_ := Lib.hid (show (W).grownBy (w3) none from gby_trans G6_.out g)
  clear g
  have szw3 := sz_
  clear sz_
  obtain ⟨wr0p, wr0n, wr0c, hv_⟩ := RdL.form (or0)
  subst hv_
  have rd11_ := Lib.hid or0
  clear or0
  have qG12_ := Lib.hid (gby_refl w3 none)
  clear oT19_
  have A0_0_ : (w3).cell? ⟨W.heap.size, 0, none⟩ = some (.int .i64 i0_0) := cell_of_row _ _ 0 _ _ _ rA08_.out
  have A0_1_ : (w3).cell? ⟨W.heap.size, 1, none⟩ = some (a0_1) := cell_of_row _ _ 1 _ _ _ rA08_.out
  have A0_2_ : (w3).cell? ⟨W.heap.size, 2, none⟩ = some (a0_2) := cell_of_row _ _ 2 _ _ _ rA08_.out
  go_wp2_with fail
  go_at_call 32
  refine (toVectors_d _ i0_0 a0_1 a0_2 xs0_1 xs0_2 (HI0_1.out.grow G10_.out) hl0_1 (HI0_2.out.grow G10_.out) hl0_2).mono ?_
  rintro e w4 ⟨x00_1, x00_2, rfl, o, g⟩
  have sz_ := g.size
  try simp only [World.size_alloc] at sz_
  try simp only [World.size_alloc] at o
  have zs4 := World.grownBy.size g
  try simp only [World.size_alloc] at zs4
  clear A0_0_ A0_1_ A0_2_
  have rA013_ := Lib.hid (show (w4).heap[W.heap.size]? = some (.cells #[.int .i64 i0_0, a0_1, a0_2] 45 (0, 0)) from row_held g rA08_.out)
  clear rA08_
  have G14_ := Lib.hid (show (W).grownBy (w4) none from gby_trans G10_.out g)
  have qw15_ := Lib.hid (show (w3).grownBy (w4) none from gby_trans qG12_.out g)
  clear qG12_
  clear g
  have szw4 := sz_
  clear sz_
  obtain ⟨x00_1p, x00_1n, x00_1c, hv_⟩ := RdL.form (OwU.rd o)
  subst hv_
  obtain ⟨x00_2p, x00_2n, x00_2c, hv_⟩ := RdL.form (OwU.rd (OwU.tail o))
  subst hv_
  have ox016_ := Lib.hid (show OwU (w4) (w3.heap.size) (w4.heap.size) [] [own shB (.slice x00_1p x00_1n x00_1c) xs0_1, own shB (.slice x00_2p x00_2n x00_2c) xs0_2] from o)
  clear o
  try unfold vVectors
  have al : (w4).grownBy ((w4).alloc (.cells #[.int .i64 i0_0, (.slice x00_1p x00_1n x00_1c), (.slice x00_2p x00_2n x00_2c)] 48)) none := gby_alloc (gby_refl _ _) _
  have zs5 := World.grownBy.size al
  try simp only [World.size_alloc] at zs5
  have rA017_ := Lib.hid (show ((w4.alloc (.cells #[.int .i64 i0_0, (.slice x00_1p x00_1n x00_1c), (.slice x00_2p x00_2n x00_2c)] 48))).heap[W.heap.size]? = some (.cells #[.int .i64 i0_0, a0_1, a0_2] 45 (0, 0)) from row_held al rA013_.out)
  clear rA013_
  have ox018_ := Lib.hid (show OwU ((w4.alloc (.cells #[.int .i64 i0_0, (.slice x00_1p x00_1n x00_1c), (.slice x00_2p x00_2n x00_2c)] 48))) (w3.heap.size) (w4.heap.size) [] [own shB (.slice x00_1p x00_1n x00_1c) xs0_1, own shB (.slice x00_2p x00_2n x00_2c) xs0_2] from OwU.grow ox016_.out al)
  clear ox016_
  have G19_ := Lib.hid (show (W).grownBy ((w4.alloc (.cells #[.int .i64 i0_0, (.slice x00_1p x00_1n x00_1c), (.slice x00_2p x00_2n x00_2c)] 48))) none from gby_trans G14_.out al)
  have qw20_ := Lib.hid (show (w3).grownBy ((w4.alloc (.cells #[.int .i64 i0_0, (.slice x00_1p x00_1n x00_1c), (.slice x00_2p x00_2n x00_2c)] 48))) none from gby_trans qw15_.out al)
  clear qw15_
  have rBx021_ := Lib.hid (show ((w4.alloc (.cells #[.int .i64 i0_0, (.slice x00_1p x00_1n x00_1c), (.slice x00_2p x00_2n x00_2c)] 48))).heap[w4.heap.size]? = some (.cells #[.int .i64 i0_0, (.slice x00_1p x00_1n x00_1c), (.slice x00_2p x00_2n x00_2c)] 48 (0, 0)) from heap_alloc_new _ _)
  clear al
  have Bx0_0_ : ((w4.alloc (.cells #[.int .i64 i0_0, (.slice x00_1p x00_1n x00_1c), (.slice x00_2p x00_2n x00_2c)] 48))).cell? ⟨w4.heap.size, 0, none⟩ = some (.int .i64 i0_0) := cell_of_row _ _ 0 _ _ _ rBx021_.out
  have Bx0_1_ : ((w4.alloc (.cells #[.int .i64 i0_0, (.slice x00_1p x00_1n x00_1c), (.slice x00_2p x00_2n x00_2c)] 48))).cell? ⟨w4.heap.size, 1, none⟩ = some ((.slice x00_1p x00_1n x00_1c)) := cell_of_row _ _ 1 _ _ _ rBx021_.out
  have Bx0_2_ : ((w4.alloc (.cells #[.int .i64 i0_0, (.slice x00_1p x00_1n x00_1c), (.slice x00_2p x00_2n x00_2c)] 48))).cell? ⟨w4.heap.size, 2, none⟩ = some ((.slice x00_2p x00_2n x00_2c)) := cell_of_row _ _ 2 _ _ _ rBx021_.out
  go_wp2_with fail
  go_at_call 36
  refine (HM.out _ (.slice x00_1p x00_1n x00_1c) (.slice x00_2p x00_2n x00_2c) (OwU.rd ox018_.out) (OwU.rd (OwU.tail ox018_.out))).mono ?_
  rintro e w5 ⟨gr0, rfl, o, g⟩
  have sz_ := g.size
  try simp only [World.size_alloc] at sz_
  try simp only [World.size_alloc] at o
  have zs6 := World.grownBy.size g
  try simp only [World.size_alloc] at zs6
  clear Bx0_0_ Bx0_1_ Bx0_2_
  have rA022_ := Lib.hid (show (w5).heap[W.heap.size]? = some (.cells #[.int .i64 i0_0, a0_1, a0_2] 45 (0, 0)) from row_held g rA017_.out)
  clear rA017_
  have rBx023_ := Lib.hid (show (w5).heap[w4.heap.size]? = some (.cells #[.int .i64 i0_0, (.slice x00_1p x00_1n x00_1c), (.slice x00_2p x00_2n x00_2c)] 48 (0, 0)) from row_held g rBx021_.out)
  clear rBx021_
  have ox024_ := Lib.hid (show OwU (w5) (w3.heap.size) (w4.heap.size) [] [own shB (.slice x00_1p x00_1n x00_1c) xs0_1, own shB (.slice x00_2p x00_2n x00_2c) xs0_2] from OwU.grow ox018_.out g)
  clear ox018_
  have G25_ := Lib.hid (show (W).grownBy (w5) none from gby_trans G19_.out g)
  have qw26_ := Lib.hid (show (w3).grownBy (w5) none from gby_trans qw20_.out g)
  clear qw20_
  clear g
  have szw5 := sz_
  clear sz_
  obtain ⟨gr0p, gr0n, gr0c, hv_⟩ := RdL.form (OwU.rd o)
  subst hv_
  have og27_ := Lib.hid (show OwU (w5) (w4.heap.size + 1) (w5.heap.size) [] [own shI (.slice gr0p gr0n gr0c) xsr0] from o)
  clear o
  go_wp2_with fail
  go_at_call 14
  refine (eqIntS_d _ (.slice gr0p gr0n gr0c) (.slice wr0p wr0n wr0c) xsr0 (OwU.rd og27_.out) (RdL.grow rd11_.out qw26_.out) hLr0).mono ?_
  rintro e w6 ⟨rfl, g⟩
  have zs7 := World.grownBy.size g
  try simp only [World.size_alloc] at zs7
  have rA028_ := Lib.hid (show (w6).heap[W.heap.size]? = some (.cells #[.int .i64 i0_0, a0_1, a0_2] 45 (0, 0)) from row_held g rA022_.out)
  clear rA022_
  have rBx029_ := Lib.hid (show (w6).heap[w4.heap.size]? = some (.cells #[.int .i64 i0_0, (.slice x00_1p x00_1n x00_1c), (.slice x00_2p x00_2n x00_2c)] 48 (0, 0)) from row_held g rBx023_.out)
  clear rBx023_
  have ox030_ := Lib.hid (show OwU (w6) (w3.heap.size) (w4.heap.size) [] [own shB (.slice x00_1p x00_1n x00_1c) xs0_1, own shB (.slice x00_2p x00_2n x00_2c) xs0_2] from OwU.grow ox024_.out g)
  clear ox024_
  have og31_ := Lib.hid (show OwU (w6) (w4.heap.size + 1) (w5.heap.size) [] [own shI (.slice gr0p gr0n gr0c) xsr0] from OwU.grow og27_.out g)
  clear og27_
  have G32_ := Lib.hid (show (W).grownBy (w6) none from gby_trans G25_.out g)
  have qw33_ := Lib.hid (show (w3).grownBy (w6) none from gby_trans qw26_.out g)
  clear qw26_
  clear g
  have A0_0_ : (w6).cell? ⟨W.heap.size, 0, none⟩ = some (.int .i64 i0_0) := cell_of_row _ _ 0 _ _ _ rA028_.out
  have A0_1_ : (w6).cell? ⟨W.heap.size, 1, none⟩ = some (a0_1) := cell_of_row _ _ 1 _ _ _ rA028_.out
  have A0_2_ : (w6).cell? ⟨W.heap.size, 2, none⟩ = some (a0_2) := cell_of_row _ _ 2 _ _ _ rA028_.out
  have Bx0_0_ : (w6).cell? ⟨w4.heap.size, 0, none⟩ = some (.int .i64 i0_0) := cell_of_row _ _ 0 _ _ _ rBx029_.out
  have Bx0_1_ : (w6).cell? ⟨w4.heap.size, 1, none⟩ = some ((.slice x00_1p x00_1n x00_1c)) := cell_of_row _ _ 1 _ _ _ rBx029_.out
  have Bx0_2_ : (w6).cell? ⟨w4.heap.size, 2, none⟩ = some ((.slice x00_2p x00_2n x00_2c)) := cell_of_row _ _ 2 _ _ _ rBx029_.out
  go_wp2_with fail
  go_region_held3 (fun w' => w'.cell? ⟨W.heap.size, 0, none⟩ = some (.int .i64 i0_0) ∧ w'.cell? ⟨W.heap.size, 1, none⟩ = some (a0_1) ∧ w'.cell? ⟨W.heap.size, 2, none⟩ = some (a0_2) ∧ w'.cell? ⟨w4.heap.size, 0, none⟩ = some (.int .i64 i0_0) ∧ w'.cell? ⟨w4.heap.size, 1, none⟩ = some ((.slice x00_1p x00_1n x00_1c)) ∧ w'.cell? ⟨w4.heap.size, 2, none⟩ = some ((.slice x00_2p x00_2n x00_2c)))
    (first
      | exact ⟨A0_0_, A0_1_, A0_2_, Bx0_0_, Bx0_1_, Bx0_2_⟩
      | exact ⟨(gT.cell A0_0_ (by simp)), (gT.cell A0_1_ (by simp)), (gT.cell A0_2_ (by simp)), (gT.cell Bx0_0_ (by simp)), (gT.cell Bx0_1_ (by simp)), (gT.cell Bx0_2_ (by simp))⟩
      | exact ⟨(gE.cell (gT.cell A0_0_ (by simp)) (by simp)), (gE.cell (gT.cell A0_1_ (by simp)) (by simp)), (gE.cell (gT.cell A0_2_ (by simp)) (by simp)), (gE.cell (gT.cell Bx0_0_ (by simp)) (by simp)), (gE.cell (gT.cell Bx0_1_ (by simp)) (by simp)), (gE.cell (gT.cell Bx0_2_ (by simp)) (by simp))⟩)
    (first
      | (go_at_call 32; refine (toVectors_d _ i0_0 a0_1 a0_2 xs0_1 xs0_2 (HI0_1.out.grow (gby_drew G32_.out)) hl0_1 (HI0_2.out.grow (gby_drew G32_.out)) hl0_2).mono ?_; rintro e wT1 ⟨t20_1, t20_2, rfl, oT, gT⟩; obtain ⟨t20_1p, t20_1n, t20_1c, hv_⟩ := RdL.form ((OwU.rd oT)); subst hv_; obtain ⟨t20_2p, t20_2n, t20_2c, hv_⟩ := RdL.form ((OwU.rd (OwU.tail oT))); subst hv_; try unfold vVectors)
      | (go_at_call 34; refine (eqVectors_d _ i0_0 (.slice x00_1p x00_1n x00_1c) (.slice x00_2p x00_2n x00_2c) (.slice t20_1p t20_1n t20_1c) (.slice t20_2p t20_2n t20_2c) xs0_1 xs0_2 (RdL.grow (RdL.grow (OwU.rd ox030_.out) (gby_drew (gby_refl _ _))) gT) (OwU.rd oT) hl0_1 (RdL.grow (RdL.grow (OwU.rd (OwU.tail ox030_.out)) (gby_drew (gby_refl _ _))) gT) (OwU.rd (OwU.tail oT)) hl0_2).mono ?_; rintro e wE1 ⟨rfl, gE⟩))
  all_goals
    have g : (w6).grownBy wE1 none := gby_trans (gby_trans (gby_drew (gby_refl _ _)) gT) gE
    clear gT gE oT
    clear A0_0_ A0_1_ A0_2_ Bx0_0_ Bx0_1_ Bx0_2_
    have zs8 := World.grownBy.size g
    try simp only [World.size_alloc] at zs8
    have rA034_ := Lib.hid (show (wE1).heap[W.heap.size]? = some (.cells #[.int .i64 i0_0, a0_1, a0_2] 45 (0, 0)) from row_held g rA028_.out)
    clear rA028_
    have rBx035_ := Lib.hid (show (wE1).heap[w4.heap.size]? = some (.cells #[.int .i64 i0_0, (.slice x00_1p x00_1n x00_1c), (.slice x00_2p x00_2n x00_2c)] 48 (0, 0)) from row_held g rBx029_.out)
    clear rBx029_
    have ox036_ := Lib.hid (show OwU (wE1) (w3.heap.size) (w4.heap.size) [] [own shB (.slice x00_1p x00_1n x00_1c) xs0_1, own shB (.slice x00_2p x00_2n x00_2c) xs0_2] from OwU.grow ox030_.out g)
    clear ox030_
    have og37_ := Lib.hid (show OwU (wE1) (w4.heap.size + 1) (w5.heap.size) [] [own shI (.slice gr0p gr0n gr0c) xsr0] from OwU.grow og31_.out g)
    clear og31_
    have G38_ := Lib.hid (show (W).grownBy (wE1) none from gby_trans G32_.out g)
    have qw39_ := Lib.hid (show (w3).grownBy (wE1) none from gby_trans qw33_.out g)
    clear qw33_
    clear g
    have Bx0_0_ : (wE1).cell? ⟨w4.heap.size, 0, none⟩ = some (.int .i64 i0_0) := cell_of_row _ _ 0 _ _ _ rBx035_.out
    have Bx0_1_ : (wE1).cell? ⟨w4.heap.size, 1, none⟩ = some ((.slice x00_1p x00_1n x00_1c)) := cell_of_row _ _ 1 _ _ _ rBx035_.out
    have Bx0_2_ : (wE1).cell? ⟨w4.heap.size, 2, none⟩ = some ((.slice x00_2p x00_2n x00_2c)) := cell_of_row _ _ 2 _ _ _ rBx035_.out
    go_wp2_with fail
    go_at_call 37
    refine (markVectors_d _ (w3.heap.size) (w4.heap.size) (1) i0_0 (.slice x00_1p x00_1n x00_1c) (.slice x00_2p x00_2n x00_2c) xs0_1 xs0_2 [] [] ox036_.out (by first | omega | (simp only [World.size_alloc]; omega)) hl0_1 hl0_2 (by omega)).mono ?_
    rintro e w7 ⟨rfl, o, c⟩
    clear Bx0_0_ Bx0_1_ Bx0_2_
    have szw7 := c.size
    try simp only [World.size_alloc] at szw7
    have rA040_ := Lib.hid (show (w7).heap[W.heap.size]? = some (.cells #[.int .i64 i0_0, a0_1, a0_2] 45 (0, 0)) from Chg.keep c rA034_.out (by omega))
    clear rA034_
    have rBx041_ := Lib.hid (show (w7).heap[w4.heap.size]? = some (.cells #[.int .i64 i0_0, (.slice x00_1p x00_1n x00_1c), (.slice x00_2p x00_2n x00_2c)] 48 (0, 0)) from Chg.keep c rBx035_.out (by omega))
    clear rBx035_
    have og42_ := Lib.hid (show OwU (w7) (w4.heap.size + 1) (w5.heap.size) [] [own shI (.slice gr0p gr0n gr0c) xsr0] from OwU.keep c (by omega) og37_.out)
    clear og37_
    have G43_ := Lib.hid (show (W).grownBy (w7) none from gby_chg G38_.out c (by omega))
    have qw44_ := Lib.hid (show (w3).grownBy (w7) none from gby_chg qw39_.out c (by omega))
    clear qw39_
    have ox045_ := Lib.hid (show OwU (w7) (w3.heap.size) (w4.heap.size) [] [own shB (.slice x00_1p x00_1n x00_1c) (emL shB (1) xs0_1), own shB (.slice x00_2p x00_2n x00_2c) (emL shB (1 + ecL shB xs0_1) xs0_2)] from o)
    clear ox036_ o c
    go_wp2_with fail
    go_at_call 14
    refine (eqIntS_d _ (.slice gr0p gr0n gr0c) (.slice wr0p wr0n wr0c) xsr0 (OwU.rd og42_.out) (RdL.grow rd11_.out qw44_.out) hLr0).mono ?_
    rintro e w8 ⟨rfl, g⟩
    have zs9 := World.grownBy.size g
    try simp only [World.size_alloc] at zs9
    have rA046_ := Lib.hid (show (w8).heap[W.heap.size]? = some (.cells #[.int .i64 i0_0, a0_1, a0_2] 45 (0, 0)) from row_held g rA040_.out)
    clear rA040_
    have rBx047_ := Lib.hid (show (w8).heap[w4.heap.size]? = some (.cells #[.int .i64 i0_0, (.slice x00_1p x00_1n x00_1c), (.slice x00_2p x00_2n x00_2c)] 48 (0, 0)) from row_held g rBx041_.out)
    clear rBx041_
    have ox048_ := Lib.hid (show OwU (w8) (w3.heap.size) (w4.heap.size) [] [own shB (.slice x00_1p x00_1n x00_1c) (emL shB (1) xs0_1), own shB (.slice x00_2p x00_2n x00_2c) (emL shB (1 + ecL shB xs0_1) xs0_2)] from OwU.grow ox045_.out g)
    clear ox045_
    have og49_ := Lib.hid (show OwU (w8) (w4.heap.size + 1) (w5.heap.size) [] [own shI (.slice gr0p gr0n gr0c) xsr0] from OwU.grow og42_.out g)
    clear og42_
    have G50_ := Lib.hid (show (W).grownBy (w8) none from gby_trans G43_.out g)
    have qw51_ := Lib.hid (show (w3).grownBy (w8) none from gby_trans qw44_.out g)
    clear qw44_
    clear g
    obtain ⟨lo_, hi_, l_, u_, _, oo, ff⟩ := OwU.focus (pre := []) (p := own shI (.slice gr0p gr0n gr0c) xsr0) (post := []) og49_.out
    have FF := Lib.hid ff
    clear ff
    go_wp2_with fail
    go_at_call 38
    refine (markIntS_d _ lo_ hi_ (1) (.slice gr0p gr0n gr0c) xsr0 oo hLr0 (by omega)).mono ?_
    rintro e w9 ⟨rfl, o, c⟩
    have o_ := c
    have c' := chg_wide c (lo' := w4.heap.size + 1) (hi' := w5.heap.size) l_ u_
    clear c
    have c := c'
    clear c'
    have szw9 := c.size
    try simp only [World.size_alloc] at szw9
    have rA052_ := Lib.hid (show (w9).heap[W.heap.size]? = some (.cells #[.int .i64 i0_0, a0_1, a0_2] 45 (0, 0)) from Chg.keep c rA046_.out (by omega))
    clear rA046_
    have rBx053_ := Lib.hid (show (w9).heap[w4.heap.size]? = some (.cells #[.int .i64 i0_0, (.slice x00_1p x00_1n x00_1c), (.slice x00_2p x00_2n x00_2c)] 48 (0, 0)) from Chg.keep c rBx047_.out (by omega))
    clear rBx047_
    have ox054_ := Lib.hid (show OwU (w9) (w3.heap.size) (w4.heap.size) [] [own shB (.slice x00_1p x00_1n x00_1c) (emL shB (1) xs0_1), own shB (.slice x00_2p x00_2n x00_2c) (emL shB (1 + ecL shB xs0_1) xs0_2)] from OwU.keep c (by omega) ox048_.out)
    clear ox048_
    have G55_ := Lib.hid (show (W).grownBy (w9) none from gby_chg G50_.out c (by omega))
    have qw56_ := Lib.hid (show (w3).grownBy (w9) none from gby_chg qw51_.out c (by omega))
    clear qw51_
    have og57_ := Lib.hid (show OwU (w9) (w4.heap.size + 1) (w5.heap.size) [] [own shI (.slice gr0p gr0n gr0c) (emL shI (1) xsr0)] from FF.out _ (own shI (.slice gr0p gr0n gr0c) (emL shI (1) xsr0)) o_ o)
    clear og49_ o c oo FF o_
    go_wp2_with fail
    go_at_call 39
    refine (heldIntS_d _ (1) (.slice gr0p gr0n gr0c) xsr0 (OwU.rd og57_.out) hLr0 (by omega)).mono ?_
    rintro e w10 ⟨rfl, g⟩
    have zs10 := World.grownBy.size g
    try simp only [World.size_alloc] at zs10
    have rA058_ := Lib.hid (show (w10).heap[W.heap.size]? = some (.cells #[.int .i64 i0_0, a0_1, a0_2] 45 (0, 0)) from row_held g rA052_.out)
    clear rA052_
    have rBx059_ := Lib.hid (show (w10).heap[w4.heap.size]? = some (.cells #[.int .i64 i0_0, (.slice x00_1p x00_1n x00_1c), (.slice x00_2p x00_2n x00_2c)] 48 (0, 0)) from row_held g rBx053_.out)
    clear rBx053_
    have ox060_ := Lib.hid (show OwU (w10) (w3.heap.size) (w4.heap.size) [] [own shB (.slice x00_1p x00_1n x00_1c) (emL shB (1) xs0_1), own shB (.slice x00_2p x00_2n x00_2c) (emL shB (1 + ecL shB xs0_1) xs0_2)] from OwU.grow ox054_.out g)
    clear ox054_
    have og61_ := Lib.hid (show OwU (w10) (w4.heap.size + 1) (w5.heap.size) [] [own shI (.slice gr0p gr0n gr0c) (emL shI (1) xsr0)] from OwU.grow og57_.out g)
    clear og57_
    have G62_ := Lib.hid (show (W).grownBy (w10) none from gby_trans G55_.out g)
    have qw63_ := Lib.hid (show (w3).grownBy (w10) none from gby_trans qw56_.out g)
    clear qw56_
    clear g
    have ng10 : ¬ (((1 + ecL shI xsr0 : Nat) : Int) < 0) := by omega
    have A0_0_ : (w10).cell? ⟨W.heap.size, 0, none⟩ = some (.int .i64 i0_0) := cell_of_row _ _ 0 _ _ _ rA058_.out
    have A0_1_ : (w10).cell? ⟨W.heap.size, 1, none⟩ = some (a0_1) := cell_of_row _ _ 1 _ _ _ rA058_.out
    have A0_2_ : (w10).cell? ⟨W.heap.size, 2, none⟩ = some (a0_2) := cell_of_row _ _ 2 _ _ _ rA058_.out
    go_wp2_with fail
    go_at_call 32
    refine (toVectors_d _ i0_0 a0_1 a0_2 xs0_1 xs0_2 (HI0_1.out.grow G62_.out) hl0_1 (HI0_2.out.grow G62_.out) hl0_2).mono ?_
    rintro e w11 ⟨t30_1, t30_2, rfl, o, g⟩
    have sz_ := g.size
    try simp only [World.size_alloc] at sz_
    try simp only [World.size_alloc] at o
    have zs11 := World.grownBy.size g
    try simp only [World.size_alloc] at zs11
    clear A0_0_ A0_1_ A0_2_
    have rA064_ := Lib.hid (show (w11).heap[W.heap.size]? = some (.cells #[.int .i64 i0_0, a0_1, a0_2] 45 (0, 0)) from row_held g rA058_.out)
    clear rA058_
    have rBx065_ := Lib.hid (show (w11).heap[w4.heap.size]? = some (.cells #[.int .i64 i0_0, (.slice x00_1p x00_1n x00_1c), (.slice x00_2p x00_2n x00_2c)] 48 (0, 0)) from row_held g rBx059_.out)
    clear rBx059_
    have ox066_ := Lib.hid (show OwU (w11) (w3.heap.size) (w4.heap.size) [] [own shB (.slice x00_1p x00_1n x00_1c) (emL shB (1) xs0_1), own shB (.slice x00_2p x00_2n x00_2c) (emL shB (1 + ecL shB xs0_1) xs0_2)] from OwU.grow ox060_.out g)
    clear ox060_
    have og67_ := Lib.hid (show OwU (w11) (w4.heap.size + 1) (w5.heap.size) [] [own shI (.slice gr0p gr0n gr0c) (emL shI (1) xsr0)] from OwU.grow og61_.out g)
    clear og61_
    have G68_ := Lib.hid (show (W).grownBy (w11) none from gby_trans G62_.out g)
    have qw69_ := Lib.hid (show (w3).grownBy (w11) none from gby_trans qw63_.out g)
    clear qw63_
    clear g
    have szw11 := sz_
    clear sz_
    obtain ⟨t30_1p, t30_1n, t30_1c, hv_⟩ := RdL.form (OwU.rd o)
    subst hv_
    obtain ⟨t30_2p, t30_2n, t30_2c, hv_⟩ := RdL.form (OwU.rd (OwU.tail o))
    subst hv_
    have oT370_ := Lib.hid (show OwU (w11) (w10.heap.size) (w11.heap.size) [] [own shB (.slice t30_1p t30_1n t30_1c) xs0_1, own shB (.slice t30_2p t30_2n t30_2c) xs0_2] from o)
    clear o
    try unfold vVectors
    go_wp2_with fail
    go_at_call 36
    refine (HM.out _ (.slice t30_1p t30_1n t30_1c) (.slice t30_2p t30_2n t30_2c) (OwU.rd oT370_.out) (OwU.rd (OwU.tail oT370_.out))).mono ?_
    rintro e w12 ⟨hr0, rfl, o, g⟩
    have sz_ := g.size
    try simp only [World.size_alloc] at sz_
    try simp only [World.size_alloc] at o
    have zs12 := World.grownBy.size g
    try simp only [World.size_alloc] at zs12
    have rA071_ := Lib.hid (show (w12).heap[W.heap.size]? = some (.cells #[.int .i64 i0_0, a0_1, a0_2] 45 (0, 0)) from row_held g rA064_.out)
    clear rA064_
    have rBx072_ := Lib.hid (show (w12).heap[w4.heap.size]? = some (.cells #[.int .i64 i0_0, (.slice x00_1p x00_1n x00_1c), (.slice x00_2p x00_2n x00_2c)] 48 (0, 0)) from row_held g rBx065_.out)
    clear rBx065_
    have ox073_ := Lib.hid (show OwU (w12) (w3.heap.size) (w4.heap.size) [] [own shB (.slice x00_1p x00_1n x00_1c) (emL shB (1) xs0_1), own shB (.slice x00_2p x00_2n x00_2c) (emL shB (1 + ecL shB xs0_1) xs0_2)] from OwU.grow ox066_.out g)
    clear ox066_
    have og74_ := Lib.hid (show OwU (w12) (w4.heap.size + 1) (w5.heap.size) [] [own shI (.slice gr0p gr0n gr0c) (emL shI (1) xsr0)] from OwU.grow og67_.out g)
    clear og67_
    have oT375_ := Lib.hid (show OwU (w12) (w10.heap.size) (w11.heap.size) [] [own shB (.slice t30_1p t30_1n t30_1c) xs0_1, own shB (.slice t30_2p t30_2n t30_2c) xs0_2] from OwU.grow oT370_.out g)
    clear oT370_
    have G76_ := Lib.hid (show (W).grownBy (w12) none from gby_trans G68_.out g)
    have qw77_ := Lib.hid (show (w3).grownBy (w12) none from gby_trans qw69_.out g)
    clear qw69_
    clear g
    have szw12 := sz_
    clear sz_
    obtain ⟨hr0p, hr0n, hr0c, hv_⟩ := RdL.form (OwU.rd o)
    subst hv_
    have oh78_ := Lib.hid (show OwU (w12) (w11.heap.size) (w12.heap.size) [] [own shI (.slice hr0p hr0n hr0c) xsr0] from o)
    clear o
    clear oT375_
    go_wp2_with fail
    go_at_call 14
    refine (eqIntS_d _ (.slice hr0p hr0n hr0c) (.slice wr0p wr0n wr0c) xsr0 (OwU.rd oh78_.out) (RdL.grow rd11_.out qw77_.out) hLr0).mono ?_
    rintro e w13 ⟨rfl, g⟩
    have zs13 := World.grownBy.size g
    try simp only [World.size_alloc] at zs13
    have rA079_ := Lib.hid (show (w13).heap[W.heap.size]? = some (.cells #[.int .i64 i0_0, a0_1, a0_2] 45 (0, 0)) from row_held g rA071_.out)
    clear rA071_
    have rBx080_ := Lib.hid (show (w13).heap[w4.heap.size]? = some (.cells #[.int .i64 i0_0, (.slice x00_1p x00_1n x00_1c), (.slice x00_2p x00_2n x00_2c)] 48 (0, 0)) from row_held g rBx072_.out)
    clear rBx072_
    have ox081_ := Lib.hid (show OwU (w13) (w3.heap.size) (w4.heap.size) [] [own shB (.slice x00_1p x00_1n x00_1c) (emL shB (1) xs0_1), own shB (.slice x00_2p x00_2n x00_2c) (emL shB (1 + ecL shB xs0_1) xs0_2)] from OwU.grow ox073_.out g)
    clear ox073_
    have og82_ := Lib.hid (show OwU (w13) (w4.heap.size + 1) (w5.heap.size) [] [own shI (.slice gr0p gr0n gr0c) (emL shI (1) xsr0)] from OwU.grow og74_.out g)
    clear og74_
    have oh83_ := Lib.hid (show OwU (w13) (w11.heap.size) (w12.heap.size) [] [own shI (.slice hr0p hr0n hr0c) xsr0] from OwU.grow oh78_.out g)
    clear oh78_
    have G84_ := Lib.hid (show (W).grownBy (w13) none from gby_trans G76_.out g)
    have qw85_ := Lib.hid (show (w3).grownBy (w13) none from gby_trans qw77_.out g)
    clear qw77_
    clear g
    go_wp2_with fail
    go_at_call 39
    refine (heldIntS_d _ (1) (.slice gr0p gr0n gr0c) xsr0 (OwU.rd og82_.out) hLr0 (by omega)).mono ?_
    rintro e w14 ⟨rfl, g⟩
    have zs14 := World.grownBy.size g
    try simp only [World.size_alloc] at zs14
    have rA086_ := Lib.hid (show (w14).heap[W.heap.size]? = some (.cells #[.int .i64 i0_0, a0_1, a0_2] 45 (0, 0)) from row_held g rA079_.out)
    clear rA079_
    have rBx087_ := Lib.hid (show (w14).heap[w4.heap.size]? = some (.cells #[.int .i64 i0_0, (.slice x00_1p x00_1n x00_1c), (.slice x00_2p x00_2n x00_2c)] 48 (0, 0)) from row_held g rBx080_.out)
    clear rBx080_
    have ox088_ := Lib.hid (show OwU (w14) (w3.heap.size) (w4.heap.size) [] [own shB (.slice x00_1p x00_1n x00_1c) (emL shB (1) xs0_1), own shB (.slice x00_2p x00_2n x00_2c) (emL shB (1 + ecL shB xs0_1) xs0_2)] from OwU.grow ox081_.out g)
    clear ox081_
    have og89_ := Lib.hid (show OwU (w14) (w4.heap.size + 1) (w5.heap.size) [] [own shI (.slice gr0p gr0n gr0c) (emL shI (1) xsr0)] from OwU.grow og82_.out g)
    clear og82_
    have oh90_ := Lib.hid (show OwU (w14) (w11.heap.size) (w12.heap.size) [] [own shI (.slice hr0p hr0n hr0c) xsr0] from OwU.grow oh83_.out g)
    clear oh83_
    have G91_ := Lib.hid (show (W).grownBy (w14) none from gby_trans G84_.out g)
    have qw92_ := Lib.hid (show (w3).grownBy (w14) none from gby_trans qw85_.out g)
    clear qw85_
    clear g
    have ng14 : ¬ (((1 + ecL shI xsr0 : Nat) : Int) < 0) := by omega
    go_wp2
    go_ret
    exact ⟨rfl, gby_below G91_.out⟩

end Go.Proofs.Ytoedgncidoldaab
