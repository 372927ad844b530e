/-
  The walk of FnExactRunGrants: at every argument the program answers as its model and writes nothing that was there, and its answer owns its memory.
-/
import Derived.Test.YtgagbhkidponnadQArbiter
import Derived.Test.YtgagbhkidponnadQSBool
import Derived.Test.YtgagbhkidponnadRRunGrants
import Derived.Test.YtgagbhkidponnadShpI
import Derived.WalkKit
import Derived.Deep.RegionHeld3
import Derived.Below
namespace Go.Proofs.Ytgagbhkidponnad
open Go Go.RowKit

set_option maxRecDepth 8000 in
set_option maxHeartbeats 16000000 in
theorem walk_exactRunGrants_of (both : ∀ (xs0_0 : List Int) (i0_1 : Int) (i0_2 : Int) (xs1 : List Bool) (i2 : Int), szL shI xs0_0 ≤ 1048576 → szL shB xs1 ≤ 1048576 → ∃ (xsr0 : List Int), szL shI xsr0 ≤ 1048576 ∧ (∀ (W : World), ∀ u0_0 u1, RdL shI W u0_0 xs0_0 → RdL shB W u1 xs1 → Calls Try.prog 35 #[.agg #[u0_0, .int .i64 i0_1, .int .i64 i0_2], u1, .int .i64 i2] W (ResSRunGrants xsr0 W)) ∧ ∀ (W : World), ∀ u0_0 u1, RdL shI W u0_0 xs0_0 → RdL shB W u1 xs1 → Calls Try.prog 36 #[.agg #[u0_0, .int .i64 i0_1, .int .i64 i0_2], u1, .int .i64 i2] W (ResIRunGrants xsr0 W))
    (W : World) (a0_0 : Value) (xs0_0 : List Int) (i0_1 : Int) (i0_2 : Int) (a1 : Value) (xs1 : List Bool) (i2 : Int) (H0_0 : RdL shI W a0_0 xs0_0) (H1 : RdL shB W a1 xs1) :
    Calls Try.prog 8 #[.agg #[a0_0, .int .i64 i0_1, .int .i64 i0_2], a1, .int .i64 i2] W fun e w' => e = .returned (.bool true) ∧ Below W.heap.size W w' := by
  have HI0_0 := Lib.hid H0_0
  have hmx0_0 := H0_0.max
  clear H0_0
  have HI1 := Lib.hid H1
  have hmx1 := H1.max
  clear H1
  have hlen1 : ∃ p n c, a1 = .slice p n c ∧ n = xs1.length := by
    obtain ⟨p, c, h, _⟩ := HI1.out
    exact ⟨p, _, c, h, rfl⟩
  obtain ⟨p1, n1, c1, hv1, hnx1⟩ := hlen1
  subst hv1
  by_cases hbig1 : (1048576 : Int) < (n1 : Int)
  · have HN := Lib.hid hnx1
    clear hnx1
    go_enter Try.func8, Try.ntmps8
    go_wp2
    go_ret
    exact ⟨rfl, by first | exact Below.refl _ _ | exact gby_below (by repeat (with_reducible refine gby_alloc ?_ _); exact gby_refl _ _)⟩
  have hl1 : szL shB xs1 ≤ 1048576 := by have : szL shB xs1 = xs1.length := szL_B _; omega
  have HN1 := Lib.hid hnx1
  clear hnx1
  by_cases hs0 : (1048576 : Int) < (((szL shI xs0_0) : Nat) : Int)
  · have hneg : (-1 : Int) < 0 := by omega
    go_enter Try.func8, Try.ntmps8
    have rA01_ := Lib.hid (show ((W.alloc (.cells #[a0_0, .int .i64 i0_1, .int .i64 i0_2] 41))).heap[W.heap.size]? = some (.cells #[a0_0, .int .i64 i0_1, .int .i64 i0_2] 41 (0, 0)) from by exact heap_alloc_new _ _)
    have G2_ := Lib.hid (show (W).grownBy ((W.alloc (.cells #[a0_0, .int .i64 i0_1, .int .i64 i0_2] 41))) none from (gby_alloc (gby_refl _ _) _))
    have A0_0_ : ((W.alloc (.cells #[a0_0, .int .i64 i0_1, .int .i64 i0_2] 41))).cell? ⟨W.heap.size, 0, none⟩ = some (a0_0) := cell_of_row _ _ 0 _ _ _ rA01_.out
    have A0_1_ : ((W.alloc (.cells #[a0_0, .int .i64 i0_1, .int .i64 i0_2] 41))).cell? ⟨W.heap.size, 1, none⟩ = some (.int .i64 i0_1) := cell_of_row _ _ 1 _ _ _ rA01_.out
    have A0_2_ : ((W.alloc (.cells #[a0_0, .int .i64 i0_1, .int .i64 i0_2] 41))).cell? ⟨W.heap.size, 2, none⟩ = some (.int .i64 i0_2) := cell_of_row _ _ 2 _ _ _ rA01_.out
    go_wp2_with fail
    go_at_call 25
    refine (szArbiter_d _ 1048576 a0_0 i0_1 i0_2 xs0_0 (HI0_0.out.grow G2_.out) (by omega) (by omega)).mono ?_
    rintro e w1 ⟨he, g⟩
    rw [show lessN 1048576 (szL shI xs0_0) = -1 from if_pos hs0] at he
    subst he
    clear A0_0_ A0_1_ A0_2_
    have rA03_ := Lib.hid (show (w1).heap[W.heap.size]? = some (.cells #[a0_0, .int .i64 i0_1, .int .i64 i0_2] 41 (0, 0)) from row_held g rA01_.out)
    clear rA01_
    have G4_ := Lib.hid (show (W).grownBy (w1) none from gby_trans G2_.out g)
    clear g
    go_wp2
    go_ret
    exact ⟨rfl, gby_below G4_.out⟩
  obtain ⟨rr0, hr0⟩ : ∃ r, r = lessN 1048576 (szL shI xs0_0) := ⟨_, rfl⟩
  have hrr0 : rr0 = (1048576 : Int) - (((szL shI xs0_0) : Nat) : Int) := hr0.trans (if_neg hs0)
  have hn0 : ¬ rr0 < 0 := by omega
  have hu0 : rr0 ≤ 1048576 := by omega
  have hl0_0 : szL shI xs0_0 ≤ 1048576 := by omega
  have HR0 := Lib.hid hr0
  clear hs0 hr0 hrr0
  obtain ⟨xsr0, hLr0, hs_, hi_⟩ := both xs0_0 i0_1 i0_2 xs1 i2 hl0_0 hl1
  have HS := Lib.hid hs_
  have HM := Lib.hid hi_
  clear hs_ hi_
  try clear both
  have hq0_0 : ecL shI xs0_0 ≤ 104857600 := Nat.le_trans (ecL_le _ _) (Nat.le_trans (Nat.mul_le_mul_left _ hl0_0) (Nat.mul_le_mul_right 1048576 (show shI.c ≤ 100 by decide)))
  have hq1 : ecL shB xs1 ≤ 104857600 := Nat.le_trans (ecL_le _ _) (Nat.le_trans (Nat.mul_le_mul_left _ hl1) (Nat.mul_le_mul_right 1048576 (show shB.c ≤ 100 by decide)))
  have hqr0 : ecL shI xsr0 ≤ 104857600 := Nat.le_trans (ecL_le _ _) (Nat.le_trans (Nat.mul_le_mul_left _ hLr0) (Nat.mul_le_mul_right 1048576 (show shI.c ≤ 100 by decide)))
  go_enter Try.func8, Try.ntmps8
  have rA01_ := Lib.hid (show ((W.alloc (.cells #[a0_0, .int .i64 i0_1, .int .i64 i0_2] 41))).heap[W.heap.size]? = some (.cells #[a0_0, .int .i64 i0_1, .int .i64 i0_2] 41 (0, 0)) from by exact heap_alloc_new _ _)
  have G2_ := Lib.hid (show (W).grownBy ((W.alloc (.cells #[a0_0, .int .i64 i0_1, .int .i64 i0_2] 41))) none from (gby_alloc (gby_refl _ _) _))
  have A0_0_ : ((W.alloc (.cells #[a0_0, .int .i64 i0_1, .int .i64 i0_2] 41))).cell? ⟨W.heap.size, 0, none⟩ = some (a0_0) := cell_of_row _ _ 0 _ _ _ rA01_.out
  have A0_1_ : ((W.alloc (.cells #[a0_0, .int .i64 i0_1, .int .i64 i0_2] 41))).cell? ⟨W.heap.size, 1, none⟩ = some (.int .i64 i0_1) := cell_of_row _ _ 1 _ _ _ rA01_.out
  have A0_2_ : ((W.alloc (.cells #[a0_0, .int .i64 i0_1, .int .i64 i0_2] 41))).cell? ⟨W.heap.size, 2, none⟩ = some (.int .i64 i0_2) := cell_of_row _ _ 2 _ _ _ rA01_.out
  go_wp2_with fail
  go_at_call 25
  refine (szArbiter_d _ 1048576 a0_0 i0_1 i0_2 xs0_0 (HI0_0.out.grow G2_.out) (by omega) (by omega)).mono ?_
  rintro e w1 ⟨he, g⟩
  rw [← HR0.out] at he
  subst he
  have zs1 := World.grownBy.size g
  try simp only [World.size_alloc] at zs1
  clear A0_0_ A0_1_ A0_2_
  have rA03_ := Lib.hid (show (w1).heap[W.heap.size]? = some (.cells #[a0_0, .int .i64 i0_1, .int .i64 i0_2] 41 (0, 0)) from row_held g rA01_.out)
  clear rA01_
  have G4_ := Lib.hid (show (W).grownBy (w1) none from gby_trans G2_.out g)
  clear g
  have A0_0_ : (w1).cell? ⟨W.heap.size, 0, none⟩ = some (a0_0) := cell_of_row _ _ 0 _ _ _ rA03_.out
  have A0_1_ : (w1).cell? ⟨W.heap.size, 1, none⟩ = some (.int .i64 i0_1) := cell_of_row _ _ 1 _ _ _ rA03_.out
  have A0_2_ : (w1).cell? ⟨W.heap.size, 2, none⟩ = some (.int .i64 i0_2) := cell_of_row _ _ 2 _ _ _ rA03_.out
  go_wp2_with fail
  go_at_call 27
  refine (toArbiter_d _ a0_0 i0_1 i0_2 xs0_0 (HI0_0.out.grow G4_.out) hl0_0).mono ?_
  rintro e w2 ⟨t10_0, rfl, o, g⟩
  have sz_ := g.size
  try simp only [World.size_alloc] at sz_
  try simp only [World.size_alloc] at o
  have zs2 := World.grownBy.size g
  try simp only [World.size_alloc] at zs2
  clear A0_0_ A0_1_ A0_2_
  have rA05_ := Lib.hid (show (w2).heap[W.heap.size]? = some (.cells #[a0_0, .int .i64 i0_1, .int .i64 i0_2] 41 (0, 0)) from row_held g rA03_.out)
  clear rA03_
  have G6_ := Lib.hid (show (W).grownBy (w2) none from gby_trans G4_.out g)
  clear g
  have szw2 := sz_
  clear sz_
  obtain ⟨t10_0p, t10_0n, t10_0c, hv_⟩ := RdL.form (OwU.rd o)
  subst hv_
  have oT17_ := Lib.hid (show OwU (w2) (w1.heap.size) (w2.heap.size) [] [own shI (.slice t10_0p t10_0n t10_0c) xs0_0] from o)
  clear o
  try unfold vArbiter
  go_wp2_with fail
  go_at_call 28
  refine (toBoolS_d _ (.slice p1 n1 c1) xs1 (HI1.out.grow G6_.out) hl1).mono ?_
  rintro e w3 ⟨t21, rfl, o, g⟩
  have sz_ := g.size
  try simp only [World.size_alloc] at sz_
  try simp only [World.size_alloc] at o
  have zs3 := World.grownBy.size g
  try simp only [World.size_alloc] at zs3
  have rA08_ := Lib.hid (show (w3).heap[W.heap.size]? = some (.cells #[a0_0, .int .i64 i0_1, .int .i64 i0_2] 41 (0, 0)) from row_held g rA05_.out)
  clear rA05_
  have oT19_ := Lib.hid (show OwU (w3) (w1.heap.size) (w2.heap.size) [] [own shI (.slice t10_0p t10_0n t10_0c) xs0_0] from OwU.grow oT17_.out g)
  clear oT17_
  have G10_ := Lib.hid (show (W).grownBy (w3) none from gby_trans G6_.out g)
  clear g
  have szw3 := sz_
  clear sz_
  obtain ⟨t21p, t21n, t21c, hv_⟩ := RdL.form (OwL.rd o)
  subst hv_
  have oT211_ := Lib.hid (show OwU (w3) (w2.heap.size) (w3.heap.size) [] [own shB (.slice t21p t21n t21c) xs1] from OwU.one o)
  clear o
  go_wp2_with fail
  go_at_call 35
  refine (HS.out _ (.slice t10_0p t10_0n t10_0c) (.slice t21p t21n t21c) (OwU.rd oT19_.out) (OwU.rd oT211_.out)).mono ?_
  rintro e w4 ⟨wr0, rfl, or0, g⟩
  have sz_ := g.size
  try simp only [World.size_alloc] at sz_
  have zs4 := World.grownBy.size g
  try simp only [World.size_alloc] at zs4
  have rA012_ := Lib.hid (show (w4).heap[W.heap.size]? = some (.cells #[a0_0, .int .i64 i0_1, .int .i64 i0_2] 41 (0, 0)) from row_held g rA08_.out)
  clear rA08_
  have oT113_ := Lib.hid (show OwU (w4) (w1.heap.size) (w2.heap.size) [] [own shI (.slice t10_0p t10_0n t10_0c) xs0_0] from OwU.grow oT19_.out g)
  clear oT19_
  have oT214_ := Lib.hid (show OwU (w4) (w2.heap.size) (w3.heap.size) [] [own shB (.slice t21p t21n t21c) xs1] from OwU.grow oT211_.out g)
  clear oT211_
  have G15_ := Lib.hid (show (W).grownBy (w4) none from gby_trans G10_.out g)
  clear g
  have szw4 := sz_
  clear sz_
  obtain ⟨wr0p, wr0n, wr0c, hv_⟩ := RdL.form (or0)
  subst hv_
  have rd16_ := Lib.hid or0
  clear or0
  have qG17_ := Lib.hid (gby_refl w4 none)
  clear oT113_
  clear oT214_
  have A0_0_ : (w4).cell? ⟨W.heap.size, 0, none⟩ = some (a0_0) := cell_of_row _ _ 0 _ _ _ rA012_.out
  have A0_1_ : (w4).cell? ⟨W.heap.size, 1, none⟩ = some (.int .i64 i0_1) := cell_of_row _ _ 1 _ _ _ rA012_.out
  have A0_2_ : (w4).cell? ⟨W.heap.size, 2, none⟩ = some (.int .i64 i0_2) := cell_of_row _ _ 2 _ _ _ rA012_.out
  go_wp2_with fail
  go_at_call 27
  refine (toArbiter_d _ a0_0 i0_1 i0_2 xs0_0 (HI0_0.out.grow G15_.out) hl0_0).mono ?_
  rintro e w5 ⟨x00_0, rfl, o, g⟩
  have sz_ := g.size
  try simp only [World.size_alloc] at sz_
  try simp only [World.size_alloc] at o
  have zs5 := World.grownBy.size g
  try simp only [World.size_alloc] at zs5
  clear A0_0_ A0_1_ A0_2_
  have rA018_ := Lib.hid (show (w5).heap[W.heap.size]? = some (.cells #[a0_0, .int .i64 i0_1, .int .i64 i0_2] 41 (0, 0)) from row_held g rA012_.out)
  clear rA012_
  have G19_ := Lib.hid (show (W).grownBy (w5) none from gby_trans G15_.out g)
  have qw20_ := Lib.hid (show (w4).grownBy (w5) none from gby_trans qG17_.out g)
  clear qG17_
  clear g
  have szw5 := sz_
  clear sz_
  obtain ⟨x00_0p, x00_0n, x00_0c, hv_⟩ := RdL.form (OwU.rd o)
  subst hv_
  have ox021_ := Lib.hid (show OwU (w5) (w4.heap.size) (w5.heap.size) [] [own shI (.slice x00_0p x00_0n x00_0c) xs0_0] from o)
  clear o
  try unfold vArbiter
  have al : (w5).grownBy ((w5).alloc (.cells #[(.slice x00_0p x00_0n x00_0c), .int .i64 i0_1, .int .i64 i0_2] 44)) none := gby_alloc (gby_refl _ _) _
  have zs6 := World.grownBy.size al
  try simp only [World.size_alloc] at zs6
  have rA022_ := Lib.hid (show ((w5.alloc (.cells #[(.slice x00_0p x00_0n x00_0c), .int .i64 i0_1, .int .i64 i0_2] 44))).heap[W.heap.size]? = some (.cells #[a0_0, .int .i64 i0_1, .int .i64 i0_2] 41 (0, 0)) from row_held al rA018_.out)
  clear rA018_
  have ox023_ := Lib.hid (show OwU ((w5.alloc (.cells #[(.slice x00_0p x00_0n x00_0c), .int .i64 i0_1, .int .i64 i0_2] 44))) (w4.heap.size) (w5.heap.size) [] [own shI (.slice x00_0p x00_0n x00_0c) xs0_0] from OwU.grow ox021_.out al)
  clear ox021_
  have G24_ := Lib.hid (show (W).grownBy ((w5.alloc (.cells #[(.slice x00_0p x00_0n x00_0c), .int .i64 i0_1, .int .i64 i0_2] 44))) none from gby_trans G19_.out al)
  have qw25_ := Lib.hid (show (w4).grownBy ((w5.alloc (.cells #[(.slice x00_0p x00_0n x00_0c), .int .i64 i0_1, .int .i64 i0_2] 44))) none from gby_trans qw20_.out al)
  clear qw20_
  have rBx026_ := Lib.hid (show ((w5.alloc (.cells #[(.slice x00_0p x00_0n x00_0c), .int .i64 i0_1, .int .i64 i0_2] 44))).heap[w5.heap.size]? = some (.cells #[(.slice x00_0p x00_0n x00_0c), .int .i64 i0_1, .int .i64 i0_2] 44 (0, 0)) from by first | exact heap_alloc_new _ _ | exact heap_pair _ _ _ | exact heap_trip _ _ _ _)
  clear al
  go_wp2_with fail
  go_at_call 28
  refine (toBoolS_d _ (.slice p1 n1 c1) xs1 (HI1.out.grow G24_.out) hl1).mono ?_
  rintro e w6 ⟨x11, rfl, o, g⟩
  have sz_ := g.size
  try simp only [World.size_alloc] at sz_
  try simp only [World.size_alloc] at o
  have zs7 := World.grownBy.size g
  try simp only [World.size_alloc] at zs7
  have rA027_ := Lib.hid (show (w6).heap[W.heap.size]? = some (.cells #[a0_0, .int .i64 i0_1, .int .i64 i0_2] 41 (0, 0)) from row_held g rA022_.out)
  clear rA022_
  have rBx028_ := Lib.hid (show (w6).heap[w5.heap.size]? = some (.cells #[(.slice x00_0p x00_0n x00_0c), .int .i64 i0_1, .int .i64 i0_2] 44 (0, 0)) from row_held g rBx026_.out)
  clear rBx026_
  have ox029_ := Lib.hid (show OwU (w6) (w4.heap.size) (w5.heap.size) [] [own shI (.slice x00_0p x00_0n x00_0c) xs0_0] from OwU.grow ox023_.out g)
  clear ox023_
  have G30_ := Lib.hid (show (W).grownBy (w6) none from gby_trans G24_.out g)
  have qw31_ := Lib.hid (show (w4).grownBy (w6) none from gby_trans qw25_.out g)
  clear qw25_
  clear g
  have szw6 := sz_
  clear sz_
  obtain ⟨x11p, x11n, x11c, hv_⟩ := RdL.form (OwL.rd o)
  subst hv_
  have ox132_ := Lib.hid (show OwU (w6) (w5.heap.size + 1) (w6.heap.size) [] [own shB (.slice x11p x11n x11c) xs1] from OwU.one o)
  clear o
  have Bx0_0_ : (w6).cell? ⟨w5.heap.size, 0, none⟩ = some ((.slice x00_0p x00_0n x00_0c)) := cell_of_row _ _ 0 _ _ _ rBx028_.out
  have Bx0_1_ : (w6).cell? ⟨w5.heap.size, 1, none⟩ = some (.int .i64 i0_1) := cell_of_row _ _ 1 _ _ _ rBx028_.out
  have Bx0_2_ : (w6).cell? ⟨w5.heap.size, 2, none⟩ = some (.int .i64 i0_2) := cell_of_row _ _ 2 _ _ _ rBx028_.out
  go_wp2_with fail
  go_at_call 36
  refine (HM.out _ (.slice x00_0p x00_0n x00_0c) (.slice x11p x11n x11c) (OwU.rd ox029_.out) (OwU.rd ox132_.out)).mono ?_
  rintro e w7 ⟨gr0, rfl, o, g⟩
  have sz_ := g.size
  try simp only [World.size_alloc] at sz_
  try simp only [World.size_alloc] at o
  have zs8 := World.grownBy.size g
  try simp only [World.size_alloc] at zs8
  clear Bx0_0_ Bx0_1_ Bx0_2_
  have rA033_ := Lib.hid (show (w7).heap[W.heap.size]? = some (.cells #[a0_0, .int .i64 i0_1, .int .i64 i0_2] 41 (0, 0)) from row_held g rA027_.out)
  clear rA027_
  have rBx034_ := Lib.hid (show (w7).heap[w5.heap.size]? = some (.cells #[(.slice x00_0p x00_0n x00_0c), .int .i64 i0_1, .int .i64 i0_2] 44 (0, 0)) from row_held g rBx028_.out)
  clear rBx028_
  have ox035_ := Lib.hid (show OwU (w7) (w4.heap.size) (w5.heap.size) [] [own shI (.slice x00_0p x00_0n x00_0c) xs0_0] from OwU.grow ox029_.out g)
  clear ox029_
  have ox136_ := Lib.hid (show OwU (w7) (w5.heap.size + 1) (w6.heap.size) [] [own shB (.slice x11p x11n x11c) xs1] from OwU.grow ox132_.out g)
  clear ox132_
  have G37_ := Lib.hid (show (W).grownBy (w7) none from gby_trans G30_.out g)
  have qw38_ := Lib.hid (show (w4).grownBy (w7) none from gby_trans qw31_.out g)
  clear qw31_
  clear g
  have szw7 := sz_
  clear sz_
  obtain ⟨gr0p, gr0n, gr0c, hv_⟩ := RdL.form (OwU.rd o)
  subst hv_
  have og39_ := Lib.hid (show OwU (w7) (w6.heap.size) (w7.heap.size) [] [own shI (.slice gr0p gr0n gr0c) xsr0] from o)
  clear o
  go_wp2_with fail
  go_at_call 37
  refine (eqIntS_d _ (.slice gr0p gr0n gr0c) (.slice wr0p wr0n wr0c) xsr0 (OwU.rd og39_.out) (RdL.grow rd16_.out qw38_.out) hLr0).mono ?_
  rintro e w8 ⟨rfl, g⟩
  have zs9 := World.grownBy.size g
  try simp only [World.size_alloc] at zs9
  have rA040_ := Lib.hid (show (w8).heap[W.heap.size]? = some (.cells #[a0_0, .int .i64 i0_1, .int .i64 i0_2] 41 (0, 0)) from row_held g rA033_.out)
  clear rA033_
  have rBx041_ := Lib.hid (show (w8).heap[w5.heap.size]? = some (.cells #[(.slice x00_0p x00_0n x00_0c), .int .i64 i0_1, .int .i64 i0_2] 44 (0, 0)) from row_held g rBx034_.out)
  clear rBx034_
  have ox042_ := Lib.hid (show OwU (w8) (w4.heap.size) (w5.heap.size) [] [own shI (.slice x00_0p x00_0n x00_0c) xs0_0] from OwU.grow ox035_.out g)
  clear ox035_
  have ox143_ := Lib.hid (show OwU (w8) (w5.heap.size + 1) (w6.heap.size) [] [own shB (.slice x11p x11n x11c) xs1] from OwU.grow ox136_.out g)
  clear ox136_
  have og44_ := Lib.hid (show OwU (w8) (w6.heap.size) (w7.heap.size) [] [own shI (.slice gr0p gr0n gr0c) xsr0] from OwU.grow og39_.out g)
  clear og39_
  have G45_ := Lib.hid (show (W).grownBy (w8) none from gby_trans G37_.out g)
  have qw46_ := Lib.hid (show (w4).grownBy (w8) none from gby_trans qw38_.out g)
  clear qw38_
  clear g
  have A0_0_ : (w8).cell? ⟨W.heap.size, 0, none⟩ = some (a0_0) := cell_of_row _ _ 0 _ _ _ rA040_.out
  have A0_1_ : (w8).cell? ⟨W.heap.size, 1, none⟩ = some (.int .i64 i0_1) := cell_of_row _ _ 1 _ _ _ rA040_.out
  have A0_2_ : (w8).cell? ⟨W.heap.size, 2, none⟩ = some (.int .i64 i0_2) := cell_of_row _ _ 2 _ _ _ rA040_.out
  have Bx0_0_ : (w8).cell? ⟨w5.heap.size, 0, none⟩ = some ((.slice x00_0p x00_0n x00_0c)) := cell_of_row _ _ 0 _ _ _ rBx041_.out
  have Bx0_1_ : (w8).cell? ⟨w5.heap.size, 1, none⟩ = some (.int .i64 i0_1) := cell_of_row _ _ 1 _ _ _ rBx041_.out
  have Bx0_2_ : (w8).cell? ⟨w5.heap.size, 2, none⟩ = some (.int .i64 i0_2) := cell_of_row _ _ 2 _ _ _ rBx041_.out
  go_wp2_with fail
  go_region_held3 (fun w' => w'.cell? ⟨W.heap.size, 0, none⟩ = some (a0_0) ∧ w'.cell? ⟨W.heap.size, 1, none⟩ = some (.int .i64 i0_1) ∧ w'.cell? ⟨W.heap.size, 2, none⟩ = some (.int .i64 i0_2) ∧ w'.cell? ⟨w5.heap.size, 0, none⟩ = some ((.slice x00_0p x00_0n x00_0c)) ∧ w'.cell? ⟨w5.heap.size, 1, none⟩ = some (.int .i64 i0_1) ∧ w'.cell? ⟨w5.heap.size, 2, none⟩ = some (.int .i64 i0_2))
    (first
      | exact ⟨A0_0_, A0_1_, A0_2_, Bx0_0_, Bx0_1_, Bx0_2_⟩
      | exact ⟨(gT.cell A0_0_ (by simp)), (gT.cell A0_1_ (by simp)), (gT.cell A0_2_ (by simp)), (gT.cell Bx0_0_ (by simp)), (gT.cell Bx0_1_ (by simp)), (gT.cell Bx0_2_ (by simp))⟩
      | exact ⟨(gE.cell (gT.cell A0_0_ (by simp)) (by simp)), (gE.cell (gT.cell A0_1_ (by simp)) (by simp)), (gE.cell (gT.cell A0_2_ (by simp)) (by simp)), (gE.cell (gT.cell Bx0_0_ (by simp)) (by simp)), (gE.cell (gT.cell Bx0_1_ (by simp)) (by simp)), (gE.cell (gT.cell Bx0_2_ (by simp)) (by simp))⟩)
    (first
      | (go_at_call 27; refine (toArbiter_d _ a0_0 i0_1 i0_2 xs0_0 (HI0_0.out.grow (gby_drew G45_.out)) hl0_0).mono ?_; rintro e wT1 ⟨t30_0, rfl, oT, gT⟩; obtain ⟨t30_0p, t30_0n, t30_0c, hv_⟩ := RdL.form ((OwU.rd oT)); subst hv_; try unfold vArbiter)
      | (go_at_call 30; refine (eqArbiter_d _ (.slice x00_0p x00_0n x00_0c) i0_1 i0_2 (.slice t30_0p t30_0n t30_0c) xs0_0 (RdL.grow (RdL.grow (OwU.rd ox042_.out) (gby_drew (gby_refl _ _))) gT) (OwU.rd oT) hl0_0).mono ?_; rintro e wE1 ⟨rfl, gE⟩))
  all_goals
    have g : (w8).grownBy wE1 none := gby_trans (gby_trans (gby_drew (gby_refl _ _)) gT) gE
    clear gT gE oT
    clear A0_0_ A0_1_ A0_2_ Bx0_0_ Bx0_1_ Bx0_2_
    have zs10 := World.grownBy.size g
    try simp only [World.size_alloc] at zs10
    have rA047_ := Lib.hid (show (wE1).heap[W.heap.size]? = some (.cells #[a0_0, .int .i64 i0_1, .int .i64 i0_2] 41 (0, 0)) from row_held g rA040_.out)
    clear rA040_
    have rBx048_ := Lib.hid (show (wE1).heap[w5.heap.size]? = some (.cells #[(.slice x00_0p x00_0n x00_0c), .int .i64 i0_1, .int .i64 i0_2] 44 (0, 0)) from row_held g rBx041_.out)
    clear rBx041_
    have ox049_ := Lib.hid (show OwU (wE1) (w4.heap.size) (w5.heap.size) [] [own shI (.slice x00_0p x00_0n x00_0c) xs0_0] from OwU.grow ox042_.out g)
    clear ox042_
    have ox150_ := Lib.hid (show OwU (wE1) (w5.heap.size + 1) (w6.heap.size) [] [own shB (.slice x11p x11n x11c) xs1] from OwU.grow ox143_.out g)
    clear ox143_
    have og51_ := Lib.hid (show OwU (wE1) (w6.heap.size) (w7.heap.size) [] [own shI (.slice gr0p gr0n gr0c) xsr0] from OwU.grow og44_.out g)
    clear og44_
    have G52_ := Lib.hid (show (W).grownBy (wE1) none from gby_trans G45_.out g)
    have qw53_ := Lib.hid (show (w4).grownBy (wE1) none from gby_trans qw46_.out g)
    clear qw46_
    clear g
    go_wp2_with fail
    go_at_call 28
    refine (toBoolS_d _ (.slice p1 n1 c1) xs1 (HI1.out.grow G52_.out) hl1).mono ?_
    rintro e w9 ⟨t41, rfl, o, g⟩
    have sz_ := g.size
    try simp only [World.size_alloc] at sz_
    try simp only [World.size_alloc] at o
    have zs11 := World.grownBy.size g
    try simp only [World.size_alloc] at zs11
    have rA054_ := Lib.hid (show (w9).heap[W.heap.size]? = some (.cells #[a0_0, .int .i64 i0_1, .int .i64 i0_2] 41 (0, 0)) from row_held g rA047_.out)
    clear rA047_
    have rBx055_ := Lib.hid (show (w9).heap[w5.heap.size]? = some (.cells #[(.slice x00_0p x00_0n x00_0c), .int .i64 i0_1, .int .i64 i0_2] 44 (0, 0)) from row_held g rBx048_.out)
    clear rBx048_
    have ox056_ := Lib.hid (show OwU (w9) (w4.heap.size) (w5.heap.size) [] [own shI (.slice x00_0p x00_0n x00_0c) xs0_0] from OwU.grow ox049_.out g)
    clear ox049_
    have ox157_ := Lib.hid (show OwU (w9) (w5.heap.size + 1) (w6.heap.size) [] [own shB (.slice x11p x11n x11c) xs1] from OwU.grow ox150_.out g)
    clear ox150_
    have og58_ := Lib.hid (show OwU (w9) (w6.heap.size) (w7.heap.size) [] [own shI (.slice gr0p gr0n gr0c) xsr0] from OwU.grow og51_.out g)
    clear og51_
    have G59_ := Lib.hid (show (W).grownBy (w9) none from gby_trans G52_.out g)
    have qw60_ := Lib.hid (show (w4).grownBy (w9) none from gby_trans qw53_.out g)
    clear qw53_
    clear g
    have szw9 := sz_
    clear sz_
    obtain ⟨t41p, t41n, t41c, hv_⟩ := RdL.form (OwL.rd o)
    subst hv_
    have oT461_ := Lib.hid (show OwU (w9) (wE1.heap.size) (w9.heap.size) [] [own shB (.slice t41p t41n t41c) xs1] from OwU.one o)
    clear o
    go_wp2_with fail
    go_at_call 31
    refine (eqBoolS_d _ (.slice x11p x11n x11c) (.slice t41p t41n t41c) xs1 (OwU.rd ox157_.out) (OwU.rd oT461_.out) hl1).mono ?_
    rintro e w10 ⟨rfl, g⟩
    have zs12 := World.grownBy.size g
    try simp only [World.size_alloc] at zs12
    have rA062_ := Lib.hid (show (w10).heap[W.heap.size]? = some (.cells #[a0_0, .int .i64 i0_1, .int .i64 i0_2] 41 (0, 0)) from row_held g rA054_.out)
    clear rA054_
    have rBx063_ := Lib.hid (show (w10).heap[w5.heap.size]? = some (.cells #[(.slice x00_0p x00_0n x00_0c), .int .i64 i0_1, .int .i64 i0_2] 44 (0, 0)) from row_held g rBx055_.out)
    clear rBx055_
    have ox064_ := Lib.hid (show OwU (w10) (w4.heap.size) (w5.heap.size) [] [own shI (.slice x00_0p x00_0n x00_0c) xs0_0] from OwU.grow ox056_.out g)
    clear ox056_
    have ox165_ := Lib.hid (show OwU (w10) (w5.heap.size + 1) (w6.heap.size) [] [own shB (.slice x11p x11n x11c) xs1] from OwU.grow ox157_.out g)
    clear ox157_
    have og66_ := Lib.hid (show OwU (w10) (w6.heap.size) (w7.heap.size) [] [own shI (.slice gr0p gr0n gr0c) xsr0] from OwU.grow og58_.out g)
    clear og58_
    have oT467_ := Lib.hid (show OwU (w10) (wE1.heap.size) (w9.heap.size) [] [own shB (.slice t41p t41n t41c) xs1] from OwU.grow oT461_.out g)
    clear oT461_
    have G68_ := Lib.hid (show (W).grownBy (w10) none from gby_trans G59_.out g)
    have qw69_ := Lib.hid (show (w4).grownBy (w10) none from gby_trans qw60_.out g)
    clear qw60_
    clear g
    clear oT467_
    have Bx0_0_ : (w10).cell? ⟨w5.heap.size, 0, none⟩ = some ((.slice x00_0p x00_0n x00_0c)) := cell_of_row _ _ 0 _ _ _ rBx063_.out
    have Bx0_1_ : (w10).cell? ⟨w5.heap.size, 1, none⟩ = some (.int .i64 i0_1) := cell_of_row _ _ 1 _ _ _ rBx063_.out
    have Bx0_2_ : (w10).cell? ⟨w5.heap.size, 2, none⟩ = some (.int .i64 i0_2) := cell_of_row _ _ 2 _ _ _ rBx063_.out
    go_wp2_with fail
    go_at_call 32
    refine (markArbiter_d _ (w4.heap.size) (w5.heap.size) (1) (.slice x00_0p x00_0n x00_0c) i0_1 i0_2 xs0_0 [] [] ox064_.out (by first | omega | (simp only [World.size_alloc]; omega)) hl0_0 (by omega)).mono ?_
    rintro e w11 ⟨rfl, o, c⟩
    clear Bx0_0_ Bx0_1_ Bx0_2_
    have szw11 := c.size
    try simp only [World.size_alloc] at szw11
    have rA070_ := Lib.hid (show (w11).heap[W.heap.size]? = some (.cells #[a0_0, .int .i64 i0_1, .int .i64 i0_2] 41 (0, 0)) from Chg.keep c rA062_.out (by omega))
    clear rA062_
    have rBx071_ := Lib.hid (show (w11).heap[w5.heap.size]? = some (.cells #[(.slice x00_0p x00_0n x00_0c), .int .i64 i0_1, .int .i64 i0_2] 44 (0, 0)) from Chg.keep c rBx063_.out (by omega))
    clear rBx063_
    have ox172_ := Lib.hid (show OwU (w11) (w5.heap.size + 1) (w6.heap.size) [] [own shB (.slice x11p x11n x11c) xs1] from OwU.keep c (by omega) ox165_.out)
    clear ox165_
    have og73_ := Lib.hid (show OwU (w11) (w6.heap.size) (w7.heap.size) [] [own shI (.slice gr0p gr0n gr0c) xsr0] from OwU.keep c (by omega) og66_.out)
    clear og66_
    have G74_ := Lib.hid (show (W).grownBy (w11) none from gby_chg G68_.out c (by omega))
    have qw75_ := Lib.hid (show (w4).grownBy (w11) none from gby_chg qw69_.out c (by omega))
    clear qw69_
    have ox076_ := Lib.hid (show OwU (w11) (w4.heap.size) (w5.heap.size) [] [own shI (.slice x00_0p x00_0n x00_0c) (emL shI (1) xs0_0)] from o)
    clear ox064_ o c
    obtain ⟨lo_, hi_, l_, u_, _, oo, ff⟩ := OwU.focus (pre := []) (p := own shB (.slice x11p x11n x11c) xs1) (post := []) ox172_.out
    have FF := Lib.hid ff
    clear ff
    go_wp2_with fail
    go_at_call 33
    refine (markBoolS_d _ lo_ hi_ (1 + ecL shI xs0_0) (.slice x11p x11n x11c) xs1 oo hl1 (by omega)).mono ?_
    rintro e w12 ⟨rfl, o, c⟩
    have o_ := c
    have c' := chg_wide c (lo' := w5.heap.size + 1) (hi' := w6.heap.size) l_ u_
    clear c
    have c := c'
    clear c'
    have szw12 := c.size
    try simp only [World.size_alloc] at szw12
    have rA077_ := Lib.hid (show (w12).heap[W.heap.size]? = some (.cells #[a0_0, .int .i64 i0_1, .int .i64 i0_2] 41 (0, 0)) from Chg.keep c rA070_.out (by omega))
    clear rA070_
    have rBx078_ := Lib.hid (show (w12).heap[w5.heap.size]? = some (.cells #[(.slice x00_0p x00_0n x00_0c), .int .i64 i0_1, .int .i64 i0_2] 44 (0, 0)) from Chg.keep c rBx071_.out (by omega))
    clear rBx071_
    have ox079_ := Lib.hid (show OwU (w12) (w4.heap.size) (w5.heap.size) [] [own shI (.slice x00_0p x00_0n x00_0c) (emL shI (1) xs0_0)] from OwU.keep c (by omega) ox076_.out)
    clear ox076_
    have og80_ := Lib.hid (show OwU (w12) (w6.heap.size) (w7.heap.size) [] [own shI (.slice gr0p gr0n gr0c) xsr0] from OwU.keep c (by omega) og73_.out)
    clear og73_
    have G81_ := Lib.hid (show (W).grownBy (w12) none from gby_chg G74_.out c (by omega))
    have qw82_ := Lib.hid (show (w4).grownBy (w12) none from gby_chg qw75_.out c (by omega))
    clear qw75_
    have ox183_ := Lib.hid (show OwU (w12) (w5.heap.size + 1) (w6.heap.size) [] [own shB (.slice x11p x11n x11c) (emL shB (1 + ecL shI xs0_0) xs1)] from FF.out _ (own shB (.slice x11p x11n x11c) (emL shB (1 + ecL shI xs0_0) xs1)) o_ o)
    clear ox172_ o c oo FF o_
    go_wp2_with fail
    go_at_call 37
    refine (eqIntS_d _ (.slice gr0p gr0n gr0c) (.slice wr0p wr0n wr0c) xsr0 (OwU.rd og80_.out) (RdL.grow rd16_.out qw82_.out) hLr0).mono ?_
    rintro e w13 ⟨rfl, g⟩
    have zs13 := World.grownBy.size g
    try simp only [World.size_alloc] at zs13
    have rA084_ := Lib.hid (show (w13).heap[W.heap.size]? = some (.cells #[a0_0, .int .i64 i0_1, .int .i64 i0_2] 41 (0, 0)) from row_held g rA077_.out)
    clear rA077_
    have rBx085_ := Lib.hid (show (w13).heap[w5.heap.size]? = some (.cells #[(.slice x00_0p x00_0n x00_0c), .int .i64 i0_1, .int .i64 i0_2] 44 (0, 0)) from row_held g rBx078_.out)
    clear rBx078_
    have ox086_ := Lib.hid (show OwU (w13) (w4.heap.size) (w5.heap.size) [] [own shI (.slice x00_0p x00_0n x00_0c) (emL shI (1) xs0_0)] from OwU.grow ox079_.out g)
    clear ox079_
    have ox187_ := Lib.hid (show OwU (w13) (w5.heap.size + 1) (w6.heap.size) [] [own shB (.slice x11p x11n x11c) (emL shB (1 + ecL shI xs0_0) xs1)] from OwU.grow ox183_.out g)
    clear ox183_
    have og88_ := Lib.hid (show OwU (w13) (w6.heap.size) (w7.heap.size) [] [own shI (.slice gr0p gr0n gr0c) xsr0] from OwU.grow og80_.out g)
    clear og80_
    have G89_ := Lib.hid (show (W).grownBy (w13) none from gby_trans G81_.out g)
    have qw90_ := Lib.hid (show (w4).grownBy (w13) none from gby_trans qw82_.out g)
    clear qw82_
    clear g
    obtain ⟨lo_, hi_, l_, u_, _, oo, ff⟩ := OwU.focus (pre := []) (p := own shI (.slice gr0p gr0n gr0c) xsr0) (post := []) og88_.out
    have FF := Lib.hid ff
    clear ff
    go_wp2_with fail
    go_at_call 38
    refine (markIntS_d _ lo_ hi_ (1) (.slice gr0p gr0n gr0c) xsr0 oo hLr0 (by omega)).mono ?_
    rintro e w14 ⟨rfl, o, c⟩
    have o_ := c
    have c' := chg_wide c (lo' := w6.heap.size) (hi' := w7.heap.size) l_ u_
    clear c
    have c := c'
    clear c'
    have szw14 := c.size
    try simp only [World.size_alloc] at szw14
    have rA091_ := Lib.hid (show (w14).heap[W.heap.size]? = some (.cells #[a0_0, .int .i64 i0_1, .int .i64 i0_2] 41 (0, 0)) from Chg.keep c rA084_.out (by omega))
    clear rA084_
    have rBx092_ := Lib.hid (show (w14).heap[w5.heap.size]? = some (.cells #[(.slice x00_0p x00_0n x00_0c), .int .i64 i0_1, .int .i64 i0_2] 44 (0, 0)) from Chg.keep c rBx085_.out (by omega))
    clear rBx085_
    have ox093_ := Lib.hid (show OwU (w14) (w4.heap.size) (w5.heap.size) [] [own shI (.slice x00_0p x00_0n x00_0c) (emL shI (1) xs0_0)] from OwU.keep c (by omega) ox086_.out)
    clear ox086_
    have ox194_ := Lib.hid (show OwU (w14) (w5.heap.size + 1) (w6.heap.size) [] [own shB (.slice x11p x11n x11c) (emL shB (1 + ecL shI xs0_0) xs1)] from OwU.keep c (by omega) ox187_.out)
    clear ox187_
    have G95_ := Lib.hid (show (W).grownBy (w14) none from gby_chg G89_.out c (by omega))
    have qw96_ := Lib.hid (show (w4).grownBy (w14) none from gby_chg qw90_.out c (by omega))
    clear qw90_
    have og97_ := Lib.hid (show OwU (w14) (w6.heap.size) (w7.heap.size) [] [own shI (.slice gr0p gr0n gr0c) (emL shI (1) xsr0)] from FF.out _ (own shI (.slice gr0p gr0n gr0c) (emL shI (1) xsr0)) o_ o)
    clear og88_ o c oo FF o_
    go_wp2_with fail
    go_at_call 39
    refine (heldIntS_d _ (1) (.slice gr0p gr0n gr0c) xsr0 (OwU.rd og97_.out) hLr0 (by omega)).mono ?_
    rintro e w15 ⟨rfl, g⟩
    have zs14 := World.grownBy.size g
    try simp only [World.size_alloc] at zs14
    have rA098_ := Lib.hid (show (w15).heap[W.heap.size]? = some (.cells #[a0_0, .int .i64 i0_1, .int .i64 i0_2] 41 (0, 0)) from row_held g rA091_.out)
    clear rA091_
    have rBx099_ := Lib.hid (show (w15).heap[w5.heap.size]? = some (.cells #[(.slice x00_0p x00_0n x00_0c), .int .i64 i0_1, .int .i64 i0_2] 44 (0, 0)) from row_held g rBx092_.out)
    clear rBx092_
    have ox0100_ := Lib.hid (show OwU (w15) (w4.heap.size) (w5.heap.size) [] [own shI (.slice x00_0p x00_0n x00_0c) (emL shI (1) xs0_0)] from OwU.grow ox093_.out g)
    clear ox093_
    have ox1101_ := Lib.hid (show OwU (w15) (w5.heap.size + 1) (w6.heap.size) [] [own shB (.slice x11p x11n x11c) (emL shB (1 + ecL shI xs0_0) xs1)] from OwU.grow ox194_.out g)
    clear ox194_
    have og102_ := Lib.hid (show OwU (w15) (w6.heap.size) (w7.heap.size) [] [own shI (.slice gr0p gr0n gr0c) (emL shI (1) xsr0)] from OwU.grow og97_.out g)
    clear og97_
    have G103_ := Lib.hid (show (W).grownBy (w15) none from gby_trans G95_.out g)
    have qw104_ := Lib.hid (show (w4).grownBy (w15) none from gby_trans qw96_.out g)
    clear qw96_
    clear g
    have ng15 : ¬ (((1 + ecL shI xsr0 : Nat) : Int) < 0) := by omega
    have A0_0_ : (w15).cell? ⟨W.heap.size, 0, none⟩ = some (a0_0) := cell_of_row _ _ 0 _ _ _ rA098_.out
    have A0_1_ : (w15).cell? ⟨W.heap.size, 1, none⟩ = some (.int .i64 i0_1) := cell_of_row _ _ 1 _ _ _ rA098_.out
    have A0_2_ : (w15).cell? ⟨W.heap.size, 2, none⟩ = some (.int .i64 i0_2) := cell_of_row _ _ 2 _ _ _ rA098_.out
    go_wp2_with fail
    go_at_call 27
    refine (toArbiter_d _ a0_0 i0_1 i0_2 xs0_0 (HI0_0.out.grow G103_.out) hl0_0).mono ?_
    rintro e w16 ⟨t50_0, rfl, o, g⟩
    have sz_ := g.size
    try simp only [World.size_alloc] at sz_
    try simp only [World.size_alloc] at o
    have zs15 := World.grownBy.size g
    try simp only [World.size_alloc] at zs15
    clear A0_0_ A0_1_ A0_2_
    have rA0105_ := Lib.hid (show (w16).heap[W.heap.size]? = some (.cells #[a0_0, .int .i64 i0_1, .int .i64 i0_2] 41 (0, 0)) from row_held g rA098_.out)
    clear rA098_
    have rBx0106_ := Lib.hid (show (w16).heap[w5.heap.size]? = some (.cells #[(.slice x00_0p x00_0n x00_0c), .int .i64 i0_1, .int .i64 i0_2] 44 (0, 0)) from row_held g rBx099_.out)
    clear rBx099_
    have ox0107_ := Lib.hid (show OwU (w16) (w4.heap.size) (w5.heap.size) [] [own shI (.slice x00_0p x00_0n x00_0c) (emL shI (1) xs0_0)] from OwU.grow ox0100_.out g)
    clear ox0100_
    have ox1108_ := Lib.hid (show OwU (w16) (w5.heap.size + 1) (w6.heap.size) [] [own shB (.slice x11p x11n x11c) (emL shB (1 + ecL shI xs0_0) xs1)] from OwU.grow ox1101_.out g)
    clear ox1101_
    have og109_ := Lib.hid (show OwU (w16) (w6.heap.size) (w7.heap.size) [] [own shI (.slice gr0p gr0n gr0c) (emL shI (1) xsr0)] from OwU.grow og102_.out g)
    clear og102_
    have G110_ := Lib.hid (show (W).grownBy (w16) none from gby_trans G103_.out g)
    have qw111_ := Lib.hid (show (w4).grownBy (w16) none from gby_trans qw104_.out g)
    clear qw104_
    clear g
    have szw16 := sz_
    clear sz_
    obtain ⟨t50_0p, t50_0n, t50_0c, hv_⟩ := RdL.form (OwU.rd o)
    subst hv_
    have oT5112_ := Lib.hid (show OwU (w16) (w15.heap.size) (w16.heap.size) [] [own shI (.slice t50_0p t50_0n t50_0c) xs0_0] from o)
    clear o
    try unfold vArbiter
    go_wp2_with fail
    go_at_call 28
    refine (toBoolS_d _ (.slice p1 n1 c1) xs1 (HI1.out.grow G110_.out) hl1).mono ?_
    rintro e w17 ⟨t61, rfl, o, g⟩
    have sz_ := g.size
    try simp only [World.size_alloc] at sz_
    try simp only [World.size_alloc] at o
    have zs16 := World.grownBy.size g
    try simp only [World.size_alloc] at zs16
    have rA0113_ := Lib.hid (show (w17).heap[W.heap.size]? = some (.cells #[a0_0, .int .i64 i0_1, .int .i64 i0_2] 41 (0, 0)) from row_held g rA0105_.out)
    clear rA0105_
    have rBx0114_ := Lib.hid (show (w17).heap[w5.heap.size]? = some (.cells #[(.slice x00_0p x00_0n x00_0c), .int .i64 i0_1, .int .i64 i0_2] 44 (0, 0)) from row_held g rBx0106_.out)
    clear rBx0106_
    have ox0115_ := Lib.hid (show OwU (w17) (w4.heap.size) (w5.heap.size) [] [own shI (.slice x00_0p x00_0n x00_0c) (emL shI (1) xs0_0)] from OwU.grow ox0107_.out g)
    clear ox0107_
    have ox1116_ := Lib.hid (show OwU (w17) (w5.heap.size + 1) (w6.heap.size) [] [own shB (.slice x11p x11n x11c) (emL shB (1 + ecL shI xs0_0) xs1)] from OwU.grow ox1108_.out g)
    clear ox1108_
    have og117_ := Lib.hid (show OwU (w17) (w6.heap.size) (w7.heap.size) [] [own shI (.slice gr0p gr0n gr0c) (emL shI (1) xsr0)] from OwU.grow og109_.out g)
    clear og109_
    have oT5118_ := Lib.hid (show OwU (w17) (w15.heap.size) (w16.heap.size) [] [own shI (.slice t50_0p t50_0n t50_0c) xs0_0] from OwU.grow oT5112_.out g)
    clear oT5112_
    have G119_ := Lib.hid (show (W).grownBy (w17) none from gby_trans G110_.out g)
    have qw120_ := Lib.hid (show (w4).grownBy (w17) none from gby_trans qw111_.out g)
    clear qw111_
    clear g
    have szw17 := sz_
    clear sz_
    obtain ⟨t61p, t61n, t61c, hv_⟩ := RdL.form (OwL.rd o)
    subst hv_
    have oT6121_ := Lib.hid (show OwU (w17) (w16.heap.size) (w17.heap.size) [] [own shB (.slice t61p t61n t61c) xs1] from OwU.one o)
    clear o
    go_wp2_with fail
    go_at_call 36
    refine (HM.out _ (.slice t50_0p t50_0n t50_0c) (.slice t61p t61n t61c) (OwU.rd oT5118_.out) (OwU.rd oT6121_.out)).mono ?_
    rintro e w18 ⟨hr0, rfl, o, g⟩
    have sz_ := g.size
    try simp only [World.size_alloc] at sz_
    try simp only [World.size_alloc] at o
    have zs17 := World.grownBy.size g
    try simp only [World.size_alloc] at zs17
    have rA0122_ := Lib.hid (show (w18).heap[W.heap.size]? = some (.cells #[a0_0, .int .i64 i0_1, .int .i64 i0_2] 41 (0, 0)) from row_held g rA0113_.out)
    clear rA0113_
    have rBx0123_ := Lib.hid (show (w18).heap[w5.heap.size]? = some (.cells #[(.slice x00_0p x00_0n x00_0c), .int .i64 i0_1, .int .i64 i0_2] 44 (0, 0)) from row_held g rBx0114_.out)
    clear rBx0114_
    have ox0124_ := Lib.hid (show OwU (w18) (w4.heap.size) (w5.heap.size) [] [own shI (.slice x00_0p x00_0n x00_0c) (emL shI (1) xs0_0)] from OwU.grow ox0115_.out g)
    clear ox0115_
    have ox1125_ := Lib.hid (show OwU (w18) (w5.heap.size + 1) (w6.heap.size) [] [own shB (.slice x11p x11n x11c) (emL shB (1 + ecL shI xs0_0) xs1)] from OwU.grow ox1116_.out g)
    clear ox1116_
    have og126_ := Lib.hid (show OwU (w18) (w6.heap.size) (w7.heap.size) [] [own shI (.slice gr0p gr0n gr0c) (emL shI (1) xsr0)] from OwU.grow og117_.out g)
    clear og117_
    have oT5127_ := Lib.hid (show OwU (w18) (w15.heap.size) (w16.heap.size) [] [own shI (.slice t50_0p t50_0n t50_0c) xs0_0] from OwU.grow oT5118_.out g)
    clear oT5118_
    have oT6128_ := Lib.hid (show OwU (w18) (w16.heap.size) (w17.heap.size) [] [own shB (.slice t61p t61n t61c) xs1] from OwU.grow oT6121_.out g)
    clear oT6121_
    have G129_ := Lib.hid (show (W).grownBy (w18) none from gby_trans G119_.out g)
    have qw130_ := Lib.hid (show (w4).grownBy (w18) none from gby_trans qw120_.out g)
    clear qw120_
    clear g
    have szw18 := sz_
    clear sz_
    obtain ⟨hr0p, hr0n, hr0c, hv_⟩ := RdL.form (OwU.rd o)
    subst hv_
    have oh131_ := Lib.hid (show OwU (w18) (w17.heap.size) (w18.heap.size) [] [own shI (.slice hr0p hr0n hr0c) xsr0] from o)
    clear o
    clear oT5127_
    clear oT6128_
    go_wp2_with fail
    go_at_call 37
    refine (eqIntS_d _ (.slice hr0p hr0n hr0c) (.slice wr0p wr0n wr0c) xsr0 (OwU.rd oh131_.out) (RdL.grow rd16_.out qw130_.out) hLr0).mono ?_
    rintro e w19 ⟨rfl, g⟩
    have zs18 := World.grownBy.size g
    try simp only [World.size_alloc] at zs18
    have rA0132_ := Lib.hid (show (w19).heap[W.heap.size]? = some (.cells #[a0_0, .int .i64 i0_1, .int .i64 i0_2] 41 (0, 0)) from row_held g rA0122_.out)
    clear rA0122_
    have rBx0133_ := Lib.hid (show (w19).heap[w5.heap.size]? = some (.cells #[(.slice x00_0p x00_0n x00_0c), .int .i64 i0_1, .int .i64 i0_2] 44 (0, 0)) from row_held g rBx0123_.out)
    clear rBx0123_
    have ox0134_ := Lib.hid (show OwU (w19) (w4.heap.size) (w5.heap.size) [] [own shI (.slice x00_0p x00_0n x00_0c) (emL shI (1) xs0_0)] from OwU.grow ox0124_.out g)
    clear ox0124_
    have ox1135_ := Lib.hid (show OwU (w19) (w5.heap.size + 1) (w6.heap.size) [] [own shB (.slice x11p x11n x11c) (emL shB (1 + ecL shI xs0_0) xs1)] from OwU.grow ox1125_.out g)
    clear ox1125_
    have og136_ := Lib.hid (show OwU (w19) (w6.heap.size) (w7.heap.size) [] [own shI (.slice gr0p gr0n gr0c) (emL shI (1) xsr0)] from OwU.grow og126_.out g)
    clear og126_
    have oh137_ := Lib.hid (show OwU (w19) (w17.heap.size) (w18.heap.size) [] [own shI (.slice hr0p hr0n hr0c) xsr0] from OwU.grow oh131_.out g)
    clear oh131_
    have G138_ := Lib.hid (show (W).grownBy (w19) none from gby_trans G129_.out g)
    have qw139_ := Lib.hid (show (w4).grownBy (w19) none from gby_trans qw130_.out g)
    clear qw130_
    clear g
    go_wp2_with fail
    go_at_call 39
    refine (heldIntS_d _ (1) (.slice gr0p gr0n gr0c) xsr0 (OwU.rd og136_.out) hLr0 (by omega)).mono ?_
    rintro e w20 ⟨rfl, g⟩
    have zs19 := World.grownBy.size g
    try simp only [World.size_alloc] at zs19
    have rA0140_ := Lib.hid (show (w20).heap[W.heap.size]? = some (.cells #[a0_0, .int .i64 i0_1, .int .i64 i0_2] 41 (0, 0)) from row_held g rA0132_.out)
    clear rA0132_
    have rBx0141_ := Lib.hid (show (w20).heap[w5.heap.size]? = some (.cells #[(.slice x00_0p x00_0n x00_0c), .int .i64 i0_1, .int .i64 i0_2] 44 (0, 0)) from row_held g rBx0133_.out)
    clear rBx0133_
    have ox0142_ := Lib.hid (show OwU (w20) (w4.heap.size) (w5.heap.size) [] [own shI (.slice x00_0p x00_0n x00_0c) (emL shI (1) xs0_0)] from OwU.grow ox0134_.out g)
    clear ox0134_
    have ox1143_ := Lib.hid (show OwU (w20) (w5.heap.size + 1) (w6.heap.size) [] [own shB (.slice x11p x11n x11c) (emL shB (1 + ecL shI xs0_0) xs1)] from OwU.grow ox1135_.out g)
    clear ox1135_
    have og144_ := Lib.hid (show OwU (w20) (w6.heap.size) (w7.heap.size) [] [own shI (.slice gr0p gr0n gr0c) (emL shI (1) xsr0)] from OwU.grow og136_.out g)
    clear og136_
    have oh145_ := Lib.hid (show OwU (w20) (w17.heap.size) (w18.heap.size) [] [own shI (.slice hr0p hr0n hr0c) xsr0] from OwU.grow oh137_.out g)
    clear oh137_
    have G146_ := Lib.hid (show (W).grownBy (w20) none from gby_trans G138_.out g)
    have qw147_ := Lib.hid (show (w4).grownBy (w20) none from gby_trans qw139_.out g)
    clear qw139_
    clear g
    have ng20 : ¬ (((1 + ecL shI xsr0 : Nat) : Int) < 0) := by omega
    go_wp2
    go_ret
    exact ⟨rfl, gby_below G146_.out⟩

end Go.Proofs.Ytgagbhkidponnad
