/-
  SameFabric, the program.
-/
import Derived.Test.YtnighnkkeiegnabSameFabS
import Derived.Test.YtnighnkkeiegnabRSameFabric
import Derived.Deep.RegionHeld3
namespace Go.Proofs.Ytnighnkkeiegnab
open Go Go.RowKit
set_option linter.unusedVariables false

set_option maxRecDepth 8000 in
set_option maxHeartbeats 4000000 in
theorem implFab_0 (W : World) (v0 u0 v1 u1 v2 u2 v3 u3 v4 u4 : Value) (x0 y0 : List DNode) (x1 y1 : List Int) (x2 y2 : List DBar) (x3 y3 : List (List Int)) (x4 y4 : List Bool) (H0 : RdL shNode W v0 x0) (K0 : RdL shNode W u0 y0) (H1 : RdL shI W v1 x1) (K1 : RdL shI W u1 y1) (H2 : RdL shBar W v2 x2) (K2 : RdL shBar W u2 y2) (H3 : RdL (shL shI) W v3 x3) (K3 : RdL (shL shI) W u3 y3) (H4 : RdL shB W v4 x4) (K4 : RdL shB W u4 y4) (hl0 : szL shNode x0 ≤ 1048576) (kl0 : szL shNode y0 ≤ 1048576) (hl1 : szL shI x1 ≤ 1048576) (kl1 : szL shI y1 ≤ 1048576) (hl2 : szL shBar x2 ≤ 1048576) (kl2 : szL shBar y2 ≤ 1048576) (hl3 : szL (shL shI) x3 ≤ 1048576) (kl3 : szL (shL shI) y3 ≤ 1048576) (hl4 : szL shB x4 ≤ 1048576) (kl4 : szL shB y4 ≤ 1048576) (ht : ¬ x0 = y0) : Calls Try.prog 13 #[.agg #[v0, v1, v2, v3, v4], .agg #[u0, u1, u2, u3, u4]] W (BPost (FabEq x0 y0 x1 y1 x2 y2 x3 y3 x4 y4) W) := by
  have HT := Lib.hid ht
  clear ht
  have HR0 := Lib.hid H0
  have KR0 := Lib.hid K0
  have HS0 := Lib.hid hl0
  have KS0 := Lib.hid kl0
  clear H0 K0 hl0 kl0
  have HR1 := Lib.hid H1
  have KR1 := Lib.hid K1
  have HS1 := Lib.hid hl1
  have KS1 := Lib.hid kl1
  clear H1 K1 hl1 kl1
  have HR2 := Lib.hid H2
  have KR2 := Lib.hid K2
  have HS2 := Lib.hid hl2
  have KS2 := Lib.hid kl2
  clear H2 K2 hl2 kl2
  have HR3 := Lib.hid H3
  have KR3 := Lib.hid K3
  have HS3 := Lib.hid hl3
  have KS3 := Lib.hid kl3
  clear H3 K3 hl3 kl3
  have HR4 := Lib.hid H4
  have KR4 := Lib.hid K4
  have HS4 := Lib.hid hl4
  have KS4 := Lib.hid kl4
  clear H4 K4 hl4 kl4
  go_enter Try.func13, Try.ntmps13
  have rA1_ := Lib.hid (show (((W.alloc (.cells #[v0, v1, v2, v3, v4] 37)).alloc (.cells #[u0, u1, u2, u3, u4] 37))).heap[W.heap.size]? = some (.cells #[v0, v1, v2, v3, v4] 37 (0, 0)) from by rw [heap_alloc_old _ _ (by simp only [World.size_alloc]; omega)]; exact heap_alloc_new _ _)
  have rB2_ := Lib.hid (show (((W.alloc (.cells #[v0, v1, v2, v3, v4] 37)).alloc (.cells #[u0, u1, u2, u3, u4] 37))).heap[W.heap.size + 1]? = some (.cells #[u0, u1, u2, u3, u4] 37 (0, 0)) from by exact heap_pair _ _ _)
  have G3_ := Lib.hid (show (W).grownBy (((W.alloc (.cells #[v0, v1, v2, v3, v4] 37)).alloc (.cells #[u0, u1, u2, u3, u4] 37))) none from (gby_alloc (gby_alloc (gby_refl _ _) _) _))
  have A_0_ : (((W.alloc (.cells #[v0, v1, v2, v3, v4] 37)).alloc (.cells #[u0, u1, u2, u3, u4] 37))).cell? ⟨W.heap.size, 0, none⟩ = some (v0) := cell_of_row _ _ 0 _ _ _ rA1_.out
  have A_1_ : (((W.alloc (.cells #[v0, v1, v2, v3, v4] 37)).alloc (.cells #[u0, u1, u2, u3, u4] 37))).cell? ⟨W.heap.size, 1, none⟩ = some (v1) := cell_of_row _ _ 1 _ _ _ rA1_.out
  have A_2_ : (((W.alloc (.cells #[v0, v1, v2, v3, v4] 37)).alloc (.cells #[u0, u1, u2, u3, u4] 37))).cell? ⟨W.heap.size, 2, none⟩ = some (v2) := cell_of_row _ _ 2 _ _ _ rA1_.out
  have A_3_ : (((W.alloc (.cells #[v0, v1, v2, v3, v4] 37)).alloc (.cells #[u0, u1, u2, u3, u4] 37))).cell? ⟨W.heap.size, 3, none⟩ = some (v3) := cell_of_row _ _ 3 _ _ _ rA1_.out
  have A_4_ : (((W.alloc (.cells #[v0, v1, v2, v3, v4] 37)).alloc (.cells #[u0, u1, u2, u3, u4] 37))).cell? ⟨W.heap.size, 4, none⟩ = some (v4) := cell_of_row _ _ 4 _ _ _ rA1_.out
  have B_0_ : (((W.alloc (.cells #[v0, v1, v2, v3, v4] 37)).alloc (.cells #[u0, u1, u2, u3, u4] 37))).cell? ⟨W.heap.size + 1, 0, none⟩ = some (u0) := cell_of_row _ _ 0 _ _ _ rB2_.out
  have B_1_ : (((W.alloc (.cells #[v0, v1, v2, v3, v4] 37)).alloc (.cells #[u0, u1, u2, u3, u4] 37))).cell? ⟨W.heap.size + 1, 1, none⟩ = some (u1) := cell_of_row _ _ 1 _ _ _ rB2_.out
  have B_2_ : (((W.alloc (.cells #[v0, v1, v2, v3, v4] 37)).alloc (.cells #[u0, u1, u2, u3, u4] 37))).cell? ⟨W.heap.size + 1, 2, none⟩ = some (u2) := cell_of_row _ _ 2 _ _ _ rB2_.out
  have B_3_ : (((W.alloc (.cells #[v0, v1, v2, v3, v4] 37)).alloc (.cells #[u0, u1, u2, u3, u4] 37))).cell? ⟨W.heap.size + 1, 3, none⟩ = some (u3) := cell_of_row _ _ 3 _ _ _ rB2_.out
  have B_4_ : (((W.alloc (.cells #[v0, v1, v2, v3, v4] 37)).alloc (.cells #[u0, u1, u2, u3, u4] 37))).cell? ⟨W.heap.size + 1, 4, none⟩ = some (u4) := cell_of_row _ _ 4 _ _ _ rB2_.out
  go_wp2_with fail
  go_at_call 53
  refine ((implSame _ _ _ x0 y0 (HR0.out.grow G3_.out) (KR0.out.grow G3_.out) HS0.out KS0.out).mono (bpost_no HT.out)).mono ?_
  rintro e w1 ⟨rfl, g⟩
  have szw1 := g.size
  try simp only [World.size_alloc] at szw1
  try simp only [World.size_setCell] at szw1
  clear A_0_ A_1_ A_2_ A_3_ A_4_ B_0_ B_1_ B_2_ B_3_ B_4_
  have rA4_ := Lib.hid (show (w1).heap[W.heap.size]? = some (.cells #[v0, v1, v2, v3, v4] 37 (0, 0)) from row_held g rA1_.out)
  clear rA1_
  have rB5_ := Lib.hid (show (w1).heap[W.heap.size + 1]? = some (.cells #[u0, u1, u2, u3, u4] 37 (0, 0)) from row_held g rB2_.out)
  clear rB2_
  have G6_ := Lib.hid (show (W).grownBy (w1) none from gby_trans G3_.out g)
  clear g
  have A_0_ : (w1).cell? ⟨W.heap.size, 0, none⟩ = some (v0) := cell_of_row _ _ 0 _ _ _ rA4_.out
  have A_1_ : (w1).cell? ⟨W.heap.size, 1, none⟩ = some (v1) := cell_of_row _ _ 1 _ _ _ rA4_.out
  have A_2_ : (w1).cell? ⟨W.heap.size, 2, none⟩ = some (v2) := cell_of_row _ _ 2 _ _ _ rA4_.out
  have A_3_ : (w1).cell? ⟨W.heap.size, 3, none⟩ = some (v3) := cell_of_row _ _ 3 _ _ _ rA4_.out
  have A_4_ : (w1).cell? ⟨W.heap.size, 4, none⟩ = some (v4) := cell_of_row _ _ 4 _ _ _ rA4_.out
  have B_0_ : (w1).cell? ⟨W.heap.size + 1, 0, none⟩ = some (u0) := cell_of_row _ _ 0 _ _ _ rB5_.out
  have B_1_ : (w1).cell? ⟨W.heap.size + 1, 1, none⟩ = some (u1) := cell_of_row _ _ 1 _ _ _ rB5_.out
  have B_2_ : (w1).cell? ⟨W.heap.size + 1, 2, none⟩ = some (u2) := cell_of_row _ _ 2 _ _ _ rB5_.out
  have B_3_ : (w1).cell? ⟨W.heap.size + 1, 3, none⟩ = some (u3) := cell_of_row _ _ 3 _ _ _ rB5_.out
  have B_4_ : (w1).cell? ⟨W.heap.size + 1, 4, none⟩ = some (u4) := cell_of_row _ _ 4 _ _ _ rB5_.out
  go_wp2
  go_ret
  exact ⟨false, rfl, iff_noF (fun q => HT.out q.1), G6_.out⟩

set_option maxRecDepth 8000 in
set_option maxHeartbeats 4000000 in
theorem implFab_1 (W : World) (v0 u0 v1 u1 v2 u2 v3 u3 v4 u4 : Value) (x0 y0 : List DNode) (x1 y1 : List Int) (x2 y2 : List DBar) (x3 y3 : List (List Int)) (x4 y4 : List Bool) (H0 : RdL shNode W v0 x0) (K0 : RdL shNode W u0 y0) (H1 : RdL shI W v1 x1) (K1 : RdL shI W u1 y1) (H2 : RdL shBar W v2 x2) (K2 : RdL shBar W u2 y2) (H3 : RdL (shL shI) W v3 x3) (K3 : RdL (shL shI) W u3 y3) (H4 : RdL shB W v4 x4) (K4 : RdL shB W u4 y4) (hl0 : szL shNode x0 ≤ 1048576) (kl0 : szL shNode y0 ≤ 1048576) (hl1 : szL shI x1 ≤ 1048576) (kl1 : szL shI y1 ≤ 1048576) (hl2 : szL shBar x2 ≤ 1048576) (kl2 : szL shBar y2 ≤ 1048576) (hl3 : szL (shL shI) x3 ≤ 1048576) (kl3 : szL (shL shI) y3 ≤ 1048576) (hl4 : szL shB x4 ≤ 1048576) (kl4 : szL shB y4 ≤ 1048576) (ht : x0 = y0) (hi : ¬ x1 = y1) : Calls Try.prog 13 #[.agg #[v0, v1, v2, v3, v4], .agg #[u0, u1, u2, u3, u4]] W (BPost (FabEq x0 y0 x1 y1 x2 y2 x3 y3 x4 y4) W) := by
  have HT := Lib.hid ht
  clear ht
  have HI := Lib.hid (show false = decide (x1 = y1) from (decide_eq_false hi).symm)
  clear hi
  have HR0 := Lib.hid H0
  have KR0 := Lib.hid K0
  have HS0 := Lib.hid hl0
  have KS0 := Lib.hid kl0
  clear H0 K0 hl0 kl0
  have HR1 := Lib.hid H1
  have KR1 := Lib.hid K1
  have HS1 := Lib.hid hl1
  have KS1 := Lib.hid kl1
  clear H1 K1 hl1 kl1
  have HR2 := Lib.hid H2
  have KR2 := Lib.hid K2
  have HS2 := Lib.hid hl2
  have KS2 := Lib.hid kl2
  clear H2 K2 hl2 kl2
  have HR3 := Lib.hid H3
  have KR3 := Lib.hid K3
  have HS3 := Lib.hid hl3
  have KS3 := Lib.hid kl3
  clear H3 K3 hl3 kl3
  have HR4 := Lib.hid H4
  have KR4 := Lib.hid K4
  have HS4 := Lib.hid hl4
  have KS4 := Lib.hid kl4
  clear H4 K4 hl4 kl4
  go_enter Try.func13, Try.ntmps13
  have rA1_ := Lib.hid (show (((W.alloc (.cells #[v0, v1, v2, v3, v4] 37)).alloc (.cells #[u0, u1, u2, u3, u4] 37))).heap[W.heap.size]? = some (.cells #[v0, v1, v2, v3, v4] 37 (0, 0)) from by rw [heap_alloc_old _ _ (by simp only [World.size_alloc]; omega)]; exact heap_alloc_new _ _)
  have rB2_ := Lib.hid (show (((W.alloc (.cells #[v0, v1, v2, v3, v4] 37)).alloc (.cells #[u0, u1, u2, u3, u4] 37))).heap[W.heap.size + 1]? = some (.cells #[u0, u1, u2, u3, u4] 37 (0, 0)) from by exact heap_pair _ _ _)
  have G3_ := Lib.hid (show (W).grownBy (((W.alloc (.cells #[v0, v1, v2, v3, v4] 37)).alloc (.cells #[u0, u1, u2, u3, u4] 37))) none from (gby_alloc (gby_alloc (gby_refl _ _) _) _))
  have A_0_ : (((W.alloc (.cells #[v0, v1, v2, v3, v4] 37)).alloc (.cells #[u0, u1, u2, u3, u4] 37))).cell? ⟨W.heap.size, 0, none⟩ = some (v0) := cell_of_row _ _ 0 _ _ _ rA1_.out
  have A_1_ : (((W.alloc (.cells #[v0, v1, v2, v3, v4] 37)).alloc (.cells #[u0, u1, u2, u3, u4] 37))).cell? ⟨W.heap.size, 1, none⟩ = some (v1) := cell_of_row _ _ 1 _ _ _ rA1_.out
  have A_2_ : (((W.alloc (.cells #[v0, v1, v2, v3, v4] 37)).alloc (.cells #[u0, u1, u2, u3, u4] 37))).cell? ⟨W.heap.size, 2, none⟩ = some (v2) := cell_of_row _ _ 2 _ _ _ rA1_.out
  have A_3_ : (((W.alloc (.cells #[v0, v1, v2, v3, v4] 37)).alloc (.cells #[u0, u1, u2, u3, u4] 37))).cell? ⟨W.heap.size, 3, none⟩ = some (v3) := cell_of_row _ _ 3 _ _ _ rA1_.out
  have A_4_ : (((W.alloc (.cells #[v0, v1, v2, v3, v4] 37)).alloc (.cells #[u0, u1, u2, u3, u4] 37))).cell? ⟨W.heap.size, 4, none⟩ = some (v4) := cell_of_row _ _ 4 _ _ _ rA1_.out
  have B_0_ : (((W.alloc (.cells #[v0, v1, v2, v3, v4] 37)).alloc (.cells #[u0, u1, u2, u3, u4] 37))).cell? ⟨W.heap.size + 1, 0, none⟩ = some (u0) := cell_of_row _ _ 0 _ _ _ rB2_.out
  have B_1_ : (((W.alloc (.cells #[v0, v1, v2, v3, v4] 37)).alloc (.cells #[u0, u1, u2, u3, u4] 37))).cell? ⟨W.heap.size + 1, 1, none⟩ = some (u1) := cell_of_row _ _ 1 _ _ _ rB2_.out
  have B_2_ : (((W.alloc (.cells #[v0, v1, v2, v3, v4] 37)).alloc (.cells #[u0, u1, u2, u3, u4] 37))).cell? ⟨W.heap.size + 1, 2, none⟩ = some (u2) := cell_of_row _ _ 2 _ _ _ rB2_.out
  have B_3_ : (((W.alloc (.cells #[v0, v1, v2, v3, v4] 37)).alloc (.cells #[u0, u1, u2, u3, u4] 37))).cell? ⟨W.heap.size + 1, 3, none⟩ = some (u3) := cell_of_row _ _ 3 _ _ _ rB2_.out
  have B_4_ : (((W.alloc (.cells #[v0, v1, v2, v3, v4] 37)).alloc (.cells #[u0, u1, u2, u3, u4] 37))).cell? ⟨W.heap.size + 1, 4, none⟩ = some (u4) := cell_of_row _ _ 4 _ _ _ rB2_.out
  go_wp2_with fail
  go_at_call 53
  refine ((implSame _ _ _ x0 y0 (HR0.out.grow G3_.out) (KR0.out.grow G3_.out) HS0.out KS0.out).mono (bpost_yes HT.out)).mono ?_
  rintro e w1 ⟨rfl, g⟩
  have szw1 := g.size
  try simp only [World.size_alloc] at szw1
  try simp only [World.size_setCell] at szw1
  clear A_0_ A_1_ A_2_ A_3_ A_4_ B_0_ B_1_ B_2_ B_3_ B_4_
  have rA4_ := Lib.hid (show (w1).heap[W.heap.size]? = some (.cells #[v0, v1, v2, v3, v4] 37 (0, 0)) from row_held g rA1_.out)
  clear rA1_
  have rB5_ := Lib.hid (show (w1).heap[W.heap.size + 1]? = some (.cells #[u0, u1, u2, u3, u4] 37 (0, 0)) from row_held g rB2_.out)
  clear rB2_
  have G6_ := Lib.hid (show (W).grownBy (w1) none from gby_trans G3_.out g)
  clear g
  have A_0_ : (w1).cell? ⟨W.heap.size, 0, none⟩ = some (v0) := cell_of_row _ _ 0 _ _ _ rA4_.out
  have A_1_ : (w1).cell? ⟨W.heap.size, 1, none⟩ = some (v1) := cell_of_row _ _ 1 _ _ _ rA4_.out
  have A_2_ : (w1).cell? ⟨W.heap.size, 2, none⟩ = some (v2) := cell_of_row _ _ 2 _ _ _ rA4_.out
  have A_3_ : (w1).cell? ⟨W.heap.size, 3, none⟩ = some (v3) := cell_of_row _ _ 3 _ _ _ rA4_.out
  have A_4_ : (w1).cell? ⟨W.heap.size, 4, none⟩ = some (v4) := cell_of_row _ _ 4 _ _ _ rA4_.out
  have B_0_ : (w1).cell? ⟨W.heap.size + 1, 0, none⟩ = some (u0) := cell_of_row _ _ 0 _ _ _ rB5_.out
  have B_1_ : (w1).cell? ⟨W.heap.size + 1, 1, none⟩ = some (u1) := cell_of_row _ _ 1 _ _ _ rB5_.out
  have B_2_ : (w1).cell? ⟨W.heap.size + 1, 2, none⟩ = some (u2) := cell_of_row _ _ 2 _ _ _ rB5_.out
  have B_3_ : (w1).cell? ⟨W.heap.size + 1, 3, none⟩ = some (u3) := cell_of_row _ _ 3 _ _ _ rB5_.out
  have B_4_ : (w1).cell? ⟨W.heap.size + 1, 4, none⟩ = some (u4) := cell_of_row _ _ 4 _ _ _ rB5_.out
  go_wp2_with fail
  go_at_call 54
  refine (equalD _ _ _ x1 y1 (HR1.out.grow G6_.out) (KR1.out.grow G6_.out) HS1.out KS1.out false HI.out).mono ?_
  rintro e w2 ⟨rfl, g⟩
  have szw2 := g.size
  try simp only [World.size_alloc] at szw2
  try simp only [World.size_setCell] at szw2
  clear A_0_ A_1_ A_2_ A_3_ A_4_ B_0_ B_1_ B_2_ B_3_ B_4_
  have rA7_ := Lib.hid (show (w2).heap[W.heap.size]? = some (.cells #[v0, v1, v2, v3, v4] 37 (0, 0)) from row_held g rA4_.out)
  clear rA4_
  have rB8_ := Lib.hid (show (w2).heap[W.heap.size + 1]? = some (.cells #[u0, u1, u2, u3, u4] 37 (0, 0)) from row_held g rB5_.out)
  clear rB5_
  have G9_ := Lib.hid (show (W).grownBy (w2) none from gby_trans G6_.out g)
  clear g
  have A_0_ : (w2).cell? ⟨W.heap.size, 0, none⟩ = some (v0) := cell_of_row _ _ 0 _ _ _ rA7_.out
  have A_1_ : (w2).cell? ⟨W.heap.size, 1, none⟩ = some (v1) := cell_of_row _ _ 1 _ _ _ rA7_.out
  have A_2_ : (w2).cell? ⟨W.heap.size, 2, none⟩ = some (v2) := cell_of_row _ _ 2 _ _ _ rA7_.out
  have A_3_ : (w2).cell? ⟨W.heap.size, 3, none⟩ = some (v3) := cell_of_row _ _ 3 _ _ _ rA7_.out
  have A_4_ : (w2).cell? ⟨W.heap.size, 4, none⟩ = some (v4) := cell_of_row _ _ 4 _ _ _ rA7_.out
  have B_0_ : (w2).cell? ⟨W.heap.size + 1, 0, none⟩ = some (u0) := cell_of_row _ _ 0 _ _ _ rB8_.out
  have B_1_ : (w2).cell? ⟨W.heap.size + 1, 1, none⟩ = some (u1) := cell_of_row _ _ 1 _ _ _ rB8_.out
  have B_2_ : (w2).cell? ⟨W.heap.size + 1, 2, none⟩ = some (u2) := cell_of_row _ _ 2 _ _ _ rB8_.out
  have B_3_ : (w2).cell? ⟨W.heap.size + 1, 3, none⟩ = some (u3) := cell_of_row _ _ 3 _ _ _ rB8_.out
  have B_4_ : (w2).cell? ⟨W.heap.size + 1, 4, none⟩ = some (u4) := cell_of_row _ _ 4 _ _ _ rB8_.out
  go_wp2
  go_ret
  exact ⟨false, rfl, iff_noF (fun q => absurd q.2.1 (of_decide_eq_false HI.out.symm)), G9_.out⟩

set_option maxRecDepth 8000 in
set_option maxHeartbeats 4000000 in
theorem implFab_2 (W : World) (v0 u0 v1 u1 v2 u2 v3 u3 v4 u4 : Value) (x0 y0 : List DNode) (x1 y1 : List Int) (x2 y2 : List DBar) (x3 y3 : List (List Int)) (x4 y4 : List Bool) (H0 : RdL shNode W v0 x0) (K0 : RdL shNode W u0 y0) (H1 : RdL shI W v1 x1) (K1 : RdL shI W u1 y1) (H2 : RdL shBar W v2 x2) (K2 : RdL shBar W u2 y2) (H3 : RdL (shL shI) W v3 x3) (K3 : RdL (shL shI) W u3 y3) (H4 : RdL shB W v4 x4) (K4 : RdL shB W u4 y4) (hl0 : szL shNode x0 ≤ 1048576) (kl0 : szL shNode y0 ≤ 1048576) (hl1 : szL shI x1 ≤ 1048576) (kl1 : szL shI y1 ≤ 1048576) (hl2 : szL shBar x2 ≤ 1048576) (kl2 : szL shBar y2 ≤ 1048576) (hl3 : szL (shL shI) x3 ≤ 1048576) (kl3 : szL (shL shI) y3 ≤ 1048576) (hl4 : szL shB x4 ≤ 1048576) (kl4 : szL shB y4 ≤ 1048576) (ht : x0 = y0) (hi : x1 = y1) (h2_ : ¬ x2 = y2) : Calls Try.prog 13 #[.agg #[v0, v1, v2, v3, v4], .agg #[u0, u1, u2, u3, u4]] W (BPost (FabEq x0 y0 x1 y1 x2 y2 x3 y3 x4 y4) W) := by
  have HT := Lib.hid ht
  clear ht
  have HI := Lib.hid (show true = decide (x1 = y1) from (decide_eq_true hi).symm)
  clear hi
  have HT2 := Lib.hid h2_
  clear h2_
  have HR0 := Lib.hid H0
  have KR0 := Lib.hid K0
  have HS0 := Lib.hid hl0
  have KS0 := Lib.hid kl0
  clear H0 K0 hl0 kl0
  have HR1 := Lib.hid H1
  have KR1 := Lib.hid K1
  have HS1 := Lib.hid hl1
  have KS1 := Lib.hid kl1
  clear H1 K1 hl1 kl1
  have HR2 := Lib.hid H2
  have KR2 := Lib.hid K2
  have HS2 := Lib.hid hl2
  have KS2 := Lib.hid kl2
  clear H2 K2 hl2 kl2
  have HR3 := Lib.hid H3
  have KR3 := Lib.hid K3
  have HS3 := Lib.hid hl3
  have KS3 := Lib.hid kl3
  clear H3 K3 hl3 kl3
  have HR4 := Lib.hid H4
  have KR4 := Lib.hid K4
  have HS4 := Lib.hid hl4
  have KS4 := Lib.hid kl4
  clear H4 K4 hl4 kl4
  go_enter Try.func13, Try.ntmps13
  have rA1_ := Lib.hid (show (((W.alloc (.cells #[v0, v1, v2, v3, v4] 37)).alloc (.cells #[u0, u1, u2, u3, u4] 37))).heap[W.heap.size]? = some (.cells #[v0, v1, v2, v3, v4] 37 (0, 0)) from by rw [heap_alloc_old _ _ (by simp only [World.size_alloc]; omega)]; exact heap_alloc_new _ _)
  have rB2_ := Lib.hid (show (((W.alloc (.cells #[v0, v1, v2, v3, v4] 37)).alloc (.cells #[u0, u1, u2, u3, u4] 37))).heap[W.heap.size + 1]? = some (.cells #[u0, u1, u2, u3, u4] 37 (0, 0)) from by exact heap_pair _ _ _)
  have G3_ := Lib.hid (show (W).grownBy (((W.alloc (.cells #[v0, v1, v2, v3, v4] 37)).alloc (.cells #[u0, u1, u2, u3, u4] 37))) none from (gby_alloc (gby_alloc (gby_refl _ _) _) _))
  have A_0_ : (((W.alloc (.cells #[v0, v1, v2, v3, v4] 37)).alloc (.cells #[u0, u1, u2, u3, u4] 37))).cell? ⟨W.heap.size, 0, none⟩ = some (v0) := cell_of_row _ _ 0 _ _ _ rA1_.out
  have A_1_ : (((W.alloc (.cells #[v0, v1, v2, v3, v4] 37)).alloc (.cells #[u0, u1, u2, u3, u4] 37))).cell? ⟨W.heap.size, 1, none⟩ = some (v1) := cell_of_row _ _ 1 _ _ _ rA1_.out
  have A_2_ : (((W.alloc (.cells #[v0, v1, v2, v3, v4] 37)).alloc (.cells #[u0, u1, u2, u3, u4] 37))).cell? ⟨W.heap.size, 2, none⟩ = some (v2) := cell_of_row _ _ 2 _ _ _ rA1_.out
  have A_3_ : (((W.alloc (.cells #[v0, v1, v2, v3, v4] 37)).alloc (.cells #[u0, u1, u2, u3, u4] 37))).cell? ⟨W.heap.size, 3, none⟩ = some (v3) := cell_of_row _ _ 3 _ _ _ rA1_.out
  have A_4_ : (((W.alloc (.cells #[v0, v1, v2, v3, v4] 37)).alloc (.cells #[u0, u1, u2, u3, u4] 37))).cell? ⟨W.heap.size, 4, none⟩ = some (v4) := cell_of_row _ _ 4 _ _ _ rA1_.out
  have B_0_ : (((W.alloc (.cells #[v0, v1, v2, v3, v4] 37)).alloc (.cells #[u0, u1, u2, u3, u4] 37))).cell? ⟨W.heap.size + 1, 0, none⟩ = some (u0) := cell_of_row _ _ 0 _ _ _ rB2_.out
  have B_1_ : (((W.alloc (.cells #[v0, v1, v2, v3, v4] 37)).alloc (.cells #[u0, u1, u2, u3, u4] 37))).cell? ⟨W.heap.size + 1, 1, none⟩ = some (u1) := cell_of_row _ _ 1 _ _ _ rB2_.out
  have B_2_ : (((W.alloc (.cells #[v0, v1, v2, v3, v4] 37)).alloc (.cells #[u0, u1, u2, u3, u4] 37))).cell? ⟨W.heap.size + 1, 2, none⟩ = some (u2) := cell_of_row _ _ 2 _ _ _ rB2_.out
  have B_3_ : (((W.alloc (.cells #[v0, v1, v2, v3, v4] 37)).alloc (.cells #[u0, u1, u2, u3, u4] 37))).cell? ⟨W.heap.size + 1, 3, none⟩ = some (u3) := cell_of_row _ _ 3 _ _ _ rB2_.out
  have B_4_ : (((W.alloc (.cells #[v0, v1, v2, v3, v4] 37)).alloc (.cells #[u0, u1, u2, u3, u4] 37))).cell? ⟨W.heap.size + 1, 4, none⟩ = some (u4) := cell_of_row _ _ 4 _ _ _ rB2_.out
  go_wp2_with fail
  go_at_call 53
  refine ((implSame _ _ _ x0 y0 (HR0.out.grow G3_.out) (KR0.out.grow G3_.out) HS0.out KS0.out).mono (bpost_yes HT.out)).mono ?_
  rintro e w1 ⟨rfl, g⟩
  have szw1 := g.size
  try simp only [World.size_alloc] at szw1
  try simp only [World.size_setCell] at szw1
  clear A_0_ A_1_ A_2_ A_3_ A_4_ B_0_ B_1_ B_2_ B_3_ B_4_
  have rA4_ := Lib.hid (show (w1).heap[W.heap.size]? = some (.cells #[v0, v1, v2, v3, v4] 37 (0, 0)) from row_held g rA1_.out)
  clear rA1_
  have rB5_ := Lib.hid (show (w1).heap[W.heap.size + 1]? = some (.cells #[u0, u1, u2, u3, u4] 37 (0, 0)) from row_held g rB2_.out)
  clear rB2_
  have G6_ := Lib.hid (show (W).grownBy (w1) none from gby_trans G3_.out g)
  clear g
  have A_0_ : (w1).cell? ⟨W.heap.size, 0, none⟩ = some (v0) := cell_of_row _ _ 0 _ _ _ rA4_.out
  have A_1_ : (w1).cell? ⟨W.heap.size, 1, none⟩ = some (v1) := cell_of_row _ _ 1 _ _ _ rA4_.out
  have A_2_ : (w1).cell? ⟨W.heap.size, 2, none⟩ = some (v2) := cell_of_row _ _ 2 _ _ _ rA4_.out
  have A_3_ : (w1).cell? ⟨W.heap.size, 3, none⟩ = some (v3) := cell_of_row _ _ 3 _ _ _ rA4_.out
  have A_4_ : (w1).cell? ⟨W.heap.size, 4, none⟩ = some (v4) := cell_of_row _ _ 4 _ _ _ rA4_.out
  have B_0_ : (w1).cell? ⟨W.heap.size + 1, 0, none⟩ = some (u0) := cell_of_row _ _ 0 _ _ _ rB5_.out
  have B_1_ : (w1).cell? ⟨W.heap.size + 1, 1, none⟩ = some (u1) := cell_of_row _ _ 1 _ _ _ rB5_.out
  have B_2_ : (w1).cell? ⟨W.heap.size + 1, 2, none⟩ = some (u2) := cell_of_row _ _ 2 _ _ _ rB5_.out
  have B_3_ : (w1).cell? ⟨W.heap.size + 1, 3, none⟩ = some (u3) := cell_of_row _ _ 3 _ _ _ rB5_.out
  have B_4_ : (w1).cell? ⟨W.heap.size + 1, 4, none⟩ = some (u4) := cell_of_row _ _ 4 _ _ _ rB5_.out
  go_wp2_with fail
  go_at_call 54
  refine (equalD _ _ _ x1 y1 (HR1.out.grow G6_.out) (KR1.out.grow G6_.out) HS1.out KS1.out true HI.out).mono ?_
  rintro e w2 ⟨rfl, g⟩
  have szw2 := g.size
  try simp only [World.size_alloc] at szw2
  try simp only [World.size_setCell] at szw2
  clear A_0_ A_1_ A_2_ A_3_ A_4_ B_0_ B_1_ B_2_ B_3_ B_4_
  have rA7_ := Lib.hid (show (w2).heap[W.heap.size]? = some (.cells #[v0, v1, v2, v3, v4] 37 (0, 0)) from row_held g rA4_.out)
  clear rA4_
  have rB8_ := Lib.hid (show (w2).heap[W.heap.size + 1]? = some (.cells #[u0, u1, u2, u3, u4] 37 (0, 0)) from row_held g rB5_.out)
  clear rB5_
  have G9_ := Lib.hid (show (W).grownBy (w2) none from gby_trans G6_.out g)
  clear g
  have A_0_ : (w2).cell? ⟨W.heap.size, 0, none⟩ = some (v0) := cell_of_row _ _ 0 _ _ _ rA7_.out
  have A_1_ : (w2).cell? ⟨W.heap.size, 1, none⟩ = some (v1) := cell_of_row _ _ 1 _ _ _ rA7_.out
  have A_2_ : (w2).cell? ⟨W.heap.size, 2, none⟩ = some (v2) := cell_of_row _ _ 2 _ _ _ rA7_.out
  have A_3_ : (w2).cell? ⟨W.heap.size, 3, none⟩ = some (v3) := cell_of_row _ _ 3 _ _ _ rA7_.out
  have A_4_ : (w2).cell? ⟨W.heap.size, 4, none⟩ = some (v4) := cell_of_row _ _ 4 _ _ _ rA7_.out
  have B_0_ : (w2).cell? ⟨W.heap.size + 1, 0, none⟩ = some (u0) := cell_of_row _ _ 0 _ _ _ rB8_.out
  have B_1_ : (w2).cell? ⟨W.heap.size + 1, 1, none⟩ = some (u1) := cell_of_row _ _ 1 _ _ _ rB8_.out
  have B_2_ : (w2).cell? ⟨W.heap.size + 1, 2, none⟩ = some (u2) := cell_of_row _ _ 2 _ _ _ rB8_.out
  have B_3_ : (w2).cell? ⟨W.heap.size + 1, 3, none⟩ = some (u3) := cell_of_row _ _ 3 _ _ _ rB8_.out
  have B_4_ : (w2).cell? ⟨W.heap.size + 1, 4, none⟩ = some (u4) := cell_of_row _ _ 4 _ _ _ rB8_.out
  go_wp2_with fail
  go_at_call 55
  refine ((equalBars _ _ _ x2 y2 (HR2.out.grow G9_.out) (KR2.out.grow G9_.out) HS2.out KS2.out).mono (bpost_no HT2.out)).mono ?_
  rintro e w3 ⟨rfl, g⟩
  have szw3 := g.size
  try simp only [World.size_alloc] at szw3
  try simp only [World.size_setCell] at szw3
  clear A_0_ A_1_ A_2_ A_3_ A_4_ B_0_ B_1_ B_2_ B_3_ B_4_
  have rA10_ := Lib.hid (show (w3).heap[W.heap.size]? = some (.cells #[v0, v1, v2, v3, v4] 37 (0, 0)) from row_held g rA7_.out)
  clear rA7_
  have rB11_ := Lib.hid (show (w3).heap[W.heap.size + 1]? = some (.cells #[u0, u1, u2, u3, u4] 37 (0, 0)) from row_held g rB8_.out)
  clear rB8_
  have G12_ := Lib.hid (show (W).grownBy (w3) none from gby_trans G9_.out g)
  clear g
  have A_0_ : (w3).cell? ⟨W.heap.size, 0, none⟩ = some (v0) := cell_of_row _ _ 0 _ _ _ rA10_.out
  have A_1_ : (w3).cell? ⟨W.heap.size, 1, none⟩ = some (v1) := cell_of_row _ _ 1 _ _ _ rA10_.out
  have A_2_ : (w3).cell? ⟨W.heap.size, 2, none⟩ = some (v2) := cell_of_row _ _ 2 _ _ _ rA10_.out
  have A_3_ : (w3).cell? ⟨W.heap.size, 3, none⟩ = some (v3) := cell_of_row _ _ 3 _ _ _ rA10_.out
  have A_4_ : (w3).cell? ⟨W.heap.size, 4, none⟩ = some (v4) := cell_of_row _ _ 4 _ _ _ rA10_.out
  have B_0_ : (w3).cell? ⟨W.heap.size + 1, 0, none⟩ = some (u0) := cell_of_row _ _ 0 _ _ _ rB11_.out
  have B_1_ : (w3).cell? ⟨W.heap.size + 1, 1, none⟩ = some (u1) := cell_of_row _ _ 1 _ _ _ rB11_.out
  have B_2_ : (w3).cell? ⟨W.heap.size + 1, 2, none⟩ = some (u2) := cell_of_row _ _ 2 _ _ _ rB11_.out
  have B_3_ : (w3).cell? ⟨W.heap.size + 1, 3, none⟩ = some (u3) := cell_of_row _ _ 3 _ _ _ rB11_.out
  have B_4_ : (w3).cell? ⟨W.heap.size + 1, 4, none⟩ = some (u4) := cell_of_row _ _ 4 _ _ _ rB11_.out
  go_wp2
  go_ret
  exact ⟨false, rfl, iff_noF (fun q => HT2.out q.2.2.1), G12_.out⟩

set_option maxRecDepth 8000 in
set_option maxHeartbeats 4000000 in
theorem implFab_3 (W : World) (v0 u0 v1 u1 v2 u2 v3 u3 v4 u4 : Value) (x0 y0 : List DNode) (x1 y1 : List Int) (x2 y2 : List DBar) (x3 y3 : List (List Int)) (x4 y4 : List Bool) (H0 : RdL shNode W v0 x0) (K0 : RdL shNode W u0 y0) (H1 : RdL shI W v1 x1) (K1 : RdL shI W u1 y1) (H2 : RdL shBar W v2 x2) (K2 : RdL shBar W u2 y2) (H3 : RdL (shL shI) W v3 x3) (K3 : RdL (shL shI) W u3 y3) (H4 : RdL shB W v4 x4) (K4 : RdL shB W u4 y4) (hl0 : szL shNode x0 ≤ 1048576) (kl0 : szL shNode y0 ≤ 1048576) (hl1 : szL shI x1 ≤ 1048576) (kl1 : szL shI y1 ≤ 1048576) (hl2 : szL shBar x2 ≤ 1048576) (kl2 : szL shBar y2 ≤ 1048576) (hl3 : szL (shL shI) x3 ≤ 1048576) (kl3 : szL (shL shI) y3 ≤ 1048576) (hl4 : szL shB x4 ≤ 1048576) (kl4 : szL shB y4 ≤ 1048576) (ht : x0 = y0) (hi : x1 = y1) (h2_ : x2 = y2) (h3_ : ¬ x3 = y3) : Calls Try.prog 13 #[.agg #[v0, v1, v2, v3, v4], .agg #[u0, u1, u2, u3, u4]] W (BPost (FabEq x0 y0 x1 y1 x2 y2 x3 y3 x4 y4) W) := by
  have HT := Lib.hid ht
  clear ht
  have HI := Lib.hid (show true = decide (x1 = y1) from (decide_eq_true hi).symm)
  clear hi
  have HT2 := Lib.hid h2_
  clear h2_
  have HT3 := Lib.hid h3_
  clear h3_
  have HR0 := Lib.hid H0
  have KR0 := Lib.hid K0
  have HS0 := Lib.hid hl0
  have KS0 := Lib.hid kl0
  clear H0 K0 hl0 kl0
  have HR1 := Lib.hid H1
  have KR1 := Lib.hid K1
  have HS1 := Lib.hid hl1
  have KS1 := Lib.hid kl1
  clear H1 K1 hl1 kl1
  have HR2 := Lib.hid H2
  have KR2 := Lib.hid K2
  have HS2 := Lib.hid hl2
  have KS2 := Lib.hid kl2
  clear H2 K2 hl2 kl2
  have HR3 := Lib.hid H3
  have KR3 := Lib.hid K3
  have HS3 := Lib.hid hl3
  have KS3 := Lib.hid kl3
  clear H3 K3 hl3 kl3
  have HR4 := Lib.hid H4
  have KR4 := Lib.hid K4
  have HS4 := Lib.hid hl4
  have KS4 := Lib.hid kl4
  clear H4 K4 hl4 kl4
  go_enter Try.func13, Try.ntmps13
  have rA1_ := Lib.hid (show (((W.alloc (.cells #[v0, v1, v2, v3, v4] 37)).alloc (.cells #[u0, u1, u2, u3, u4] 37))).heap[W.heap.size]? = some (.cells #[v0, v1, v2, v3, v4] 37 (0, 0)) from by rw [heap_alloc_old _ _ (by simp only [World.size_alloc]; omega)]; exact heap_alloc_new _ _)
  have rB2_ := Lib.hid (show (((W.alloc (.cells #[v0, v1, v2, v3, v4] 37)).alloc (.cells #[u0, u1, u2, u3, u4] 37))).heap[W.heap.size + 1]? = some (.cells #[u0, u1, u2, u3, u4] 37 (0, 0)) from by exact heap_pair _ _ _)
  have G3_ := Lib.hid (show (W).grownBy (((W.alloc (.cells #[v0, v1, v2, v3, v4] 37)).alloc (.cells #[u0, u1, u2, u3, u4] 37))) none from (gby_alloc (gby_alloc (gby_refl _ _) _) _))
  have A_0_ : (((W.alloc (.cells #[v0, v1, v2, v3, v4] 37)).alloc (.cells #[u0, u1, u2, u3, u4] 37))).cell? ⟨W.heap.size, 0, none⟩ = some (v0) := cell_of_row _ _ 0 _ _ _ rA1_.out
  have A_1_ : (((W.alloc (.cells #[v0, v1, v2, v3, v4] 37)).alloc (.cells #[u0, u1, u2, u3, u4] 37))).cell? ⟨W.heap.size, 1, none⟩ = some (v1) := cell_of_row _ _ 1 _ _ _ rA1_.out
  have A_2_ : (((W.alloc (.cells #[v0, v1, v2, v3, v4] 37)).alloc (.cells #[u0, u1, u2, u3, u4] 37))).cell? ⟨W.heap.size, 2, none⟩ = some (v2) := cell_of_row _ _ 2 _ _ _ rA1_.out
  have A_3_ : (((W.alloc (.cells #[v0, v1, v2, v3, v4] 37)).alloc (.cells #[u0, u1, u2, u3, u4] 37))).cell? ⟨W.heap.size, 3, none⟩ = some (v3) := cell_of_row _ _ 3 _ _ _ rA1_.out
  have A_4_ : (((W.alloc (.cells #[v0, v1, v2, v3, v4] 37)).alloc (.cells #[u0, u1, u2, u3, u4] 37))).cell? ⟨W.heap.size, 4, none⟩ = some (v4) := cell_of_row _ _ 4 _ _ _ rA1_.out
  have B_0_ : (((W.alloc (.cells #[v0, v1, v2, v3, v4] 37)).alloc (.cells #[u0, u1, u2, u3, u4] 37))).cell? ⟨W.heap.size + 1, 0, none⟩ = some (u0) := cell_of_row _ _ 0 _ _ _ rB2_.out
  have B_1_ : (((W.alloc (.cells #[v0, v1, v2, v3, v4] 37)).alloc (.cells #[u0, u1, u2, u3, u4] 37))).cell? ⟨W.heap.size + 1, 1, none⟩ = some (u1) := cell_of_row _ _ 1 _ _ _ rB2_.out
  have B_2_ : (((W.alloc (.cells #[v0, v1, v2, v3, v4] 37)).alloc (.cells #[u0, u1, u2, u3, u4] 37))).cell? ⟨W.heap.size + 1, 2, none⟩ = some (u2) := cell_of_row _ _ 2 _ _ _ rB2_.out
  have B_3_ : (((W.alloc (.cells #[v0, v1, v2, v3, v4] 37)).alloc (.cells #[u0, u1, u2, u3, u4] 37))).cell? ⟨W.heap.size + 1, 3, none⟩ = some (u3) := cell_of_row _ _ 3 _ _ _ rB2_.out
  have B_4_ : (((W.alloc (.cells #[v0, v1, v2, v3, v4] 37)).alloc (.cells #[u0, u1, u2, u3, u4] 37))).cell? ⟨W.heap.size + 1, 4, none⟩ = some (u4) := cell_of_row _ _ 4 _ _ _ rB2_.out
  go_wp2_with fail
  go_at_call 53
  refine ((implSame _ _ _ x0 y0 (HR0.out.grow G3_.out) (KR0.out.grow G3_.out) HS0.out KS0.out).mono (bpost_yes HT.out)).mono ?_
  rintro e w1 ⟨rfl, g⟩
  have szw1 := g.size
  try simp only [World.size_alloc] at szw1
  try simp only [World.size_setCell] at szw1
  clear A_0_ A_1_ A_2_ A_3_ A_4_ B_0_ B_1_ B_2_ B_3_ B_4_
  have rA4_ := Lib.hid (show (w1).heap[W.heap.size]? = some (.cells #[v0, v1, v2, v3, v4] 37 (0, 0)) from row_held g rA1_.out)
  clear rA1_
  have rB5_ := Lib.hid (show (w1).heap[W.heap.size + 1]? = some (.cells #[u0, u1, u2, u3, u4] 37 (0, 0)) from row_held g rB2_.out)
  clear rB2_
  have G6_ := Lib.hid (show (W).grownBy (w1) none from gby_trans G3_.out g)
  clear g
  have A_0_ : (w1).cell? ⟨W.heap.size, 0, none⟩ = some (v0) := cell_of_row _ _ 0 _ _ _ rA4_.out
  have A_1_ : (w1).cell? ⟨W.heap.size, 1, none⟩ = some (v1) := cell_of_row _ _ 1 _ _ _ rA4_.out
  have A_2_ : (w1).cell? ⟨W.heap.size, 2, none⟩ = some (v2) := cell_of_row _ _ 2 _ _ _ rA4_.out
  have A_3_ : (w1).cell? ⟨W.heap.size, 3, none⟩ = some (v3) := cell_of_row _ _ 3 _ _ _ rA4_.out
  have A_4_ : (w1).cell? ⟨W.heap.size, 4, none⟩ = some (v4) := cell_of_row _ _ 4 _ _ _ rA4_.out
  have B_0_ : (w1).cell? ⟨W.heap.size + 1, 0, none⟩ = some (u0) := cell_of_row _ _ 0 _ _ _ rB5_.out
  have B_1_ : (w1).cell? ⟨W.heap.size + 1, 1, none⟩ = some (u1) := cell_of_row _ _ 1 _ _ _ rB5_.out
  have B_2_ : (w1).cell? ⟨W.heap.size + 1, 2, none⟩ = some (u2) := cell_of_row _ _ 2 _ _ _ rB5_.out
  have B_3_ : (w1).cell? ⟨W.heap.size + 1, 3, none⟩ = some (u3) := cell_of_row _ _ 3 _ _ _ rB5_.out
  have B_4_ : (w1).cell? ⟨W.heap.size + 1, 4, none⟩ = some (u4) := cell_of_row _ _ 4 _ _ _ rB5_.out
  go_wp2_with fail
  go_at_call 54
  refine (equalD _ _ _ x1 y1 (HR1.out.grow G6_.out) (KR1.out.grow G6_.out) HS1.out KS1.out true HI.out).mono ?_
  rintro e w2 ⟨rfl, g⟩
  have szw2 := g.size
  try simp only [World.size_alloc] at szw2
  try simp only [World.size_setCell] at szw2
  clear A_0_ A_1_ A_2_ A_3_ A_4_ B_0_ B_1_ B_2_ B_3_ B_4_
  have rA7_ := Lib.hid (show (w2).heap[W.heap.size]? = some (.cells #[v0, v1, v2, v3, v4] 37 (0, 0)) from row_held g rA4_.out)
  clear rA4_
  have rB8_ := Lib.hid (show (w2).heap[W.heap.size + 1]? = some (.cells #[u0, u1, u2, u3, u4] 37 (0, 0)) from row_held g rB5_.out)
  clear rB5_
  have G9_ := Lib.hid (show (W).grownBy (w2) none from gby_trans G6_.out g)
  clear g
  have A_0_ : (w2).cell? ⟨W.heap.size, 0, none⟩ = some (v0) := cell_of_row _ _ 0 _ _ _ rA7_.out
  have A_1_ : (w2).cell? ⟨W.heap.size, 1, none⟩ = some (v1) := cell_of_row _ _ 1 _ _ _ rA7_.out
  have A_2_ : (w2).cell? ⟨W.heap.size, 2, none⟩ = some (v2) := cell_of_row _ _ 2 _ _ _ rA7_.out
  have A_3_ : (w2).cell? ⟨W.heap.size, 3, none⟩ = some (v3) := cell_of_row _ _ 3 _ _ _ rA7_.out
  have A_4_ : (w2).cell? ⟨W.heap.size, 4, none⟩ = some (v4) := cell_of_row _ _ 4 _ _ _ rA7_.out
  have B_0_ : (w2).cell? ⟨W.heap.size + 1, 0, none⟩ = some (u0) := cell_of_row _ _ 0 _ _ _ rB8_.out
  have B_1_ : (w2).cell? ⟨W.heap.size + 1, 1, none⟩ = some (u1) := cell_of_row _ _ 1 _ _ _ rB8_.out
  have B_2_ : (w2).cell? ⟨W.heap.size + 1, 2, none⟩ = some (u2) := cell_of_row _ _ 2 _ _ _ rB8_.out
  have B_3_ : (w2).cell? ⟨W.heap.size + 1, 3, none⟩ = some (u3) := cell_of_row _ _ 3 _ _ _ rB8_.out
  have B_4_ : (w2).cell? ⟨W.heap.size + 1, 4, none⟩ = some (u4) := cell_of_row _ _ 4 _ _ _ rB8_.out
  go_wp2_with fail
  go_at_call 55
  refine ((equalBars _ _ _ x2 y2 (HR2.out.grow G9_.out) (KR2.out.grow G9_.out) HS2.out KS2.out).mono (bpost_yes HT2.out)).mono ?_
  rintro e w3 ⟨rfl, g⟩
  have szw3 := g.size
  try simp only [World.size_alloc] at szw3
  try simp only [World.size_setCell] at szw3
  clear A_0_ A_1_ A_2_ A_3_ A_4_ B_0_ B_1_ B_2_ B_3_ B_4_
  have rA10_ := Lib.hid (show (w3).heap[W.heap.size]? = some (.cells #[v0, v1, v2, v3, v4] 37 (0, 0)) from row_held g rA7_.out)
  clear rA7_
  have rB11_ := Lib.hid (show (w3).heap[W.heap.size + 1]? = some (.cells #[u0, u1, u2, u3, u4] 37 (0, 0)) from row_held g rB8_.out)
  clear rB8_
  have G12_ := Lib.hid (show (W).grownBy (w3) none from gby_trans G9_.out g)
  clear g
  have A_0_ : (w3).cell? ⟨W.heap.size, 0, none⟩ = some (v0) := cell_of_row _ _ 0 _ _ _ rA10_.out
  have A_1_ : (w3).cell? ⟨W.heap.size, 1, none⟩ = some (v1) := cell_of_row _ _ 1 _ _ _ rA10_.out
  have A_2_ : (w3).cell? ⟨W.heap.size, 2, none⟩ = some (v2) := cell_of_row _ _ 2 _ _ _ rA10_.out
  have A_3_ : (w3).cell? ⟨W.heap.size, 3, none⟩ = some (v3) := cell_of_row _ _ 3 _ _ _ rA10_.out
  have A_4_ : (w3).cell? ⟨W.heap.size, 4, none⟩ = some (v4) := cell_of_row _ _ 4 _ _ _ rA10_.out
  have B_0_ : (w3).cell? ⟨W.heap.size + 1, 0, none⟩ = some (u0) := cell_of_row _ _ 0 _ _ _ rB11_.out
  have B_1_ : (w3).cell? ⟨W.heap.size + 1, 1, none⟩ = some (u1) := cell_of_row _ _ 1 _ _ _ rB11_.out
  have B_2_ : (w3).cell? ⟨W.heap.size + 1, 2, none⟩ = some (u2) := cell_of_row _ _ 2 _ _ _ rB11_.out
  have B_3_ : (w3).cell? ⟨W.heap.size + 1, 3, none⟩ = some (u3) := cell_of_row _ _ 3 _ _ _ rB11_.out
  have B_4_ : (w3).cell? ⟨W.heap.size + 1, 4, none⟩ = some (u4) := cell_of_row _ _ 4 _ _ _ rB11_.out
  go_wp2_with fail
  go_at_call 56
  refine ((equalLists _ _ _ x3 y3 (HR3.out.grow G12_.out) (KR3.out.grow G12_.out) HS3.out KS3.out).mono (bpost_no HT3.out)).mono ?_
  rintro e w4 ⟨rfl, g⟩
  have szw4 := g.size
  try simp only [World.size_alloc] at szw4
  try simp only [World.size_setCell] at szw4
  clear A_0_ A_1_ A_2_ A_3_ A_4_ B_0_ B_1_ B_2_ B_3_ B_4_
  have rA13_ := Lib.hid (show (w4).heap[W.heap.size]? = some (.cells #[v0, v1, v2, v3, v4] 37 (0, 0)) from row_held g rA10_.out)
  clear rA10_
  have rB14_ := Lib.hid (show (w4).heap[W.heap.size + 1]? = some (.cells #[u0, u1, u2, u3, u4] 37 (0, 0)) from row_held g rB11_.out)
  clear rB11_
  have G15_ := Lib.hid (show (W).grownBy (w4) none from gby_trans G12_.out g)
  clear g
  have A_0_ : (w4).cell? ⟨W.heap.size, 0, none⟩ = some (v0) := cell_of_row _ _ 0 _ _ _ rA13_.out
  have A_1_ : (w4).cell? ⟨W.heap.size, 1, none⟩ = some (v1) := cell_of_row _ _ 1 _ _ _ rA13_.out
  have A_2_ : (w4).cell? ⟨W.heap.size, 2, none⟩ = some (v2) := cell_of_row _ _ 2 _ _ _ rA13_.out
  have A_3_ : (w4).cell? ⟨W.heap.size, 3, none⟩ = some (v3) := cell_of_row _ _ 3 _ _ _ rA13_.out
  have A_4_ : (w4).cell? ⟨W.heap.size, 4, none⟩ = some (v4) := cell_of_row _ _ 4 _ _ _ rA13_.out
  have B_0_ : (w4).cell? ⟨W.heap.size + 1, 0, none⟩ = some (u0) := cell_of_row _ _ 0 _ _ _ rB14_.out
  have B_1_ : (w4).cell? ⟨W.heap.size + 1, 1, none⟩ = some (u1) := cell_of_row _ _ 1 _ _ _ rB14_.out
  have B_2_ : (w4).cell? ⟨W.heap.size + 1, 2, none⟩ = some (u2) := cell_of_row _ _ 2 _ _ _ rB14_.out
  have B_3_ : (w4).cell? ⟨W.heap.size + 1, 3, none⟩ = some (u3) := cell_of_row _ _ 3 _ _ _ rB14_.out
  have B_4_ : (w4).cell? ⟨W.heap.size + 1, 4, none⟩ = some (u4) := cell_of_row _ _ 4 _ _ _ rB14_.out
  go_wp2
  go_ret
  exact ⟨false, rfl, iff_noF (fun q => HT3.out q.2.2.2.1), G15_.out⟩

set_option maxRecDepth 8000 in
set_option maxHeartbeats 4000000 in
theorem implFab_4 (W : World) (v0 u0 v1 u1 v2 u2 v3 u3 v4 u4 : Value) (x0 y0 : List DNode) (x1 y1 : List Int) (x2 y2 : List DBar) (x3 y3 : List (List Int)) (x4 y4 : List Bool) (H0 : RdL shNode W v0 x0) (K0 : RdL shNode W u0 y0) (H1 : RdL shI W v1 x1) (K1 : RdL shI W u1 y1) (H2 : RdL shBar W v2 x2) (K2 : RdL shBar W u2 y2) (H3 : RdL (shL shI) W v3 x3) (K3 : RdL (shL shI) W u3 y3) (H4 : RdL shB W v4 x4) (K4 : RdL shB W u4 y4) (hl0 : szL shNode x0 ≤ 1048576) (kl0 : szL shNode y0 ≤ 1048576) (hl1 : szL shI x1 ≤ 1048576) (kl1 : szL shI y1 ≤ 1048576) (hl2 : szL shBar x2 ≤ 1048576) (kl2 : szL shBar y2 ≤ 1048576) (hl3 : szL (shL shI) x3 ≤ 1048576) (kl3 : szL (shL shI) y3 ≤ 1048576) (hl4 : szL shB x4 ≤ 1048576) (kl4 : szL shB y4 ≤ 1048576) (ht : x0 = y0) (hi : x1 = y1) (h2_ : x2 = y2) (h3_ : x3 = y3) (h4_ : ¬ x4 = y4) : Calls Try.prog 13 #[.agg #[v0, v1, v2, v3, v4], .agg #[u0, u1, u2, u3, u4]] W (BPost (FabEq x0 y0 x1 y1 x2 y2 x3 y3 x4 y4) W) := by
  have HT := Lib.hid ht
  clear ht
  have HI := Lib.hid (show true = decide (x1 = y1) from (decide_eq_true hi).symm)
  clear hi
  have HT2 := Lib.hid h2_
  clear h2_
  have HT3 := Lib.hid h3_
  clear h3_
  have HT4 := Lib.hid h4_
  clear h4_
  have HR0 := Lib.hid H0
  have KR0 := Lib.hid K0
  have HS0 := Lib.hid hl0
  have KS0 := Lib.hid kl0
  clear H0 K0 hl0 kl0
  have HR1 := Lib.hid H1
  have KR1 := Lib.hid K1
  have HS1 := Lib.hid hl1
  have KS1 := Lib.hid kl1
  clear H1 K1 hl1 kl1
  have HR2 := Lib.hid H2
  have KR2 := Lib.hid K2
  have HS2 := Lib.hid hl2
  have KS2 := Lib.hid kl2
  clear H2 K2 hl2 kl2
  have HR3 := Lib.hid H3
  have KR3 := Lib.hid K3
  have HS3 := Lib.hid hl3
  have KS3 := Lib.hid kl3
  clear H3 K3 hl3 kl3
  have HR4 := Lib.hid H4
  have KR4 := Lib.hid K4
  have HS4 := Lib.hid hl4
  have KS4 := Lib.hid kl4
  clear H4 K4 hl4 kl4
  go_enter Try.func13, Try.ntmps13
  have rA1_ := Lib.hid (show (((W.alloc (.cells #[v0, v1, v2, v3, v4] 37)).alloc (.cells #[u0, u1, u2, u3, u4] 37))).heap[W.heap.size]? = some (.cells #[v0, v1, v2, v3, v4] 37 (0, 0)) from by rw [heap_alloc_old _ _ (by simp only [World.size_alloc]; omega)]; exact heap_alloc_new _ _)
  have rB2_ := Lib.hid (show (((W.alloc (.cells #[v0, v1, v2, v3, v4] 37)).alloc (.cells #[u0, u1, u2, u3, u4] 37))).heap[W.heap.size + 1]? = some (.cells #[u0, u1, u2, u3, u4] 37 (0, 0)) from by exact heap_pair _ _ _)
  have G3_ := Lib.hid (show (W).grownBy (((W.alloc (.cells #[v0, v1, v2, v3, v4] 37)).alloc (.cells #[u0, u1, u2, u3, u4] 37))) none from (gby_alloc (gby_alloc (gby_refl _ _) _) _))
  have A_0_ : (((W.alloc (.cells #[v0, v1, v2, v3, v4] 37)).alloc (.cells #[u0, u1, u2, u3, u4] 37))).cell? ⟨W.heap.size, 0, none⟩ = some (v0) := cell_of_row _ _ 0 _ _ _ rA1_.out
  have A_1_ : (((W.alloc (.cells #[v0, v1, v2, v3, v4] 37)).alloc (.cells #[u0, u1, u2, u3, u4] 37))).cell? ⟨W.heap.size, 1, none⟩ = some (v1) := cell_of_row _ _ 1 _ _ _ rA1_.out
  have A_2_ : (((W.alloc (.cells #[v0, v1, v2, v3, v4] 37)).alloc (.cells #[u0, u1, u2, u3, u4] 37))).cell? ⟨W.heap.size, 2, none⟩ = some (v2) := cell_of_row _ _ 2 _ _ _ rA1_.out
  have A_3_ : (((W.alloc (.cells #[v0, v1, v2, v3, v4] 37)).alloc (.cells #[u0, u1, u2, u3, u4] 37))).cell? ⟨W.heap.size, 3, none⟩ = some (v3) := cell_of_row _ _ 3 _ _ _ rA1_.out
  have A_4_ : (((W.alloc (.cells #[v0, v1, v2, v3, v4] 37)).alloc (.cells #[u0, u1, u2, u3, u4] 37))).cell? ⟨W.heap.size, 4, none⟩ = some (v4) := cell_of_row _ _ 4 _ _ _ rA1_.out
  have B_0_ : (((W.alloc (.cells #[v0, v1, v2, v3, v4] 37)).alloc (.cells #[u0, u1, u2, u3, u4] 37))).cell? ⟨W.heap.size + 1, 0, none⟩ = some (u0) := cell_of_row _ _ 0 _ _ _ rB2_.out
  have B_1_ : (((W.alloc (.cells #[v0, v1, v2, v3, v4] 37)).alloc (.cells #[u0, u1, u2, u3, u4] 37))).cell? ⟨W.heap.size + 1, 1, none⟩ = some (u1) := cell_of_row _ _ 1 _ _ _ rB2_.out
  have B_2_ : (((W.alloc (.cells #[v0, v1, v2, v3, v4] 37)).alloc (.cells #[u0, u1, u2, u3, u4] 37))).cell? ⟨W.heap.size + 1, 2, none⟩ = some (u2) := cell_of_row _ _ 2 _ _ _ rB2_.out
  have B_3_ : (((W.alloc (.cells #[v0, v1, v2, v3, v4] 37)).alloc (.cells #[u0, u1, u2, u3, u4] 37))).cell? ⟨W.heap.size + 1, 3, none⟩ = some (u3) := cell_of_row _ _ 3 _ _ _ rB2_.out
  have B_4_ : (((W.alloc (.cells #[v0, v1, v2, v3, v4] 37)).alloc (.cells #[u0, u1, u2, u3, u4] 37))).cell? ⟨W.heap.size + 1, 4, none⟩ = some (u4) := cell_of_row _ _ 4 _ _ _ rB2_.out
  go_wp2_with fail
  go_at_call 53
  refine ((implSame _ _ _ x0 y0 (HR0.out.grow G3_.out) (KR0.out.grow G3_.out) HS0.out KS0.out).mono (bpost_yes HT.out)).mono ?_
  rintro e w1 ⟨rfl, g⟩
  have szw1 := g.size
  try simp only [World.size_alloc] at szw1
  try simp only [World.size_setCell] at szw1
  clear A_0_ A_1_ A_2_ A_3_ A_4_ B_0_ B_1_ B_2_ B_3_ B_4_
  have rA4_ := Lib.hid (show (w1).heap[W.heap.size]? = some (.cells #[v0, v1, v2, v3, v4] 37 (0, 0)) from row_held g rA1_.out)
  clear rA1_
  have rB5_ := Lib.hid (show (w1).heap[W.heap.size + 1]? = some (.cells #[u0, u1, u2, u3, u4] 37 (0, 0)) from row_held g rB2_.out)
  clear rB2_
  have G6_ := Lib.hid (show (W).grownBy (w1) none from gby_trans G3_.out g)
  clear g
  have A_0_ : (w1).cell? ⟨W.heap.size, 0, none⟩ = some (v0) := cell_of_row _ _ 0 _ _ _ rA4_.out
  have A_1_ : (w1).cell? ⟨W.heap.size, 1, none⟩ = some (v1) := cell_of_row _ _ 1 _ _ _ rA4_.out
  have A_2_ : (w1).cell? ⟨W.heap.size, 2, none⟩ = some (v2) := cell_of_row _ _ 2 _ _ _ rA4_.out
  have A_3_ : (w1).cell? ⟨W.heap.size, 3, none⟩ = some (v3) := cell_of_row _ _ 3 _ _ _ rA4_.out
  have A_4_ : (w1).cell? ⟨W.heap.size, 4, none⟩ = some (v4) := cell_of_row _ _ 4 _ _ _ rA4_.out
  have B_0_ : (w1).cell? ⟨W.heap.size + 1, 0, none⟩ = some (u0) := cell_of_row _ _ 0 _ _ _ rB5_.out
  have B_1_ : (w1).cell? ⟨W.heap.size + 1, 1, none⟩ = some (u1) := cell_of_row _ _ 1 _ _ _ rB5_.out
  have B_2_ : (w1).cell? ⟨W.heap.size + 1, 2, none⟩ = some (u2) := cell_of_row _ _ 2 _ _ _ rB5_.out
  have B_3_ : (w1).cell? ⟨W.heap.size + 1, 3, none⟩ = some (u3) := cell_of_row _ _ 3 _ _ _ rB5_.out
  have B_4_ : (w1).cell? ⟨W.heap.size + 1, 4, none⟩ = some (u4) := cell_of_row _ _ 4 _ _ _ rB5_.out
  go_wp2_with fail
  go_at_call 54
  refine (equalD _ _ _ x1 y1 (HR1.out.grow G6_.out) (KR1.out.grow G6_.out) HS1.out KS1.out true HI.out).mono ?_
  rintro e w2 ⟨rfl, g⟩
  have szw2 := g.size
  try simp only [World.size_alloc] at szw2
  try simp only [World.size_setCell] at szw2
  clear A_0_ A_1_ A_2_ A_3_ A_4_ B_0_ B_1_ B_2_ B_3_ B_4_
  have rA7_ := Lib.hid (show (w2).heap[W.heap.size]? = some (.cells #[v0, v1, v2, v3, v4] 37 (0, 0)) from row_held g rA4_.out)
  clear rA4_
  have rB8_ := Lib.hid (show (w2).heap[W.heap.size + 1]? = some (.cells #[u0, u1, u2, u3, u4] 37 (0, 0)) from row_held g rB5_.out)
  clear rB5_
  have G9_ := Lib.hid (show (W).grownBy (w2) none from gby_trans G6_.out g)
  clear g
  have A_0_ : (w2).cell? ⟨W.heap.size, 0, none⟩ = some (v0) := cell_of_row _ _ 0 _ _ _ rA7_.out
  have A_1_ : (w2).cell? ⟨W.heap.size, 1, none⟩ = some (v1) := cell_of_row _ _ 1 _ _ _ rA7_.out
  have A_2_ : (w2).cell? ⟨W.heap.size, 2, none⟩ = some (v2) := cell_of_row _ _ 2 _ _ _ rA7_.out
  have A_3_ : (w2).cell? ⟨W.heap.size, 3, none⟩ = some (v3) := cell_of_row _ _ 3 _ _ _ rA7_.out
  have A_4_ : (w2).cell? ⟨W.heap.size, 4, none⟩ = some (v4) := cell_of_row _ _ 4 _ _ _ rA7_.out
  have B_0_ : (w2).cell? ⟨W.heap.size + 1, 0, none⟩ = some (u0) := cell_of_row _ _ 0 _ _ _ rB8_.out
  have B_1_ : (w2).cell? ⟨W.heap.size + 1, 1, none⟩ = some (u1) := cell_of_row _ _ 1 _ _ _ rB8_.out
  have B_2_ : (w2).cell? ⟨W.heap.size + 1, 2, none⟩ = some (u2) := cell_of_row _ _ 2 _ _ _ rB8_.out
  have B_3_ : (w2).cell? ⟨W.heap.size + 1, 3, none⟩ = some (u3) := cell_of_row _ _ 3 _ _ _ rB8_.out
  have B_4_ : (w2).cell? ⟨W.heap.size + 1, 4, none⟩ = some (u4) := cell_of_row _ _ 4 _ _ _ rB8_.out
  go_wp2_with fail
  go_at_call 55
  refine ((equalBars _ _ _ x2 y2 (HR2.out.grow G9_.out) (KR2.out.grow G9_.out) HS2.out KS2.out).mono (bpost_yes HT2.out)).mono ?_
  rintro e w3 ⟨rfl, g⟩
  have szw3 := g.size
  try simp only [World.size_alloc] at szw3
  try simp only [World.size_setCell] at szw3
  clear A_0_ A_1_ A_2_ A_3_ A_4_ B_0_ B_1_ B_2_ B_3_ B_4_
  have rA10_ := Lib.hid (show (w3).heap[W.heap.size]? = some (.cells #[v0, v1, v2, v3, v4] 37 (0, 0)) from row_held g rA7_.out)
  clear rA7_
  have rB11_ := Lib.hid (show (w3).heap[W.heap.size + 1]? = some (.cells #[u0, u1, u2, u3, u4] 37 (0, 0)) from row_held g rB8_.out)
  clear rB8_
  have G12_ := Lib.hid (show (W).grownBy (w3) none from gby_trans G9_.out g)
  clear g
  have A_0_ : (w3).cell? ⟨W.heap.size, 0, none⟩ = some (v0) := cell_of_row _ _ 0 _ _ _ rA10_.out
  have A_1_ : (w3).cell? ⟨W.heap.size, 1, none⟩ = some (v1) := cell_of_row _ _ 1 _ _ _ rA10_.out
  have A_2_ : (w3).cell? ⟨W.heap.size, 2, none⟩ = some (v2) := cell_of_row _ _ 2 _ _ _ rA10_.out
  have A_3_ : (w3).cell? ⟨W.heap.size, 3, none⟩ = some (v3) := cell_of_row _ _ 3 _ _ _ rA10_.out
  have A_4_ : (w3).cell? ⟨W.heap.size, 4, none⟩ = some (v4) := cell_of_row _ _ 4 _ _ _ rA10_.out
  have B_0_ : (w3).cell? ⟨W.heap.size + 1, 0, none⟩ = some (u0) := cell_of_row _ _ 0 _ _ _ rB11_.out
  have B_1_ : (w3).cell? ⟨W.heap.size + 1, 1, none⟩ = some (u1) := cell_of_row _ _ 1 _ _ _ rB11_.out
  have B_2_ : (w3).cell? ⟨W.heap.size + 1, 2, none⟩ = some (u2) := cell_of_row _ _ 2 _ _ _ rB11_.out
  have B_3_ : (w3).cell? ⟨W.heap.size + 1, 3, none⟩ = some (u3) := cell_of_row _ _ 3 _ _ _ rB11_.out
  have B_4_ : (w3).cell? ⟨W.heap.size + 1, 4, none⟩ = some (u4) := cell_of_row _ _ 4 _ _ _ rB11_.out
  go_wp2_with fail
  go_at_call 56
  refine ((equalLists _ _ _ x3 y3 (HR3.out.grow G12_.out) (KR3.out.grow G12_.out) HS3.out KS3.out).mono (bpost_yes HT3.out)).mono ?_
  rintro e w4 ⟨rfl, g⟩
  have szw4 := g.size
  try simp only [World.size_alloc] at szw4
  try simp only [World.size_setCell] at szw4
  clear A_0_ A_1_ A_2_ A_3_ A_4_ B_0_ B_1_ B_2_ B_3_ B_4_
  have rA13_ := Lib.hid (show (w4).heap[W.heap.size]? = some (.cells #[v0, v1, v2, v3, v4] 37 (0, 0)) from row_held g rA10_.out)
  clear rA10_
  have rB14_ := Lib.hid (show (w4).heap[W.heap.size + 1]? = some (.cells #[u0, u1, u2, u3, u4] 37 (0, 0)) from row_held g rB11_.out)
  clear rB11_
  have G15_ := Lib.hid (show (W).grownBy (w4) none from gby_trans G12_.out g)
  clear g
  have A_0_ : (w4).cell? ⟨W.heap.size, 0, none⟩ = some (v0) := cell_of_row _ _ 0 _ _ _ rA13_.out
  have A_1_ : (w4).cell? ⟨W.heap.size, 1, none⟩ = some (v1) := cell_of_row _ _ 1 _ _ _ rA13_.out
  have A_2_ : (w4).cell? ⟨W.heap.size, 2, none⟩ = some (v2) := cell_of_row _ _ 2 _ _ _ rA13_.out
  have A_3_ : (w4).cell? ⟨W.heap.size, 3, none⟩ = some (v3) := cell_of_row _ _ 3 _ _ _ rA13_.out
  have A_4_ : (w4).cell? ⟨W.heap.size, 4, none⟩ = some (v4) := cell_of_row _ _ 4 _ _ _ rA13_.out
  have B_0_ : (w4).cell? ⟨W.heap.size + 1, 0, none⟩ = some (u0) := cell_of_row _ _ 0 _ _ _ rB14_.out
  have B_1_ : (w4).cell? ⟨W.heap.size + 1, 1, none⟩ = some (u1) := cell_of_row _ _ 1 _ _ _ rB14_.out
  have B_2_ : (w4).cell? ⟨W.heap.size + 1, 2, none⟩ = some (u2) := cell_of_row _ _ 2 _ _ _ rB14_.out
  have B_3_ : (w4).cell? ⟨W.heap.size + 1, 3, none⟩ = some (u3) := cell_of_row _ _ 3 _ _ _ rB14_.out
  have B_4_ : (w4).cell? ⟨W.heap.size + 1, 4, none⟩ = some (u4) := cell_of_row _ _ 4 _ _ _ rB14_.out
  go_wp2_with fail
  go_at_call 57
  refine ((equalBools _ _ _ x4 y4 (HR4.out.grow G15_.out) (KR4.out.grow G15_.out) HS4.out KS4.out).mono (bpost_no HT4.out)).mono ?_
  rintro e w5 ⟨rfl, g⟩
  have szw5 := g.size
  try simp only [World.size_alloc] at szw5
  try simp only [World.size_setCell] at szw5
  clear A_0_ A_1_ A_2_ A_3_ A_4_ B_0_ B_1_ B_2_ B_3_ B_4_
  have rA16_ := Lib.hid (show (w5).heap[W.heap.size]? = some (.cells #[v0, v1, v2, v3, v4] 37 (0, 0)) from row_held g rA13_.out)
  clear rA13_
  have rB17_ := Lib.hid (show (w5).heap[W.heap.size + 1]? = some (.cells #[u0, u1, u2, u3, u4] 37 (0, 0)) from row_held g rB14_.out)
  clear rB14_
  have G18_ := Lib.hid (show (W).grownBy (w5) none from gby_trans G15_.out g)
  clear g
  have A_0_ : (w5).cell? ⟨W.heap.size, 0, none⟩ = some (v0) := cell_of_row _ _ 0 _ _ _ rA16_.out
  have A_1_ : (w5).cell? ⟨W.heap.size, 1, none⟩ = some (v1) := cell_of_row _ _ 1 _ _ _ rA16_.out
  have A_2_ : (w5).cell? ⟨W.heap.size, 2, none⟩ = some (v2) := cell_of_row _ _ 2 _ _ _ rA16_.out
  have A_3_ : (w5).cell? ⟨W.heap.size, 3, none⟩ = some (v3) := cell_of_row _ _ 3 _ _ _ rA16_.out
  have A_4_ : (w5).cell? ⟨W.heap.size, 4, none⟩ = some (v4) := cell_of_row _ _ 4 _ _ _ rA16_.out
  have B_0_ : (w5).cell? ⟨W.heap.size + 1, 0, none⟩ = some (u0) := cell_of_row _ _ 0 _ _ _ rB17_.out
  have B_1_ : (w5).cell? ⟨W.heap.size + 1, 1, none⟩ = some (u1) := cell_of_row _ _ 1 _ _ _ rB17_.out
  have B_2_ : (w5).cell? ⟨W.heap.size + 1, 2, none⟩ = some (u2) := cell_of_row _ _ 2 _ _ _ rB17_.out
  have B_3_ : (w5).cell? ⟨W.heap.size + 1, 3, none⟩ = some (u3) := cell_of_row _ _ 3 _ _ _ rB17_.out
  have B_4_ : (w5).cell? ⟨W.heap.size + 1, 4, none⟩ = some (u4) := cell_of_row _ _ 4 _ _ _ rB17_.out
  go_wp2
  go_ret
  exact ⟨false, rfl, iff_noF (fun q => HT4.out q.2.2.2.2), G18_.out⟩

set_option maxRecDepth 8000 in
set_option maxHeartbeats 4000000 in
theorem implFab_5 (W : World) (v0 u0 v1 u1 v2 u2 v3 u3 v4 u4 : Value) (x0 y0 : List DNode) (x1 y1 : List Int) (x2 y2 : List DBar) (x3 y3 : List (List Int)) (x4 y4 : List Bool) (H0 : RdL shNode W v0 x0) (K0 : RdL shNode W u0 y0) (H1 : RdL shI W v1 x1) (K1 : RdL shI W u1 y1) (H2 : RdL shBar W v2 x2) (K2 : RdL shBar W u2 y2) (H3 : RdL (shL shI) W v3 x3) (K3 : RdL (shL shI) W u3 y3) (H4 : RdL shB W v4 x4) (K4 : RdL shB W u4 y4) (hl0 : szL shNode x0 ≤ 1048576) (kl0 : szL shNode y0 ≤ 1048576) (hl1 : szL shI x1 ≤ 1048576) (kl1 : szL shI y1 ≤ 1048576) (hl2 : szL shBar x2 ≤ 1048576) (kl2 : szL shBar y2 ≤ 1048576) (hl3 : szL (shL shI) x3 ≤ 1048576) (kl3 : szL (shL shI) y3 ≤ 1048576) (hl4 : szL shB x4 ≤ 1048576) (kl4 : szL shB y4 ≤ 1048576) (ht : x0 = y0) (hi : x1 = y1) (h2_ : x2 = y2) (h3_ : x3 = y3) (h4_ : x4 = y4) : Calls Try.prog 13 #[.agg #[v0, v1, v2, v3, v4], .agg #[u0, u1, u2, u3, u4]] W (BPost (FabEq x0 y0 x1 y1 x2 y2 x3 y3 x4 y4) W) := by
  have HT := Lib.hid ht
  clear ht
  have HI := Lib.hid (show true = decide (x1 = y1) from (decide_eq_true hi).symm)
  clear hi
  have HT2 := Lib.hid h2_
  clear h2_
  have HT3 := Lib.hid h3_
  clear h3_
  have HT4 := Lib.hid h4_
  clear h4_
  have HR0 := Lib.hid H0
  have KR0 := Lib.hid K0
  have HS0 := Lib.hid hl0
  have KS0 := Lib.hid kl0
  clear H0 K0 hl0 kl0
  have HR1 := Lib.hid H1
  have KR1 := Lib.hid K1
  have HS1 := Lib.hid hl1
  have KS1 := Lib.hid kl1
  clear H1 K1 hl1 kl1
  have HR2 := Lib.hid H2
  have KR2 := Lib.hid K2
  have HS2 := Lib.hid hl2
  have KS2 := Lib.hid kl2
  clear H2 K2 hl2 kl2
  have HR3 := Lib.hid H3
  have KR3 := Lib.hid K3
  have HS3 := Lib.hid hl3
  have KS3 := Lib.hid kl3
  clear H3 K3 hl3 kl3
  have HR4 := Lib.hid H4
  have KR4 := Lib.hid K4
  have HS4 := Lib.hid hl4
  have KS4 := Lib.hid kl4
  clear H4 K4 hl4 kl4
  go_enter Try.func13, Try.ntmps13
  have rA1_ := Lib.hid (show (((W.alloc (.cells #[v0, v1, v2, v3, v4] 37)).alloc (.cells #[u0, u1, u2, u3, u4] 37))).heap[W.heap.size]? = some (.cells #[v0, v1, v2, v3, v4] 37 (0, 0)) from by rw [heap_alloc_old _ _ (by simp only [World.size_alloc]; omega)]; exact heap_alloc_new _ _)
  have rB2_ := Lib.hid (show (((W.alloc (.cells #[v0, v1, v2, v3, v4] 37)).alloc (.cells #[u0, u1, u2, u3, u4] 37))).heap[W.heap.size + 1]? = some (.cells #[u0, u1, u2, u3, u4] 37 (0, 0)) from by exact heap_pair _ _ _)
  have G3_ := Lib.hid (show (W).grownBy (((W.alloc (.cells #[v0, v1, v2, v3, v4] 37)).alloc (.cells #[u0, u1, u2, u3, u4] 37))) none from (gby_alloc (gby_alloc (gby_refl _ _) _) _))
  have A_0_ : (((W.alloc (.cells #[v0, v1, v2, v3, v4] 37)).alloc (.cells #[u0, u1, u2, u3, u4] 37))).cell? ⟨W.heap.size, 0, none⟩ = some (v0) := cell_of_row _ _ 0 _ _ _ rA1_.out
  have A_1_ : (((W.alloc (.cells #[v0, v1, v2, v3, v4] 37)).alloc (.cells #[u0, u1, u2, u3, u4] 37))).cell? ⟨W.heap.size, 1, none⟩ = some (v1) := cell_of_row _ _ 1 _ _ _ rA1_.out
  have A_2_ : (((W.alloc (.cells #[v0, v1, v2, v3, v4] 37)).alloc (.cells #[u0, u1, u2, u3, u4] 37))).cell? ⟨W.heap.size, 2, none⟩ = some (v2) := cell_of_row _ _ 2 _ _ _ rA1_.out
  have A_3_ : (((W.alloc (.cells #[v0, v1, v2, v3, v4] 37)).alloc (.cells #[u0, u1, u2, u3, u4] 37))).cell? ⟨W.heap.size, 3, none⟩ = some (v3) := cell_of_row _ _ 3 _ _ _ rA1_.out
  have A_4_ : (((W.alloc (.cells #[v0, v1, v2, v3, v4] 37)).alloc (.cells #[u0, u1, u2, u3, u4] 37))).cell? ⟨W.heap.size, 4, none⟩ = some (v4) := cell_of_row _ _ 4 _ _ _ rA1_.out
  have B_0_ : (((W.alloc (.cells #[v0, v1, v2, v3, v4] 37)).alloc (.cells #[u0, u1, u2, u3, u4] 37))).cell? ⟨W.heap.size + 1, 0, none⟩ = some (u0) := cell_of_row _ _ 0 _ _ _ rB2_.out
  have B_1_ : (((W.alloc (.cells #[v0, v1, v2, v3, v4] 37)).alloc (.cells #[u0, u1, u2, u3, u4] 37))).cell? ⟨W.heap.size + 1, 1, none⟩ = some (u1) := cell_of_row _ _ 1 _ _ _ rB2_.out
  have B_2_ : (((W.alloc (.cells #[v0, v1, v2, v3, v4] 37)).alloc (.cells #[u0, u1, u2, u3, u4] 37))).cell? ⟨W.heap.size + 1, 2, none⟩ = some (u2) := cell_of_row _ _ 2 _ _ _ rB2_.out
  have B_3_ : (((W.alloc (.cells #[v0, v1, v2, v3, v4] 37)).alloc (.cells #[u0, u1, u2, u3, u4] 37))).cell? ⟨W.heap.size + 1, 3, none⟩ = some (u3) := cell_of_row _ _ 3 _ _ _ rB2_.out
  have B_4_ : (((W.alloc (.cells #[v0, v1, v2, v3, v4] 37)).alloc (.cells #[u0, u1, u2, u3, u4] 37))).cell? ⟨W.heap.size + 1, 4, none⟩ = some (u4) := cell_of_row _ _ 4 _ _ _ rB2_.out
  go_wp2_with fail
  go_at_call 53
  refine ((implSame _ _ _ x0 y0 (HR0.out.grow G3_.out) (KR0.out.grow G3_.out) HS0.out KS0.out).mono (bpost_yes HT.out)).mono ?_
  rintro e w1 ⟨rfl, g⟩
  have szw1 := g.size
  try simp only [World.size_alloc] at szw1
  try simp only [World.size_setCell] at szw1
  clear A_0_ A_1_ A_2_ A_3_ A_4_ B_0_ B_1_ B_2_ B_3_ B_4_
  have rA4_ := Lib.hid (show (w1).heap[W.heap.size]? = some (.cells #[v0, v1, v2, v3, v4] 37 (0, 0)) from row_held g rA1_.out)
  clear rA1_
  have rB5_ := Lib.hid (show (w1).heap[W.heap.size + 1]? = some (.cells #[u0, u1, u2, u3, u4] 37 (0, 0)) from row_held g rB2_.out)
  clear rB2_
  have G6_ := Lib.hid (show (W).grownBy (w1) none from gby_trans G3_.out g)
  clear g
  have A_0_ : (w1).cell? ⟨W.heap.size, 0, none⟩ = some (v0) := cell_of_row _ _ 0 _ _ _ rA4_.out
  have A_1_ : (w1).cell? ⟨W.heap.size, 1, none⟩ = some (v1) := cell_of_row _ _ 1 _ _ _ rA4_.out
  have A_2_ : (w1).cell? ⟨W.heap.size, 2, none⟩ = some (v2) := cell_of_row _ _ 2 _ _ _ rA4_.out
  have A_3_ : (w1).cell? ⟨W.heap.size, 3, none⟩ = some (v3) := cell_of_row _ _ 3 _ _ _ rA4_.out
  have A_4_ : (w1).cell? ⟨W.heap.size, 4, none⟩ = some (v4) := cell_of_row _ _ 4 _ _ _ rA4_.out
  have B_0_ : (w1).cell? ⟨W.heap.size + 1, 0, none⟩ = some (u0) := cell_of_row _ _ 0 _ _ _ rB5_.out
  have B_1_ : (w1).cell? ⟨W.heap.size + 1, 1, none⟩ = some (u1) := cell_of_row _ _ 1 _ _ _ rB5_.out
  have B_2_ : (w1).cell? ⟨W.heap.size + 1, 2, none⟩ = some (u2) := cell_of_row _ _ 2 _ _ _ rB5_.out
  have B_3_ : (w1).cell? ⟨W.heap.size + 1, 3, none⟩ = some (u3) := cell_of_row _ _ 3 _ _ _ rB5_.out
  have B_4_ : (w1).cell? ⟨W.heap.size + 1, 4, none⟩ = some (u4) := cell_of_row _ _ 4 _ _ _ rB5_.out
  go_wp2_with fail
  go_at_call 54
  refine (equalD _ _ _ x1 y1 (HR1.out.grow G6_.out) (KR1.out.grow G6_.out) HS1.out KS1.out true HI.out).mono ?_
  rintro e w2 ⟨rfl, g⟩
  have szw2 := g.size
  try simp only [World.size_alloc] at szw2
  try simp only [World.size_setCell] at szw2
  clear A_0_ A_1_ A_2_ A_3_ A_4_ B_0_ B_1_ B_2_ B_3_ B_4_
  have rA7_ := Lib.hid (show (w2).heap[W.heap.size]? = some (.cells #[v0, v1, v2, v3, v4] 37 (0, 0)) from row_held g rA4_.out)
  clear rA4_
  have rB8_ := Lib.hid (show (w2).heap[W.heap.size + 1]? = some (.cells #[u0, u1, u2, u3, u4] 37 (0, 0)) from row_held g rB5_.out)
  clear rB5_
  have G9_ := Lib.hid (show (W).grownBy (w2) none from gby_trans G6_.out g)
  clear g
  have A_0_ : (w2).cell? ⟨W.heap.size, 0, none⟩ = some (v0) := cell_of_row _ _ 0 _ _ _ rA7_.out
  have A_1_ : (w2).cell? ⟨W.heap.size, 1, none⟩ = some (v1) := cell_of_row _ _ 1 _ _ _ rA7_.out
  have A_2_ : (w2).cell? ⟨W.heap.size, 2, none⟩ = some (v2) := cell_of_row _ _ 2 _ _ _ rA7_.out
  have A_3_ : (w2).cell? ⟨W.heap.size, 3, none⟩ = some (v3) := cell_of_row _ _ 3 _ _ _ rA7_.out
  have A_4_ : (w2).cell? ⟨W.heap.size, 4, none⟩ = some (v4) := cell_of_row _ _ 4 _ _ _ rA7_.out
  have B_0_ : (w2).cell? ⟨W.heap.size + 1, 0, none⟩ = some (u0) := cell_of_row _ _ 0 _ _ _ rB8_.out
  have B_1_ : (w2).cell? ⟨W.heap.size + 1, 1, none⟩ = some (u1) := cell_of_row _ _ 1 _ _ _ rB8_.out
  have B_2_ : (w2).cell? ⟨W.heap.size + 1, 2, none⟩ = some (u2) := cell_of_row _ _ 2 _ _ _ rB8_.out
  have B_3_ : (w2).cell? ⟨W.heap.size + 1, 3, none⟩ = some (u3) := cell_of_row _ _ 3 _ _ _ rB8_.out
  have B_4_ : (w2).cell? ⟨W.heap.size + 1, 4, none⟩ = some (u4) := cell_of_row _ _ 4 _ _ _ rB8_.out
  go_wp2_with fail
  go_at_call 55
  refine ((equalBars _ _ _ x2 y2 (HR2.out.grow G9_.out) (KR2.out.grow G9_.out) HS2.out KS2.out).mono (bpost_yes HT2.out)).mono ?_
  rintro e w3 ⟨rfl, g⟩
  have szw3 := g.size
  try simp only [World.size_alloc] at szw3
  try simp only [World.size_setCell] at szw3
  clear A_0_ A_1_ A_2_ A_3_ A_4_ B_0_ B_1_ B_2_ B_3_ B_4_
  have rA10_ := Lib.hid (show (w3).heap[W.heap.size]? = some (.cells #[v0, v1, v2, v3, v4] 37 (0, 0)) from row_held g rA7_.out)
  clear rA7_
  have rB11_ := Lib.hid (show (w3).heap[W.heap.size + 1]? = some (.cells #[u0, u1, u2, u3, u4] 37 (0, 0)) from row_held g rB8_.out)
  clear rB8_
  have G12_ := Lib.hid (show (W).grownBy (w3) none from gby_trans G9_.out g)
  clear g
  have A_0_ : (w3).cell? ⟨W.heap.size, 0, none⟩ = some (v0) := cell_of_row _ _ 0 _ _ _ rA10_.out
  have A_1_ : (w3).cell? ⟨W.heap.size, 1, none⟩ = some (v1) := cell_of_row _ _ 1 _ _ _ rA10_.out
  have A_2_ : (w3).cell? ⟨W.heap.size, 2, none⟩ = some (v2) := cell_of_row _ _ 2 _ _ _ rA10_.out
  have A_3_ : (w3).cell? ⟨W.heap.size, 3, none⟩ = some (v3) := cell_of_row _ _ 3 _ _ _ rA10_.out
  have A_4_ : (w3).cell? ⟨W.heap.size, 4, none⟩ = some (v4) := cell_of_row _ _ 4 _ _ _ rA10_.out
  have B_0_ : (w3).cell? ⟨W.heap.size + 1, 0, none⟩ = some (u0) := cell_of_row _ _ 0 _ _ _ rB11_.out
  have B_1_ : (w3).cell? ⟨W.heap.size + 1, 1, none⟩ = some (u1) := cell_of_row _ _ 1 _ _ _ rB11_.out
  have B_2_ : (w3).cell? ⟨W.heap.size + 1, 2, none⟩ = some (u2) := cell_of_row _ _ 2 _ _ _ rB11_.out
  have B_3_ : (w3).cell? ⟨W.heap.size + 1, 3, none⟩ = some (u3) := cell_of_row _ _ 3 _ _ _ rB11_.out
  have B_4_ : (w3).cell? ⟨W.heap.size + 1, 4, none⟩ = some (u4) := cell_of_row _ _ 4 _ _ _ rB11_.out
  go_wp2_with fail
  go_at_call 56
  refine ((equalLists _ _ _ x3 y3 (HR3.out.grow G12_.out) (KR3.out.grow G12_.out) HS3.out KS3.out).mono (bpost_yes HT3.out)).mono ?_
  rintro e w4 ⟨rfl, g⟩
  have szw4 := g.size
  try simp only [World.size_alloc] at szw4
  try simp only [World.size_setCell] at szw4
  clear A_0_ A_1_ A_2_ A_3_ A_4_ B_0_ B_1_ B_2_ B_3_ B_4_
  have rA13_ := Lib.hid (show (w4).heap[W.heap.size]? = some (.cells #[v0, v1, v2, v3, v4] 37 (0, 0)) from row_held g rA10_.out)
  clear rA10_
  have rB14_ := Lib.hid (show (w4).heap[W.heap.size + 1]? = some (.cells #[u0, u1, u2, u3, u4] 37 (0, 0)) from row_held g rB11_.out)
  clear rB11_
  have G15_ := Lib.hid (show (W).grownBy (w4) none from gby_trans G12_.out g)
  clear g
  have A_0_ : (w4).cell? ⟨W.heap.size, 0, none⟩ = some (v0) := cell_of_row _ _ 0 _ _ _ rA13_.out
  have A_1_ : (w4).cell? ⟨W.heap.size, 1, none⟩ = some (v1) := cell_of_row _ _ 1 _ _ _ rA13_.out
  have A_2_ : (w4).cell? ⟨W.heap.size, 2, none⟩ = some (v2) := cell_of_row _ _ 2 _ _ _ rA13_.out
  have A_3_ : (w4).cell? ⟨W.heap.size, 3, none⟩ = some (v3) := cell_of_row _ _ 3 _ _ _ rA13_.out
  have A_4_ : (w4).cell? ⟨W.heap.size, 4, none⟩ = some (v4) := cell_of_row _ _ 4 _ _ _ rA13_.out
  have B_0_ : (w4).cell? ⟨W.heap.size + 1, 0, none⟩ = some (u0) := cell_of_row _ _ 0 _ _ _ rB14_.out
  have B_1_ : (w4).cell? ⟨W.heap.size + 1, 1, none⟩ = some (u1) := cell_of_row _ _ 1 _ _ _ rB14_.out
  have B_2_ : (w4).cell? ⟨W.heap.size + 1, 2, none⟩ = some (u2) := cell_of_row _ _ 2 _ _ _ rB14_.out
  have B_3_ : (w4).cell? ⟨W.heap.size + 1, 3, none⟩ = some (u3) := cell_of_row _ _ 3 _ _ _ rB14_.out
  have B_4_ : (w4).cell? ⟨W.heap.size + 1, 4, none⟩ = some (u4) := cell_of_row _ _ 4 _ _ _ rB14_.out
  go_wp2_with fail
  go_at_call 57
  refine ((equalBools _ _ _ x4 y4 (HR4.out.grow G15_.out) (KR4.out.grow G15_.out) HS4.out KS4.out).mono (bpost_yes HT4.out)).mono ?_
  rintro e w5 ⟨rfl, g⟩
  have szw5 := g.size
  try simp only [World.size_alloc] at szw5
  try simp only [World.size_setCell] at szw5
  clear A_0_ A_1_ A_2_ A_3_ A_4_ B_0_ B_1_ B_2_ B_3_ B_4_
  have rA16_ := Lib.hid (show (w5).heap[W.heap.size]? = some (.cells #[v0, v1, v2, v3, v4] 37 (0, 0)) from row_held g rA13_.out)
  clear rA13_
  have rB17_ := Lib.hid (show (w5).heap[W.heap.size + 1]? = some (.cells #[u0, u1, u2, u3, u4] 37 (0, 0)) from row_held g rB14_.out)
  clear rB14_
  have G18_ := Lib.hid (show (W).grownBy (w5) none from gby_trans G15_.out g)
  clear g
  have A_0_ : (w5).cell? ⟨W.heap.size, 0, none⟩ = some (v0) := cell_of_row _ _ 0 _ _ _ rA16_.out
  have A_1_ : (w5).cell? ⟨W.heap.size, 1, none⟩ = some (v1) := cell_of_row _ _ 1 _ _ _ rA16_.out
  have A_2_ : (w5).cell? ⟨W.heap.size, 2, none⟩ = some (v2) := cell_of_row _ _ 2 _ _ _ rA16_.out
  have A_3_ : (w5).cell? ⟨W.heap.size, 3, none⟩ = some (v3) := cell_of_row _ _ 3 _ _ _ rA16_.out
  have A_4_ : (w5).cell? ⟨W.heap.size, 4, none⟩ = some (v4) := cell_of_row _ _ 4 _ _ _ rA16_.out
  have B_0_ : (w5).cell? ⟨W.heap.size + 1, 0, none⟩ = some (u0) := cell_of_row _ _ 0 _ _ _ rB17_.out
  have B_1_ : (w5).cell? ⟨W.heap.size + 1, 1, none⟩ = some (u1) := cell_of_row _ _ 1 _ _ _ rB17_.out
  have B_2_ : (w5).cell? ⟨W.heap.size + 1, 2, none⟩ = some (u2) := cell_of_row _ _ 2 _ _ _ rB17_.out
  have B_3_ : (w5).cell? ⟨W.heap.size + 1, 3, none⟩ = some (u3) := cell_of_row _ _ 3 _ _ _ rB17_.out
  have B_4_ : (w5).cell? ⟨W.heap.size + 1, 4, none⟩ = some (u4) := cell_of_row _ _ 4 _ _ _ rB17_.out
  go_wp2
  go_ret
  exact ⟨true, rfl, iff_yesF ⟨HT.out, of_decide_eq_true HI.out.symm, HT2.out, HT3.out, HT4.out⟩, G18_.out⟩

theorem specFab (W : World) (v0 u0 v1 u1 v2 u2 v3 u3 v4 u4 : Value) (x0 y0 : List DNode) (x1 y1 : List Int) (x2 y2 : List DBar) (x3 y3 : List (List Int)) (x4 y4 : List Bool) (H0 : RdL shNode W v0 x0) (K0 : RdL shNode W u0 y0) (H1 : RdL shI W v1 x1) (K1 : RdL shI W u1 y1) (H2 : RdL shBar W v2 x2) (K2 : RdL shBar W u2 y2) (H3 : RdL (shL shI) W v3 x3) (K3 : RdL (shL shI) W u3 y3) (H4 : RdL shB W v4 x4) (K4 : RdL shB W u4 y4) (hl0 : szL shNode x0 ≤ 1048576) (kl0 : szL shNode y0 ≤ 1048576) (hl1 : szL shI x1 ≤ 1048576) (kl1 : szL shI y1 ≤ 1048576) (hl2 : szL shBar x2 ≤ 1048576) (kl2 : szL shBar y2 ≤ 1048576) (hl3 : szL (shL shI) x3 ≤ 1048576) (kl3 : szL (shL shI) y3 ≤ 1048576) (hl4 : szL shB x4 ≤ 1048576) (kl4 : szL shB y4 ≤ 1048576) : Calls Try.prog 11 #[.agg #[v0, v1, v2, v3, v4], .agg #[u0, u1, u2, u3, u4]] W (BPost (FabEq x0 y0 x1 y1 x2 y2 x3 y3 x4 y4) W) := by
  by_cases ht : x0 = y0
  · by_cases hi : x1 = y1
    · exact specFab_y W v0 u0 v1 u1 v2 u2 v3 u3 v4 u4 x0 y0 x1 y1 x2 y2 x3 y3 x4 y4 H0 K0 H1 K1 H2 K2 H3 K3 H4 K4 hl0 kl0 hl1 kl1 hl2 kl2 hl3 kl3 hl4 kl4 ht hi
    · exact specFab_i W v0 u0 v1 u1 v2 u2 v3 u3 v4 u4 x0 y0 x1 y1 x2 y2 x3 y3 x4 y4 H0 K0 H1 K1 H2 K2 H3 K3 H4 K4 hl0 kl0 hl1 kl1 hl2 kl2 hl3 kl3 hl4 kl4 ht hi
  · exact specFab_t W v0 u0 v1 u1 v2 u2 v3 u3 v4 u4 x0 y0 x1 y1 x2 y2 x3 y3 x4 y4 H0 K0 H1 K1 H2 K2 H3 K3 H4 K4 hl0 kl0 hl1 kl1 hl2 kl2 hl3 kl3 hl4 kl4 ht
theorem implFab (W : World) (v0 u0 v1 u1 v2 u2 v3 u3 v4 u4 : Value) (x0 y0 : List DNode) (x1 y1 : List Int) (x2 y2 : List DBar) (x3 y3 : List (List Int)) (x4 y4 : List Bool) (H0 : RdL shNode W v0 x0) (K0 : RdL shNode W u0 y0) (H1 : RdL shI W v1 x1) (K1 : RdL shI W u1 y1) (H2 : RdL shBar W v2 x2) (K2 : RdL shBar W u2 y2) (H3 : RdL (shL shI) W v3 x3) (K3 : RdL (shL shI) W u3 y3) (H4 : RdL shB W v4 x4) (K4 : RdL shB W u4 y4) (hl0 : szL shNode x0 ≤ 1048576) (kl0 : szL shNode y0 ≤ 1048576) (hl1 : szL shI x1 ≤ 1048576) (kl1 : szL shI y1 ≤ 1048576) (hl2 : szL shBar x2 ≤ 1048576) (kl2 : szL shBar y2 ≤ 1048576) (hl3 : szL (shL shI) x3 ≤ 1048576) (kl3 : szL (shL shI) y3 ≤ 1048576) (hl4 : szL shB x4 ≤ 1048576) (kl4 : szL shB y4 ≤ 1048576) : Calls Try.prog 13 #[.agg #[v0, v1, v2, v3, v4], .agg #[u0, u1, u2, u3, u4]] W (BPost (FabEq x0 y0 x1 y1 x2 y2 x3 y3 x4 y4) W) := by
  by_cases ht : x0 = y0
  · by_cases hi : x1 = y1
    · by_cases h2_ : x2 = y2
      · by_cases h3_ : x3 = y3
        · by_cases h4_ : x4 = y4
          · exact implFab_5 W v0 u0 v1 u1 v2 u2 v3 u3 v4 u4 x0 y0 x1 y1 x2 y2 x3 y3 x4 y4 H0 K0 H1 K1 H2 K2 H3 K3 H4 K4 hl0 kl0 hl1 kl1 hl2 kl2 hl3 kl3 hl4 kl4 ht hi h2_ h3_ h4_
          · exact implFab_4 W v0 u0 v1 u1 v2 u2 v3 u3 v4 u4 x0 y0 x1 y1 x2 y2 x3 y3 x4 y4 H0 K0 H1 K1 H2 K2 H3 K3 H4 K4 hl0 kl0 hl1 kl1 hl2 kl2 hl3 kl3 hl4 kl4 ht hi h2_ h3_ h4_
        · exact implFab_3 W v0 u0 v1 u1 v2 u2 v3 u3 v4 u4 x0 y0 x1 y1 x2 y2 x3 y3 x4 y4 H0 K0 H1 K1 H2 K2 H3 K3 H4 K4 hl0 kl0 hl1 kl1 hl2 kl2 hl3 kl3 hl4 kl4 ht hi h2_ h3_
      · exact implFab_2 W v0 u0 v1 u1 v2 u2 v3 u3 v4 u4 x0 y0 x1 y1 x2 y2 x3 y3 x4 y4 H0 K0 H1 K1 H2 K2 H3 K3 H4 K4 hl0 kl0 hl1 kl1 hl2 kl2 hl3 kl3 hl4 kl4 ht hi h2_
    · exact implFab_1 W v0 u0 v1 u1 v2 u2 v3 u3 v4 u4 x0 y0 x1 y1 x2 y2 x3 y3 x4 y4 H0 K0 H1 K1 H2 K2 H3 K3 H4 K4 hl0 kl0 hl1 kl1 hl2 kl2 hl3 kl3 hl4 kl4 ht hi
  · exact implFab_0 W v0 u0 v1 u1 v2 u2 v3 u3 v4 u4 x0 y0 x1 y1 x2 y2 x3 y3 x4 y4 H0 K0 H1 K1 H2 K2 H3 K3 H4 K4 hl0 kl0 hl1 kl1 hl2 kl2 hl3 kl3 hl4 kl4 ht

theorem sameFabric_both (xs0_0 : List DNode) (xs0_1 : List Int) (xs0_2 : List DBar) (xs0_3 : List (List Int)) (xs0_4 : List Bool) (xs1_0 : List DNode) (xs1_1 : List Int) (xs1_2 : List DBar) (xs1_3 : List (List Int)) (xs1_4 : List Bool) (h00 : szL shNode xs0_0 ≤ 1048576) (h01 : szL shI xs0_1 ≤ 1048576) (h02 : szL shBar xs0_2 ≤ 1048576) (h03 : szL (shL shI) xs0_3 ≤ 1048576) (h04 : szL shB xs0_4 ≤ 1048576) (h10 : szL shNode xs1_0 ≤ 1048576) (h11 : szL shI xs1_1 ≤ 1048576) (h12 : szL shBar xs1_2 ≤ 1048576) (h13 : szL (shL shI) xs1_3 ≤ 1048576) (h14 : szL shB xs1_4 ≤ 1048576) : ∃ br0 : Bool, (∀ (W : World), ∀ u0_0 u0_1 u0_2 u0_3 u0_4 u1_0 u1_1 u1_2 u1_3 u1_4, RdL shNode W u0_0 xs0_0 → RdL shI W u0_1 xs0_1 → RdL shBar W u0_2 xs0_2 → RdL (shL shI) W u0_3 xs0_3 → RdL shB W u0_4 xs0_4 → RdL shNode W u1_0 xs1_0 → RdL shI W u1_1 xs1_1 → RdL shBar W u1_2 xs1_2 → RdL (shL shI) W u1_3 xs1_3 → RdL shB W u1_4 xs1_4 → Calls Try.prog 11 #[.agg #[u0_0, u0_1, u0_2, u0_3, u0_4], .agg #[u1_0, u1_1, u1_2, u1_3, u1_4]] W (ResSSameFabric br0 W)) ∧ ∀ (W : World), ∀ u0_0 u0_1 u0_2 u0_3 u0_4 u1_0 u1_1 u1_2 u1_3 u1_4, RdL shNode W u0_0 xs0_0 → RdL shI W u0_1 xs0_1 → RdL shBar W u0_2 xs0_2 → RdL (shL shI) W u0_3 xs0_3 → RdL shB W u0_4 xs0_4 → RdL shNode W u1_0 xs1_0 → RdL shI W u1_1 xs1_1 → RdL shBar W u1_2 xs1_2 → RdL (shL shI) W u1_3 xs1_3 → RdL shB W u1_4 xs1_4 → Calls Try.prog 13 #[.agg #[u0_0, u0_1, u0_2, u0_3, u0_4], .agg #[u1_0, u1_1, u1_2, u1_3, u1_4]] W (ResISameFabric br0 W) := by
  by_cases hq : FabEq xs0_0 xs1_0 xs0_1 xs1_1 xs0_2 xs1_2 xs0_3 xs1_3 xs0_4 xs1_4
  · exact ⟨true, fun W a0 a1 a2 a3 a4 b0 b1 b2 b3 b4 r0 r1 r2 r3 r4 s0 s1 s2 s3 s4 => (specFab W a0 b0 a1 b1 a2 b2 a3 b3 a4 b4 xs0_0 xs1_0 xs0_1 xs1_1 xs0_2 xs1_2 xs0_3 xs1_3 xs0_4 xs1_4 r0 s0 r1 s1 r2 s2 r3 s3 r4 s4 h00 h10 h01 h11 h02 h12 h03 h13 h04 h14).mono (bpost_yes hq), fun W a0 a1 a2 a3 a4 b0 b1 b2 b3 b4 r0 r1 r2 r3 r4 s0 s1 s2 s3 s4 => (implFab W a0 b0 a1 b1 a2 b2 a3 b3 a4 b4 xs0_0 xs1_0 xs0_1 xs1_1 xs0_2 xs1_2 xs0_3 xs1_3 xs0_4 xs1_4 r0 s0 r1 s1 r2 s2 r3 s3 r4 s4 h00 h10 h01 h11 h02 h12 h03 h13 h04 h14).mono (bpost_yes hq)⟩
  · exact ⟨false, fun W a0 a1 a2 a3 a4 b0 b1 b2 b3 b4 r0 r1 r2 r3 r4 s0 s1 s2 s3 s4 => (specFab W a0 b0 a1 b1 a2 b2 a3 b3 a4 b4 xs0_0 xs1_0 xs0_1 xs1_1 xs0_2 xs1_2 xs0_3 xs1_3 xs0_4 xs1_4 r0 s0 r1 s1 r2 s2 r3 s3 r4 s4 h00 h10 h01 h11 h02 h12 h03 h13 h04 h14).mono (bpost_no hq), fun W a0 a1 a2 a3 a4 b0 b1 b2 b3 b4 r0 r1 r2 r3 r4 s0 s1 s2 s3 s4 => (implFab W a0 b0 a1 b1 a2 b2 a3 b3 a4 b4 xs0_0 xs1_0 xs0_1 xs1_1 xs0_2 xs1_2 xs0_3 xs1_3 xs0_4 xs1_4 r0 s0 r1 s1 r2 s2 r3 s3 r4 s4 h00 h10 h01 h11 h02 h12 h03 h13 h04 h14).mono (bpost_no hq)⟩

end Go.Proofs.Ytnighnkkeiegnab
