/-
  SameFabric, the model.
-/
import Derived.Test.YtnighnkkeiegnabSameEq
import Derived.Test.YtnighnkkeiegnabRSameFabric
import Derived.Deep.RegionHeld3
namespace Go.Proofs.Ytnighnkkeiegnab
open Go Go.RowKit
set_option linter.unusedVariables false

/-- the same fabric -/
def FabEq (x0 y0 : List DNode) (x1 y1 : List Int) (x2 y2 : List DBar) (x3 y3 : List (List Int)) (x4 y4 : List Bool) : Prop := x0 = y0 ∧ x1 = y1 ∧ x2 = y2 ∧ x3 = y3 ∧ x4 = y4

set_option maxRecDepth 8000 in
set_option maxHeartbeats 4000000 in
theorem specFab_t (W : World) (v0 u0 v1 u1 v2 u2 v3 u3 v4 u4 : Value) (x0 y0 : List DNode) (x1 y1 : List Int) (x2 y2 : List DBar) (x3 y3 : List (List Int)) (x4 y4 : List Bool) (H0 : RdL shNode W v0 x0) (K0 : RdL shNode W u0 y0) (H1 : RdL shI W v1 x1) (K1 : RdL shI W u1 y1) (H2 : RdL shBar W v2 x2) (K2 : RdL shBar W u2 y2) (H3 : RdL (shL shI) W v3 x3) (K3 : RdL (shL shI) W u3 y3) (H4 : RdL shB W v4 x4) (K4 : RdL shB W u4 y4) (hl0 : szL shNode x0 ≤ 1048576) (kl0 : szL shNode y0 ≤ 1048576) (hl1 : szL shI x1 ≤ 1048576) (kl1 : szL shI y1 ≤ 1048576) (hl2 : szL shBar x2 ≤ 1048576) (kl2 : szL shBar y2 ≤ 1048576) (hl3 : szL (shL shI) x3 ≤ 1048576) (kl3 : szL (shL shI) y3 ≤ 1048576) (hl4 : szL shB x4 ≤ 1048576) (kl4 : szL shB y4 ≤ 1048576) (ht : ¬ x0 = y0) : Calls Try.prog 11 #[.agg #[v0, v1, v2, v3, v4], .agg #[u0, u1, u2, u3, u4]] W (BPost (FabEq x0 y0 x1 y1 x2 y2 x3 y3 x4 y4) W) := by
  have HT := Lib.hid ht
  clear ht
  have HR0 := Lib.hid H0
  have KR0 := Lib.hid K0
  have HS0 := Lib.hid hl0
  have KS0 := Lib.hid kl0
  have HR1 := Lib.hid H1
  have KR1 := Lib.hid K1
  have HS1 := Lib.hid hl1
  have KS1 := Lib.hid kl1
  have HR2 := Lib.hid H2
  have KR2 := Lib.hid K2
  have HS2 := Lib.hid hl2
  have KS2 := Lib.hid kl2
  have HR3 := Lib.hid H3
  have KR3 := Lib.hid K3
  have HS3 := Lib.hid hl3
  have KS3 := Lib.hid kl3
  have HR4 := Lib.hid H4
  have KR4 := Lib.hid K4
  have HS4 := Lib.hid hl4
  have KS4 := Lib.hid kl4
  clear H0 H1 K0 K1 hl0 hl1 kl0 kl1
  have HLX2 := Lib.hid hl2
  obtain ⟨p2, c2, rfl, _, _, hi_⟩ := H2
  have HA2 := Lib.hid hi_
  clear hi_
  obtain ⟨n2, hn_⟩ : ∃ n, n = x2.length := ⟨_, rfl⟩
  have HX2 := Lib.hid hn_
  have hn2x_ : n2 ≤ 1048576 := by have := szL_len shBar x2; omega
  rw [← hn_] at HA2 ⊢
  clear hn_ hl2
  have HLY2 := Lib.hid kl2
  obtain ⟨q2, d2, rfl, _, _, hi_⟩ := K2
  have HB2 := Lib.hid hi_
  clear hi_
  obtain ⟨m2, hn_⟩ : ∃ n, n = y2.length := ⟨_, rfl⟩
  have HY2 := Lib.hid hn_
  have hm2x_ : m2 ≤ 1048576 := by have := szL_len shBar y2; omega
  rw [← hn_] at HB2 ⊢
  clear hn_ kl2
  have HLX3 := Lib.hid hl3
  obtain ⟨p3, c3, rfl, _, _, hi_⟩ := H3
  have HA3 := Lib.hid hi_
  clear hi_
  obtain ⟨n3, hn_⟩ : ∃ n, n = x3.length := ⟨_, rfl⟩
  have HX3 := Lib.hid hn_
  have hn3x_ : n3 ≤ 1048576 := by have := szL_len (shL shI) x3; omega
  rw [← hn_] at HA3 ⊢
  clear hn_ hl3
  have HLY3 := Lib.hid kl3
  obtain ⟨q3, d3, rfl, _, _, hi_⟩ := K3
  have HB3 := Lib.hid hi_
  clear hi_
  obtain ⟨m3, hn_⟩ : ∃ n, n = y3.length := ⟨_, rfl⟩
  have HY3 := Lib.hid hn_
  have hm3x_ : m3 ≤ 1048576 := by have := szL_len (shL shI) y3; omega
  rw [← hn_] at HB3 ⊢
  clear hn_ kl3
  have HLX4 := Lib.hid hl4
  obtain ⟨p4, c4, rfl, _, _, hi_⟩ := H4
  have HA4 := Lib.hid hi_
  clear hi_
  obtain ⟨n4, hn_⟩ : ∃ n, n = x4.length := ⟨_, rfl⟩
  have HX4 := Lib.hid hn_
  have hn4x_ : n4 ≤ 1048576 := by have := szL_len shB x4; omega
  rw [← hn_] at HA4 ⊢
  clear hn_ hl4
  have HLY4 := Lib.hid kl4
  obtain ⟨q4, d4, rfl, _, _, hi_⟩ := K4
  have HB4 := Lib.hid hi_
  clear hi_
  obtain ⟨m4, hn_⟩ : ∃ n, n = y4.length := ⟨_, rfl⟩
  have HY4 := Lib.hid hn_
  have hm4x_ : m4 ≤ 1048576 := by have := szL_len shB y4; omega
  rw [← hn_] at HB4 ⊢
  clear hn_ kl4
  go_enter Try.func11, Try.ntmps11
  have rA1_ := Lib.hid (show (((W.alloc (.cells #[v0, v1, .slice p2 n2 c2, .slice p3 n3 c3, .slice p4 n4 c4] 37)).alloc (.cells #[u0, u1, .slice q2 m2 d2, .slice q3 m3 d3, .slice q4 m4 d4] 37))).heap[W.heap.size]? = some (.cells #[v0, v1, .slice p2 n2 c2, .slice p3 n3 c3, .slice p4 n4 c4] 37 (0, 0)) from by rw [heap_alloc_old _ _ (by simp only [World.size_alloc]; omega)]; exact heap_alloc_new _ _)
  have rB2_ := Lib.hid (show (((W.alloc (.cells #[v0, v1, .slice p2 n2 c2, .slice p3 n3 c3, .slice p4 n4 c4] 37)).alloc (.cells #[u0, u1, .slice q2 m2 d2, .slice q3 m3 d3, .slice q4 m4 d4] 37))).heap[W.heap.size + 1]? = some (.cells #[u0, u1, .slice q2 m2 d2, .slice q3 m3 d3, .slice q4 m4 d4] 37 (0, 0)) from by exact heap_pair _ _ _)
  have G3_ := Lib.hid (show (W).grownBy (((W.alloc (.cells #[v0, v1, .slice p2 n2 c2, .slice p3 n3 c3, .slice p4 n4 c4] 37)).alloc (.cells #[u0, u1, .slice q2 m2 d2, .slice q3 m3 d3, .slice q4 m4 d4] 37))) none from (gby_alloc (gby_alloc (gby_refl _ _) _) _))
  have A_0_ : (((W.alloc (.cells #[v0, v1, .slice p2 n2 c2, .slice p3 n3 c3, .slice p4 n4 c4] 37)).alloc (.cells #[u0, u1, .slice q2 m2 d2, .slice q3 m3 d3, .slice q4 m4 d4] 37))).cell? ⟨W.heap.size, 0, none⟩ = some (v0) := cell_of_row _ _ 0 _ _ _ rA1_.out
  have A_1_ : (((W.alloc (.cells #[v0, v1, .slice p2 n2 c2, .slice p3 n3 c3, .slice p4 n4 c4] 37)).alloc (.cells #[u0, u1, .slice q2 m2 d2, .slice q3 m3 d3, .slice q4 m4 d4] 37))).cell? ⟨W.heap.size, 1, none⟩ = some (v1) := cell_of_row _ _ 1 _ _ _ rA1_.out
  have A_2_ : (((W.alloc (.cells #[v0, v1, .slice p2 n2 c2, .slice p3 n3 c3, .slice p4 n4 c4] 37)).alloc (.cells #[u0, u1, .slice q2 m2 d2, .slice q3 m3 d3, .slice q4 m4 d4] 37))).cell? ⟨W.heap.size, 2, none⟩ = some (.slice p2 n2 c2) := cell_of_row _ _ 2 _ _ _ rA1_.out
  have A_3_ : (((W.alloc (.cells #[v0, v1, .slice p2 n2 c2, .slice p3 n3 c3, .slice p4 n4 c4] 37)).alloc (.cells #[u0, u1, .slice q2 m2 d2, .slice q3 m3 d3, .slice q4 m4 d4] 37))).cell? ⟨W.heap.size, 3, none⟩ = some (.slice p3 n3 c3) := cell_of_row _ _ 3 _ _ _ rA1_.out
  have A_4_ : (((W.alloc (.cells #[v0, v1, .slice p2 n2 c2, .slice p3 n3 c3, .slice p4 n4 c4] 37)).alloc (.cells #[u0, u1, .slice q2 m2 d2, .slice q3 m3 d3, .slice q4 m4 d4] 37))).cell? ⟨W.heap.size, 4, none⟩ = some (.slice p4 n4 c4) := cell_of_row _ _ 4 _ _ _ rA1_.out
  have B_0_ : (((W.alloc (.cells #[v0, v1, .slice p2 n2 c2, .slice p3 n3 c3, .slice p4 n4 c4] 37)).alloc (.cells #[u0, u1, .slice q2 m2 d2, .slice q3 m3 d3, .slice q4 m4 d4] 37))).cell? ⟨W.heap.size + 1, 0, none⟩ = some (u0) := cell_of_row _ _ 0 _ _ _ rB2_.out
  have B_1_ : (((W.alloc (.cells #[v0, v1, .slice p2 n2 c2, .slice p3 n3 c3, .slice p4 n4 c4] 37)).alloc (.cells #[u0, u1, .slice q2 m2 d2, .slice q3 m3 d3, .slice q4 m4 d4] 37))).cell? ⟨W.heap.size + 1, 1, none⟩ = some (u1) := cell_of_row _ _ 1 _ _ _ rB2_.out
  have B_2_ : (((W.alloc (.cells #[v0, v1, .slice p2 n2 c2, .slice p3 n3 c3, .slice p4 n4 c4] 37)).alloc (.cells #[u0, u1, .slice q2 m2 d2, .slice q3 m3 d3, .slice q4 m4 d4] 37))).cell? ⟨W.heap.size + 1, 2, none⟩ = some (.slice q2 m2 d2) := cell_of_row _ _ 2 _ _ _ rB2_.out
  have B_3_ : (((W.alloc (.cells #[v0, v1, .slice p2 n2 c2, .slice p3 n3 c3, .slice p4 n4 c4] 37)).alloc (.cells #[u0, u1, .slice q2 m2 d2, .slice q3 m3 d3, .slice q4 m4 d4] 37))).cell? ⟨W.heap.size + 1, 3, none⟩ = some (.slice q3 m3 d3) := cell_of_row _ _ 3 _ _ _ rB2_.out
  have B_4_ : (((W.alloc (.cells #[v0, v1, .slice p2 n2 c2, .slice p3 n3 c3, .slice p4 n4 c4] 37)).alloc (.cells #[u0, u1, .slice q2 m2 d2, .slice q3 m3 d3, .slice q4 m4 d4] 37))).cell? ⟨W.heap.size + 1, 4, none⟩ = some (.slice q4 m4 d4) := cell_of_row _ _ 4 _ _ _ rB2_.out
  go_wp2_with fail
  go_at_call 48
  refine ((specSame _ _ _ x0 y0 (HR0.out.grow G3_.out) (KR0.out.grow G3_.out) HS0.out KS0.out).mono (bpost_no HT.out)).mono ?_
  rintro e w1 ⟨rfl, g⟩
  have szw1 := g.size
  try simp only [World.size_alloc] at szw1
  try simp only [World.size_setCell] at szw1
  clear A_0_ A_1_ A_2_ A_3_ A_4_ B_0_ B_1_ B_2_ B_3_ B_4_
  have rA4_ := Lib.hid (show (w1).heap[W.heap.size]? = some (.cells #[v0, v1, .slice p2 n2 c2, .slice p3 n3 c3, .slice p4 n4 c4] 37 (0, 0)) from row_held g rA1_.out)
  clear rA1_
  have rB5_ := Lib.hid (show (w1).heap[W.heap.size + 1]? = some (.cells #[u0, u1, .slice q2 m2 d2, .slice q3 m3 d3, .slice q4 m4 d4] 37 (0, 0)) from row_held g rB2_.out)
  clear rB2_
  have G6_ := Lib.hid (show (W).grownBy (w1) none from gby_trans G3_.out g)
  clear g
  have A_0_ : (w1).cell? ⟨W.heap.size, 0, none⟩ = some (v0) := cell_of_row _ _ 0 _ _ _ rA4_.out
  have A_1_ : (w1).cell? ⟨W.heap.size, 1, none⟩ = some (v1) := cell_of_row _ _ 1 _ _ _ rA4_.out
  have A_2_ : (w1).cell? ⟨W.heap.size, 2, none⟩ = some (.slice p2 n2 c2) := cell_of_row _ _ 2 _ _ _ rA4_.out
  have A_3_ : (w1).cell? ⟨W.heap.size, 3, none⟩ = some (.slice p3 n3 c3) := cell_of_row _ _ 3 _ _ _ rA4_.out
  have A_4_ : (w1).cell? ⟨W.heap.size, 4, none⟩ = some (.slice p4 n4 c4) := cell_of_row _ _ 4 _ _ _ rA4_.out
  have B_0_ : (w1).cell? ⟨W.heap.size + 1, 0, none⟩ = some (u0) := cell_of_row _ _ 0 _ _ _ rB5_.out
  have B_1_ : (w1).cell? ⟨W.heap.size + 1, 1, none⟩ = some (u1) := cell_of_row _ _ 1 _ _ _ rB5_.out
  have B_2_ : (w1).cell? ⟨W.heap.size + 1, 2, none⟩ = some (.slice q2 m2 d2) := cell_of_row _ _ 2 _ _ _ rB5_.out
  have B_3_ : (w1).cell? ⟨W.heap.size + 1, 3, none⟩ = some (.slice q3 m3 d3) := cell_of_row _ _ 3 _ _ _ rB5_.out
  have B_4_ : (w1).cell? ⟨W.heap.size + 1, 4, none⟩ = some (.slice q4 m4 d4) := cell_of_row _ _ 4 _ _ _ rB5_.out
  go_wp2
  go_ret
  exact ⟨false, rfl, iff_noF (fun q => HT.out q.1), G6_.out⟩

set_option maxRecDepth 8000 in
set_option maxHeartbeats 4000000 in
theorem specFab_i (W : World) (v0 u0 v1 u1 v2 u2 v3 u3 v4 u4 : Value) (x0 y0 : List DNode) (x1 y1 : List Int) (x2 y2 : List DBar) (x3 y3 : List (List Int)) (x4 y4 : List Bool) (H0 : RdL shNode W v0 x0) (K0 : RdL shNode W u0 y0) (H1 : RdL shI W v1 x1) (K1 : RdL shI W u1 y1) (H2 : RdL shBar W v2 x2) (K2 : RdL shBar W u2 y2) (H3 : RdL (shL shI) W v3 x3) (K3 : RdL (shL shI) W u3 y3) (H4 : RdL shB W v4 x4) (K4 : RdL shB W u4 y4) (hl0 : szL shNode x0 ≤ 1048576) (kl0 : szL shNode y0 ≤ 1048576) (hl1 : szL shI x1 ≤ 1048576) (kl1 : szL shI y1 ≤ 1048576) (hl2 : szL shBar x2 ≤ 1048576) (kl2 : szL shBar y2 ≤ 1048576) (hl3 : szL (shL shI) x3 ≤ 1048576) (kl3 : szL (shL shI) y3 ≤ 1048576) (hl4 : szL shB x4 ≤ 1048576) (kl4 : szL shB y4 ≤ 1048576) (ht : x0 = y0) (hi : ¬ x1 = y1) : Calls Try.prog 11 #[.agg #[v0, v1, v2, v3, v4], .agg #[u0, u1, u2, u3, u4]] W (BPost (FabEq x0 y0 x1 y1 x2 y2 x3 y3 x4 y4) W) := by
  have HT := Lib.hid ht
  clear ht
  have HI := Lib.hid (show false = decide (x1 = y1) from (decide_eq_false hi).symm)
  clear hi
  have HR0 := Lib.hid H0
  have KR0 := Lib.hid K0
  have HS0 := Lib.hid hl0
  have KS0 := Lib.hid kl0
  have HR1 := Lib.hid H1
  have KR1 := Lib.hid K1
  have HS1 := Lib.hid hl1
  have KS1 := Lib.hid kl1
  have HR2 := Lib.hid H2
  have KR2 := Lib.hid K2
  have HS2 := Lib.hid hl2
  have KS2 := Lib.hid kl2
  have HR3 := Lib.hid H3
  have KR3 := Lib.hid K3
  have HS3 := Lib.hid hl3
  have KS3 := Lib.hid kl3
  have HR4 := Lib.hid H4
  have KR4 := Lib.hid K4
  have HS4 := Lib.hid hl4
  have KS4 := Lib.hid kl4
  clear H0 H1 K0 K1 hl0 hl1 kl0 kl1
  have HLX2 := Lib.hid hl2
  obtain ⟨p2, c2, rfl, _, _, hi_⟩ := H2
  have HA2 := Lib.hid hi_
  clear hi_
  obtain ⟨n2, hn_⟩ : ∃ n, n = x2.length := ⟨_, rfl⟩
  have HX2 := Lib.hid hn_
  have hn2x_ : n2 ≤ 1048576 := by have := szL_len shBar x2; omega
  rw [← hn_] at HA2 ⊢
  clear hn_ hl2
  have HLY2 := Lib.hid kl2
  obtain ⟨q2, d2, rfl, _, _, hi_⟩ := K2
  have HB2 := Lib.hid hi_
  clear hi_
  obtain ⟨m2, hn_⟩ : ∃ n, n = y2.length := ⟨_, rfl⟩
  have HY2 := Lib.hid hn_
  have hm2x_ : m2 ≤ 1048576 := by have := szL_len shBar y2; omega
  rw [← hn_] at HB2 ⊢
  clear hn_ kl2
  have HLX3 := Lib.hid hl3
  obtain ⟨p3, c3, rfl, _, _, hi_⟩ := H3
  have HA3 := Lib.hid hi_
  clear hi_
  obtain ⟨n3, hn_⟩ : ∃ n, n = x3.length := ⟨_, rfl⟩
  have HX3 := Lib.hid hn_
  have hn3x_ : n3 ≤ 1048576 := by have := szL_len (shL shI) x3; omega
  rw [← hn_] at HA3 ⊢
  clear hn_ hl3
  have HLY3 := Lib.hid kl3
  obtain ⟨q3, d3, rfl, _, _, hi_⟩ := K3
  have HB3 := Lib.hid hi_
  clear hi_
  obtain ⟨m3, hn_⟩ : ∃ n, n = y3.length := ⟨_, rfl⟩
  have HY3 := Lib.hid hn_
  have hm3x_ : m3 ≤ 1048576 := by have := szL_len (shL shI) y3; omega
  rw [← hn_] at HB3 ⊢
  clear hn_ kl3
  have HLX4 := Lib.hid hl4
  obtain ⟨p4, c4, rfl, _, _, hi_⟩ := H4
  have HA4 := Lib.hid hi_
  clear hi_
  obtain ⟨n4, hn_⟩ : ∃ n, n = x4.length := ⟨_, rfl⟩
  have HX4 := Lib.hid hn_
  have hn4x_ : n4 ≤ 1048576 := by have := szL_len shB x4; omega
  rw [← hn_] at HA4 ⊢
  clear hn_ hl4
  have HLY4 := Lib.hid kl4
  obtain ⟨q4, d4, rfl, _, _, hi_⟩ := K4
  have HB4 := Lib.hid hi_
  clear hi_
  obtain ⟨m4, hn_⟩ : ∃ n, n = y4.length := ⟨_, rfl⟩
  have HY4 := Lib.hid hn_
  have hm4x_ : m4 ≤ 1048576 := by have := szL_len shB y4; omega
  rw [← hn_] at HB4 ⊢
  clear hn_ kl4
  go_enter Try.func11, Try.ntmps11
  have rA1_ := Lib.hid (show (((W.alloc (.cells #[v0, v1, .slice p2 n2 c2, .slice p3 n3 c3, .slice p4 n4 c4] 37)).alloc (.cells #[u0, u1, .slice q2 m2 d2, .slice q3 m3 d3, .slice q4 m4 d4] 37))).heap[W.heap.size]? = some (.cells #[v0, v1, .slice p2 n2 c2, .slice p3 n3 c3, .slice p4 n4 c4] 37 (0, 0)) from by rw [heap_alloc_old _ _ (by simp only [World.size_alloc]; omega)]; exact heap_alloc_new _ _)
  have rB2_ := Lib.hid (show (((W.alloc (.cells #[v0, v1, .slice p2 n2 c2, .slice p3 n3 c3, .slice p4 n4 c4] 37)).alloc (.cells #[u0, u1, .slice q2 m2 d2, .slice q3 m3 d3, .slice q4 m4 d4] 37))).heap[W.heap.size + 1]? = some (.cells #[u0, u1, .slice q2 m2 d2, .slice q3 m3 d3, .slice q4 m4 d4] 37 (0, 0)) from by exact heap_pair _ _ _)
  have G3_ := Lib.hid (show (W).grownBy (((W.alloc (.cells #[v0, v1, .slice p2 n2 c2, .slice p3 n3 c3, .slice p4 n4 c4] 37)).alloc (.cells #[u0, u1, .slice q2 m2 d2, .slice q3 m3 d3, .slice q4 m4 d4] 37))) none from (gby_alloc (gby_alloc (gby_refl _ _) _) _))
  have A_0_ : (((W.alloc (.cells #[v0, v1, .slice p2 n2 c2, .slice p3 n3 c3, .slice p4 n4 c4] 37)).alloc (.cells #[u0, u1, .slice q2 m2 d2, .slice q3 m3 d3, .slice q4 m4 d4] 37))).cell? ⟨W.heap.size, 0, none⟩ = some (v0) := cell_of_row _ _ 0 _ _ _ rA1_.out
  have A_1_ : (((W.alloc (.cells #[v0, v1, .slice p2 n2 c2, .slice p3 n3 c3, .slice p4 n4 c4] 37)).alloc (.cells #[u0, u1, .slice q2 m2 d2, .slice q3 m3 d3, .slice q4 m4 d4] 37))).cell? ⟨W.heap.size, 1, none⟩ = some (v1) := cell_of_row _ _ 1 _ _ _ rA1_.out
  have A_2_ : (((W.alloc (.cells #[v0, v1, .slice p2 n2 c2, .slice p3 n3 c3, .slice p4 n4 c4] 37)).alloc (.cells #[u0, u1, .slice q2 m2 d2, .slice q3 m3 d3, .slice q4 m4 d4] 37))).cell? ⟨W.heap.size, 2, none⟩ = some (.slice p2 n2 c2) := cell_of_row _ _ 2 _ _ _ rA1_.out
  have A_3_ : (((W.alloc (.cells #[v0, v1, .slice p2 n2 c2, .slice p3 n3 c3, .slice p4 n4 c4] 37)).alloc (.cells #[u0, u1, .slice q2 m2 d2, .slice q3 m3 d3, .slice q4 m4 d4] 37))).cell? ⟨W.heap.size, 3, none⟩ = some (.slice p3 n3 c3) := cell_of_row _ _ 3 _ _ _ rA1_.out
  have A_4_ : (((W.alloc (.cells #[v0, v1, .slice p2 n2 c2, .slice p3 n3 c3, .slice p4 n4 c4] 37)).alloc (.cells #[u0, u1, .slice q2 m2 d2, .slice q3 m3 d3, .slice q4 m4 d4] 37))).cell? ⟨W.heap.size, 4, none⟩ = some (.slice p4 n4 c4) := cell_of_row _ _ 4 _ _ _ rA1_.out
  have B_0_ : (((W.alloc (.cells #[v0, v1, .slice p2 n2 c2, .slice p3 n3 c3, .slice p4 n4 c4] 37)).alloc (.cells #[u0, u1, .slice q2 m2 d2, .slice q3 m3 d3, .slice q4 m4 d4] 37))).cell? ⟨W.heap.size + 1, 0, none⟩ = some (u0) := cell_of_row _ _ 0 _ _ _ rB2_.out
  have B_1_ : (((W.alloc (.cells #[v0, v1, .slice p2 n2 c2, .slice p3 n3 c3, .slice p4 n4 c4] 37)).alloc (.cells #[u0, u1, .slice q2 m2 d2, .slice q3 m3 d3, .slice q4 m4 d4] 37))).cell? ⟨W.heap.size + 1, 1, none⟩ = some (u1) := cell_of_row _ _ 1 _ _ _ rB2_.out
  have B_2_ : (((W.alloc (.cells #[v0, v1, .slice p2 n2 c2, .slice p3 n3 c3, .slice p4 n4 c4] 37)).alloc (.cells #[u0, u1, .slice q2 m2 d2, .slice q3 m3 d3, .slice q4 m4 d4] 37))).cell? ⟨W.heap.size + 1, 2, none⟩ = some (.slice q2 m2 d2) := cell_of_row _ _ 2 _ _ _ rB2_.out
  have B_3_ : (((W.alloc (.cells #[v0, v1, .slice p2 n2 c2, .slice p3 n3 c3, .slice p4 n4 c4] 37)).alloc (.cells #[u0, u1, .slice q2 m2 d2, .slice q3 m3 d3, .slice q4 m4 d4] 37))).cell? ⟨W.heap.size + 1, 3, none⟩ = some (.slice q3 m3 d3) := cell_of_row _ _ 3 _ _ _ rB2_.out
  have B_4_ : (((W.alloc (.cells #[v0, v1, .slice p2 n2 c2, .slice p3 n3 c3, .slice p4 n4 c4] 37)).alloc (.cells #[u0, u1, .slice q2 m2 d2, .slice q3 m3 d3, .slice q4 m4 d4] 37))).cell? ⟨W.heap.size + 1, 4, none⟩ = some (.slice q4 m4 d4) := cell_of_row _ _ 4 _ _ _ rB2_.out
  go_wp2_with fail
  go_at_call 48
  refine ((specSame _ _ _ x0 y0 (HR0.out.grow G3_.out) (KR0.out.grow G3_.out) HS0.out KS0.out).mono (bpost_yes HT.out)).mono ?_
  rintro e w1 ⟨rfl, g⟩
  have szw1 := g.size
  try simp only [World.size_alloc] at szw1
  try simp only [World.size_setCell] at szw1
  clear A_0_ A_1_ A_2_ A_3_ A_4_ B_0_ B_1_ B_2_ B_3_ B_4_
  have rA4_ := Lib.hid (show (w1).heap[W.heap.size]? = some (.cells #[v0, v1, .slice p2 n2 c2, .slice p3 n3 c3, .slice p4 n4 c4] 37 (0, 0)) from row_held g rA1_.out)
  clear rA1_
  have rB5_ := Lib.hid (show (w1).heap[W.heap.size + 1]? = some (.cells #[u0, u1, .slice q2 m2 d2, .slice q3 m3 d3, .slice q4 m4 d4] 37 (0, 0)) from row_held g rB2_.out)
  clear rB2_
  have G6_ := Lib.hid (show (W).grownBy (w1) none from gby_trans G3_.out g)
  clear g
  have A_0_ : (w1).cell? ⟨W.heap.size, 0, none⟩ = some (v0) := cell_of_row _ _ 0 _ _ _ rA4_.out
  have A_1_ : (w1).cell? ⟨W.heap.size, 1, none⟩ = some (v1) := cell_of_row _ _ 1 _ _ _ rA4_.out
  have A_2_ : (w1).cell? ⟨W.heap.size, 2, none⟩ = some (.slice p2 n2 c2) := cell_of_row _ _ 2 _ _ _ rA4_.out
  have A_3_ : (w1).cell? ⟨W.heap.size, 3, none⟩ = some (.slice p3 n3 c3) := cell_of_row _ _ 3 _ _ _ rA4_.out
  have A_4_ : (w1).cell? ⟨W.heap.size, 4, none⟩ = some (.slice p4 n4 c4) := cell_of_row _ _ 4 _ _ _ rA4_.out
  have B_0_ : (w1).cell? ⟨W.heap.size + 1, 0, none⟩ = some (u0) := cell_of_row _ _ 0 _ _ _ rB5_.out
  have B_1_ : (w1).cell? ⟨W.heap.size + 1, 1, none⟩ = some (u1) := cell_of_row _ _ 1 _ _ _ rB5_.out
  have B_2_ : (w1).cell? ⟨W.heap.size + 1, 2, none⟩ = some (.slice q2 m2 d2) := cell_of_row _ _ 2 _ _ _ rB5_.out
  have B_3_ : (w1).cell? ⟨W.heap.size + 1, 3, none⟩ = some (.slice q3 m3 d3) := cell_of_row _ _ 3 _ _ _ rB5_.out
  have B_4_ : (w1).cell? ⟨W.heap.size + 1, 4, none⟩ = some (.slice q4 m4 d4) := cell_of_row _ _ 4 _ _ _ rB5_.out
  go_wp2_with fail
  go_at_call 49
  refine (l04IntsD _ _ _ x1 y1 (HR1.out.grow G6_.out) (KR1.out.grow G6_.out) HS1.out KS1.out false HI.out).mono ?_
  rintro e w2 ⟨rfl, g⟩
  have szw2 := g.size
  try simp only [World.size_alloc] at szw2
  try simp only [World.size_setCell] at szw2
  clear A_0_ A_1_ A_2_ A_3_ A_4_ B_0_ B_1_ B_2_ B_3_ B_4_
  have rA7_ := Lib.hid (show (w2).heap[W.heap.size]? = some (.cells #[v0, v1, .slice p2 n2 c2, .slice p3 n3 c3, .slice p4 n4 c4] 37 (0, 0)) from row_held g rA4_.out)
  clear rA4_
  have rB8_ := Lib.hid (show (w2).heap[W.heap.size + 1]? = some (.cells #[u0, u1, .slice q2 m2 d2, .slice q3 m3 d3, .slice q4 m4 d4] 37 (0, 0)) from row_held g rB5_.out)
  clear rB5_
  have G9_ := Lib.hid (show (W).grownBy (w2) none from gby_trans G6_.out g)
  clear g
  have A_0_ : (w2).cell? ⟨W.heap.size, 0, none⟩ = some (v0) := cell_of_row _ _ 0 _ _ _ rA7_.out
  have A_1_ : (w2).cell? ⟨W.heap.size, 1, none⟩ = some (v1) := cell_of_row _ _ 1 _ _ _ rA7_.out
  have A_2_ : (w2).cell? ⟨W.heap.size, 2, none⟩ = some (.slice p2 n2 c2) := cell_of_row _ _ 2 _ _ _ rA7_.out
  have A_3_ : (w2).cell? ⟨W.heap.size, 3, none⟩ = some (.slice p3 n3 c3) := cell_of_row _ _ 3 _ _ _ rA7_.out
  have A_4_ : (w2).cell? ⟨W.heap.size, 4, none⟩ = some (.slice p4 n4 c4) := cell_of_row _ _ 4 _ _ _ rA7_.out
  have B_0_ : (w2).cell? ⟨W.heap.size + 1, 0, none⟩ = some (u0) := cell_of_row _ _ 0 _ _ _ rB8_.out
  have B_1_ : (w2).cell? ⟨W.heap.size + 1, 1, none⟩ = some (u1) := cell_of_row _ _ 1 _ _ _ rB8_.out
  have B_2_ : (w2).cell? ⟨W.heap.size + 1, 2, none⟩ = some (.slice q2 m2 d2) := cell_of_row _ _ 2 _ _ _ rB8_.out
  have B_3_ : (w2).cell? ⟨W.heap.size + 1, 3, none⟩ = some (.slice q3 m3 d3) := cell_of_row _ _ 3 _ _ _ rB8_.out
  have B_4_ : (w2).cell? ⟨W.heap.size + 1, 4, none⟩ = some (.slice q4 m4 d4) := cell_of_row _ _ 4 _ _ _ rB8_.out
  go_wp2
  go_ret
  exact ⟨false, rfl, iff_noF (fun q => absurd q.2.1 (of_decide_eq_false HI.out.symm)), G9_.out⟩

set_option maxRecDepth 8000 in
set_option maxHeartbeats 4000000 in
theorem specFab_y (W : World) (v0 u0 v1 u1 v2 u2 v3 u3 v4 u4 : Value) (x0 y0 : List DNode) (x1 y1 : List Int) (x2 y2 : List DBar) (x3 y3 : List (List Int)) (x4 y4 : List Bool) (H0 : RdL shNode W v0 x0) (K0 : RdL shNode W u0 y0) (H1 : RdL shI W v1 x1) (K1 : RdL shI W u1 y1) (H2 : RdL shBar W v2 x2) (K2 : RdL shBar W u2 y2) (H3 : RdL (shL shI) W v3 x3) (K3 : RdL (shL shI) W u3 y3) (H4 : RdL shB W v4 x4) (K4 : RdL shB W u4 y4) (hl0 : szL shNode x0 ≤ 1048576) (kl0 : szL shNode y0 ≤ 1048576) (hl1 : szL shI x1 ≤ 1048576) (kl1 : szL shI y1 ≤ 1048576) (hl2 : szL shBar x2 ≤ 1048576) (kl2 : szL shBar y2 ≤ 1048576) (hl3 : szL (shL shI) x3 ≤ 1048576) (kl3 : szL (shL shI) y3 ≤ 1048576) (hl4 : szL shB x4 ≤ 1048576) (kl4 : szL shB y4 ≤ 1048576) (ht : x0 = y0) (hi : x1 = y1) : Calls Try.prog 11 #[.agg #[v0, v1, v2, v3, v4], .agg #[u0, u1, u2, u3, u4]] W (BPost (FabEq x0 y0 x1 y1 x2 y2 x3 y3 x4 y4) W) := by
  have HT := Lib.hid ht
  clear ht
  have HI := Lib.hid (show true = decide (x1 = y1) from (decide_eq_true hi).symm)
  clear hi
  have HR0 := Lib.hid H0
  have KR0 := Lib.hid K0
  have HS0 := Lib.hid hl0
  have KS0 := Lib.hid kl0
  have HR1 := Lib.hid H1
  have KR1 := Lib.hid K1
  have HS1 := Lib.hid hl1
  have KS1 := Lib.hid kl1
  have HR2 := Lib.hid H2
  have KR2 := Lib.hid K2
  have HS2 := Lib.hid hl2
  have KS2 := Lib.hid kl2
  have HR3 := Lib.hid H3
  have KR3 := Lib.hid K3
  have HS3 := Lib.hid hl3
  have KS3 := Lib.hid kl3
  have HR4 := Lib.hid H4
  have KR4 := Lib.hid K4
  have HS4 := Lib.hid hl4
  have KS4 := Lib.hid kl4
  clear H0 H1 K0 K1 hl0 hl1 kl0 kl1
  have HLX2 := Lib.hid hl2
  obtain ⟨p2, c2, rfl, _, _, hi_⟩ := H2
  have HA2 := Lib.hid hi_
  clear hi_
  obtain ⟨n2, hn_⟩ : ∃ n, n = x2.length := ⟨_, rfl⟩
  have HX2 := Lib.hid hn_
  have hn2x_ : n2 ≤ 1048576 := by have := szL_len shBar x2; omega
  rw [← hn_] at HA2 ⊢
  clear hn_ hl2
  have HLY2 := Lib.hid kl2
  obtain ⟨q2, d2, rfl, _, _, hi_⟩ := K2
  have HB2 := Lib.hid hi_
  clear hi_
  obtain ⟨m2, hn_⟩ : ∃ n, n = y2.length := ⟨_, rfl⟩
  have HY2 := Lib.hid hn_
  have hm2x_ : m2 ≤ 1048576 := by have := szL_len shBar y2; omega
  rw [← hn_] at HB2 ⊢
  clear hn_ kl2
  have HLX3 := Lib.hid hl3
  obtain ⟨p3, c3, rfl, _, _, hi_⟩ := H3
  have HA3 := Lib.hid hi_
  clear hi_
  obtain ⟨n3, hn_⟩ : ∃ n, n = x3.length := ⟨_, rfl⟩
  have HX3 := Lib.hid hn_
  have hn3x_ : n3 ≤ 1048576 := by have := szL_len (shL shI) x3; omega
  rw [← hn_] at HA3 ⊢
  clear hn_ hl3
  have HLY3 := Lib.hid kl3
  obtain ⟨q3, d3, rfl, _, _, hi_⟩ := K3
  have HB3 := Lib.hid hi_
  clear hi_
  obtain ⟨m3, hn_⟩ : ∃ n, n = y3.length := ⟨_, rfl⟩
  have HY3 := Lib.hid hn_
  have hm3x_ : m3 ≤ 1048576 := by have := szL_len (shL shI) y3; omega
  rw [← hn_] at HB3 ⊢
  clear hn_ kl3
  have HLX4 := Lib.hid hl4
  obtain ⟨p4, c4, rfl, _, _, hi_⟩ := H4
  have HA4 := Lib.hid hi_
  clear hi_
  obtain ⟨n4, hn_⟩ : ∃ n, n = x4.length := ⟨_, rfl⟩
  have HX4 := Lib.hid hn_
  have hn4x_ : n4 ≤ 1048576 := by have := szL_len shB x4; omega
  rw [← hn_] at HA4 ⊢
  clear hn_ hl4
  have HLY4 := Lib.hid kl4
  obtain ⟨q4, d4, rfl, _, _, hi_⟩ := K4
  have HB4 := Lib.hid hi_
  clear hi_
  obtain ⟨m4, hn_⟩ : ∃ n, n = y4.length := ⟨_, rfl⟩
  have HY4 := Lib.hid hn_
  have hm4x_ : m4 ≤ 1048576 := by have := szL_len shB y4; omega
  rw [← hn_] at HB4 ⊢
  clear hn_ kl4
  go_enter Try.func11, Try.ntmps11
  have rA1_ := Lib.hid (show (((W.alloc (.cells #[v0, v1, .slice p2 n2 c2, .slice p3 n3 c3, .slice p4 n4 c4] 37)).alloc (.cells #[u0, u1, .slice q2 m2 d2, .slice q3 m3 d3, .slice q4 m4 d4] 37))).heap[W.heap.size]? = some (.cells #[v0, v1, .slice p2 n2 c2, .slice p3 n3 c3, .slice p4 n4 c4] 37 (0, 0)) from by rw [heap_alloc_old _ _ (by simp only [World.size_alloc]; omega)]; exact heap_alloc_new _ _)
  have rB2_ := Lib.hid (show (((W.alloc (.cells #[v0, v1, .slice p2 n2 c2, .slice p3 n3 c3, .slice p4 n4 c4] 37)).alloc (.cells #[u0, u1, .slice q2 m2 d2, .slice q3 m3 d3, .slice q4 m4 d4] 37))).heap[W.heap.size + 1]? = some (.cells #[u0, u1, .slice q2 m2 d2, .slice q3 m3 d3, .slice q4 m4 d4] 37 (0, 0)) from by exact heap_pair _ _ _)
  have G3_ := Lib.hid (show (W).grownBy (((W.alloc (.cells #[v0, v1, .slice p2 n2 c2, .slice p3 n3 c3, .slice p4 n4 c4] 37)).alloc (.cells #[u0, u1, .slice q2 m2 d2, .slice q3 m3 d3, .slice q4 m4 d4] 37))) none from (gby_alloc (gby_alloc (gby_refl _ _) _) _))
  have A_0_ : (((W.alloc (.cells #[v0, v1, .slice p2 n2 c2, .slice p3 n3 c3, .slice p4 n4 c4] 37)).alloc (.cells #[u0, u1, .slice q2 m2 d2, .slice q3 m3 d3, .slice q4 m4 d4] 37))).cell? ⟨W.heap.size, 0, none⟩ = some (v0) := cell_of_row _ _ 0 _ _ _ rA1_.out
  have A_1_ : (((W.alloc (.cells #[v0, v1, .slice p2 n2 c2, .slice p3 n3 c3, .slice p4 n4 c4] 37)).alloc (.cells #[u0, u1, .slice q2 m2 d2, .slice q3 m3 d3, .slice q4 m4 d4] 37))).cell? ⟨W.heap.size, 1, none⟩ = some (v1) := cell_of_row _ _ 1 _ _ _ rA1_.out
  have A_2_ : (((W.alloc (.cells #[v0, v1, .slice p2 n2 c2, .slice p3 n3 c3, .slice p4 n4 c4] 37)).alloc (.cells #[u0, u1, .slice q2 m2 d2, .slice q3 m3 d3, .slice q4 m4 d4] 37))).cell? ⟨W.heap.size, 2, none⟩ = some (.slice p2 n2 c2) := cell_of_row _ _ 2 _ _ _ rA1_.out
  have A_3_ : (((W.alloc (.cells #[v0, v1, .slice p2 n2 c2, .slice p3 n3 c3, .slice p4 n4 c4] 37)).alloc (.cells #[u0, u1, .slice q2 m2 d2, .slice q3 m3 d3, .slice q4 m4 d4] 37))).cell? ⟨W.heap.size, 3, none⟩ = some (.slice p3 n3 c3) := cell_of_row _ _ 3 _ _ _ rA1_.out
  have A_4_ : (((W.alloc (.cells #[v0, v1, .slice p2 n2 c2, .slice p3 n3 c3, .slice p4 n4 c4] 37)).alloc (.cells #[u0, u1, .slice q2 m2 d2, .slice q3 m3 d3, .slice q4 m4 d4] 37))).cell? ⟨W.heap.size, 4, none⟩ = some (.slice p4 n4 c4) := cell_of_row _ _ 4 _ _ _ rA1_.out
  have B_0_ : (((W.alloc (.cells #[v0, v1, .slice p2 n2 c2, .slice p3 n3 c3, .slice p4 n4 c4] 37)).alloc (.cells #[u0, u1, .slice q2 m2 d2, .slice q3 m3 d3, .slice q4 m4 d4] 37))).cell? ⟨W.heap.size + 1, 0, none⟩ = some (u0) := cell_of_row _ _ 0 _ _ _ rB2_.out
  have B_1_ : (((W.alloc (.cells #[v0, v1, .slice p2 n2 c2, .slice p3 n3 c3, .slice p4 n4 c4] 37)).alloc (.cells #[u0, u1, .slice q2 m2 d2, .slice q3 m3 d3, .slice q4 m4 d4] 37))).cell? ⟨W.heap.size + 1, 1, none⟩ = some (u1) := cell_of_row _ _ 1 _ _ _ rB2_.out
  have B_2_ : (((W.alloc (.cells #[v0, v1, .slice p2 n2 c2, .slice p3 n3 c3, .slice p4 n4 c4] 37)).alloc (.cells #[u0, u1, .slice q2 m2 d2, .slice q3 m3 d3, .slice q4 m4 d4] 37))).cell? ⟨W.heap.size + 1, 2, none⟩ = some (.slice q2 m2 d2) := cell_of_row _ _ 2 _ _ _ rB2_.out
  have B_3_ : (((W.alloc (.cells #[v0, v1, .slice p2 n2 c2, .slice p3 n3 c3, .slice p4 n4 c4] 37)).alloc (.cells #[u0, u1, .slice q2 m2 d2, .slice q3 m3 d3, .slice q4 m4 d4] 37))).cell? ⟨W.heap.size + 1, 3, none⟩ = some (.slice q3 m3 d3) := cell_of_row _ _ 3 _ _ _ rB2_.out
  have B_4_ : (((W.alloc (.cells #[v0, v1, .slice p2 n2 c2, .slice p3 n3 c3, .slice p4 n4 c4] 37)).alloc (.cells #[u0, u1, .slice q2 m2 d2, .slice q3 m3 d3, .slice q4 m4 d4] 37))).cell? ⟨W.heap.size + 1, 4, none⟩ = some (.slice q4 m4 d4) := cell_of_row _ _ 4 _ _ _ rB2_.out
  go_wp2_with fail
  go_at_call 48
  refine ((specSame _ _ _ x0 y0 (HR0.out.grow G3_.out) (KR0.out.grow G3_.out) HS0.out KS0.out).mono (bpost_yes HT.out)).mono ?_
  rintro e w1 ⟨rfl, g⟩
  have szw1 := g.size
  try simp only [World.size_alloc] at szw1
  try simp only [World.size_setCell] at szw1
  clear A_0_ A_1_ A_2_ A_3_ A_4_ B_0_ B_1_ B_2_ B_3_ B_4_
  have rA4_ := Lib.hid (show (w1).heap[W.heap.size]? = some (.cells #[v0, v1, .slice p2 n2 c2, .slice p3 n3 c3, .slice p4 n4 c4] 37 (0, 0)) from row_held g rA1_.out)
  clear rA1_
  have rB5_ := Lib.hid (show (w1).heap[W.heap.size + 1]? = some (.cells #[u0, u1, .slice q2 m2 d2, .slice q3 m3 d3, .slice q4 m4 d4] 37 (0, 0)) from row_held g rB2_.out)
  clear rB2_
  have G6_ := Lib.hid (show (W).grownBy (w1) none from gby_trans G3_.out g)
  clear g
  have A_0_ : (w1).cell? ⟨W.heap.size, 0, none⟩ = some (v0) := cell_of_row _ _ 0 _ _ _ rA4_.out
  have A_1_ : (w1).cell? ⟨W.heap.size, 1, none⟩ = some (v1) := cell_of_row _ _ 1 _ _ _ rA4_.out
  have A_2_ : (w1).cell? ⟨W.heap.size, 2, none⟩ = some (.slice p2 n2 c2) := cell_of_row _ _ 2 _ _ _ rA4_.out
  have A_3_ : (w1).cell? ⟨W.heap.size, 3, none⟩ = some (.slice p3 n3 c3) := cell_of_row _ _ 3 _ _ _ rA4_.out
  have A_4_ : (w1).cell? ⟨W.heap.size, 4, none⟩ = some (.slice p4 n4 c4) := cell_of_row _ _ 4 _ _ _ rA4_.out
  have B_0_ : (w1).cell? ⟨W.heap.size + 1, 0, none⟩ = some (u0) := cell_of_row _ _ 0 _ _ _ rB5_.out
  have B_1_ : (w1).cell? ⟨W.heap.size + 1, 1, none⟩ = some (u1) := cell_of_row _ _ 1 _ _ _ rB5_.out
  have B_2_ : (w1).cell? ⟨W.heap.size + 1, 2, none⟩ = some (.slice q2 m2 d2) := cell_of_row _ _ 2 _ _ _ rB5_.out
  have B_3_ : (w1).cell? ⟨W.heap.size + 1, 3, none⟩ = some (.slice q3 m3 d3) := cell_of_row _ _ 3 _ _ _ rB5_.out
  have B_4_ : (w1).cell? ⟨W.heap.size + 1, 4, none⟩ = some (.slice q4 m4 d4) := cell_of_row _ _ 4 _ _ _ rB5_.out
  go_wp2_with fail
  go_at_call 49
  refine (l04IntsD _ _ _ x1 y1 (HR1.out.grow G6_.out) (KR1.out.grow G6_.out) HS1.out KS1.out true HI.out).mono ?_
  rintro e w2 ⟨rfl, g⟩
  have szw2 := g.size
  try simp only [World.size_alloc] at szw2
  try simp only [World.size_setCell] at szw2
  clear A_0_ A_1_ A_2_ A_3_ A_4_ B_0_ B_1_ B_2_ B_3_ B_4_
  have rA7_ := Lib.hid (show (w2).heap[W.heap.size]? = some (.cells #[v0, v1, .slice p2 n2 c2, .slice p3 n3 c3, .slice p4 n4 c4] 37 (0, 0)) from row_held g rA4_.out)
  clear rA4_
  have rB8_ := Lib.hid (show (w2).heap[W.heap.size + 1]? = some (.cells #[u0, u1, .slice q2 m2 d2, .slice q3 m3 d3, .slice q4 m4 d4] 37 (0, 0)) from row_held g rB5_.out)
  clear rB5_
  have G9_ := Lib.hid (show (W).grownBy (w2) none from gby_trans G6_.out g)
  clear g
  have A_0_ : (w2).cell? ⟨W.heap.size, 0, none⟩ = some (v0) := cell_of_row _ _ 0 _ _ _ rA7_.out
  have A_1_ : (w2).cell? ⟨W.heap.size, 1, none⟩ = some (v1) := cell_of_row _ _ 1 _ _ _ rA7_.out
  have A_2_ : (w2).cell? ⟨W.heap.size, 2, none⟩ = some (.slice p2 n2 c2) := cell_of_row _ _ 2 _ _ _ rA7_.out
  have A_3_ : (w2).cell? ⟨W.heap.size, 3, none⟩ = some (.slice p3 n3 c3) := cell_of_row _ _ 3 _ _ _ rA7_.out
  have A_4_ : (w2).cell? ⟨W.heap.size, 4, none⟩ = some (.slice p4 n4 c4) := cell_of_row _ _ 4 _ _ _ rA7_.out
  have B_0_ : (w2).cell? ⟨W.heap.size + 1, 0, none⟩ = some (u0) := cell_of_row _ _ 0 _ _ _ rB8_.out
  have B_1_ : (w2).cell? ⟨W.heap.size + 1, 1, none⟩ = some (u1) := cell_of_row _ _ 1 _ _ _ rB8_.out
  have B_2_ : (w2).cell? ⟨W.heap.size + 1, 2, none⟩ = some (.slice q2 m2 d2) := cell_of_row _ _ 2 _ _ _ rB8_.out
  have B_3_ : (w2).cell? ⟨W.heap.size + 1, 3, none⟩ = some (.slice q3 m3 d3) := cell_of_row _ _ 3 _ _ _ rB8_.out
  have B_4_ : (w2).cell? ⟨W.heap.size + 1, 4, none⟩ = some (.slice q4 m4 d4) := cell_of_row _ _ 4 _ _ _ rB8_.out
  by_cases hq2 : n2 = m2
  rotate_left
  · have hz2 : ((n2 : Int) != (m2 : Int)) = true := by simp; omega
    have HN := Lib.hid hq2
    clear hq2
    go_wp2
    go_ret
    exact ⟨false, rfl, iff_noF (fun q => HN.out (by rw [HX2.out, HY2.out, q.2.2.1])), G9_.out⟩
  have hz2 : ((n2 : Int) != (m2 : Int)) = false := by simp; omega
  have HQ2 := Lib.hid hq2
  clear hq2
  by_cases hq3 : n3 = m3
  rotate_left
  · have hz3 : ((n3 : Int) != (m3 : Int)) = true := by simp; omega
    have HN := Lib.hid hq3
    clear hq3
    go_wp2
    go_ret
    exact ⟨false, rfl, iff_noF (fun q => HN.out (by rw [HX3.out, HY3.out, q.2.2.2.1])), G9_.out⟩
  have hz3 : ((n3 : Int) != (m3 : Int)) = false := by simp; omega
  have HQ3 := Lib.hid hq3
  clear hq3
  by_cases hq4 : n4 = m4
  rotate_left
  · have hz4 : ((n4 : Int) != (m4 : Int)) = true := by simp; omega
    have HN := Lib.hid hq4
    clear hq4
    go_wp2
    go_ret
    exact ⟨false, rfl, iff_noF (fun q => HN.out (by rw [HX4.out, HY4.out, q.2.2.2.2])), G9_.out⟩
  have hz4 : ((n4 : Int) != (m4 : Int)) = false := by simp; omega
  have HQ4 := Lib.hid hq4
  clear hq4
  go_wp2
  go_loopw [5] (fun i wr => ∃ n : Nat, i = .int .i64 (n : Int) ∧ n ≤ n2 ∧ (∀ j, j < n → x2.getD j default = y2.getD j default) ∧ (w2).grownBy wr none) (fun i _ => n2 - (intOf i).toNat)
  case atStart => exact ⟨0, rfl, by omega, fun j h => absurd h (Nat.not_lt_zero _), gby_refl _ _⟩
  case round =>
    clear A_0_ A_1_ A_2_ A_3_ A_4_ B_0_ B_1_ B_2_ B_3_ B_4_
    obtain ⟨wo2, hwo_⟩ : ∃ w_, w_ = wr := ⟨_, rfl⟩
    subst hwo_
    obtain ⟨n, rfl, hn, hj_, hg⟩ := hrel
    have szrwo2 := hg.size
    try simp only [World.size_alloc] at szrwo2
    try simp only [World.size_setCell] at szrwo2
    have szr_ := szrwo2
    have rA10_ := Lib.hid (show (wo2).heap[W.heap.size]? = some (.cells #[v0, v1, .slice p2 n2 c2, .slice p3 n3 c3, .slice p4 n4 c4] 37 (0, 0)) from row_held hg rA7_.out)
    clear rA7_
    have rB11_ := Lib.hid (show (wo2).heap[W.heap.size + 1]? = some (.cells #[u0, u1, .slice q2 m2 d2, .slice q3 m3 d3, .slice q4 m4 d4] 37 (0, 0)) from row_held hg rB8_.out)
    clear rB8_
    have G12_ := Lib.hid (show (W).grownBy (wo2) none from gby_trans G9_.out hg)
    have HTB_ := Lib.hid hg
    clear hg
    have A_0_ : (wo2).cell? ⟨W.heap.size, 0, none⟩ = some (v0) := cell_of_row _ _ 0 _ _ _ rA10_.out
    have A_1_ : (wo2).cell? ⟨W.heap.size, 1, none⟩ = some (v1) := cell_of_row _ _ 1 _ _ _ rA10_.out
    have A_2_ : (wo2).cell? ⟨W.heap.size, 2, none⟩ = some (.slice p2 n2 c2) := cell_of_row _ _ 2 _ _ _ rA10_.out
    have A_3_ : (wo2).cell? ⟨W.heap.size, 3, none⟩ = some (.slice p3 n3 c3) := cell_of_row _ _ 3 _ _ _ rA10_.out
    have A_4_ : (wo2).cell? ⟨W.heap.size, 4, none⟩ = some (.slice p4 n4 c4) := cell_of_row _ _ 4 _ _ _ rA10_.out
    have B_0_ : (wo2).cell? ⟨W.heap.size + 1, 0, none⟩ = some (u0) := cell_of_row _ _ 0 _ _ _ rB11_.out
    have B_1_ : (wo2).cell? ⟨W.heap.size + 1, 1, none⟩ = some (u1) := cell_of_row _ _ 1 _ _ _ rB11_.out
    have B_2_ : (wo2).cell? ⟨W.heap.size + 1, 2, none⟩ = some (.slice q2 m2 d2) := cell_of_row _ _ 2 _ _ _ rB11_.out
    have B_3_ : (wo2).cell? ⟨W.heap.size + 1, 3, none⟩ = some (.slice q3 m3 d3) := cell_of_row _ _ 3 _ _ _ rB11_.out
    have B_4_ : (wo2).cell? ⟨W.heap.size + 1, 4, none⟩ = some (.slice q4 m4 d4) := cell_of_row _ _ 4 _ _ _ rB11_.out
    have HJ := Lib.hid hj_
    clear hj_
    have hn0_ : (0 : Int) ≤ (n : Int) := by omega
    have htn : ((n : Int)).toNat = n := by omega
    by_cases hlt : n < n2
    rotate_left
    · have hnn_ : n2 = n := by omega
      subst hnn_
      have hki : ¬ (n2 : Int) < (n2 : Int) := by omega
      have HEQ2 := Lib.hid (show x2 = y2 from list_eqF (by rw [← HX2.out, ← HY2.out]; exact HQ2.out) (fun k hk => HJ.out k (by rw [HX2.out]; exact hk)))
      clear HJ htn hn0_ hn hlt
      have hkeep_ := hki
      go_wp2
      go_loopw [6] (fun i wr => ∃ n : Nat, i = .int .i64 (n : Int) ∧ n ≤ n3 ∧ (∀ j, j < n → x3.getD j default = y3.getD j default) ∧ (wo2).grownBy wr none) (fun i _ => n3 - (intOf i).toNat)
      case atStart => exact ⟨0, rfl, by omega, fun j h => absurd h (Nat.not_lt_zero _), gby_refl _ _⟩
      case round =>
        clear A_0_ A_1_ A_2_ A_3_ A_4_ B_0_ B_1_ B_2_ B_3_ B_4_
        obtain ⟨wo3, hwo_⟩ : ∃ w_, w_ = wr := ⟨_, rfl⟩
        subst hwo_
        obtain ⟨n, rfl, hn, hj_, hg⟩ := hrel
        have szrwo3 := hg.size
        try simp only [World.size_alloc] at szrwo3
        try simp only [World.size_setCell] at szrwo3
        have szr_ := szrwo3
        have rA13_ := Lib.hid (show (wo3).heap[W.heap.size]? = some (.cells #[v0, v1, .slice p2 n2 c2, .slice p3 n3 c3, .slice p4 n4 c4] 37 (0, 0)) from row_held hg rA10_.out)
        clear rA10_
        have rB14_ := Lib.hid (show (wo3).heap[W.heap.size + 1]? = some (.cells #[u0, u1, .slice q2 m2 d2, .slice q3 m3 d3, .slice q4 m4 d4] 37 (0, 0)) from row_held hg rB11_.out)
        clear rB11_
        have G15_ := Lib.hid (show (W).grownBy (wo3) none from gby_trans G12_.out hg)
        have HTB_ := Lib.hid hg
        clear hg
        have A_0_ : (wo3).cell? ⟨W.heap.size, 0, none⟩ = some (v0) := cell_of_row _ _ 0 _ _ _ rA13_.out
        have A_1_ : (wo3).cell? ⟨W.heap.size, 1, none⟩ = some (v1) := cell_of_row _ _ 1 _ _ _ rA13_.out
        have A_2_ : (wo3).cell? ⟨W.heap.size, 2, none⟩ = some (.slice p2 n2 c2) := cell_of_row _ _ 2 _ _ _ rA13_.out
        have A_3_ : (wo3).cell? ⟨W.heap.size, 3, none⟩ = some (.slice p3 n3 c3) := cell_of_row _ _ 3 _ _ _ rA13_.out
        have A_4_ : (wo3).cell? ⟨W.heap.size, 4, none⟩ = some (.slice p4 n4 c4) := cell_of_row _ _ 4 _ _ _ rA13_.out
        have B_0_ : (wo3).cell? ⟨W.heap.size + 1, 0, none⟩ = some (u0) := cell_of_row _ _ 0 _ _ _ rB14_.out
        have B_1_ : (wo3).cell? ⟨W.heap.size + 1, 1, none⟩ = some (u1) := cell_of_row _ _ 1 _ _ _ rB14_.out
        have B_2_ : (wo3).cell? ⟨W.heap.size + 1, 2, none⟩ = some (.slice q2 m2 d2) := cell_of_row _ _ 2 _ _ _ rB14_.out
        have B_3_ : (wo3).cell? ⟨W.heap.size + 1, 3, none⟩ = some (.slice q3 m3 d3) := cell_of_row _ _ 3 _ _ _ rB14_.out
        have B_4_ : (wo3).cell? ⟨W.heap.size + 1, 4, none⟩ = some (.slice q4 m4 d4) := cell_of_row _ _ 4 _ _ _ rB14_.out
        have HJ := Lib.hid hj_
        clear hj_
        have hn0_ : (0 : Int) ≤ (n : Int) := by omega
        have htn : ((n : Int)).toNat = n := by omega
        by_cases hlt : n < n3
        rotate_left
        · have hnn_ : n3 = n := by omega
          subst hnn_
          have hki : ¬ (n3 : Int) < (n3 : Int) := by omega
          have HEQ3 := Lib.hid (show x3 = y3 from list_eqF (by rw [← HX3.out, ← HY3.out]; exact HQ3.out) (fun k hk => HJ.out k (by rw [HX3.out]; exact hk)))
          clear HJ htn hn0_ hn hlt
          have hkeep_ := hki
          go_wp2
          go_loopw [7] (fun i wr => ∃ n : Nat, i = .int .i64 (n : Int) ∧ n ≤ n4 ∧ (∀ j, j < n → x4.getD j default = y4.getD j default) ∧ (wo3).grownBy wr none) (fun i _ => n4 - (intOf i).toNat)
          case atStart => exact ⟨0, rfl, by omega, fun j h => absurd h (Nat.not_lt_zero _), gby_refl _ _⟩
          case round =>
            clear A_0_ A_1_ A_2_ A_3_ A_4_ B_0_ B_1_ B_2_ B_3_ B_4_
            obtain ⟨wo4, hwo_⟩ : ∃ w_, w_ = wr := ⟨_, rfl⟩
            subst hwo_
            obtain ⟨n, rfl, hn, hj_, hg⟩ := hrel
            have szrwo4 := hg.size
            try simp only [World.size_alloc] at szrwo4
            try simp only [World.size_setCell] at szrwo4
            have szr_ := szrwo4
            have rA16_ := Lib.hid (show (wo4).heap[W.heap.size]? = some (.cells #[v0, v1, .slice p2 n2 c2, .slice p3 n3 c3, .slice p4 n4 c4] 37 (0, 0)) from row_held hg rA13_.out)
            clear rA13_
            have rB17_ := Lib.hid (show (wo4).heap[W.heap.size + 1]? = some (.cells #[u0, u1, .slice q2 m2 d2, .slice q3 m3 d3, .slice q4 m4 d4] 37 (0, 0)) from row_held hg rB14_.out)
            clear rB14_
            have G18_ := Lib.hid (show (W).grownBy (wo4) none from gby_trans G15_.out hg)
            have HTB_ := Lib.hid hg
            clear hg
            have A_0_ : (wo4).cell? ⟨W.heap.size, 0, none⟩ = some (v0) := cell_of_row _ _ 0 _ _ _ rA16_.out
            have A_1_ : (wo4).cell? ⟨W.heap.size, 1, none⟩ = some (v1) := cell_of_row _ _ 1 _ _ _ rA16_.out
            have A_2_ : (wo4).cell? ⟨W.heap.size, 2, none⟩ = some (.slice p2 n2 c2) := cell_of_row _ _ 2 _ _ _ rA16_.out
            have A_3_ : (wo4).cell? ⟨W.heap.size, 3, none⟩ = some (.slice p3 n3 c3) := cell_of_row _ _ 3 _ _ _ rA16_.out
            have A_4_ : (wo4).cell? ⟨W.heap.size, 4, none⟩ = some (.slice p4 n4 c4) := cell_of_row _ _ 4 _ _ _ rA16_.out
            have B_0_ : (wo4).cell? ⟨W.heap.size + 1, 0, none⟩ = some (u0) := cell_of_row _ _ 0 _ _ _ rB17_.out
            have B_1_ : (wo4).cell? ⟨W.heap.size + 1, 1, none⟩ = some (u1) := cell_of_row _ _ 1 _ _ _ rB17_.out
            have B_2_ : (wo4).cell? ⟨W.heap.size + 1, 2, none⟩ = some (.slice q2 m2 d2) := cell_of_row _ _ 2 _ _ _ rB17_.out
            have B_3_ : (wo4).cell? ⟨W.heap.size + 1, 3, none⟩ = some (.slice q3 m3 d3) := cell_of_row _ _ 3 _ _ _ rB17_.out
            have B_4_ : (wo4).cell? ⟨W.heap.size + 1, 4, none⟩ = some (.slice q4 m4 d4) := cell_of_row _ _ 4 _ _ _ rB17_.out
            have HJ := Lib.hid hj_
            clear hj_
            have hn0_ : (0 : Int) ≤ (n : Int) := by omega
            have htn : ((n : Int)).toNat = n := by omega
            by_cases hlt : n < n4
            rotate_left
            · have hnn_ : n4 = n := by omega
              subst hnn_
              have hki : ¬ (n4 : Int) < (n4 : Int) := by omega
              have HEQ4 := Lib.hid (show x4 = y4 from list_eqF (by rw [← HX4.out, ← HY4.out]; exact HQ4.out) (fun k hk => HJ.out k (by rw [HX4.out]; exact hk)))
              go_wp2
              go_ret
              exact ⟨true, rfl, iff_yesF ⟨HT.out, of_decide_eq_true HI.out.symm, HEQ2.out, HEQ3.out, HEQ4.out⟩, G18_.out⟩
            have hmm_ : n < m4 := by have := HQ4.out; omega
            have hmi_ : (n : Int) < (m4 : Int) := by omega
            have hki : (n : Int) < (n4 : Int) := by omega
            obtain ⟨b1, o1, rfl, hc_⟩ := HA4.out.resolve_left (by omega)
            obtain ⟨cs_, hat_, hrd_⟩ := hc_ n (by have := HX4.out; omega)
            obtain ⟨y, hy_⟩ : ∃ y, y = x4.getD n default := ⟨_, rfl⟩
            rw [← hy_] at hrd_
            have Hy := Lib.hid hy_
            clear hy_
            obtain rfl := hrd_
            have Hyc0 := Lib.hid (show W.cell? ⟨b1, o1 + n, none⟩ = some (.bool y) from by have q := at_cell (j := 0) hat_ rfl; rwa [Nat.add_zero, show shB.n = 1 from rfl, Nat.mul_one] at q)
            clear hat_ hc_
            obtain ⟨b2, o2, rfl, hc_⟩ := HB4.out.resolve_left (by omega)
            obtain ⟨cs_, hat_, hrd_⟩ := hc_ n (by have := HY4.out; omega)
            obtain ⟨z, hy_⟩ : ∃ y, y = y4.getD n default := ⟨_, rfl⟩
            rw [← hy_] at hrd_
            have Hz := Lib.hid hy_
            clear hy_
            obtain rfl := hrd_
            have Hzc0 := Lib.hid (show W.cell? ⟨b2, o2 + n, none⟩ = some (.bool z) from by have q := at_cell (j := 0) hat_ rfl; rwa [Nat.add_zero, show shB.n = 1 from rfl, Nat.mul_one] at q)
            clear hat_ hc_
            have yc0_ := (G18_.out).cell Hyc0.out (by simp)
            have zc0_ := (G18_.out).cell Hzc0.out (by simp)
            by_cases h0 : y = z
            rotate_left
            · have hb0 : (y == z) = false := by simpa using h0
              have hb1 : (y != z) = true := by simpa using h0
              have HNE := Lib.hid (show ¬ x4.getD n default = y4.getD n default from by rw [← Hy.out, ← Hz.out]; exact h0)
              clear h0
              go_wp2_with fail
              go_quiet (fail)
              go_wp2
              go_ret
              exact ⟨false, rfl, iff_noF (fun q => HNE.out (by rw [q.2.2.2.2])), by repeat (first | exact G18_.out | with_reducible refine gby_drewN ?_ _)⟩
            have hb0 : (y == z) = true := by simpa using h0
            have hb1 : (y != z) = false := by simpa using h0
            have HE_0 := Lib.hid h0
            clear h0
            go_wp2_with fail
            go_quiet (fail)
            go_wp2
            refine ⟨⟨n + 1, by go_num, by omega, fun j hj => ?_, by repeat (first | exact HTB_.out | with_reducible refine gby_drewN ?_ _)⟩, by simp [intOf]; omega⟩
            by_cases e : j = n
            · subst e; rw [← Hy.out, ← Hz.out, HE_0.out]
            · exact HJ.out j (by omega)
        have hmm_ : n < m3 := by have := HQ3.out; omega
        have hmi_ : (n : Int) < (m3 : Int) := by omega
        have hki : (n : Int) < (n3 : Int) := by omega
        obtain ⟨b1, o1, rfl, hc_⟩ := HA3.out.resolve_left (by omega)
        obtain ⟨cs_, hat_, hrd_⟩ := hc_ n (by have := HX3.out; omega)
        obtain ⟨y, hy_⟩ : ∃ y, y = x3.getD n default := ⟨_, rfl⟩
        rw [← hy_] at hrd_
        have Hy := Lib.hid hy_
        have hzy_ : szL shI y ≤ 1048576 := by have q1 := szL_at (shL shI) x3 n (by have := HX3.out; omega); rw [← hy_] at q1; exact Nat.le_trans q1 HLX3.out
        clear hy_
        obtain ⟨vy, rfl, hr_⟩ := hrd_
        have Hyr := Lib.hid hr_
        have Hyc0 := Lib.hid (show W.cell? ⟨b1, o1 + n, none⟩ = some vy from by have q := at_cell (j := 0) hat_ rfl; rwa [Nat.add_zero, show (shL shI).n = 1 from rfl, Nat.mul_one] at q)
        clear hat_ hc_ hr_
        obtain ⟨b2, o2, rfl, hc_⟩ := HB3.out.resolve_left (by omega)
        obtain ⟨cs_, hat_, hrd_⟩ := hc_ n (by have := HY3.out; omega)
        obtain ⟨z, hy_⟩ : ∃ y, y = y3.getD n default := ⟨_, rfl⟩
        rw [← hy_] at hrd_
        have Hz := Lib.hid hy_
        have hzz_ : szL shI z ≤ 1048576 := by have q1 := szL_at (shL shI) y3 n (by have := HY3.out; omega); rw [← hy_] at q1; exact Nat.le_trans q1 HLY3.out
        clear hy_
        obtain ⟨vz, rfl, hr_⟩ := hrd_
        have Hzr := Lib.hid hr_
        have Hzc0 := Lib.hid (show W.cell? ⟨b2, o2 + n, none⟩ = some vz from by have q := at_cell (j := 0) hat_ rfl; rwa [Nat.add_zero, show (shL shI).n = 1 from rfl, Nat.mul_one] at q)
        clear hat_ hc_ hr_
        obtain ⟨ly, my, ky, hv_⟩ := RdL.form Hyr.out
        subst hv_
        obtain ⟨lz, mz, kz, hv_⟩ := RdL.form Hzr.out
        subst hv_
        have yc0_ := (G15_.out).cell Hyc0.out (by simp)
        have zc0_ := (G15_.out).cell Hzc0.out (by simp)
        obtain ⟨q, hq_⟩ : ∃ b, b = decide (y = z) := ⟨_, rfl⟩
        have HQ := Lib.hid hq_
        clear hq_
        cases q
        · have HNE := Lib.hid (show ¬ x3.getD n default = y3.getD n default from by rw [← Hy.out, ← Hz.out]; exact of_decide_eq_false HQ.out.symm)
          go_wp2_with fail
          refine wp_region_held_drew (S := fun w' => w'.cell? ⟨W.heap.size, 0, none⟩ = some (v0) ∧ w'.cell? ⟨W.heap.size, 1, none⟩ = some (v1) ∧ w'.cell? ⟨W.heap.size, 2, none⟩ = some (.slice p2 n2 c2) ∧ w'.cell? ⟨W.heap.size, 3, none⟩ = some (.slice (some ⟨b1, o1, none⟩) n3 c3) ∧ w'.cell? ⟨W.heap.size, 4, none⟩ = some (.slice p4 n4 c4) ∧ w'.cell? ⟨W.heap.size + 1, 0, none⟩ = some (u0) ∧ w'.cell? ⟨W.heap.size + 1, 1, none⟩ = some (u1) ∧ w'.cell? ⟨W.heap.size + 1, 2, none⟩ = some (.slice q2 m2 d2) ∧ w'.cell? ⟨W.heap.size + 1, 3, none⟩ = some (.slice (some ⟨b2, o2, none⟩) m3 d3) ∧ w'.cell? ⟨W.heap.size + 1, 4, none⟩ = some (.slice q4 m4 d4) ∧ w'.cell? ⟨b1, o1 + n, none⟩ = some (.slice ly my ky) ∧ w'.cell? ⟨b2, o2 + n, none⟩ = some (.slice lz mz kz)) (by kernel_rfl) (by (try dsimp only); exact ⟨A_0_, A_1_, A_2_, A_3_, A_4_, B_0_, B_1_, B_2_, B_3_, B_4_, yc0_, zc0_⟩) (fun hHeld => ?_)
          refine wpAnyH_take (i := 0) (oi := { dst := some 76, op := Op.fieldAddr 37 (Operand.tmp 2) 3, type := 0, pos := "l38_fabric.go:291", after := #[], guard := none }) (v := ?v0_r1_1) rfl (by kernel_rfl) (by kernel_rfl) (by kernel_rfl) (fun _ _ _ h => h) (Or.inl ⟨by rfl, ?y0_r1_1⟩) (by assumption) ?r0_r1_1
          case y0_r1_1 => (intro w hSw; (try dsimp only at hSw); go_simp; all_goals (with_reducible rfl))
          try simp only [Act.put, List.setIfInBounds_toArray, List.set_cons_zero, List.set_cons_succ]
          refine wpAnyH_take (i := 1) (oi := { dst := some 77, op := Op.load 25 (Operand.tmp 76), type := 25, pos := "l38_fabric.go:291", after := #[{ on := 0, ground := Ground.data }], guard := none }) (v := ?v1_r1_2) rfl (by kernel_rfl) (by kernel_rfl) (by kernel_rfl) (fun _ _ _ h => h) (Or.inl ⟨by rfl, ?y1_r1_2⟩) (by assumption) ?r1_r1_2
          case y1_r1_2 => (intro w hSw; (try dsimp only at hSw); go_simp; all_goals (with_reducible rfl))
          try simp only [Act.put, List.setIfInBounds_toArray, List.set_cons_zero, List.set_cons_succ]
          refine wpAnyH_take (i := 2) (oi := { dst := some 78, op := Op.move (Operand.tmp 6), type := 3, pos := "l38_fabric.go:291", after := #[], guard := none }) (v := ?v2_r1_3) rfl (by kernel_rfl) (by kernel_rfl) (by kernel_rfl) (fun _ _ _ h => h) (Or.inl ⟨by rfl, ?y2_r1_3⟩) (by assumption) ?r2_r1_3
          case y2_r1_3 => (intro w hSw; (try dsimp only at hSw); go_simp; all_goals (with_reducible rfl))
          try simp only [Act.put, List.setIfInBounds_toArray, List.set_cons_zero, List.set_cons_succ]
          refine wpAnyH_take (i := 3) (oi := { dst := some 79, op := Op.indexAddr 25 (Operand.tmp 77) (Operand.tmp 78), type := 0, pos := "l38_fabric.go:291", after := #[{ on := 1, ground := Ground.data }, { on := 2, ground := Ground.data }], guard := none }) (v := ?v3_r1_4) rfl (by kernel_rfl) (by kernel_rfl) (by kernel_rfl) (fun _ _ _ h => h) (Or.inl ⟨by rfl, ?y3_r1_4⟩) (by assumption) ?r3_r1_4
          case y3_r1_4 => (intro w hSw; (try dsimp only at hSw); go_simp; all_goals (with_reducible rfl))
          try simp only [Act.put, List.setIfInBounds_toArray, List.set_cons_zero, List.set_cons_succ]
          refine wpAnyH_take (i := 4) (oi := { dst := some 80, op := Op.load 23 (Operand.tmp 79), type := 23, pos := "l38_fabric.go:291", after := #[{ on := 3, ground := Ground.data }], guard := none }) (v := ?v4_r1_5) rfl (by kernel_rfl) (by kernel_rfl) (by kernel_rfl) (fun _ _ _ h => h) (Or.inl ⟨by rfl, ?y4_r1_5⟩) (by assumption) ?r4_r1_5
          case y4_r1_5 => (intro w hSw; (try dsimp only at hSw); go_simp; all_goals (with_reducible rfl))
          try simp only [Act.put, List.setIfInBounds_toArray, List.set_cons_zero, List.set_cons_succ]
          refine wpAnyH_take (i := 5) (oi := { dst := some 81, op := Op.fieldAddr 37 (Operand.tmp 3) 3, type := 0, pos := "l38_fabric.go:291", after := #[], guard := none }) (v := ?v5_r1_6) rfl (by kernel_rfl) (by kernel_rfl) (by kernel_rfl) (fun _ _ _ h => h) (Or.inl ⟨by rfl, ?y5_r1_6⟩) (by assumption) ?r5_r1_6
          case y5_r1_6 => (intro w hSw; (try dsimp only at hSw); go_simp; all_goals (with_reducible rfl))
          try simp only [Act.put, List.setIfInBounds_toArray, List.set_cons_zero, List.set_cons_succ]
          refine wpAnyH_take (i := 6) (oi := { dst := some 82, op := Op.load 25 (Operand.tmp 81), type := 25, pos := "l38_fabric.go:291", after := #[{ on := 5, ground := Ground.data }], guard := none }) (v := ?v6_r1_7) rfl (by kernel_rfl) (by kernel_rfl) (by kernel_rfl) (fun _ _ _ h => h) (Or.inl ⟨by rfl, ?y6_r1_7⟩) (by assumption) ?r6_r1_7
          case y6_r1_7 => (intro w hSw; (try dsimp only at hSw); go_simp; all_goals (with_reducible rfl))
          try simp only [Act.put, List.setIfInBounds_toArray, List.set_cons_zero, List.set_cons_succ]
          refine wpAnyH_take (i := 7) (oi := { dst := some 83, op := Op.move (Operand.tmp 6), type := 3, pos := "l38_fabric.go:291", after := #[], guard := none }) (v := ?v7_r1_8) rfl (by kernel_rfl) (by kernel_rfl) (by kernel_rfl) (fun _ _ _ h => h) (Or.inl ⟨by rfl, ?y7_r1_8⟩) (by assumption) ?r7_r1_8
          case y7_r1_8 => (intro w hSw; (try dsimp only at hSw); go_simp; all_goals (with_reducible rfl))
          try simp only [Act.put, List.setIfInBounds_toArray, List.set_cons_zero, List.set_cons_succ]
          refine wpAnyH_take (i := 8) (oi := { dst := some 84, op := Op.indexAddr 25 (Operand.tmp 82) (Operand.tmp 83), type := 0, pos := "l38_fabric.go:291", after := #[{ on := 6, ground := Ground.data }, { on := 7, ground := Ground.data }], guard := none }) (v := ?v8_r1_9) rfl (by kernel_rfl) (by kernel_rfl) (by kernel_rfl) (fun _ _ _ h => h) (Or.inl ⟨by rfl, ?y8_r1_9⟩) (by assumption) ?r8_r1_9
          case y8_r1_9 => (intro w hSw; (try dsimp only at hSw); go_simp; all_goals (with_reducible rfl))
          try simp only [Act.put, List.setIfInBounds_toArray, List.set_cons_zero, List.set_cons_succ]
          refine wpAnyH_take (i := 9) (oi := { dst := some 85, op := Op.load 23 (Operand.tmp 84), type := 23, pos := "l38_fabric.go:291", after := #[{ on := 8, ground := Ground.data }], guard := none }) (v := ?v9_r1_10) rfl (by kernel_rfl) (by kernel_rfl) (by kernel_rfl) (fun _ _ _ h => h) (Or.inl ⟨by rfl, ?y9_r1_10⟩) (by assumption) ?r9_r1_10
          case y9_r1_10 => (intro w hSw; (try dsimp only at hSw); go_simp; all_goals (with_reducible rfl))
          try simp only [Act.put, List.setIfInBounds_toArray, List.set_cons_zero, List.set_cons_succ]
          refine wpAnyH_ready (rs := [10]) (by kernel_rfl) (by simp) ?_
          refine AllReadyH.cons (o := { dst := some 86, op := Op.call { callee := Callee.value (Operand.func 49), args := #[Operand.tmp 80, Operand.tmp 85], argTypes := #[23, 23] }, type := 4, pos := "l38_fabric.go:291", after := #[{ on := 4, ground := Ground.data }, { on := 9, ground := Ground.data }], guard := none }) rfl (fun K hK => ?_) AllReadyH.nil
          go_simp
          go_at_call 49
          refine (l04IntsD _ _ _ y z (Hyr.out.grow (gby_trans G15_.out (gby_drew (gby_refl _ none)))) (Hzr.out.grow (gby_trans G15_.out (gby_drew (gby_refl _ none)))) hzy_ hzz_ false HQ.out).mono ?_
          rintro e wH11_r1 ⟨rfl, gH11_r1⟩
          have m11_A_0_ : wH11_r1.cell? _ = some _ := gH11_r1.cell A_0_ (by simp); have m11_A_1_ : wH11_r1.cell? _ = some _ := gH11_r1.cell A_1_ (by simp); have m11_A_2_ : wH11_r1.cell? _ = some _ := gH11_r1.cell A_2_ (by simp); have m11_A_3_ : wH11_r1.cell? _ = some _ := gH11_r1.cell A_3_ (by simp); have m11_A_4_ : wH11_r1.cell? _ = some _ := gH11_r1.cell A_4_ (by simp); have m11_B_0_ : wH11_r1.cell? _ = some _ := gH11_r1.cell B_0_ (by simp); have m11_B_1_ : wH11_r1.cell? _ = some _ := gH11_r1.cell B_1_ (by simp); have m11_B_2_ : wH11_r1.cell? _ = some _ := gH11_r1.cell B_2_ (by simp); have m11_B_3_ : wH11_r1.cell? _ = some _ := gH11_r1.cell B_3_ (by simp); have m11_B_4_ : wH11_r1.cell? _ = some _ := gH11_r1.cell B_4_ (by simp); have m11_yc0_ : wH11_r1.cell? _ = some _ := gH11_r1.cell yc0_ (by simp); have m11_zc0_ : wH11_r1.cell? _ = some _ := gH11_r1.cell zc0_ (by simp)
          go_wp2_with fail
          clear hHeld
          refine hK.out _ _ ?s10_r1_11 (fun hHeld => ?_)
          case s10_r1_11 => exact ⟨m11_A_0_, m11_A_1_, m11_A_2_, m11_A_3_, m11_A_4_, m11_B_0_, m11_B_1_, m11_B_2_, m11_B_3_, m11_B_4_, m11_yc0_, m11_zc0_⟩
          clear hK K
          try simp only [Act.put, List.setIfInBounds_toArray, List.set_cons_zero, List.set_cons_succ]
          refine wpAnyH_take (i := 11) (oi := { dst := some 87, op := Op.unOp UnOp.not 4 (Operand.tmp 86), type := 4, pos := "l38_fabric.go:291", after := #[{ on := 10, ground := Ground.data }], guard := none }) (v := ?v11_r1_12) rfl (by kernel_rfl) (by kernel_rfl) (by kernel_rfl) (fun _ _ _ h => h) (Or.inl ⟨by rfl, ?y11_r1_12⟩) (by assumption) ?r11_r1_12
          case y11_r1_12 => (intro w hSw; (try dsimp only at hSw); go_simp; all_goals (with_reducible rfl))
          try simp only [Act.put, List.setIfInBounds_toArray, List.set_cons_zero, List.set_cons_succ]
          refine wpAnyH_done (by kernel_rfl) ?_ _
          have gR_ : (wo3).grownBy (wH11_r1) none := (gby_trans (gby_drew (gby_refl _ none)) gH11_r1)
          have szwH11_r1 := gR_.size
          try simp only [World.size_alloc] at szwH11_r1
          clear A_0_ A_1_ A_2_ A_3_ A_4_ B_0_ B_1_ B_2_ B_3_ B_4_ yc0_ zc0_
          have rA16_ := Lib.hid (show (wH11_r1).heap[W.heap.size]? = some (.cells #[v0, v1, .slice p2 n2 c2, .slice (some ⟨b1, o1, none⟩) n3 c3, .slice p4 n4 c4] 37 (0, 0)) from row_held gR_ rA13_.out)
          clear rA13_
          have rB17_ := Lib.hid (show (wH11_r1).heap[W.heap.size + 1]? = some (.cells #[u0, u1, .slice q2 m2 d2, .slice (some ⟨b2, o2, none⟩) m3 d3, .slice q4 m4 d4] 37 (0, 0)) from row_held gR_ rB14_.out)
          clear rB14_
          have G18_ := Lib.hid (show (W).grownBy (wH11_r1) none from gby_trans G15_.out gR_)
          have HTB19_ := Lib.hid (show (wo2).grownBy (wH11_r1) none from gby_trans HTB_.out gR_)
          clear HTB_
          clear gR_
          go_wp2
          go_ret
          exact ⟨false, rfl, iff_noF (fun q => HNE.out (by rw [q.2.2.2.1])), G18_.out⟩
        · skip
          go_wp2_with fail
          refine wp_region_held_drew (S := fun w' => w'.cell? ⟨W.heap.size, 0, none⟩ = some (v0) ∧ w'.cell? ⟨W.heap.size, 1, none⟩ = some (v1) ∧ w'.cell? ⟨W.heap.size, 2, none⟩ = some (.slice p2 n2 c2) ∧ w'.cell? ⟨W.heap.size, 3, none⟩ = some (.slice (some ⟨b1, o1, none⟩) n3 c3) ∧ w'.cell? ⟨W.heap.size, 4, none⟩ = some (.slice p4 n4 c4) ∧ w'.cell? ⟨W.heap.size + 1, 0, none⟩ = some (u0) ∧ w'.cell? ⟨W.heap.size + 1, 1, none⟩ = some (u1) ∧ w'.cell? ⟨W.heap.size + 1, 2, none⟩ = some (.slice q2 m2 d2) ∧ w'.cell? ⟨W.heap.size + 1, 3, none⟩ = some (.slice (some ⟨b2, o2, none⟩) m3 d3) ∧ w'.cell? ⟨W.heap.size + 1, 4, none⟩ = some (.slice q4 m4 d4) ∧ w'.cell? ⟨b1, o1 + n, none⟩ = some (.slice ly my ky) ∧ w'.cell? ⟨b2, o2 + n, none⟩ = some (.slice lz mz kz)) (by kernel_rfl) (by (try dsimp only); exact ⟨A_0_, A_1_, A_2_, A_3_, A_4_, B_0_, B_1_, B_2_, B_3_, B_4_, yc0_, zc0_⟩) (fun hHeld => ?_)
          refine wpAnyH_take (i := 0) (oi := { dst := some 76, op := Op.fieldAddr 37 (Operand.tmp 2) 3, type := 0, pos := "l38_fabric.go:291", after := #[], guard := none }) (v := ?v0_r2_1) rfl (by kernel_rfl) (by kernel_rfl) (by kernel_rfl) (fun _ _ _ h => h) (Or.inl ⟨by rfl, ?y0_r2_1⟩) (by assumption) ?r0_r2_1
          case y0_r2_1 => (intro w hSw; (try dsimp only at hSw); go_simp; all_goals (with_reducible rfl))
          try simp only [Act.put, List.setIfInBounds_toArray, List.set_cons_zero, List.set_cons_succ]
          refine wpAnyH_take (i := 1) (oi := { dst := some 77, op := Op.load 25 (Operand.tmp 76), type := 25, pos := "l38_fabric.go:291", after := #[{ on := 0, ground := Ground.data }], guard := none }) (v := ?v1_r2_2) rfl (by kernel_rfl) (by kernel_rfl) (by kernel_rfl) (fun _ _ _ h => h) (Or.inl ⟨by rfl, ?y1_r2_2⟩) (by assumption) ?r1_r2_2
          case y1_r2_2 => (intro w hSw; (try dsimp only at hSw); go_simp; all_goals (with_reducible rfl))
          try simp only [Act.put, List.setIfInBounds_toArray, List.set_cons_zero, List.set_cons_succ]
          refine wpAnyH_take (i := 2) (oi := { dst := some 78, op := Op.move (Operand.tmp 6), type := 3, pos := "l38_fabric.go:291", after := #[], guard := none }) (v := ?v2_r2_3) rfl (by kernel_rfl) (by kernel_rfl) (by kernel_rfl) (fun _ _ _ h => h) (Or.inl ⟨by rfl, ?y2_r2_3⟩) (by assumption) ?r2_r2_3
          case y2_r2_3 => (intro w hSw; (try dsimp only at hSw); go_simp; all_goals (with_reducible rfl))
          try simp only [Act.put, List.setIfInBounds_toArray, List.set_cons_zero, List.set_cons_succ]
          refine wpAnyH_take (i := 3) (oi := { dst := some 79, op := Op.indexAddr 25 (Operand.tmp 77) (Operand.tmp 78), type := 0, pos := "l38_fabric.go:291", after := #[{ on := 1, ground := Ground.data }, { on := 2, ground := Ground.data }], guard := none }) (v := ?v3_r2_4) rfl (by kernel_rfl) (by kernel_rfl) (by kernel_rfl) (fun _ _ _ h => h) (Or.inl ⟨by rfl, ?y3_r2_4⟩) (by assumption) ?r3_r2_4
          case y3_r2_4 => (intro w hSw; (try dsimp only at hSw); go_simp; all_goals (with_reducible rfl))
          try simp only [Act.put, List.setIfInBounds_toArray, List.set_cons_zero, List.set_cons_succ]
          refine wpAnyH_take (i := 4) (oi := { dst := some 80, op := Op.load 23 (Operand.tmp 79), type := 23, pos := "l38_fabric.go:291", after := #[{ on := 3, ground := Ground.data }], guard := none }) (v := ?v4_r2_5) rfl (by kernel_rfl) (by kernel_rfl) (by kernel_rfl) (fun _ _ _ h => h) (Or.inl ⟨by rfl, ?y4_r2_5⟩) (by assumption) ?r4_r2_5
          case y4_r2_5 => (intro w hSw; (try dsimp only at hSw); go_simp; all_goals (with_reducible rfl))
          try simp only [Act.put, List.setIfInBounds_toArray, List.set_cons_zero, List.set_cons_succ]
          refine wpAnyH_take (i := 5) (oi := { dst := some 81, op := Op.fieldAddr 37 (Operand.tmp 3) 3, type := 0, pos := "l38_fabric.go:291", after := #[], guard := none }) (v := ?v5_r2_6) rfl (by kernel_rfl) (by kernel_rfl) (by kernel_rfl) (fun _ _ _ h => h) (Or.inl ⟨by rfl, ?y5_r2_6⟩) (by assumption) ?r5_r2_6
          case y5_r2_6 => (intro w hSw; (try dsimp only at hSw); go_simp; all_goals (with_reducible rfl))
          try simp only [Act.put, List.setIfInBounds_toArray, List.set_cons_zero, List.set_cons_succ]
          refine wpAnyH_take (i := 6) (oi := { dst := some 82, op := Op.load 25 (Operand.tmp 81), type := 25, pos := "l38_fabric.go:291", after := #[{ on := 5, ground := Ground.data }], guard := none }) (v := ?v6_r2_7) rfl (by kernel_rfl) (by kernel_rfl) (by kernel_rfl) (fun _ _ _ h => h) (Or.inl ⟨by rfl, ?y6_r2_7⟩) (by assumption) ?r6_r2_7
          case y6_r2_7 => (intro w hSw; (try dsimp only at hSw); go_simp; all_goals (with_reducible rfl))
          try simp only [Act.put, List.setIfInBounds_toArray, List.set_cons_zero, List.set_cons_succ]
          refine wpAnyH_take (i := 7) (oi := { dst := some 83, op := Op.move (Operand.tmp 6), type := 3, pos := "l38_fabric.go:291", after := #[], guard := none }) (v := ?v7_r2_8) rfl (by kernel_rfl) (by kernel_rfl) (by kernel_rfl) (fun _ _ _ h => h) (Or.inl ⟨by rfl, ?y7_r2_8⟩) (by assumption) ?r7_r2_8
          case y7_r2_8 => (intro w hSw; (try dsimp only at hSw); go_simp; all_goals (with_reducible rfl))
          try simp only [Act.put, List.setIfInBounds_toArray, List.set_cons_zero, List.set_cons_succ]
          refine wpAnyH_take (i := 8) (oi := { dst := some 84, op := Op.indexAddr 25 (Operand.tmp 82) (Operand.tmp 83), type := 0, pos := "l38_fabric.go:291", after := #[{ on := 6, ground := Ground.data }, { on := 7, ground := Ground.data }], guard := none }) (v := ?v8_r2_9) rfl (by kernel_rfl) (by kernel_rfl) (by kernel_rfl) (fun _ _ _ h => h) (Or.inl ⟨by rfl, ?y8_r2_9⟩) (by assumption) ?r8_r2_9
          case y8_r2_9 => (intro w hSw; (try dsimp only at hSw); go_simp; all_goals (with_reducible rfl))
          try simp only [Act.put, List.setIfInBounds_toArray, List.set_cons_zero, List.set_cons_succ]
          refine wpAnyH_take (i := 9) (oi := { dst := some 85, op := Op.load 23 (Operand.tmp 84), type := 23, pos := "l38_fabric.go:291", after := #[{ on := 8, ground := Ground.data }], guard := none }) (v := ?v9_r2_10) rfl (by kernel_rfl) (by kernel_rfl) (by kernel_rfl) (fun _ _ _ h => h) (Or.inl ⟨by rfl, ?y9_r2_10⟩) (by assumption) ?r9_r2_10
          case y9_r2_10 => (intro w hSw; (try dsimp only at hSw); go_simp; all_goals (with_reducible rfl))
          try simp only [Act.put, List.setIfInBounds_toArray, List.set_cons_zero, List.set_cons_succ]
          refine wpAnyH_ready (rs := [10]) (by kernel_rfl) (by simp) ?_
          refine AllReadyH.cons (o := { dst := some 86, op := Op.call { callee := Callee.value (Operand.func 49), args := #[Operand.tmp 80, Operand.tmp 85], argTypes := #[23, 23] }, type := 4, pos := "l38_fabric.go:291", after := #[{ on := 4, ground := Ground.data }, { on := 9, ground := Ground.data }], guard := none }) rfl (fun K hK => ?_) AllReadyH.nil
          go_simp
          go_at_call 49
          refine (l04IntsD _ _ _ y z (Hyr.out.grow (gby_trans G15_.out (gby_drew (gby_refl _ none)))) (Hzr.out.grow (gby_trans G15_.out (gby_drew (gby_refl _ none)))) hzy_ hzz_ true HQ.out).mono ?_
          rintro e wH11_r2 ⟨rfl, gH11_r2⟩
          have m11_A_0_ : wH11_r2.cell? _ = some _ := gH11_r2.cell A_0_ (by simp); have m11_A_1_ : wH11_r2.cell? _ = some _ := gH11_r2.cell A_1_ (by simp); have m11_A_2_ : wH11_r2.cell? _ = some _ := gH11_r2.cell A_2_ (by simp); have m11_A_3_ : wH11_r2.cell? _ = some _ := gH11_r2.cell A_3_ (by simp); have m11_A_4_ : wH11_r2.cell? _ = some _ := gH11_r2.cell A_4_ (by simp); have m11_B_0_ : wH11_r2.cell? _ = some _ := gH11_r2.cell B_0_ (by simp); have m11_B_1_ : wH11_r2.cell? _ = some _ := gH11_r2.cell B_1_ (by simp); have m11_B_2_ : wH11_r2.cell? _ = some _ := gH11_r2.cell B_2_ (by simp); have m11_B_3_ : wH11_r2.cell? _ = some _ := gH11_r2.cell B_3_ (by simp); have m11_B_4_ : wH11_r2.cell? _ = some _ := gH11_r2.cell B_4_ (by simp); have m11_yc0_ : wH11_r2.cell? _ = some _ := gH11_r2.cell yc0_ (by simp); have m11_zc0_ : wH11_r2.cell? _ = some _ := gH11_r2.cell zc0_ (by simp)
          go_wp2_with fail
          clear hHeld
          refine hK.out _ _ ?s10_r2_11 (fun hHeld => ?_)
          case s10_r2_11 => exact ⟨m11_A_0_, m11_A_1_, m11_A_2_, m11_A_3_, m11_A_4_, m11_B_0_, m11_B_1_, m11_B_2_, m11_B_3_, m11_B_4_, m11_yc0_, m11_zc0_⟩
          clear hK K
          try simp only [Act.put, List.setIfInBounds_toArray, List.set_cons_zero, List.set_cons_succ]
          refine wpAnyH_take (i := 11) (oi := { dst := some 87, op := Op.unOp UnOp.not 4 (Operand.tmp 86), type := 4, pos := "l38_fabric.go:291", after := #[{ on := 10, ground := Ground.data }], guard := none }) (v := ?v11_r2_12) rfl (by kernel_rfl) (by kernel_rfl) (by kernel_rfl) (fun _ _ _ h => h) (Or.inl ⟨by rfl, ?y11_r2_12⟩) (by assumption) ?r11_r2_12
          case y11_r2_12 => (intro w hSw; (try dsimp only at hSw); go_simp; all_goals (with_reducible rfl))
          try simp only [Act.put, List.setIfInBounds_toArray, List.set_cons_zero, List.set_cons_succ]
          refine wpAnyH_done (by kernel_rfl) ?_ _
          have gR_ : (wo3).grownBy (wH11_r2) none := (gby_trans (gby_drew (gby_refl _ none)) gH11_r2)
          have szwH11_r2 := gR_.size
          try simp only [World.size_alloc] at szwH11_r2
          clear A_0_ A_1_ A_2_ A_3_ A_4_ B_0_ B_1_ B_2_ B_3_ B_4_ yc0_ zc0_
          have rA16_ := Lib.hid (show (wH11_r2).heap[W.heap.size]? = some (.cells #[v0, v1, .slice p2 n2 c2, .slice (some ⟨b1, o1, none⟩) n3 c3, .slice p4 n4 c4] 37 (0, 0)) from row_held gR_ rA13_.out)
          clear rA13_
          have rB17_ := Lib.hid (show (wH11_r2).heap[W.heap.size + 1]? = some (.cells #[u0, u1, .slice q2 m2 d2, .slice (some ⟨b2, o2, none⟩) m3 d3, .slice q4 m4 d4] 37 (0, 0)) from row_held gR_ rB14_.out)
          clear rB14_
          have G18_ := Lib.hid (show (W).grownBy (wH11_r2) none from gby_trans G15_.out gR_)
          have HTB19_ := Lib.hid (show (wo2).grownBy (wH11_r2) none from gby_trans HTB_.out gR_)
          clear HTB_
          clear gR_
          go_wp2
          refine ⟨⟨n + 1, by go_num, by omega, fun j hj => ?_, HTB19_.out⟩, by simp [intOf]; omega⟩
          by_cases e : j = n
          · subst e; rw [← Hy.out, ← Hz.out]; exact of_decide_eq_true HQ.out.symm
          · exact HJ.out j (by omega)
    have hmm_ : n < m2 := by have := HQ2.out; omega
    have hmi_ : (n : Int) < (m2 : Int) := by omega
    have hki : (n : Int) < (n2 : Int) := by omega
    obtain ⟨b1, o1, rfl, hc_⟩ := HA2.out.resolve_left (by omega)
    obtain ⟨cs_, hat_, hrd_⟩ := hc_ n (by have := HX2.out; omega)
    obtain ⟨y, hy_⟩ : ∃ y, y = x2.getD n default := ⟨_, rfl⟩
    rw [← hy_] at hrd_
    have Hy := Lib.hid hy_
    clear hy_
    obtain rfl := hrd_
    obtain ⟨y0, y1⟩ := y
    dsimp only at hat_
    have Hyc0 := Lib.hid (show W.cell? ⟨b1, o1 + n * 2, none⟩ = some (.int .i64 y0) from at_cell (j := 0) hat_ rfl)
    have Hyc1 := Lib.hid (show W.cell? ⟨b1, o1 + n * 2 + 1, none⟩ = some (.int .i64 y1) from at_cell (j := 1) hat_ rfl)
    clear hat_ hc_
    obtain ⟨b2, o2, rfl, hc_⟩ := HB2.out.resolve_left (by omega)
    obtain ⟨cs_, hat_, hrd_⟩ := hc_ n (by have := HY2.out; omega)
    obtain ⟨z, hy_⟩ : ∃ y, y = y2.getD n default := ⟨_, rfl⟩
    rw [← hy_] at hrd_
    have Hz := Lib.hid hy_
    clear hy_
    obtain rfl := hrd_
    obtain ⟨z0, z1⟩ := z
    dsimp only at hat_
    have Hzc0 := Lib.hid (show W.cell? ⟨b2, o2 + n * 2, none⟩ = some (.int .i64 z0) from at_cell (j := 0) hat_ rfl)
    have Hzc1 := Lib.hid (show W.cell? ⟨b2, o2 + n * 2 + 1, none⟩ = some (.int .i64 z1) from at_cell (j := 1) hat_ rfl)
    clear hat_ hc_
    have yc0_ := (G12_.out).cell Hyc0.out (by simp)
    have yc1_ := (G12_.out).cell Hyc1.out (by simp)
    have zc0_ := (G12_.out).cell Hzc0.out (by simp)
    have zc1_ := (G12_.out).cell Hzc1.out (by simp)
    by_cases h0 : y0 = z0
    rotate_left
    · have hb0 : (y0 == z0) = false := by simpa using h0
      have HNE := Lib.hid (show ¬ x2.getD n default = y2.getD n default from by rw [← Hy.out, ← Hz.out]; intro e; injection e with e1 e2; exact h0 e1)
      clear h0
      go_wp2_with fail
      go_quiet (fail)
      go_wp2
      go_ret
      exact ⟨false, rfl, iff_noF (fun q => HNE.out (by rw [q.2.2.1])), by repeat (first | exact G12_.out | with_reducible refine gby_drewN ?_ _)⟩
    have hb0 : (y0 == z0) = true := by simpa using h0
    have HE_0 := Lib.hid h0
    clear h0
    by_cases h1 : y1 = z1
    rotate_left
    · have hb1 : (y1 == z1) = false := by simpa using h1
      have HNE := Lib.hid (show ¬ x2.getD n default = y2.getD n default from by rw [← Hy.out, ← Hz.out]; intro e; injection e with e1 e2; exact h1 e2)
      clear h1
      go_wp2_with fail
      go_quiet (fail)
      go_wp2
      go_ret
      exact ⟨false, rfl, iff_noF (fun q => HNE.out (by rw [q.2.2.1])), by repeat (first | exact G12_.out | with_reducible refine gby_drewN ?_ _)⟩
    have hb1 : (y1 == z1) = true := by simpa using h1
    have HE_1 := Lib.hid h1
    clear h1
    go_wp2_with fail
    go_quiet (fail)
    go_wp2
    refine ⟨⟨n + 1, by go_num, by omega, fun j hj => ?_, by repeat (first | exact HTB_.out | with_reducible refine gby_drewN ?_ _)⟩, by simp [intOf]; omega⟩
    by_cases e : j = n
    · subst e; rw [← Hy.out, ← Hz.out, HE_0.out, HE_1.out]
    · exact HJ.out j (by omega)

end Go.Proofs.Ytnighnkkeiegnab
