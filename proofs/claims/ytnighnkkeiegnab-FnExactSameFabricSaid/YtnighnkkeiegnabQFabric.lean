/-
  Fabric by value, on the law's side: measured, copied, compared, marked, held.
-/
import Derived.Test.YtnighnkkeiegnabShpI
import Derived.Test.YtnighnkkeiegnabDBar
import Derived.Test.YtnighnkkeiegnabDNode
import Derived.Test.YtnighnkkeiegnabQGuard
import Derived.Test.YtnighnkkeiegnabQSBar
import Derived.Test.YtnighnkkeiegnabQSIntS
import Derived.Test.YtnighnkkeiegnabQSNode
namespace Go.Proofs.Ytnighnkkeiegnab
open Go Go.RowKit
set_option linter.unusedVariables false

/-- a value of Fabric -/
def vFabric (v0 : Value) (v1 : Value) (v2 : Value) (v3 : Value) (v4 : Value) : Value := .agg #[v0, v1, v2, v3, v4]

set_option maxRecDepth 8000 in
set_option maxHeartbeats 2000000 in
theorem szFabric_d (W : World) (n : Int) (v0 : Value) (v1 : Value) (v2 : Value) (v3 : Value) (v4 : Value) (xs0 : List DNode) (xs1 : List Int) (xs2 : List DBar) (xs3 : List (List Int)) (xs4 : List Bool) (H0 : RdL shNode W v0 xs0) (H1 : RdL shI W v1 xs1) (H2 : RdL shBar W v2 xs2) (H3 : RdL (shL shI) W v3 xs3) (H4 : RdL shB W v4 xs4) (hn : n ≤ 1048576) (h0 : 0 ≤ n) :
    Calls Try.prog 10 #[vFabric v0 v1 v2 v3 v4, .int .i64 n] W (AnsN (.int .i64 (lessN n (szL shNode xs0 + szL shI xs1 + szL shBar xs2 + szL (shL shI) xs3 + szL shB xs4))) W) := by
  obtain ⟨t0, ht0⟩ : ∃ t, t = szL shNode xs0 := ⟨_, rfl⟩
  obtain ⟨t1, ht1⟩ : ∃ t, t = szL shI xs1 := ⟨_, rfl⟩
  obtain ⟨t2, ht2⟩ : ∃ t, t = szL shBar xs2 := ⟨_, rfl⟩
  obtain ⟨t3, ht3⟩ : ∃ t, t = szL (shL shI) xs3 := ⟨_, rfl⟩
  obtain ⟨t4, ht4⟩ : ∃ t, t = szL shB xs4 := ⟨_, rfl⟩
  rw [show (szL shNode xs0 + szL shI xs1 + szL shBar xs2 + szL (shL shI) xs3 + szL shB xs4) = t0 + t1 + t2 + t3 + t4 by omega]
  have HT0 := Lib.hid ht0
  clear ht0
  have HT1 := Lib.hid ht1
  clear ht1
  have HT2 := Lib.hid ht2
  clear ht2
  have HT3 := Lib.hid ht3
  clear ht3
  have HT4 := Lib.hid ht4
  clear ht4
  have HI0 := Lib.hid H0
  clear H0
  have HI1 := Lib.hid H1
  clear H1
  have HI2 := Lib.hid H2
  clear H2
  have HI3 := Lib.hid H3
  clear H3
  have HI4 := Lib.hid H4
  clear H4
  unfold vFabric
  by_cases h0_ : n < (t0 : Int)
  · rw [show lessN n (t0 + t1 + t2 + t3 + t4) = -1 from if_pos (by omega)]
    go_enter Try.func10, Try.ntmps10
    have rA1_ := Lib.hid (show ((W.alloc (.cells #[v0, v1, v2, v3, v4] 30))).heap[W.heap.size]? = some (.cells #[v0, v1, v2, v3, v4] 30 (0, 0)) from by exact heap_alloc_new _ _)
    have G2_ := Lib.hid (show (W).grownBy ((W.alloc (.cells #[v0, v1, v2, v3, v4] 30))) none from (gby_alloc (gby_refl _ _) _))
    have A_0_ : ((W.alloc (.cells #[v0, v1, v2, v3, v4] 30))).cell? ⟨W.heap.size, 0, none⟩ = some (v0) := cell_of_row _ _ 0 _ _ _ rA1_.out
    have A_1_ : ((W.alloc (.cells #[v0, v1, v2, v3, v4] 30))).cell? ⟨W.heap.size, 1, none⟩ = some (v1) := cell_of_row _ _ 1 _ _ _ rA1_.out
    have A_2_ : ((W.alloc (.cells #[v0, v1, v2, v3, v4] 30))).cell? ⟨W.heap.size, 2, none⟩ = some (v2) := cell_of_row _ _ 2 _ _ _ rA1_.out
    have A_3_ : ((W.alloc (.cells #[v0, v1, v2, v3, v4] 30))).cell? ⟨W.heap.size, 3, none⟩ = some (v3) := cell_of_row _ _ 3 _ _ _ rA1_.out
    have A_4_ : ((W.alloc (.cells #[v0, v1, v2, v3, v4] 30))).cell? ⟨W.heap.size, 4, none⟩ = some (v4) := cell_of_row _ _ 4 _ _ _ rA1_.out
    go_wp2_with fail
    go_at_call 44
    refine (szNodeS_d _ _ v0 xs0 (HI0.out.grow G2_.out) (by omega) (by omega)).mono ?_
    rintro e w1 ⟨he, g⟩
    rw [← HT0.out, show lessN _ t0 = -1 from if_pos (by omega)] at he
    subst he
    clear A_0_ A_1_ A_2_ A_3_ A_4_
    have rA3_ := Lib.hid (show (w1).heap[W.heap.size]? = some (.cells #[v0, v1, v2, v3, v4] 30 (0, 0)) from row_held g rA1_.out)
    clear rA1_
    have G4_ := Lib.hid (show (W).grownBy (w1) none from gby_trans G2_.out g)
    clear g
    have hm1 : (-1 : Int) < 0 := by omega
    go_wp2
    go_ret
    exact ⟨rfl, G4_.out⟩
  by_cases h1_ : n - (t0 : Int) < (t1 : Int)
  · rw [show lessN n (t0 + t1 + t2 + t3 + t4) = -1 from if_pos (by omega)]
    go_enter Try.func10, Try.ntmps10
    have rA1_ := Lib.hid (show ((W.alloc (.cells #[v0, v1, v2, v3, v4] 30))).heap[W.heap.size]? = some (.cells #[v0, v1, v2, v3, v4] 30 (0, 0)) from by exact heap_alloc_new _ _)
    have G2_ := Lib.hid (show (W).grownBy ((W.alloc (.cells #[v0, v1, v2, v3, v4] 30))) none from (gby_alloc (gby_refl _ _) _))
    have A_0_ : ((W.alloc (.cells #[v0, v1, v2, v3, v4] 30))).cell? ⟨W.heap.size, 0, none⟩ = some (v0) := cell_of_row _ _ 0 _ _ _ rA1_.out
    have A_1_ : ((W.alloc (.cells #[v0, v1, v2, v3, v4] 30))).cell? ⟨W.heap.size, 1, none⟩ = some (v1) := cell_of_row _ _ 1 _ _ _ rA1_.out
    have A_2_ : ((W.alloc (.cells #[v0, v1, v2, v3, v4] 30))).cell? ⟨W.heap.size, 2, none⟩ = some (v2) := cell_of_row _ _ 2 _ _ _ rA1_.out
    have A_3_ : ((W.alloc (.cells #[v0, v1, v2, v3, v4] 30))).cell? ⟨W.heap.size, 3, none⟩ = some (v3) := cell_of_row _ _ 3 _ _ _ rA1_.out
    have A_4_ : ((W.alloc (.cells #[v0, v1, v2, v3, v4] 30))).cell? ⟨W.heap.size, 4, none⟩ = some (v4) := cell_of_row _ _ 4 _ _ _ rA1_.out
    go_wp2_with fail
    go_at_call 44
    refine (szNodeS_d _ _ v0 xs0 (HI0.out.grow G2_.out) (by omega) (by omega)).mono ?_
    rintro e w1 ⟨he, g⟩
    rw [← HT0.out, show lessN _ t0 = n - (t0 : Int) from (if_neg (by omega)).trans (by omega)] at he
    subst he
    clear A_0_ A_1_ A_2_ A_3_ A_4_
    have rA3_ := Lib.hid (show (w1).heap[W.heap.size]? = some (.cells #[v0, v1, v2, v3, v4] 30 (0, 0)) from row_held g rA1_.out)
    clear rA1_
    have G4_ := Lib.hid (show (W).grownBy (w1) none from gby_trans G2_.out g)
    clear g
    have A_0_ : (w1).cell? ⟨W.heap.size, 0, none⟩ = some (v0) := cell_of_row _ _ 0 _ _ _ rA3_.out
    have A_1_ : (w1).cell? ⟨W.heap.size, 1, none⟩ = some (v1) := cell_of_row _ _ 1 _ _ _ rA3_.out
    have A_2_ : (w1).cell? ⟨W.heap.size, 2, none⟩ = some (v2) := cell_of_row _ _ 2 _ _ _ rA3_.out
    have A_3_ : (w1).cell? ⟨W.heap.size, 3, none⟩ = some (v3) := cell_of_row _ _ 3 _ _ _ rA3_.out
    have A_4_ : (w1).cell? ⟨W.heap.size, 4, none⟩ = some (v4) := cell_of_row _ _ 4 _ _ _ rA3_.out
    go_wp2_with fail
    go_at_call 45
    refine (szIntS_d _ _ v1 xs1 (HI1.out.grow G4_.out) (by omega) (by omega)).mono ?_
    rintro e w2 ⟨he, g⟩
    rw [← HT1.out, show lessN _ t1 = -1 from if_pos (by omega)] at he
    subst he
    clear A_0_ A_1_ A_2_ A_3_ A_4_
    have rA5_ := Lib.hid (show (w2).heap[W.heap.size]? = some (.cells #[v0, v1, v2, v3, v4] 30 (0, 0)) from row_held g rA3_.out)
    clear rA3_
    have G6_ := Lib.hid (show (W).grownBy (w2) none from gby_trans G4_.out g)
    clear g
    have hm1 : (-1 : Int) < 0 := by omega
    go_wp2
    go_ret
    exact ⟨rfl, G6_.out⟩
  by_cases h2_ : n - (t0 : Int) - (t1 : Int) < (t2 : Int)
  · rw [show lessN n (t0 + t1 + t2 + t3 + t4) = -1 from if_pos (by omega)]
    go_enter Try.func10, Try.ntmps10
    have rA1_ := Lib.hid (show ((W.alloc (.cells #[v0, v1, v2, v3, v4] 30))).heap[W.heap.size]? = some (.cells #[v0, v1, v2, v3, v4] 30 (0, 0)) from by exact heap_alloc_new _ _)
    have G2_ := Lib.hid (show (W).grownBy ((W.alloc (.cells #[v0, v1, v2, v3, v4] 30))) none from (gby_alloc (gby_refl _ _) _))
    have A_0_ : ((W.alloc (.cells #[v0, v1, v2, v3, v4] 30))).cell? ⟨W.heap.size, 0, none⟩ = some (v0) := cell_of_row _ _ 0 _ _ _ rA1_.out
    have A_1_ : ((W.alloc (.cells #[v0, v1, v2, v3, v4] 30))).cell? ⟨W.heap.size, 1, none⟩ = some (v1) := cell_of_row _ _ 1 _ _ _ rA1_.out
    have A_2_ : ((W.alloc (.cells #[v0, v1, v2, v3, v4] 30))).cell? ⟨W.heap.size, 2, none⟩ = some (v2) := cell_of_row _ _ 2 _ _ _ rA1_.out
    have A_3_ : ((W.alloc (.cells #[v0, v1, v2, v3, v4] 30))).cell? ⟨W.heap.size, 3, none⟩ = some (v3) := cell_of_row _ _ 3 _ _ _ rA1_.out
    have A_4_ : ((W.alloc (.cells #[v0, v1, v2, v3, v4] 30))).cell? ⟨W.heap.size, 4, none⟩ = some (v4) := cell_of_row _ _ 4 _ _ _ rA1_.out
    go_wp2_with fail
    go_at_call 44
    refine (szNodeS_d _ _ v0 xs0 (HI0.out.grow G2_.out) (by omega) (by omega)).mono ?_
    rintro e w1 ⟨he, g⟩
    rw [← HT0.out, show lessN _ t0 = n - (t0 : Int) from (if_neg (by omega)).trans (by omega)] at he
    subst he
    clear A_0_ A_1_ A_2_ A_3_ A_4_
    have rA3_ := Lib.hid (show (w1).heap[W.heap.size]? = some (.cells #[v0, v1, v2, v3, v4] 30 (0, 0)) from row_held g rA1_.out)
    clear rA1_
    have G4_ := Lib.hid (show (W).grownBy (w1) none from gby_trans G2_.out g)
    clear g
    have A_0_ : (w1).cell? ⟨W.heap.size, 0, none⟩ = some (v0) := cell_of_row _ _ 0 _ _ _ rA3_.out
    have A_1_ : (w1).cell? ⟨W.heap.size, 1, none⟩ = some (v1) := cell_of_row _ _ 1 _ _ _ rA3_.out
    have A_2_ : (w1).cell? ⟨W.heap.size, 2, none⟩ = some (v2) := cell_of_row _ _ 2 _ _ _ rA3_.out
    have A_3_ : (w1).cell? ⟨W.heap.size, 3, none⟩ = some (v3) := cell_of_row _ _ 3 _ _ _ rA3_.out
    have A_4_ : (w1).cell? ⟨W.heap.size, 4, none⟩ = some (v4) := cell_of_row _ _ 4 _ _ _ rA3_.out
    go_wp2_with fail
    go_at_call 45
    refine (szIntS_d _ _ v1 xs1 (HI1.out.grow G4_.out) (by omega) (by omega)).mono ?_
    rintro e w2 ⟨he, g⟩
    rw [← HT1.out, show lessN _ t1 = n - (t0 : Int) - (t1 : Int) from (if_neg (by omega)).trans (by omega)] at he
    subst he
    clear A_0_ A_1_ A_2_ A_3_ A_4_
    have rA5_ := Lib.hid (show (w2).heap[W.heap.size]? = some (.cells #[v0, v1, v2, v3, v4] 30 (0, 0)) from row_held g rA3_.out)
    clear rA3_
    have G6_ := Lib.hid (show (W).grownBy (w2) none from gby_trans G4_.out g)
    clear g
    have A_0_ : (w2).cell? ⟨W.heap.size, 0, none⟩ = some (v0) := cell_of_row _ _ 0 _ _ _ rA5_.out
    have A_1_ : (w2).cell? ⟨W.heap.size, 1, none⟩ = some (v1) := cell_of_row _ _ 1 _ _ _ rA5_.out
    have A_2_ : (w2).cell? ⟨W.heap.size, 2, none⟩ = some (v2) := cell_of_row _ _ 2 _ _ _ rA5_.out
    have A_3_ : (w2).cell? ⟨W.heap.size, 3, none⟩ = some (v3) := cell_of_row _ _ 3 _ _ _ rA5_.out
    have A_4_ : (w2).cell? ⟨W.heap.size, 4, none⟩ = some (v4) := cell_of_row _ _ 4 _ _ _ rA5_.out
    go_wp2_with fail
    go_at_call 46
    refine (szBarS_d _ _ v2 xs2 (HI2.out.grow G6_.out) (by omega) (by omega)).mono ?_
    rintro e w3 ⟨he, g⟩
    rw [← HT2.out, show lessN _ t2 = -1 from if_pos (by omega)] at he
    subst he
    clear A_0_ A_1_ A_2_ A_3_ A_4_
    have rA7_ := Lib.hid (show (w3).heap[W.heap.size]? = some (.cells #[v0, v1, v2, v3, v4] 30 (0, 0)) from row_held g rA5_.out)
    clear rA5_
    have G8_ := Lib.hid (show (W).grownBy (w3) none from gby_trans G6_.out g)
    clear g
    have hm1 : (-1 : Int) < 0 := by omega
    go_wp2
    go_ret
    exact ⟨rfl, G8_.out⟩
  by_cases h3_ : n - (t0 : Int) - (t1 : Int) - (t2 : Int) < (t3 : Int)
  · rw [show lessN n (t0 + t1 + t2 + t3 + t4) = -1 from if_pos (by omega)]
    go_enter Try.func10, Try.ntmps10
    have rA1_ := Lib.hid (show ((W.alloc (.cells #[v0, v1, v2, v3, v4] 30))).heap[W.heap.size]? = some (.cells #[v0, v1, v2, v3, v4] 30 (0, 0)) from by exact heap_alloc_new _ _)
    have G2_ := Lib.hid (show (W).grownBy ((W.alloc (.cells #[v0, v1, v2, v3, v4] 30))) none from (gby_alloc (gby_refl _ _) _))
    have A_0_ : ((W.alloc (.cells #[v0, v1, v2, v3, v4] 30))).cell? ⟨W.heap.size, 0, none⟩ = some (v0) := cell_of_row _ _ 0 _ _ _ rA1_.out
    have A_1_ : ((W.alloc (.cells #[v0, v1, v2, v3, v4] 30))).cell? ⟨W.heap.size, 1, none⟩ = some (v1) := cell_of_row _ _ 1 _ _ _ rA1_.out
    have A_2_ : ((W.alloc (.cells #[v0, v1, v2, v3, v4] 30))).cell? ⟨W.heap.size, 2, none⟩ = some (v2) := cell_of_row _ _ 2 _ _ _ rA1_.out
    have A_3_ : ((W.alloc (.cells #[v0, v1, v2, v3, v4] 30))).cell? ⟨W.heap.size, 3, none⟩ = some (v3) := cell_of_row _ _ 3 _ _ _ rA1_.out
    have A_4_ : ((W.alloc (.cells #[v0, v1, v2, v3, v4] 30))).cell? ⟨W.heap.size, 4, none⟩ = some (v4) := cell_of_row _ _ 4 _ _ _ rA1_.out
    go_wp2_with fail
    go_at_call 44
    refine (szNodeS_d _ _ v0 xs0 (HI0.out.grow G2_.out) (by omega) (by omega)).mono ?_
    rintro e w1 ⟨he, g⟩
    rw [← HT0.out, show lessN _ t0 = n - (t0 : Int) from (if_neg (by omega)).trans (by omega)] at he
    subst he
    clear A_0_ A_1_ A_2_ A_3_ A_4_
    have rA3_ := Lib.hid (show (w1).heap[W.heap.size]? = some (.cells #[v0, v1, v2, v3, v4] 30 (0, 0)) from row_held g rA1_.out)
    clear rA1_
    have G4_ := Lib.hid (show (W).grownBy (w1) none from gby_trans G2_.out g)
    clear g
    have A_0_ : (w1).cell? ⟨W.heap.size, 0, none⟩ = some (v0) := cell_of_row _ _ 0 _ _ _ rA3_.out
    have A_1_ : (w1).cell? ⟨W.heap.size, 1, none⟩ = some (v1) := cell_of_row _ _ 1 _ _ _ rA3_.out
    have A_2_ : (w1).cell? ⟨W.heap.size, 2, none⟩ = some (v2) := cell_of_row _ _ 2 _ _ _ rA3_.out
    have A_3_ : (w1).cell? ⟨W.heap.size, 3, none⟩ = some (v3) := cell_of_row _ _ 3 _ _ _ rA3_.out
    have A_4_ : (w1).cell? ⟨W.heap.size, 4, none⟩ = some (v4) := cell_of_row _ _ 4 _ _ _ rA3_.out
    go_wp2_with fail
    go_at_call 45
    refine (szIntS_d _ _ v1 xs1 (HI1.out.grow G4_.out) (by omega) (by omega)).mono ?_
    rintro e w2 ⟨he, g⟩
    rw [← HT1.out, show lessN _ t1 = n - (t0 : Int) - (t1 : Int) from (if_neg (by omega)).trans (by omega)] at he
    subst he
    clear A_0_ A_1_ A_2_ A_3_ A_4_
    have rA5_ := Lib.hid (show (w2).heap[W.heap.size]? = some (.cells #[v0, v1, v2, v3, v4] 30 (0, 0)) from row_held g rA3_.out)
    clear rA3_
    have G6_ := Lib.hid (show (W).grownBy (w2) none from gby_trans G4_.out g)
    clear g
    have A_0_ : (w2).cell? ⟨W.heap.size, 0, none⟩ = some (v0) := cell_of_row _ _ 0 _ _ _ rA5_.out
    have A_1_ : (w2).cell? ⟨W.heap.size, 1, none⟩ = some (v1) := cell_of_row _ _ 1 _ _ _ rA5_.out
    have A_2_ : (w2).cell? ⟨W.heap.size, 2, none⟩ = some (v2) := cell_of_row _ _ 2 _ _ _ rA5_.out
    have A_3_ : (w2).cell? ⟨W.heap.size, 3, none⟩ = some (v3) := cell_of_row _ _ 3 _ _ _ rA5_.out
    have A_4_ : (w2).cell? ⟨W.heap.size, 4, none⟩ = some (v4) := cell_of_row _ _ 4 _ _ _ rA5_.out
    go_wp2_with fail
    go_at_call 46
    refine (szBarS_d _ _ v2 xs2 (HI2.out.grow G6_.out) (by omega) (by omega)).mono ?_
    rintro e w3 ⟨he, g⟩
    rw [← HT2.out, show lessN _ t2 = n - (t0 : Int) - (t1 : Int) - (t2 : Int) from (if_neg (by omega)).trans (by omega)] at he
    subst he
    clear A_0_ A_1_ A_2_ A_3_ A_4_
    have rA7_ := Lib.hid (show (w3).heap[W.heap.size]? = some (.cells #[v0, v1, v2, v3, v4] 30 (0, 0)) from row_held g rA5_.out)
    clear rA5_
    have G8_ := Lib.hid (show (W).grownBy (w3) none from gby_trans G6_.out g)
    clear g
    have A_0_ : (w3).cell? ⟨W.heap.size, 0, none⟩ = some (v0) := cell_of_row _ _ 0 _ _ _ rA7_.out
    have A_1_ : (w3).cell? ⟨W.heap.size, 1, none⟩ = some (v1) := cell_of_row _ _ 1 _ _ _ rA7_.out
    have A_2_ : (w3).cell? ⟨W.heap.size, 2, none⟩ = some (v2) := cell_of_row _ _ 2 _ _ _ rA7_.out
    have A_3_ : (w3).cell? ⟨W.heap.size, 3, none⟩ = some (v3) := cell_of_row _ _ 3 _ _ _ rA7_.out
    have A_4_ : (w3).cell? ⟨W.heap.size, 4, none⟩ = some (v4) := cell_of_row _ _ 4 _ _ _ rA7_.out
    go_wp2_with fail
    go_at_call 20
    refine (szIntSS_d _ _ v3 xs3 (HI3.out.grow G8_.out) (by omega) (by omega)).mono ?_
    rintro e w4 ⟨he, g⟩
    rw [← HT3.out, show lessN _ t3 = -1 from if_pos (by omega)] at he
    subst he
    clear A_0_ A_1_ A_2_ A_3_ A_4_
    have rA9_ := Lib.hid (show (w4).heap[W.heap.size]? = some (.cells #[v0, v1, v2, v3, v4] 30 (0, 0)) from row_held g rA7_.out)
    clear rA7_
    have G10_ := Lib.hid (show (W).grownBy (w4) none from gby_trans G8_.out g)
    clear g
    have hm1 : (-1 : Int) < 0 := by omega
    go_wp2
    go_ret
    exact ⟨rfl, G10_.out⟩
  by_cases h4_ : n - (t0 : Int) - (t1 : Int) - (t2 : Int) - (t3 : Int) < (t4 : Int)
  · rw [show lessN n (t0 + t1 + t2 + t3 + t4) = -1 from if_pos (by omega)]
    go_enter Try.func10, Try.ntmps10
    have rA1_ := Lib.hid (show ((W.alloc (.cells #[v0, v1, v2, v3, v4] 30))).heap[W.heap.size]? = some (.cells #[v0, v1, v2, v3, v4] 30 (0, 0)) from by exact heap_alloc_new _ _)
    have G2_ := Lib.hid (show (W).grownBy ((W.alloc (.cells #[v0, v1, v2, v3, v4] 30))) none from (gby_alloc (gby_refl _ _) _))
    have A_0_ : ((W.alloc (.cells #[v0, v1, v2, v3, v4] 30))).cell? ⟨W.heap.size, 0, none⟩ = some (v0) := cell_of_row _ _ 0 _ _ _ rA1_.out
    have A_1_ : ((W.alloc (.cells #[v0, v1, v2, v3, v4] 30))).cell? ⟨W.heap.size, 1, none⟩ = some (v1) := cell_of_row _ _ 1 _ _ _ rA1_.out
    have A_2_ : ((W.alloc (.cells #[v0, v1, v2, v3, v4] 30))).cell? ⟨W.heap.size, 2, none⟩ = some (v2) := cell_of_row _ _ 2 _ _ _ rA1_.out
    have A_3_ : ((W.alloc (.cells #[v0, v1, v2, v3, v4] 30))).cell? ⟨W.heap.size, 3, none⟩ = some (v3) := cell_of_row _ _ 3 _ _ _ rA1_.out
    have A_4_ : ((W.alloc (.cells #[v0, v1, v2, v3, v4] 30))).cell? ⟨W.heap.size, 4, none⟩ = some (v4) := cell_of_row _ _ 4 _ _ _ rA1_.out
    go_wp2_with fail
    go_at_call 44
    refine (szNodeS_d _ _ v0 xs0 (HI0.out.grow G2_.out) (by omega) (by omega)).mono ?_
    rintro e w1 ⟨he, g⟩
    rw [← HT0.out, show lessN _ t0 = n - (t0 : Int) from (if_neg (by omega)).trans (by omega)] at he
    subst he
    clear A_0_ A_1_ A_2_ A_3_ A_4_
    have rA3_ := Lib.hid (show (w1).heap[W.heap.size]? = some (.cells #[v0, v1, v2, v3, v4] 30 (0, 0)) from row_held g rA1_.out)
    clear rA1_
    have G4_ := Lib.hid (show (W).grownBy (w1) none from gby_trans G2_.out g)
    clear g
    have A_0_ : (w1).cell? ⟨W.heap.size, 0, none⟩ = some (v0) := cell_of_row _ _ 0 _ _ _ rA3_.out
    have A_1_ : (w1).cell? ⟨W.heap.size, 1, none⟩ = some (v1) := cell_of_row _ _ 1 _ _ _ rA3_.out
    have A_2_ : (w1).cell? ⟨W.heap.size, 2, none⟩ = some (v2) := cell_of_row _ _ 2 _ _ _ rA3_.out
    have A_3_ : (w1).cell? ⟨W.heap.size, 3, none⟩ = some (v3) := cell_of_row _ _ 3 _ _ _ rA3_.out
    have A_4_ : (w1).cell? ⟨W.heap.size, 4, none⟩ = some (v4) := cell_of_row _ _ 4 _ _ _ rA3_.out
    go_wp2_with fail
    go_at_call 45
    refine (szIntS_d _ _ v1 xs1 (HI1.out.grow G4_.out) (by omega) (by omega)).mono ?_
    rintro e w2 ⟨he, g⟩
    rw [← HT1.out, show lessN _ t1 = n - (t0 : Int) - (t1 : Int) from (if_neg (by omega)).trans (by omega)] at he
    subst he
    clear A_0_ A_1_ A_2_ A_3_ A_4_
    have rA5_ := Lib.hid (show (w2).heap[W.heap.size]? = some (.cells #[v0, v1, v2, v3, v4] 30 (0, 0)) from row_held g rA3_.out)
    clear rA3_
    have G6_ := Lib.hid (show (W).grownBy (w2) none from gby_trans G4_.out g)
    clear g
    have A_0_ : (w2).cell? ⟨W.heap.size, 0, none⟩ = some (v0) := cell_of_row _ _ 0 _ _ _ rA5_.out
    have A_1_ : (w2).cell? ⟨W.heap.size, 1, none⟩ = some (v1) := cell_of_row _ _ 1 _ _ _ rA5_.out
    have A_2_ : (w2).cell? ⟨W.heap.size, 2, none⟩ = some (v2) := cell_of_row _ _ 2 _ _ _ rA5_.out
    have A_3_ : (w2).cell? ⟨W.heap.size, 3, none⟩ = some (v3) := cell_of_row _ _ 3 _ _ _ rA5_.out
    have A_4_ : (w2).cell? ⟨W.heap.size, 4, none⟩ = some (v4) := cell_of_row _ _ 4 _ _ _ rA5_.out
    go_wp2_with fail
    go_at_call 46
    refine (szBarS_d _ _ v2 xs2 (HI2.out.grow G6_.out) (by omega) (by omega)).mono ?_
    rintro e w3 ⟨he, g⟩
    rw [← HT2.out, show lessN _ t2 = n - (t0 : Int) - (t1 : Int) - (t2 : Int) from (if_neg (by omega)).trans (by omega)] at he
    subst he
    clear A_0_ A_1_ A_2_ A_3_ A_4_
    have rA7_ := Lib.hid (show (w3).heap[W.heap.size]? = some (.cells #[v0, v1, v2, v3, v4] 30 (0, 0)) from row_held g rA5_.out)
    clear rA5_
    have G8_ := Lib.hid (show (W).grownBy (w3) none from gby_trans G6_.out g)
    clear g
    have A_0_ : (w3).cell? ⟨W.heap.size, 0, none⟩ = some (v0) := cell_of_row _ _ 0 _ _ _ rA7_.out
    have A_1_ : (w3).cell? ⟨W.heap.size, 1, none⟩ = some (v1) := cell_of_row _ _ 1 _ _ _ rA7_.out
    have A_2_ : (w3).cell? ⟨W.heap.size, 2, none⟩ = some (v2) := cell_of_row _ _ 2 _ _ _ rA7_.out
    have A_3_ : (w3).cell? ⟨W.heap.size, 3, none⟩ = some (v3) := cell_of_row _ _ 3 _ _ _ rA7_.out
    have A_4_ : (w3).cell? ⟨W.heap.size, 4, none⟩ = some (v4) := cell_of_row _ _ 4 _ _ _ rA7_.out
    go_wp2_with fail
    go_at_call 20
    refine (szIntSS_d _ _ v3 xs3 (HI3.out.grow G8_.out) (by omega) (by omega)).mono ?_
    rintro e w4 ⟨he, g⟩
    rw [← HT3.out, show lessN _ t3 = n - (t0 : Int) - (t1 : Int) - (t2 : Int) - (t3 : Int) from (if_neg (by omega)).trans (by omega)] at he
    subst he
    clear A_0_ A_1_ A_2_ A_3_ A_4_
    have rA9_ := Lib.hid (show (w4).heap[W.heap.size]? = some (.cells #[v0, v1, v2, v3, v4] 30 (0, 0)) from row_held g rA7_.out)
    clear rA7_
    have G10_ := Lib.hid (show (W).grownBy (w4) none from gby_trans G8_.out g)
    clear g
    have A_0_ : (w4).cell? ⟨W.heap.size, 0, none⟩ = some (v0) := cell_of_row _ _ 0 _ _ _ rA9_.out
    have A_1_ : (w4).cell? ⟨W.heap.size, 1, none⟩ = some (v1) := cell_of_row _ _ 1 _ _ _ rA9_.out
    have A_2_ : (w4).cell? ⟨W.heap.size, 2, none⟩ = some (v2) := cell_of_row _ _ 2 _ _ _ rA9_.out
    have A_3_ : (w4).cell? ⟨W.heap.size, 3, none⟩ = some (v3) := cell_of_row _ _ 3 _ _ _ rA9_.out
    have A_4_ : (w4).cell? ⟨W.heap.size, 4, none⟩ = some (v4) := cell_of_row _ _ 4 _ _ _ rA9_.out
    go_wp2_with fail
    go_at_call 47
    refine (szGuard_d _ _ v4 xs4 (HI4.out.grow G10_.out) (by omega) (by omega)).mono ?_
    rintro e w5 ⟨he, g⟩
    rw [← HT4.out, show lessN _ t4 = -1 from if_pos (by omega)] at he
    subst he
    clear A_0_ A_1_ A_2_ A_3_ A_4_
    have rA11_ := Lib.hid (show (w5).heap[W.heap.size]? = some (.cells #[v0, v1, v2, v3, v4] 30 (0, 0)) from row_held g rA9_.out)
    clear rA9_
    have G12_ := Lib.hid (show (W).grownBy (w5) none from gby_trans G10_.out g)
    clear g
    have hm1 : (-1 : Int) < 0 := by omega
    go_wp2
    go_ret
    exact ⟨rfl, G12_.out⟩
  rw [show lessN n (t0 + t1 + t2 + t3 + t4) = n - (t0 : Int) - (t1 : Int) - (t2 : Int) - (t3 : Int) - (t4 : Int) from (if_neg (by omega)).trans (by omega)]
  go_enter Try.func10, Try.ntmps10
  have rA1_ := Lib.hid (show ((W.alloc (.cells #[v0, v1, v2, v3, v4] 30))).heap[W.heap.size]? = some (.cells #[v0, v1, v2, v3, v4] 30 (0, 0)) from by exact heap_alloc_new _ _)
  have G2_ := Lib.hid (show (W).grownBy ((W.alloc (.cells #[v0, v1, v2, v3, v4] 30))) none from (gby_alloc (gby_refl _ _) _))
  have A_0_ : ((W.alloc (.cells #[v0, v1, v2, v3, v4] 30))).cell? ⟨W.heap.size, 0, none⟩ = some (v0) := cell_of_row _ _ 0 _ _ _ rA1_.out
  have A_1_ : ((W.alloc (.cells #[v0, v1, v2, v3, v4] 30))).cell? ⟨W.heap.size, 1, none⟩ = some (v1) := cell_of_row _ _ 1 _ _ _ rA1_.out
  have A_2_ : ((W.alloc (.cells #[v0, v1, v2, v3, v4] 30))).cell? ⟨W.heap.size, 2, none⟩ = some (v2) := cell_of_row _ _ 2 _ _ _ rA1_.out
  have A_3_ : ((W.alloc (.cells #[v0, v1, v2, v3, v4] 30))).cell? ⟨W.heap.size, 3, none⟩ = some (v3) := cell_of_row _ _ 3 _ _ _ rA1_.out
  have A_4_ : ((W.alloc (.cells #[v0, v1, v2, v3, v4] 30))).cell? ⟨W.heap.size, 4, none⟩ = some (v4) := cell_of_row _ _ 4 _ _ _ rA1_.out
  go_wp2_with fail
  go_at_call 44
  refine (szNodeS_d _ _ v0 xs0 (HI0.out.grow G2_.out) (by omega) (by omega)).mono ?_
  rintro e w1 ⟨he, g⟩
  rw [← HT0.out, show lessN _ t0 = n - (t0 : Int) from (if_neg (by omega)).trans (by omega)] at he
  subst he
  clear A_0_ A_1_ A_2_ A_3_ A_4_
  have rA3_ := Lib.hid (show (w1).heap[W.heap.size]? = some (.cells #[v0, v1, v2, v3, v4] 30 (0, 0)) from row_held g rA1_.out)
  clear rA1_
  have G4_ := Lib.hid (show (W).grownBy (w1) none from gby_trans G2_.out g)
  clear g
  have A_0_ : (w1).cell? ⟨W.heap.size, 0, none⟩ = some (v0) := cell_of_row _ _ 0 _ _ _ rA3_.out
  have A_1_ : (w1).cell? ⟨W.heap.size, 1, none⟩ = some (v1) := cell_of_row _ _ 1 _ _ _ rA3_.out
  have A_2_ : (w1).cell? ⟨W.heap.size, 2, none⟩ = some (v2) := cell_of_row _ _ 2 _ _ _ rA3_.out
  have A_3_ : (w1).cell? ⟨W.heap.size, 3, none⟩ = some (v3) := cell_of_row _ _ 3 _ _ _ rA3_.out
  have A_4_ : (w1).cell? ⟨W.heap.size, 4, none⟩ = some (v4) := cell_of_row _ _ 4 _ _ _ rA3_.out
  go_wp2_with fail
  go_at_call 45
  refine (szIntS_d _ _ v1 xs1 (HI1.out.grow G4_.out) (by omega) (by omega)).mono ?_
  rintro e w2 ⟨he, g⟩
  rw [← HT1.out, show lessN _ t1 = n - (t0 : Int) - (t1 : Int) from (if_neg (by omega)).trans (by omega)] at he
  subst he
  clear A_0_ A_1_ A_2_ A_3_ A_4_
  have rA5_ := Lib.hid (show (w2).heap[W.heap.size]? = some (.cells #[v0, v1, v2, v3, v4] 30 (0, 0)) from row_held g rA3_.out)
  clear rA3_
  have G6_ := Lib.hid (show (W).grownBy (w2) none from gby_trans G4_.out g)
  clear g
  have A_0_ : (w2).cell? ⟨W.heap.size, 0, none⟩ = some (v0) := cell_of_row _ _ 0 _ _ _ rA5_.out
  have A_1_ : (w2).cell? ⟨W.heap.size, 1, none⟩ = some (v1) := cell_of_row _ _ 1 _ _ _ rA5_.out
  have A_2_ : (w2).cell? ⟨W.heap.size, 2, none⟩ = some (v2) := cell_of_row _ _ 2 _ _ _ rA5_.out
  have A_3_ : (w2).cell? ⟨W.heap.size, 3, none⟩ = some (v3) := cell_of_row _ _ 3 _ _ _ rA5_.out
  have A_4_ : (w2).cell? ⟨W.heap.size, 4, none⟩ = some (v4) := cell_of_row _ _ 4 _ _ _ rA5_.out
  go_wp2_with fail
  go_at_call 46
  refine (szBarS_d _ _ v2 xs2 (HI2.out.grow G6_.out) (by omega) (by omega)).mono ?_
  rintro e w3 ⟨he, g⟩
  rw [← HT2.out, show lessN _ t2 = n - (t0 : Int) - (t1 : Int) - (t2 : Int) from (if_neg (by omega)).trans (by omega)] at he
  subst he
  clear A_0_ A_1_ A_2_ A_3_ A_4_
  have rA7_ := Lib.hid (show (w3).heap[W.heap.size]? = some (.cells #[v0, v1, v2, v3, v4] 30 (0, 0)) from row_held g rA5_.out)
  clear rA5_
  have G8_ := Lib.hid (show (W).grownBy (w3) none from gby_trans G6_.out g)
  clear g
  have A_0_ : (w3).cell? ⟨W.heap.size, 0, none⟩ = some (v0) := cell_of_row _ _ 0 _ _ _ rA7_.out
  have A_1_ : (w3).cell? ⟨W.heap.size, 1, none⟩ = some (v1) := cell_of_row _ _ 1 _ _ _ rA7_.out
  have A_2_ : (w3).cell? ⟨W.heap.size, 2, none⟩ = some (v2) := cell_of_row _ _ 2 _ _ _ rA7_.out
  have A_3_ : (w3).cell? ⟨W.heap.size, 3, none⟩ = some (v3) := cell_of_row _ _ 3 _ _ _ rA7_.out
  have A_4_ : (w3).cell? ⟨W.heap.size, 4, none⟩ = some (v4) := cell_of_row _ _ 4 _ _ _ rA7_.out
  go_wp2_with fail
  go_at_call 20
  refine (szIntSS_d _ _ v3 xs3 (HI3.out.grow G8_.out) (by omega) (by omega)).mono ?_
  rintro e w4 ⟨he, g⟩
  rw [← HT3.out, show lessN _ t3 = n - (t0 : Int) - (t1 : Int) - (t2 : Int) - (t3 : Int) from (if_neg (by omega)).trans (by omega)] at he
  subst he
  clear A_0_ A_1_ A_2_ A_3_ A_4_
  have rA9_ := Lib.hid (show (w4).heap[W.heap.size]? = some (.cells #[v0, v1, v2, v3, v4] 30 (0, 0)) from row_held g rA7_.out)
  clear rA7_
  have G10_ := Lib.hid (show (W).grownBy (w4) none from gby_trans G8_.out g)
  clear g
  have A_0_ : (w4).cell? ⟨W.heap.size, 0, none⟩ = some (v0) := cell_of_row _ _ 0 _ _ _ rA9_.out
  have A_1_ : (w4).cell? ⟨W.heap.size, 1, none⟩ = some (v1) := cell_of_row _ _ 1 _ _ _ rA9_.out
  have A_2_ : (w4).cell? ⟨W.heap.size, 2, none⟩ = some (v2) := cell_of_row _ _ 2 _ _ _ rA9_.out
  have A_3_ : (w4).cell? ⟨W.heap.size, 3, none⟩ = some (v3) := cell_of_row _ _ 3 _ _ _ rA9_.out
  have A_4_ : (w4).cell? ⟨W.heap.size, 4, none⟩ = some (v4) := cell_of_row _ _ 4 _ _ _ rA9_.out
  go_wp2_with fail
  go_at_call 47
  refine (szGuard_d _ _ v4 xs4 (HI4.out.grow G10_.out) (by omega) (by omega)).mono ?_
  rintro e w5 ⟨he, g⟩
  rw [← HT4.out, show lessN _ t4 = n - (t0 : Int) - (t1 : Int) - (t2 : Int) - (t3 : Int) - (t4 : Int) from (if_neg (by omega)).trans (by omega)] at he
  subst he
  clear A_0_ A_1_ A_2_ A_3_ A_4_
  have rA11_ := Lib.hid (show (w5).heap[W.heap.size]? = some (.cells #[v0, v1, v2, v3, v4] 30 (0, 0)) from row_held g rA9_.out)
  clear rA9_
  have G12_ := Lib.hid (show (W).grownBy (w5) none from gby_trans G10_.out g)
  clear g
  go_wp2
  go_ret
  exact ⟨rfl, G12_.out⟩

/-- a Fabric in new memory -/
def NewFabric (xs0 : List DNode) (xs1 : List Int) (xs2 : List DBar) (xs3 : List (List Int)) (xs4 : List Bool) (W : World) (e : Ending) (w' : World) : Prop := ∃ v0, ∃ v1, ∃ v2, ∃ v3, ∃ v4, e = .returned (vFabric v0 v1 v2 v3 v4) ∧ OwU w' W.heap.size w'.heap.size [] [own shNode v0 xs0, own shI v1 xs1, own shBar v2 xs2, own (shL shI) v3 xs3, own shB v4 xs4] ∧ W.grownBy w' none

set_option maxRecDepth 8000 in
set_option maxHeartbeats 4000000 in
theorem toFabric_d (W : World) (v0 : Value) (v1 : Value) (v2 : Value) (v3 : Value) (v4 : Value) (xs0 : List DNode) (xs1 : List Int) (xs2 : List DBar) (xs3 : List (List Int)) (xs4 : List Bool) (H0 : RdL shNode W v0 xs0) (hl0 : szL shNode xs0 ≤ 1048576) (H1 : RdL shI W v1 xs1) (hl1 : szL shI xs1 ≤ 1048576) (H2 : RdL shBar W v2 xs2) (hl2 : szL shBar xs2 ≤ 1048576) (H3 : RdL (shL shI) W v3 xs3) (hl3 : szL (shL shI) xs3 ≤ 1048576) (H4 : RdL shB W v4 xs4) (hl4 : szL shB xs4 ≤ 1048576) :
    Calls Try.prog 12 #[vFabric v0 v1 v2 v3 v4] W (NewFabric xs0 xs1 xs2 xs3 xs4 W) := by
  have HI0 := Lib.hid H0
  clear H0
  have HI1 := Lib.hid H1
  clear H1
  have HI2 := Lib.hid H2
  clear H2
  have HI3 := Lib.hid H3
  clear H3
  have HI4 := Lib.hid H4
  clear H4
  unfold vFabric
  go_enter Try.func12, Try.ntmps12
  have rP1_ := Lib.hid (show ((((W.alloc (.cells #[v0, v1, v2, v3, v4] 30)).alloc (.cells #[.slice none 0 0, .slice none 0 0, .slice none 0 0, .slice none 0 0, .slice none 0 0] 37)).alloc (.cells #[.slice none 0 0, .slice none 0 0, .slice none 0 0, .slice none 0 0, .slice none 0 0] 37))).heap[W.heap.size]? = some (.cells #[v0, v1, v2, v3, v4] 30 (0, 0)) from by rw [heap_alloc_old _ _ (by simp only [World.size_alloc]; omega)]; rw [heap_alloc_old _ _ (by simp only [World.size_alloc]; omega)]; exact heap_alloc_new _ _)
  have rR2_ := Lib.hid (show ((((W.alloc (.cells #[v0, v1, v2, v3, v4] 30)).alloc (.cells #[.slice none 0 0, .slice none 0 0, .slice none 0 0, .slice none 0 0, .slice none 0 0] 37)).alloc (.cells #[.slice none 0 0, .slice none 0 0, .slice none 0 0, .slice none 0 0, .slice none 0 0] 37))).heap[W.heap.size + 1]? = some (.cells #[.slice none 0 0, .slice none 0 0, .slice none 0 0, .slice none 0 0, .slice none 0 0] 37 (0, 0)) from by rw [heap_alloc_old _ _ (by simp only [World.size_alloc]; omega)]; exact heap_pair _ _ _)
  have rX3_ := Lib.hid (show ((((W.alloc (.cells #[v0, v1, v2, v3, v4] 30)).alloc (.cells #[.slice none 0 0, .slice none 0 0, .slice none 0 0, .slice none 0 0, .slice none 0 0] 37)).alloc (.cells #[.slice none 0 0, .slice none 0 0, .slice none 0 0, .slice none 0 0, .slice none 0 0] 37))).heap[W.heap.size + 1 + 1]? = some (.cells #[.slice none 0 0, .slice none 0 0, .slice none 0 0, .slice none 0 0, .slice none 0 0] 37 (0, 0)) from by exact heap_trip _ _ _ _)
  have G4_ := Lib.hid (show (W).grownBy ((((W.alloc (.cells #[v0, v1, v2, v3, v4] 30)).alloc (.cells #[.slice none 0 0, .slice none 0 0, .slice none 0 0, .slice none 0 0, .slice none 0 0] 37)).alloc (.cells #[.slice none 0 0, .slice none 0 0, .slice none 0 0, .slice none 0 0, .slice none 0 0] 37))) none from (gby_alloc (gby_alloc (gby_alloc (gby_refl _ _) _) _) _))
  have P_0_ : ((((W.alloc (.cells #[v0, v1, v2, v3, v4] 30)).alloc (.cells #[.slice none 0 0, .slice none 0 0, .slice none 0 0, .slice none 0 0, .slice none 0 0] 37)).alloc (.cells #[.slice none 0 0, .slice none 0 0, .slice none 0 0, .slice none 0 0, .slice none 0 0] 37))).cell? ⟨W.heap.size, 0, none⟩ = some (v0) := cell_of_row _ _ 0 _ _ _ rP1_.out
  have P_1_ : ((((W.alloc (.cells #[v0, v1, v2, v3, v4] 30)).alloc (.cells #[.slice none 0 0, .slice none 0 0, .slice none 0 0, .slice none 0 0, .slice none 0 0] 37)).alloc (.cells #[.slice none 0 0, .slice none 0 0, .slice none 0 0, .slice none 0 0, .slice none 0 0] 37))).cell? ⟨W.heap.size, 1, none⟩ = some (v1) := cell_of_row _ _ 1 _ _ _ rP1_.out
  have P_2_ : ((((W.alloc (.cells #[v0, v1, v2, v3, v4] 30)).alloc (.cells #[.slice none 0 0, .slice none 0 0, .slice none 0 0, .slice none 0 0, .slice none 0 0] 37)).alloc (.cells #[.slice none 0 0, .slice none 0 0, .slice none 0 0, .slice none 0 0, .slice none 0 0] 37))).cell? ⟨W.heap.size, 2, none⟩ = some (v2) := cell_of_row _ _ 2 _ _ _ rP1_.out
  have P_3_ : ((((W.alloc (.cells #[v0, v1, v2, v3, v4] 30)).alloc (.cells #[.slice none 0 0, .slice none 0 0, .slice none 0 0, .slice none 0 0, .slice none 0 0] 37)).alloc (.cells #[.slice none 0 0, .slice none 0 0, .slice none 0 0, .slice none 0 0, .slice none 0 0] 37))).cell? ⟨W.heap.size, 3, none⟩ = some (v3) := cell_of_row _ _ 3 _ _ _ rP1_.out
  have P_4_ : ((((W.alloc (.cells #[v0, v1, v2, v3, v4] 30)).alloc (.cells #[.slice none 0 0, .slice none 0 0, .slice none 0 0, .slice none 0 0, .slice none 0 0] 37)).alloc (.cells #[.slice none 0 0, .slice none 0 0, .slice none 0 0, .slice none 0 0, .slice none 0 0] 37))).cell? ⟨W.heap.size, 4, none⟩ = some (v4) := cell_of_row _ _ 4 _ _ _ rP1_.out
  have R_0_ : ((((W.alloc (.cells #[v0, v1, v2, v3, v4] 30)).alloc (.cells #[.slice none 0 0, .slice none 0 0, .slice none 0 0, .slice none 0 0, .slice none 0 0] 37)).alloc (.cells #[.slice none 0 0, .slice none 0 0, .slice none 0 0, .slice none 0 0, .slice none 0 0] 37))).cell? ⟨W.heap.size + 1, 0, none⟩ = some (.slice none 0 0) := cell_of_row _ _ 0 _ _ _ rR2_.out
  have R_1_ : ((((W.alloc (.cells #[v0, v1, v2, v3, v4] 30)).alloc (.cells #[.slice none 0 0, .slice none 0 0, .slice none 0 0, .slice none 0 0, .slice none 0 0] 37)).alloc (.cells #[.slice none 0 0, .slice none 0 0, .slice none 0 0, .slice none 0 0, .slice none 0 0] 37))).cell? ⟨W.heap.size + 1, 1, none⟩ = some (.slice none 0 0) := cell_of_row _ _ 1 _ _ _ rR2_.out
  have R_2_ : ((((W.alloc (.cells #[v0, v1, v2, v3, v4] 30)).alloc (.cells #[.slice none 0 0, .slice none 0 0, .slice none 0 0, .slice none 0 0, .slice none 0 0] 37)).alloc (.cells #[.slice none 0 0, .slice none 0 0, .slice none 0 0, .slice none 0 0, .slice none 0 0] 37))).cell? ⟨W.heap.size + 1, 2, none⟩ = some (.slice none 0 0) := cell_of_row _ _ 2 _ _ _ rR2_.out
  have R_3_ : ((((W.alloc (.cells #[v0, v1, v2, v3, v4] 30)).alloc (.cells #[.slice none 0 0, .slice none 0 0, .slice none 0 0, .slice none 0 0, .slice none 0 0] 37)).alloc (.cells #[.slice none 0 0, .slice none 0 0, .slice none 0 0, .slice none 0 0, .slice none 0 0] 37))).cell? ⟨W.heap.size + 1, 3, none⟩ = some (.slice none 0 0) := cell_of_row _ _ 3 _ _ _ rR2_.out
  have R_4_ : ((((W.alloc (.cells #[v0, v1, v2, v3, v4] 30)).alloc (.cells #[.slice none 0 0, .slice none 0 0, .slice none 0 0, .slice none 0 0, .slice none 0 0] 37)).alloc (.cells #[.slice none 0 0, .slice none 0 0, .slice none 0 0, .slice none 0 0, .slice none 0 0] 37))).cell? ⟨W.heap.size + 1, 4, none⟩ = some (.slice none 0 0) := cell_of_row _ _ 4 _ _ _ rR2_.out
  have X_0_ : ((((W.alloc (.cells #[v0, v1, v2, v3, v4] 30)).alloc (.cells #[.slice none 0 0, .slice none 0 0, .slice none 0 0, .slice none 0 0, .slice none 0 0] 37)).alloc (.cells #[.slice none 0 0, .slice none 0 0, .slice none 0 0, .slice none 0 0, .slice none 0 0] 37))).cell? ⟨W.heap.size + 1 + 1, 0, none⟩ = some (.slice none 0 0) := cell_of_row _ _ 0 _ _ _ rX3_.out
  have X_1_ : ((((W.alloc (.cells #[v0, v1, v2, v3, v4] 30)).alloc (.cells #[.slice none 0 0, .slice none 0 0, .slice none 0 0, .slice none 0 0, .slice none 0 0] 37)).alloc (.cells #[.slice none 0 0, .slice none 0 0, .slice none 0 0, .slice none 0 0, .slice none 0 0] 37))).cell? ⟨W.heap.size + 1 + 1, 1, none⟩ = some (.slice none 0 0) := cell_of_row _ _ 1 _ _ _ rX3_.out
  have X_2_ : ((((W.alloc (.cells #[v0, v1, v2, v3, v4] 30)).alloc (.cells #[.slice none 0 0, .slice none 0 0, .slice none 0 0, .slice none 0 0, .slice none 0 0] 37)).alloc (.cells #[.slice none 0 0, .slice none 0 0, .slice none 0 0, .slice none 0 0, .slice none 0 0] 37))).cell? ⟨W.heap.size + 1 + 1, 2, none⟩ = some (.slice none 0 0) := cell_of_row _ _ 2 _ _ _ rX3_.out
  have X_3_ : ((((W.alloc (.cells #[v0, v1, v2, v3, v4] 30)).alloc (.cells #[.slice none 0 0, .slice none 0 0, .slice none 0 0, .slice none 0 0, .slice none 0 0] 37)).alloc (.cells #[.slice none 0 0, .slice none 0 0, .slice none 0 0, .slice none 0 0, .slice none 0 0] 37))).cell? ⟨W.heap.size + 1 + 1, 3, none⟩ = some (.slice none 0 0) := cell_of_row _ _ 3 _ _ _ rX3_.out
  have X_4_ : ((((W.alloc (.cells #[v0, v1, v2, v3, v4] 30)).alloc (.cells #[.slice none 0 0, .slice none 0 0, .slice none 0 0, .slice none 0 0, .slice none 0 0] 37)).alloc (.cells #[.slice none 0 0, .slice none 0 0, .slice none 0 0, .slice none 0 0, .slice none 0 0] 37))).cell? ⟨W.heap.size + 1 + 1, 4, none⟩ = some (.slice none 0 0) := cell_of_row _ _ 4 _ _ _ rX3_.out
  have Xf0_ : ((((W.alloc (.cells #[v0, v1, v2, v3, v4] 30)).alloc (.cells #[.slice none 0 0, .slice none 0 0, .slice none 0 0, .slice none 0 0, .slice none 0 0] 37)).alloc (.cells #[.slice none 0 0, .slice none 0 0, .slice none 0 0, .slice none 0 0, .slice none 0 0] 37))).frozen? ⟨W.heap.size + 1 + 1, 0, none⟩ = false := frozen_of_row _ _ 0 _ _ rX3_.out
  have Xf1_ : ((((W.alloc (.cells #[v0, v1, v2, v3, v4] 30)).alloc (.cells #[.slice none 0 0, .slice none 0 0, .slice none 0 0, .slice none 0 0, .slice none 0 0] 37)).alloc (.cells #[.slice none 0 0, .slice none 0 0, .slice none 0 0, .slice none 0 0, .slice none 0 0] 37))).frozen? ⟨W.heap.size + 1 + 1, 1, none⟩ = false := frozen_of_row _ _ 1 _ _ rX3_.out
  have Xf2_ : ((((W.alloc (.cells #[v0, v1, v2, v3, v4] 30)).alloc (.cells #[.slice none 0 0, .slice none 0 0, .slice none 0 0, .slice none 0 0, .slice none 0 0] 37)).alloc (.cells #[.slice none 0 0, .slice none 0 0, .slice none 0 0, .slice none 0 0, .slice none 0 0] 37))).frozen? ⟨W.heap.size + 1 + 1, 2, none⟩ = false := frozen_of_row _ _ 2 _ _ rX3_.out
  have Xf3_ : ((((W.alloc (.cells #[v0, v1, v2, v3, v4] 30)).alloc (.cells #[.slice none 0 0, .slice none 0 0, .slice none 0 0, .slice none 0 0, .slice none 0 0] 37)).alloc (.cells #[.slice none 0 0, .slice none 0 0, .slice none 0 0, .slice none 0 0, .slice none 0 0] 37))).frozen? ⟨W.heap.size + 1 + 1, 3, none⟩ = false := frozen_of_row _ _ 3 _ _ rX3_.out
  have Xf4_ : ((((W.alloc (.cells #[v0, v1, v2, v3, v4] 30)).alloc (.cells #[.slice none 0 0, .slice none 0 0, .slice none 0 0, .slice none 0 0, .slice none 0 0] 37)).alloc (.cells #[.slice none 0 0, .slice none 0 0, .slice none 0 0, .slice none 0 0, .slice none 0 0] 37))).frozen? ⟨W.heap.size + 1 + 1, 4, none⟩ = false := frozen_of_row _ _ 4 _ _ rX3_.out
  go_wp2_with fail
  go_at_call 50
  clear P_0_ P_1_ P_2_ P_3_ P_4_ R_0_ R_1_ R_2_ R_3_ R_4_ X_0_ X_1_ X_2_ X_3_ X_4_ Xf0_ Xf1_ Xf2_ Xf3_ Xf4_
  refine (toNodeS_d _ v0 xs0 (HI0.out.grow G4_.out) hl0).mono ?_
  rintro e w1 ⟨d0, rfl, o, g⟩
  have sz0 := g.size
  first | simp only [World.size_alloc] at sz0 | simp only [World.size_setCell] at sz0 | skip
  first | simp only [World.size_alloc] at o | simp only [World.size_setCell] at o | skip
  have rP5_ := Lib.hid (show (w1).heap[W.heap.size]? = some (.cells #[v0, v1, v2, v3, v4] 30 (0, 0)) from row_held g rP1_.out)
  clear rP1_
  have rR6_ := Lib.hid (show (w1).heap[W.heap.size + 1]? = some (.cells #[.slice none 0 0, .slice none 0 0, .slice none 0 0, .slice none 0 0, .slice none 0 0] 37 (0, 0)) from row_held g rR2_.out)
  clear rR2_
  have rX7_ := Lib.hid (show (w1).heap[W.heap.size + 1 + 1]? = some (.cells #[.slice none 0 0, .slice none 0 0, .slice none 0 0, .slice none 0 0, .slice none 0 0] 37 (0, 0)) from row_held g rX3_.out)
  clear rX3_
  have G8_ := Lib.hid (show (W).grownBy (w1) none from gby_trans G4_.out g)
  clear g
  obtain ⟨p0_, n0_, c0_, hv0_⟩ := RdL.form (OwL.rd o)
  subst hv0_
  have o09_ := Lib.hid (show OwU (w1) (W.heap.size + 1 + 1 + 1) (w1.heap.size) [] [own shNode (.slice p0_ n0_ c0_) xs0] from OwU.one o)
  clear o
  have P_0_ : (w1).cell? ⟨W.heap.size, 0, none⟩ = some (v0) := cell_of_row _ _ 0 _ _ _ rP5_.out
  have P_1_ : (w1).cell? ⟨W.heap.size, 1, none⟩ = some (v1) := cell_of_row _ _ 1 _ _ _ rP5_.out
  have P_2_ : (w1).cell? ⟨W.heap.size, 2, none⟩ = some (v2) := cell_of_row _ _ 2 _ _ _ rP5_.out
  have P_3_ : (w1).cell? ⟨W.heap.size, 3, none⟩ = some (v3) := cell_of_row _ _ 3 _ _ _ rP5_.out
  have P_4_ : (w1).cell? ⟨W.heap.size, 4, none⟩ = some (v4) := cell_of_row _ _ 4 _ _ _ rP5_.out
  have R_0_ : (w1).cell? ⟨W.heap.size + 1, 0, none⟩ = some (.slice none 0 0) := cell_of_row _ _ 0 _ _ _ rR6_.out
  have R_1_ : (w1).cell? ⟨W.heap.size + 1, 1, none⟩ = some (.slice none 0 0) := cell_of_row _ _ 1 _ _ _ rR6_.out
  have R_2_ : (w1).cell? ⟨W.heap.size + 1, 2, none⟩ = some (.slice none 0 0) := cell_of_row _ _ 2 _ _ _ rR6_.out
  have R_3_ : (w1).cell? ⟨W.heap.size + 1, 3, none⟩ = some (.slice none 0 0) := cell_of_row _ _ 3 _ _ _ rR6_.out
  have R_4_ : (w1).cell? ⟨W.heap.size + 1, 4, none⟩ = some (.slice none 0 0) := cell_of_row _ _ 4 _ _ _ rR6_.out
  have X_0_ : (w1).cell? ⟨W.heap.size + 1 + 1, 0, none⟩ = some (.slice none 0 0) := cell_of_row _ _ 0 _ _ _ rX7_.out
  have X_1_ : (w1).cell? ⟨W.heap.size + 1 + 1, 1, none⟩ = some (.slice none 0 0) := cell_of_row _ _ 1 _ _ _ rX7_.out
  have X_2_ : (w1).cell? ⟨W.heap.size + 1 + 1, 2, none⟩ = some (.slice none 0 0) := cell_of_row _ _ 2 _ _ _ rX7_.out
  have X_3_ : (w1).cell? ⟨W.heap.size + 1 + 1, 3, none⟩ = some (.slice none 0 0) := cell_of_row _ _ 3 _ _ _ rX7_.out
  have X_4_ : (w1).cell? ⟨W.heap.size + 1 + 1, 4, none⟩ = some (.slice none 0 0) := cell_of_row _ _ 4 _ _ _ rX7_.out
  have Xf0_ : (w1).frozen? ⟨W.heap.size + 1 + 1, 0, none⟩ = false := frozen_of_row _ _ 0 _ _ rX7_.out
  have Xf1_ : (w1).frozen? ⟨W.heap.size + 1 + 1, 1, none⟩ = false := frozen_of_row _ _ 1 _ _ rX7_.out
  have Xf2_ : (w1).frozen? ⟨W.heap.size + 1 + 1, 2, none⟩ = false := frozen_of_row _ _ 2 _ _ rX7_.out
  have Xf3_ : (w1).frozen? ⟨W.heap.size + 1 + 1, 3, none⟩ = false := frozen_of_row _ _ 3 _ _ rX7_.out
  have Xf4_ : (w1).frozen? ⟨W.heap.size + 1 + 1, 4, none⟩ = false := frozen_of_row _ _ 4 _ _ rX7_.out
  go_wp2_with fail
  go_at_call 35
  clear P_0_ P_1_ P_2_ P_3_ P_4_ R_0_ R_1_ R_2_ R_3_ R_4_ X_0_ X_1_ X_2_ X_3_ X_4_ Xf0_ Xf1_ Xf2_ Xf3_ Xf4_
  have rP10_ := Lib.hid (show ((w1.setCell ⟨W.heap.size + 1 + 1, 0, none⟩ ((.slice p0_ n0_ c0_)))).heap[W.heap.size]? = some (.cells #[v0, v1, v2, v3, v4] 30 (0, 0)) from (set_far rP5_.out (by dsimp only; omega)))
  clear rP5_
  have rR11_ := Lib.hid (show ((w1.setCell ⟨W.heap.size + 1 + 1, 0, none⟩ ((.slice p0_ n0_ c0_)))).heap[W.heap.size + 1]? = some (.cells #[.slice none 0 0, .slice none 0 0, .slice none 0 0, .slice none 0 0, .slice none 0 0] 37 (0, 0)) from (set_far rR6_.out (by dsimp only; omega)))
  clear rR6_
  have rX12_ := Lib.hid (show ((w1.setCell ⟨W.heap.size + 1 + 1, 0, none⟩ ((.slice p0_ n0_ c0_)))).heap[W.heap.size + 1 + 1]? = some (.cells #[(.slice p0_ n0_ c0_), .slice none 0 0, .slice none 0 0, .slice none 0 0, .slice none 0 0] 37 (0, 0)) from (heap_setCell_same _ _ 0 _ _ _ rX7_.out))
  clear rX7_
  have o013_ := Lib.hid (show OwU ((w1.setCell ⟨W.heap.size + 1 + 1, 0, none⟩ ((.slice p0_ n0_ c0_)))) (W.heap.size + 1 + 1 + 1) (w1.heap.size) [] [own shNode (.slice p0_ n0_ c0_) xs0] from (OwU.keep (chg_one _ _ _ _) (by omega) o09_.out))
  clear o09_
  have G14_ := Lib.hid (show (W).grownBy ((w1.setCell ⟨W.heap.size + 1 + 1, 0, none⟩ ((.slice p0_ n0_ c0_)))) none from (gby_setnew G8_.out _ (by dsimp only; omega) _))
  refine (toIntS_d _ v1 xs1 (HI1.out.grow G14_.out) hl1).mono ?_
  rintro e w2 ⟨d1, rfl, o, g⟩
  have sz1 := g.size
  first | simp only [World.size_alloc] at sz1 | simp only [World.size_setCell] at sz1 | skip
  first | simp only [World.size_alloc] at o | simp only [World.size_setCell] at o | skip
  have rP15_ := Lib.hid (show (w2).heap[W.heap.size]? = some (.cells #[v0, v1, v2, v3, v4] 30 (0, 0)) from row_held g rP10_.out)
  clear rP10_
  have rR16_ := Lib.hid (show (w2).heap[W.heap.size + 1]? = some (.cells #[.slice none 0 0, .slice none 0 0, .slice none 0 0, .slice none 0 0, .slice none 0 0] 37 (0, 0)) from row_held g rR11_.out)
  clear rR11_
  have rX17_ := Lib.hid (show (w2).heap[W.heap.size + 1 + 1]? = some (.cells #[(.slice p0_ n0_ c0_), .slice none 0 0, .slice none 0 0, .slice none 0 0, .slice none 0 0] 37 (0, 0)) from row_held g rX12_.out)
  clear rX12_
  have o018_ := Lib.hid (show OwU (w2) (W.heap.size + 1 + 1 + 1) (w1.heap.size) [] [own shNode (.slice p0_ n0_ c0_) xs0] from OwU.grow o013_.out g)
  clear o013_
  have G19_ := Lib.hid (show (W).grownBy (w2) none from gby_trans G14_.out g)
  clear g
  obtain ⟨p1_, n1_, c1_, hv1_⟩ := RdL.form (OwL.rd o)
  subst hv1_
  have o120_ := Lib.hid (show OwU (w2) (w1.heap.size) (w2.heap.size) [] [own shI (.slice p1_ n1_ c1_) xs1] from OwU.one o)
  clear o
  have P_0_ : (w2).cell? ⟨W.heap.size, 0, none⟩ = some (v0) := cell_of_row _ _ 0 _ _ _ rP15_.out
  have P_1_ : (w2).cell? ⟨W.heap.size, 1, none⟩ = some (v1) := cell_of_row _ _ 1 _ _ _ rP15_.out
  have P_2_ : (w2).cell? ⟨W.heap.size, 2, none⟩ = some (v2) := cell_of_row _ _ 2 _ _ _ rP15_.out
  have P_3_ : (w2).cell? ⟨W.heap.size, 3, none⟩ = some (v3) := cell_of_row _ _ 3 _ _ _ rP15_.out
  have P_4_ : (w2).cell? ⟨W.heap.size, 4, none⟩ = some (v4) := cell_of_row _ _ 4 _ _ _ rP15_.out
  have R_0_ : (w2).cell? ⟨W.heap.size + 1, 0, none⟩ = some (.slice none 0 0) := cell_of_row _ _ 0 _ _ _ rR16_.out
  have R_1_ : (w2).cell? ⟨W.heap.size + 1, 1, none⟩ = some (.slice none 0 0) := cell_of_row _ _ 1 _ _ _ rR16_.out
  have R_2_ : (w2).cell? ⟨W.heap.size + 1, 2, none⟩ = some (.slice none 0 0) := cell_of_row _ _ 2 _ _ _ rR16_.out
  have R_3_ : (w2).cell? ⟨W.heap.size + 1, 3, none⟩ = some (.slice none 0 0) := cell_of_row _ _ 3 _ _ _ rR16_.out
  have R_4_ : (w2).cell? ⟨W.heap.size + 1, 4, none⟩ = some (.slice none 0 0) := cell_of_row _ _ 4 _ _ _ rR16_.out
  have X_0_ : (w2).cell? ⟨W.heap.size + 1 + 1, 0, none⟩ = some ((.slice p0_ n0_ c0_)) := cell_of_row _ _ 0 _ _ _ rX17_.out
  have X_1_ : (w2).cell? ⟨W.heap.size + 1 + 1, 1, none⟩ = some (.slice none 0 0) := cell_of_row _ _ 1 _ _ _ rX17_.out
  have X_2_ : (w2).cell? ⟨W.heap.size + 1 + 1, 2, none⟩ = some (.slice none 0 0) := cell_of_row _ _ 2 _ _ _ rX17_.out
  have X_3_ : (w2).cell? ⟨W.heap.size + 1 + 1, 3, none⟩ = some (.slice none 0 0) := cell_of_row _ _ 3 _ _ _ rX17_.out
  have X_4_ : (w2).cell? ⟨W.heap.size + 1 + 1, 4, none⟩ = some (.slice none 0 0) := cell_of_row _ _ 4 _ _ _ rX17_.out
  have Xf0_ : (w2).frozen? ⟨W.heap.size + 1 + 1, 0, none⟩ = false := frozen_of_row _ _ 0 _ _ rX17_.out
  have Xf1_ : (w2).frozen? ⟨W.heap.size + 1 + 1, 1, none⟩ = false := frozen_of_row _ _ 1 _ _ rX17_.out
  have Xf2_ : (w2).frozen? ⟨W.heap.size + 1 + 1, 2, none⟩ = false := frozen_of_row _ _ 2 _ _ rX17_.out
  have Xf3_ : (w2).frozen? ⟨W.heap.size + 1 + 1, 3, none⟩ = false := frozen_of_row _ _ 3 _ _ rX17_.out
  have Xf4_ : (w2).frozen? ⟨W.heap.size + 1 + 1, 4, none⟩ = false := frozen_of_row _ _ 4 _ _ rX17_.out
  go_wp2_with fail
  go_at_call 51
  clear P_0_ P_1_ P_2_ P_3_ P_4_ R_0_ R_1_ R_2_ R_3_ R_4_ X_0_ X_1_ X_2_ X_3_ X_4_ Xf0_ Xf1_ Xf2_ Xf3_ Xf4_
  have rP21_ := Lib.hid (show ((w2.setCell ⟨W.heap.size + 1 + 1, 1, none⟩ ((.slice p1_ n1_ c1_)))).heap[W.heap.size]? = some (.cells #[v0, v1, v2, v3, v4] 30 (0, 0)) from (set_far rP15_.out (by dsimp only; omega)))
  clear rP15_
  have rR22_ := Lib.hid (show ((w2.setCell ⟨W.heap.size + 1 + 1, 1, none⟩ ((.slice p1_ n1_ c1_)))).heap[W.heap.size + 1]? = some (.cells #[.slice none 0 0, .slice none 0 0, .slice none 0 0, .slice none 0 0, .slice none 0 0] 37 (0, 0)) from (set_far rR16_.out (by dsimp only; omega)))
  clear rR16_
  have rX23_ := Lib.hid (show ((w2.setCell ⟨W.heap.size + 1 + 1, 1, none⟩ ((.slice p1_ n1_ c1_)))).heap[W.heap.size + 1 + 1]? = some (.cells #[(.slice p0_ n0_ c0_), (.slice p1_ n1_ c1_), .slice none 0 0, .slice none 0 0, .slice none 0 0] 37 (0, 0)) from (heap_setCell_same _ _ 1 _ _ _ rX17_.out))
  clear rX17_
  have o024_ := Lib.hid (show OwU ((w2.setCell ⟨W.heap.size + 1 + 1, 1, none⟩ ((.slice p1_ n1_ c1_)))) (W.heap.size + 1 + 1 + 1) (w1.heap.size) [] [own shNode (.slice p0_ n0_ c0_) xs0] from (OwU.keep (chg_one _ _ _ _) (by omega) o018_.out))
  clear o018_
  have o125_ := Lib.hid (show OwU ((w2.setCell ⟨W.heap.size + 1 + 1, 1, none⟩ ((.slice p1_ n1_ c1_)))) (w1.heap.size) (w2.heap.size) [] [own shI (.slice p1_ n1_ c1_) xs1] from (OwU.keep (chg_one _ _ _ _) (by omega) o120_.out))
  clear o120_
  have G26_ := Lib.hid (show (W).grownBy ((w2.setCell ⟨W.heap.size + 1 + 1, 1, none⟩ ((.slice p1_ n1_ c1_)))) none from (gby_setnew G19_.out _ (by dsimp only; omega) _))
  refine (toBarS_d _ v2 xs2 (HI2.out.grow G26_.out) hl2).mono ?_
  rintro e w3 ⟨d2, rfl, o, g⟩
  have sz2 := g.size
  first | simp only [World.size_alloc] at sz2 | simp only [World.size_setCell] at sz2 | skip
  first | simp only [World.size_alloc] at o | simp only [World.size_setCell] at o | skip
  have rP27_ := Lib.hid (show (w3).heap[W.heap.size]? = some (.cells #[v0, v1, v2, v3, v4] 30 (0, 0)) from row_held g rP21_.out)
  clear rP21_
  have rR28_ := Lib.hid (show (w3).heap[W.heap.size + 1]? = some (.cells #[.slice none 0 0, .slice none 0 0, .slice none 0 0, .slice none 0 0, .slice none 0 0] 37 (0, 0)) from row_held g rR22_.out)
  clear rR22_
  have rX29_ := Lib.hid (show (w3).heap[W.heap.size + 1 + 1]? = some (.cells #[(.slice p0_ n0_ c0_), (.slice p1_ n1_ c1_), .slice none 0 0, .slice none 0 0, .slice none 0 0] 37 (0, 0)) from row_held g rX23_.out)
  clear rX23_
  have o030_ := Lib.hid (show OwU (w3) (W.heap.size + 1 + 1 + 1) (w1.heap.size) [] [own shNode (.slice p0_ n0_ c0_) xs0] from OwU.grow o024_.out g)
  clear o024_
  have o131_ := Lib.hid (show OwU (w3) (w1.heap.size) (w2.heap.size) [] [own shI (.slice p1_ n1_ c1_) xs1] from OwU.grow o125_.out g)
  clear o125_
  have G32_ := Lib.hid (show (W).grownBy (w3) none from gby_trans G26_.out g)
  clear g
  obtain ⟨p2_, n2_, c2_, hv2_⟩ := RdL.form (OwL.rd o)
  subst hv2_
  have o233_ := Lib.hid (show OwU (w3) (w2.heap.size) (w3.heap.size) [] [own shBar (.slice p2_ n2_ c2_) xs2] from OwU.one o)
  clear o
  have P_0_ : (w3).cell? ⟨W.heap.size, 0, none⟩ = some (v0) := cell_of_row _ _ 0 _ _ _ rP27_.out
  have P_1_ : (w3).cell? ⟨W.heap.size, 1, none⟩ = some (v1) := cell_of_row _ _ 1 _ _ _ rP27_.out
  have P_2_ : (w3).cell? ⟨W.heap.size, 2, none⟩ = some (v2) := cell_of_row _ _ 2 _ _ _ rP27_.out
  have P_3_ : (w3).cell? ⟨W.heap.size, 3, none⟩ = some (v3) := cell_of_row _ _ 3 _ _ _ rP27_.out
  have P_4_ : (w3).cell? ⟨W.heap.size, 4, none⟩ = some (v4) := cell_of_row _ _ 4 _ _ _ rP27_.out
  have R_0_ : (w3).cell? ⟨W.heap.size + 1, 0, none⟩ = some (.slice none 0 0) := cell_of_row _ _ 0 _ _ _ rR28_.out
  have R_1_ : (w3).cell? ⟨W.heap.size + 1, 1, none⟩ = some (.slice none 0 0) := cell_of_row _ _ 1 _ _ _ rR28_.out
  have R_2_ : (w3).cell? ⟨W.heap.size + 1, 2, none⟩ = some (.slice none 0 0) := cell_of_row _ _ 2 _ _ _ rR28_.out
  have R_3_ : (w3).cell? ⟨W.heap.size + 1, 3, none⟩ = some (.slice none 0 0) := cell_of_row _ _ 3 _ _ _ rR28_.out
  have R_4_ : (w3).cell? ⟨W.heap.size + 1, 4, none⟩ = some (.slice none 0 0) := cell_of_row _ _ 4 _ _ _ rR28_.out
  have X_0_ : (w3).cell? ⟨W.heap.size + 1 + 1, 0, none⟩ = some ((.slice p0_ n0_ c0_)) := cell_of_row _ _ 0 _ _ _ rX29_.out
  have X_1_ : (w3).cell? ⟨W.heap.size + 1 + 1, 1, none⟩ = some ((.slice p1_ n1_ c1_)) := cell_of_row _ _ 1 _ _ _ rX29_.out
  have X_2_ : (w3).cell? ⟨W.heap.size + 1 + 1, 2, none⟩ = some (.slice none 0 0) := cell_of_row _ _ 2 _ _ _ rX29_.out
  have X_3_ : (w3).cell? ⟨W.heap.size + 1 + 1, 3, none⟩ = some (.slice none 0 0) := cell_of_row _ _ 3 _ _ _ rX29_.out
  have X_4_ : (w3).cell? ⟨W.heap.size + 1 + 1, 4, none⟩ = some (.slice none 0 0) := cell_of_row _ _ 4 _ _ _ rX29_.out
  have Xf0_ : (w3).frozen? ⟨W.heap.size + 1 + 1, 0, none⟩ = false := frozen_of_row _ _ 0 _ _ rX29_.out
  have Xf1_ : (w3).frozen? ⟨W.heap.size + 1 + 1, 1, none⟩ = false := frozen_of_row _ _ 1 _ _ rX29_.out
  have Xf2_ : (w3).frozen? ⟨W.heap.size + 1 + 1, 2, none⟩ = false := frozen_of_row _ _ 2 _ _ rX29_.out
  have Xf3_ : (w3).frozen? ⟨W.heap.size + 1 + 1, 3, none⟩ = false := frozen_of_row _ _ 3 _ _ rX29_.out
  have Xf4_ : (w3).frozen? ⟨W.heap.size + 1 + 1, 4, none⟩ = false := frozen_of_row _ _ 4 _ _ rX29_.out
  go_wp2_with fail
  go_at_call 22
  clear P_0_ P_1_ P_2_ P_3_ P_4_ R_0_ R_1_ R_2_ R_3_ R_4_ X_0_ X_1_ X_2_ X_3_ X_4_ Xf0_ Xf1_ Xf2_ Xf3_ Xf4_
  have rP34_ := Lib.hid (show ((w3.setCell ⟨W.heap.size + 1 + 1, 2, none⟩ ((.slice p2_ n2_ c2_)))).heap[W.heap.size]? = some (.cells #[v0, v1, v2, v3, v4] 30 (0, 0)) from (set_far rP27_.out (by dsimp only; omega)))
  clear rP27_
  have rR35_ := Lib.hid (show ((w3.setCell ⟨W.heap.size + 1 + 1, 2, none⟩ ((.slice p2_ n2_ c2_)))).heap[W.heap.size + 1]? = some (.cells #[.slice none 0 0, .slice none 0 0, .slice none 0 0, .slice none 0 0, .slice none 0 0] 37 (0, 0)) from (set_far rR28_.out (by dsimp only; omega)))
  clear rR28_
  have rX36_ := Lib.hid (show ((w3.setCell ⟨W.heap.size + 1 + 1, 2, none⟩ ((.slice p2_ n2_ c2_)))).heap[W.heap.size + 1 + 1]? = some (.cells #[(.slice p0_ n0_ c0_), (.slice p1_ n1_ c1_), (.slice p2_ n2_ c2_), .slice none 0 0, .slice none 0 0] 37 (0, 0)) from (heap_setCell_same _ _ 2 _ _ _ rX29_.out))
  clear rX29_
  have o037_ := Lib.hid (show OwU ((w3.setCell ⟨W.heap.size + 1 + 1, 2, none⟩ ((.slice p2_ n2_ c2_)))) (W.heap.size + 1 + 1 + 1) (w1.heap.size) [] [own shNode (.slice p0_ n0_ c0_) xs0] from (OwU.keep (chg_one _ _ _ _) (by omega) o030_.out))
  clear o030_
  have o138_ := Lib.hid (show OwU ((w3.setCell ⟨W.heap.size + 1 + 1, 2, none⟩ ((.slice p2_ n2_ c2_)))) (w1.heap.size) (w2.heap.size) [] [own shI (.slice p1_ n1_ c1_) xs1] from (OwU.keep (chg_one _ _ _ _) (by omega) o131_.out))
  clear o131_
  have o239_ := Lib.hid (show OwU ((w3.setCell ⟨W.heap.size + 1 + 1, 2, none⟩ ((.slice p2_ n2_ c2_)))) (w2.heap.size) (w3.heap.size) [] [own shBar (.slice p2_ n2_ c2_) xs2] from (OwU.keep (chg_one _ _ _ _) (by omega) o233_.out))
  clear o233_
  have G40_ := Lib.hid (show (W).grownBy ((w3.setCell ⟨W.heap.size + 1 + 1, 2, none⟩ ((.slice p2_ n2_ c2_)))) none from (gby_setnew G32_.out _ (by dsimp only; omega) _))
  refine (toIntSS_d _ v3 xs3 (HI3.out.grow G40_.out) hl3).mono ?_
  rintro e w4 ⟨d3, rfl, o, g⟩
  have sz3 := g.size
  first | simp only [World.size_alloc] at sz3 | simp only [World.size_setCell] at sz3 | skip
  first | simp only [World.size_alloc] at o | simp only [World.size_setCell] at o | skip
  have rP41_ := Lib.hid (show (w4).heap[W.heap.size]? = some (.cells #[v0, v1, v2, v3, v4] 30 (0, 0)) from row_held g rP34_.out)
  clear rP34_
  have rR42_ := Lib.hid (show (w4).heap[W.heap.size + 1]? = some (.cells #[.slice none 0 0, .slice none 0 0, .slice none 0 0, .slice none 0 0, .slice none 0 0] 37 (0, 0)) from row_held g rR35_.out)
  clear rR35_
  have rX43_ := Lib.hid (show (w4).heap[W.heap.size + 1 + 1]? = some (.cells #[(.slice p0_ n0_ c0_), (.slice p1_ n1_ c1_), (.slice p2_ n2_ c2_), .slice none 0 0, .slice none 0 0] 37 (0, 0)) from row_held g rX36_.out)
  clear rX36_
  have o044_ := Lib.hid (show OwU (w4) (W.heap.size + 1 + 1 + 1) (w1.heap.size) [] [own shNode (.slice p0_ n0_ c0_) xs0] from OwU.grow o037_.out g)
  clear o037_
  have o145_ := Lib.hid (show OwU (w4) (w1.heap.size) (w2.heap.size) [] [own shI (.slice p1_ n1_ c1_) xs1] from OwU.grow o138_.out g)
  clear o138_
  have o246_ := Lib.hid (show OwU (w4) (w2.heap.size) (w3.heap.size) [] [own shBar (.slice p2_ n2_ c2_) xs2] from OwU.grow o239_.out g)
  clear o239_
  have G47_ := Lib.hid (show (W).grownBy (w4) none from gby_trans G40_.out g)
  clear g
  obtain ⟨p3_, n3_, c3_, hv3_⟩ := RdL.form (OwL.rd o)
  subst hv3_
  have o348_ := Lib.hid (show OwU (w4) (w3.heap.size) (w4.heap.size) [] [own (shL shI) (.slice p3_ n3_ c3_) xs3] from OwU.one o)
  clear o
  have P_0_ : (w4).cell? ⟨W.heap.size, 0, none⟩ = some (v0) := cell_of_row _ _ 0 _ _ _ rP41_.out
  have P_1_ : (w4).cell? ⟨W.heap.size, 1, none⟩ = some (v1) := cell_of_row _ _ 1 _ _ _ rP41_.out
  have P_2_ : (w4).cell? ⟨W.heap.size, 2, none⟩ = some (v2) := cell_of_row _ _ 2 _ _ _ rP41_.out
  have P_3_ : (w4).cell? ⟨W.heap.size, 3, none⟩ = some (v3) := cell_of_row _ _ 3 _ _ _ rP41_.out
  have P_4_ : (w4).cell? ⟨W.heap.size, 4, none⟩ = some (v4) := cell_of_row _ _ 4 _ _ _ rP41_.out
  have R_0_ : (w4).cell? ⟨W.heap.size + 1, 0, none⟩ = some (.slice none 0 0) := cell_of_row _ _ 0 _ _ _ rR42_.out
  have R_1_ : (w4).cell? ⟨W.heap.size + 1, 1, none⟩ = some (.slice none 0 0) := cell_of_row _ _ 1 _ _ _ rR42_.out
  have R_2_ : (w4).cell? ⟨W.heap.size + 1, 2, none⟩ = some (.slice none 0 0) := cell_of_row _ _ 2 _ _ _ rR42_.out
  have R_3_ : (w4).cell? ⟨W.heap.size + 1, 3, none⟩ = some (.slice none 0 0) := cell_of_row _ _ 3 _ _ _ rR42_.out
  have R_4_ : (w4).cell? ⟨W.heap.size + 1, 4, none⟩ = some (.slice none 0 0) := cell_of_row _ _ 4 _ _ _ rR42_.out
  have X_0_ : (w4).cell? ⟨W.heap.size + 1 + 1, 0, none⟩ = some ((.slice p0_ n0_ c0_)) := cell_of_row _ _ 0 _ _ _ rX43_.out
  have X_1_ : (w4).cell? ⟨W.heap.size + 1 + 1, 1, none⟩ = some ((.slice p1_ n1_ c1_)) := cell_of_row _ _ 1 _ _ _ rX43_.out
  have X_2_ : (w4).cell? ⟨W.heap.size + 1 + 1, 2, none⟩ = some ((.slice p2_ n2_ c2_)) := cell_of_row _ _ 2 _ _ _ rX43_.out
  have X_3_ : (w4).cell? ⟨W.heap.size + 1 + 1, 3, none⟩ = some (.slice none 0 0) := cell_of_row _ _ 3 _ _ _ rX43_.out
  have X_4_ : (w4).cell? ⟨W.heap.size + 1 + 1, 4, none⟩ = some (.slice none 0 0) := cell_of_row _ _ 4 _ _ _ rX43_.out
  have Xf0_ : (w4).frozen? ⟨W.heap.size + 1 + 1, 0, none⟩ = false := frozen_of_row _ _ 0 _ _ rX43_.out
  have Xf1_ : (w4).frozen? ⟨W.heap.size + 1 + 1, 1, none⟩ = false := frozen_of_row _ _ 1 _ _ rX43_.out
  have Xf2_ : (w4).frozen? ⟨W.heap.size + 1 + 1, 2, none⟩ = false := frozen_of_row _ _ 2 _ _ rX43_.out
  have Xf3_ : (w4).frozen? ⟨W.heap.size + 1 + 1, 3, none⟩ = false := frozen_of_row _ _ 3 _ _ rX43_.out
  have Xf4_ : (w4).frozen? ⟨W.heap.size + 1 + 1, 4, none⟩ = false := frozen_of_row _ _ 4 _ _ rX43_.out
  go_wp2_with fail
  go_at_call 52
  clear P_0_ P_1_ P_2_ P_3_ P_4_ R_0_ R_1_ R_2_ R_3_ R_4_ X_0_ X_1_ X_2_ X_3_ X_4_ Xf0_ Xf1_ Xf2_ Xf3_ Xf4_
  have rP49_ := Lib.hid (show ((w4.setCell ⟨W.heap.size + 1 + 1, 3, none⟩ ((.slice p3_ n3_ c3_)))).heap[W.heap.size]? = some (.cells #[v0, v1, v2, v3, v4] 30 (0, 0)) from (set_far rP41_.out (by dsimp only; omega)))
  clear rP41_
  have rR50_ := Lib.hid (show ((w4.setCell ⟨W.heap.size + 1 + 1, 3, none⟩ ((.slice p3_ n3_ c3_)))).heap[W.heap.size + 1]? = some (.cells #[.slice none 0 0, .slice none 0 0, .slice none 0 0, .slice none 0 0, .slice none 0 0] 37 (0, 0)) from (set_far rR42_.out (by dsimp only; omega)))
  clear rR42_
  have rX51_ := Lib.hid (show ((w4.setCell ⟨W.heap.size + 1 + 1, 3, none⟩ ((.slice p3_ n3_ c3_)))).heap[W.heap.size + 1 + 1]? = some (.cells #[(.slice p0_ n0_ c0_), (.slice p1_ n1_ c1_), (.slice p2_ n2_ c2_), (.slice p3_ n3_ c3_), .slice none 0 0] 37 (0, 0)) from (heap_setCell_same _ _ 3 _ _ _ rX43_.out))
  clear rX43_
  have o052_ := Lib.hid (show OwU ((w4.setCell ⟨W.heap.size + 1 + 1, 3, none⟩ ((.slice p3_ n3_ c3_)))) (W.heap.size + 1 + 1 + 1) (w1.heap.size) [] [own shNode (.slice p0_ n0_ c0_) xs0] from (OwU.keep (chg_one _ _ _ _) (by omega) o044_.out))
  clear o044_
  have o153_ := Lib.hid (show OwU ((w4.setCell ⟨W.heap.size + 1 + 1, 3, none⟩ ((.slice p3_ n3_ c3_)))) (w1.heap.size) (w2.heap.size) [] [own shI (.slice p1_ n1_ c1_) xs1] from (OwU.keep (chg_one _ _ _ _) (by omega) o145_.out))
  clear o145_
  have o254_ := Lib.hid (show OwU ((w4.setCell ⟨W.heap.size + 1 + 1, 3, none⟩ ((.slice p3_ n3_ c3_)))) (w2.heap.size) (w3.heap.size) [] [own shBar (.slice p2_ n2_ c2_) xs2] from (OwU.keep (chg_one _ _ _ _) (by omega) o246_.out))
  clear o246_
  have o355_ := Lib.hid (show OwU ((w4.setCell ⟨W.heap.size + 1 + 1, 3, none⟩ ((.slice p3_ n3_ c3_)))) (w3.heap.size) (w4.heap.size) [] [own (shL shI) (.slice p3_ n3_ c3_) xs3] from (OwU.keep (chg_one _ _ _ _) (by omega) o348_.out))
  clear o348_
  have G56_ := Lib.hid (show (W).grownBy ((w4.setCell ⟨W.heap.size + 1 + 1, 3, none⟩ ((.slice p3_ n3_ c3_)))) none from (gby_setnew G47_.out _ (by dsimp only; omega) _))
  refine (toGuard_d _ v4 xs4 (HI4.out.grow G56_.out) hl4).mono ?_
  rintro e w5 ⟨d4, rfl, o, g⟩
  have sz4 := g.size
  first | simp only [World.size_alloc] at sz4 | simp only [World.size_setCell] at sz4 | skip
  first | simp only [World.size_alloc] at o | simp only [World.size_setCell] at o | skip
  have rP57_ := Lib.hid (show (w5).heap[W.heap.size]? = some (.cells #[v0, v1, v2, v3, v4] 30 (0, 0)) from row_held g rP49_.out)
  clear rP49_
  have rR58_ := Lib.hid (show (w5).heap[W.heap.size + 1]? = some (.cells #[.slice none 0 0, .slice none 0 0, .slice none 0 0, .slice none 0 0, .slice none 0 0] 37 (0, 0)) from row_held g rR50_.out)
  clear rR50_
  have rX59_ := Lib.hid (show (w5).heap[W.heap.size + 1 + 1]? = some (.cells #[(.slice p0_ n0_ c0_), (.slice p1_ n1_ c1_), (.slice p2_ n2_ c2_), (.slice p3_ n3_ c3_), .slice none 0 0] 37 (0, 0)) from row_held g rX51_.out)
  clear rX51_
  have o060_ := Lib.hid (show OwU (w5) (W.heap.size + 1 + 1 + 1) (w1.heap.size) [] [own shNode (.slice p0_ n0_ c0_) xs0] from OwU.grow o052_.out g)
  clear o052_
  have o161_ := Lib.hid (show OwU (w5) (w1.heap.size) (w2.heap.size) [] [own shI (.slice p1_ n1_ c1_) xs1] from OwU.grow o153_.out g)
  clear o153_
  have o262_ := Lib.hid (show OwU (w5) (w2.heap.size) (w3.heap.size) [] [own shBar (.slice p2_ n2_ c2_) xs2] from OwU.grow o254_.out g)
  clear o254_
  have o363_ := Lib.hid (show OwU (w5) (w3.heap.size) (w4.heap.size) [] [own (shL shI) (.slice p3_ n3_ c3_) xs3] from OwU.grow o355_.out g)
  clear o355_
  have G64_ := Lib.hid (show (W).grownBy (w5) none from gby_trans G56_.out g)
  clear g
  obtain ⟨p4_, n4_, c4_, hv4_⟩ := RdL.form (OwU.rd o)
  subst hv4_
  have o465_ := Lib.hid (show OwU (w5) (w4.heap.size) (w5.heap.size) [] [own shB (.slice p4_ n4_ c4_) xs4] from o)
  clear o
  try unfold vGuard
  have P_0_ : (w5).cell? ⟨W.heap.size, 0, none⟩ = some (v0) := cell_of_row _ _ 0 _ _ _ rP57_.out
  have P_1_ : (w5).cell? ⟨W.heap.size, 1, none⟩ = some (v1) := cell_of_row _ _ 1 _ _ _ rP57_.out
  have P_2_ : (w5).cell? ⟨W.heap.size, 2, none⟩ = some (v2) := cell_of_row _ _ 2 _ _ _ rP57_.out
  have P_3_ : (w5).cell? ⟨W.heap.size, 3, none⟩ = some (v3) := cell_of_row _ _ 3 _ _ _ rP57_.out
  have P_4_ : (w5).cell? ⟨W.heap.size, 4, none⟩ = some (v4) := cell_of_row _ _ 4 _ _ _ rP57_.out
  have R_0_ : (w5).cell? ⟨W.heap.size + 1, 0, none⟩ = some (.slice none 0 0) := cell_of_row _ _ 0 _ _ _ rR58_.out
  have R_1_ : (w5).cell? ⟨W.heap.size + 1, 1, none⟩ = some (.slice none 0 0) := cell_of_row _ _ 1 _ _ _ rR58_.out
  have R_2_ : (w5).cell? ⟨W.heap.size + 1, 2, none⟩ = some (.slice none 0 0) := cell_of_row _ _ 2 _ _ _ rR58_.out
  have R_3_ : (w5).cell? ⟨W.heap.size + 1, 3, none⟩ = some (.slice none 0 0) := cell_of_row _ _ 3 _ _ _ rR58_.out
  have R_4_ : (w5).cell? ⟨W.heap.size + 1, 4, none⟩ = some (.slice none 0 0) := cell_of_row _ _ 4 _ _ _ rR58_.out
  have Rf0_ : (w5).frozen? ⟨W.heap.size + 1, 0, none⟩ = false := frozen_of_row _ _ 0 _ _ rR58_.out
  have Rf1_ : (w5).frozen? ⟨W.heap.size + 1, 1, none⟩ = false := frozen_of_row _ _ 1 _ _ rR58_.out
  have Rf2_ : (w5).frozen? ⟨W.heap.size + 1, 2, none⟩ = false := frozen_of_row _ _ 2 _ _ rR58_.out
  have Rf3_ : (w5).frozen? ⟨W.heap.size + 1, 3, none⟩ = false := frozen_of_row _ _ 3 _ _ rR58_.out
  have Rf4_ : (w5).frozen? ⟨W.heap.size + 1, 4, none⟩ = false := frozen_of_row _ _ 4 _ _ rR58_.out
  have X_0_ : (w5).cell? ⟨W.heap.size + 1 + 1, 0, none⟩ = some ((.slice p0_ n0_ c0_)) := cell_of_row _ _ 0 _ _ _ rX59_.out
  have X_1_ : (w5).cell? ⟨W.heap.size + 1 + 1, 1, none⟩ = some ((.slice p1_ n1_ c1_)) := cell_of_row _ _ 1 _ _ _ rX59_.out
  have X_2_ : (w5).cell? ⟨W.heap.size + 1 + 1, 2, none⟩ = some ((.slice p2_ n2_ c2_)) := cell_of_row _ _ 2 _ _ _ rX59_.out
  have X_3_ : (w5).cell? ⟨W.heap.size + 1 + 1, 3, none⟩ = some ((.slice p3_ n3_ c3_)) := cell_of_row _ _ 3 _ _ _ rX59_.out
  have X_4_ : (w5).cell? ⟨W.heap.size + 1 + 1, 4, none⟩ = some (.slice none 0 0) := cell_of_row _ _ 4 _ _ _ rX59_.out
  have Xf0_ : (w5).frozen? ⟨W.heap.size + 1 + 1, 0, none⟩ = false := frozen_of_row _ _ 0 _ _ rX59_.out
  have Xf1_ : (w5).frozen? ⟨W.heap.size + 1 + 1, 1, none⟩ = false := frozen_of_row _ _ 1 _ _ rX59_.out
  have Xf2_ : (w5).frozen? ⟨W.heap.size + 1 + 1, 2, none⟩ = false := frozen_of_row _ _ 2 _ _ rX59_.out
  have Xf3_ : (w5).frozen? ⟨W.heap.size + 1 + 1, 3, none⟩ = false := frozen_of_row _ _ 3 _ _ rX59_.out
  have Xf4_ : (w5).frozen? ⟨W.heap.size + 1 + 1, 4, none⟩ = false := frozen_of_row _ _ 4 _ _ rX59_.out
  go_wp2
  refine bodyPost_ret (v := vFabric (.slice p0_ n0_ c0_) (.slice p1_ n1_ c1_) (.slice p2_ n2_ c2_) (.slice p3_ n3_ c3_) (.slice p4_ n4_ c4_)) (by simp [results, go_sem, vFabric, R_0_, R_1_, R_2_, R_3_, R_4_]) rfl ⟨(.slice p0_ n0_ c0_), (.slice p1_ n1_ c1_), (.slice p2_ n2_ c2_), (.slice p3_ n3_ c3_), (.slice p4_ n4_ c4_), rfl, ?_, ?_⟩
  · refine OwU.wide (lo := W.heap.size + 1 + 1 + 1) (hi := w5.heap.size) (by omega) (by simp) (OwU.keep (w := w5) (lo' := W.heap.size) (hi' := W.heap.size + 3) ?_ (.inr (by omega)) ?_)
    · repeat (with_reducible refine chg_setp ?_ _ (by dsimp only; omega) (by dsimp only; omega) _)
      exact chg_gby (gby_refl _ _) _ _
    · exact OwU.app (by omega) (by omega) o060_.out (OwU.app (by omega) (by omega) o161_.out (OwU.app (by omega) (by omega) o262_.out (OwU.app (by omega) (by omega) o363_.out (o465_.out))))
  · repeat (with_reducible refine gby_setnew ?_ _ (by dsimp only; omega) _)
    exact G64_.out

set_option maxRecDepth 8000 in
set_option maxHeartbeats 2000000 in
theorem eqFabric_d (W : World) (v0 : Value) (v1 : Value) (v2 : Value) (v3 : Value) (v4 : Value) (v0' : Value) (v1' : Value) (v2' : Value) (v3' : Value) (v4' : Value) (xs0 : List DNode) (xs1 : List Int) (xs2 : List DBar) (xs3 : List (List Int)) (xs4 : List Bool) (H0 : RdL shNode W v0 xs0) (K0 : RdL shNode W v0' xs0) (hl0 : szL shNode xs0 ≤ 1048576) (H1 : RdL shI W v1 xs1) (K1 : RdL shI W v1' xs1) (hl1 : szL shI xs1 ≤ 1048576) (H2 : RdL shBar W v2 xs2) (K2 : RdL shBar W v2' xs2) (hl2 : szL shBar xs2 ≤ 1048576) (H3 : RdL (shL shI) W v3 xs3) (K3 : RdL (shL shI) W v3' xs3) (hl3 : szL (shL shI) xs3 ≤ 1048576) (H4 : RdL shB W v4 xs4) (K4 : RdL shB W v4' xs4) (hl4 : szL shB xs4 ≤ 1048576) :
    Calls Try.prog 14 #[vFabric v0 v1 v2 v3 v4, vFabric v0' v1' v2' v3' v4'] W (AnsN (.bool true) W) := by
  have HI0 := Lib.hid H0
  have HJ0 := Lib.hid K0
  clear H0 K0
  have HI1 := Lib.hid H1
  have HJ1 := Lib.hid K1
  clear H1 K1
  have HI2 := Lib.hid H2
  have HJ2 := Lib.hid K2
  clear H2 K2
  have HI3 := Lib.hid H3
  have HJ3 := Lib.hid K3
  clear H3 K3
  have HI4 := Lib.hid H4
  have HJ4 := Lib.hid K4
  clear H4 K4
  unfold vFabric
  go_enter Try.func14, Try.ntmps14
  have rP1_ := Lib.hid (show (((W.alloc (.cells #[v0, v1, v2, v3, v4] 37)).alloc (.cells #[v0', v1', v2', v3', v4'] 37))).heap[W.heap.size]? = some (.cells #[v0, v1, v2, v3, v4] 37 (0, 0)) from by rw [heap_alloc_old _ _ (by simp only [World.size_alloc]; omega)]; exact heap_alloc_new _ _)
  have rQ2_ := Lib.hid (show (((W.alloc (.cells #[v0, v1, v2, v3, v4] 37)).alloc (.cells #[v0', v1', v2', v3', v4'] 37))).heap[W.heap.size + 1]? = some (.cells #[v0', v1', v2', v3', v4'] 37 (0, 0)) from by exact heap_pair _ _ _)
  have G3_ := Lib.hid (show (W).grownBy (((W.alloc (.cells #[v0, v1, v2, v3, v4] 37)).alloc (.cells #[v0', v1', v2', v3', v4'] 37))) none from (gby_alloc (gby_alloc (gby_refl _ _) _) _))
  have P_0_ : (((W.alloc (.cells #[v0, v1, v2, v3, v4] 37)).alloc (.cells #[v0', v1', v2', v3', v4'] 37))).cell? ⟨W.heap.size, 0, none⟩ = some (v0) := cell_of_row _ _ 0 _ _ _ rP1_.out
  have P_1_ : (((W.alloc (.cells #[v0, v1, v2, v3, v4] 37)).alloc (.cells #[v0', v1', v2', v3', v4'] 37))).cell? ⟨W.heap.size, 1, none⟩ = some (v1) := cell_of_row _ _ 1 _ _ _ rP1_.out
  have P_2_ : (((W.alloc (.cells #[v0, v1, v2, v3, v4] 37)).alloc (.cells #[v0', v1', v2', v3', v4'] 37))).cell? ⟨W.heap.size, 2, none⟩ = some (v2) := cell_of_row _ _ 2 _ _ _ rP1_.out
  have P_3_ : (((W.alloc (.cells #[v0, v1, v2, v3, v4] 37)).alloc (.cells #[v0', v1', v2', v3', v4'] 37))).cell? ⟨W.heap.size, 3, none⟩ = some (v3) := cell_of_row _ _ 3 _ _ _ rP1_.out
  have P_4_ : (((W.alloc (.cells #[v0, v1, v2, v3, v4] 37)).alloc (.cells #[v0', v1', v2', v3', v4'] 37))).cell? ⟨W.heap.size, 4, none⟩ = some (v4) := cell_of_row _ _ 4 _ _ _ rP1_.out
  have Q_0_ : (((W.alloc (.cells #[v0, v1, v2, v3, v4] 37)).alloc (.cells #[v0', v1', v2', v3', v4'] 37))).cell? ⟨W.heap.size + 1, 0, none⟩ = some (v0') := cell_of_row _ _ 0 _ _ _ rQ2_.out
  have Q_1_ : (((W.alloc (.cells #[v0, v1, v2, v3, v4] 37)).alloc (.cells #[v0', v1', v2', v3', v4'] 37))).cell? ⟨W.heap.size + 1, 1, none⟩ = some (v1') := cell_of_row _ _ 1 _ _ _ rQ2_.out
  have Q_2_ : (((W.alloc (.cells #[v0, v1, v2, v3, v4] 37)).alloc (.cells #[v0', v1', v2', v3', v4'] 37))).cell? ⟨W.heap.size + 1, 2, none⟩ = some (v2') := cell_of_row _ _ 2 _ _ _ rQ2_.out
  have Q_3_ : (((W.alloc (.cells #[v0, v1, v2, v3, v4] 37)).alloc (.cells #[v0', v1', v2', v3', v4'] 37))).cell? ⟨W.heap.size + 1, 3, none⟩ = some (v3') := cell_of_row _ _ 3 _ _ _ rQ2_.out
  have Q_4_ : (((W.alloc (.cells #[v0, v1, v2, v3, v4] 37)).alloc (.cells #[v0', v1', v2', v3', v4'] 37))).cell? ⟨W.heap.size + 1, 4, none⟩ = some (v4') := cell_of_row _ _ 4 _ _ _ rQ2_.out
  go_wp2_with fail
  go_at_call 58
  refine (eqNodeS_d _ v0 v0' xs0 (HI0.out.grow G3_.out) (HJ0.out.grow G3_.out) hl0).mono ?_
  rintro e w1 ⟨rfl, g⟩
  clear P_0_ P_1_ P_2_ P_3_ P_4_ Q_0_ Q_1_ Q_2_ Q_3_ Q_4_
  have rP4_ := Lib.hid (show (w1).heap[W.heap.size]? = some (.cells #[v0, v1, v2, v3, v4] 37 (0, 0)) from row_held g rP1_.out)
  clear rP1_
  have rQ5_ := Lib.hid (show (w1).heap[W.heap.size + 1]? = some (.cells #[v0', v1', v2', v3', v4'] 37 (0, 0)) from row_held g rQ2_.out)
  clear rQ2_
  have G6_ := Lib.hid (show (W).grownBy (w1) none from gby_trans G3_.out g)
  clear g
  have P_0_ : (w1).cell? ⟨W.heap.size, 0, none⟩ = some (v0) := cell_of_row _ _ 0 _ _ _ rP4_.out
  have P_1_ : (w1).cell? ⟨W.heap.size, 1, none⟩ = some (v1) := cell_of_row _ _ 1 _ _ _ rP4_.out
  have P_2_ : (w1).cell? ⟨W.heap.size, 2, none⟩ = some (v2) := cell_of_row _ _ 2 _ _ _ rP4_.out
  have P_3_ : (w1).cell? ⟨W.heap.size, 3, none⟩ = some (v3) := cell_of_row _ _ 3 _ _ _ rP4_.out
  have P_4_ : (w1).cell? ⟨W.heap.size, 4, none⟩ = some (v4) := cell_of_row _ _ 4 _ _ _ rP4_.out
  have Q_0_ : (w1).cell? ⟨W.heap.size + 1, 0, none⟩ = some (v0') := cell_of_row _ _ 0 _ _ _ rQ5_.out
  have Q_1_ : (w1).cell? ⟨W.heap.size + 1, 1, none⟩ = some (v1') := cell_of_row _ _ 1 _ _ _ rQ5_.out
  have Q_2_ : (w1).cell? ⟨W.heap.size + 1, 2, none⟩ = some (v2') := cell_of_row _ _ 2 _ _ _ rQ5_.out
  have Q_3_ : (w1).cell? ⟨W.heap.size + 1, 3, none⟩ = some (v3') := cell_of_row _ _ 3 _ _ _ rQ5_.out
  have Q_4_ : (w1).cell? ⟨W.heap.size + 1, 4, none⟩ = some (v4') := cell_of_row _ _ 4 _ _ _ rQ5_.out
  go_wp2_with fail
  go_at_call 24
  refine (eqIntS_d _ v1 v1' xs1 (HI1.out.grow G6_.out) (HJ1.out.grow G6_.out) hl1).mono ?_
  rintro e w2 ⟨rfl, g⟩
  clear P_0_ P_1_ P_2_ P_3_ P_4_ Q_0_ Q_1_ Q_2_ Q_3_ Q_4_
  have rP7_ := Lib.hid (show (w2).heap[W.heap.size]? = some (.cells #[v0, v1, v2, v3, v4] 37 (0, 0)) from row_held g rP4_.out)
  clear rP4_
  have rQ8_ := Lib.hid (show (w2).heap[W.heap.size + 1]? = some (.cells #[v0', v1', v2', v3', v4'] 37 (0, 0)) from row_held g rQ5_.out)
  clear rQ5_
  have G9_ := Lib.hid (show (W).grownBy (w2) none from gby_trans G6_.out g)
  clear g
  have P_0_ : (w2).cell? ⟨W.heap.size, 0, none⟩ = some (v0) := cell_of_row _ _ 0 _ _ _ rP7_.out
  have P_1_ : (w2).cell? ⟨W.heap.size, 1, none⟩ = some (v1) := cell_of_row _ _ 1 _ _ _ rP7_.out
  have P_2_ : (w2).cell? ⟨W.heap.size, 2, none⟩ = some (v2) := cell_of_row _ _ 2 _ _ _ rP7_.out
  have P_3_ : (w2).cell? ⟨W.heap.size, 3, none⟩ = some (v3) := cell_of_row _ _ 3 _ _ _ rP7_.out
  have P_4_ : (w2).cell? ⟨W.heap.size, 4, none⟩ = some (v4) := cell_of_row _ _ 4 _ _ _ rP7_.out
  have Q_0_ : (w2).cell? ⟨W.heap.size + 1, 0, none⟩ = some (v0') := cell_of_row _ _ 0 _ _ _ rQ8_.out
  have Q_1_ : (w2).cell? ⟨W.heap.size + 1, 1, none⟩ = some (v1') := cell_of_row _ _ 1 _ _ _ rQ8_.out
  have Q_2_ : (w2).cell? ⟨W.heap.size + 1, 2, none⟩ = some (v2') := cell_of_row _ _ 2 _ _ _ rQ8_.out
  have Q_3_ : (w2).cell? ⟨W.heap.size + 1, 3, none⟩ = some (v3') := cell_of_row _ _ 3 _ _ _ rQ8_.out
  have Q_4_ : (w2).cell? ⟨W.heap.size + 1, 4, none⟩ = some (v4') := cell_of_row _ _ 4 _ _ _ rQ8_.out
  go_wp2_with fail
  go_at_call 59
  refine (eqBarS_d _ v2 v2' xs2 (HI2.out.grow G9_.out) (HJ2.out.grow G9_.out) hl2).mono ?_
  rintro e w3 ⟨rfl, g⟩
  clear P_0_ P_1_ P_2_ P_3_ P_4_ Q_0_ Q_1_ Q_2_ Q_3_ Q_4_
  have rP10_ := Lib.hid (show (w3).heap[W.heap.size]? = some (.cells #[v0, v1, v2, v3, v4] 37 (0, 0)) from row_held g rP7_.out)
  clear rP7_
  have rQ11_ := Lib.hid (show (w3).heap[W.heap.size + 1]? = some (.cells #[v0', v1', v2', v3', v4'] 37 (0, 0)) from row_held g rQ8_.out)
  clear rQ8_
  have G12_ := Lib.hid (show (W).grownBy (w3) none from gby_trans G9_.out g)
  clear g
  have P_0_ : (w3).cell? ⟨W.heap.size, 0, none⟩ = some (v0) := cell_of_row _ _ 0 _ _ _ rP10_.out
  have P_1_ : (w3).cell? ⟨W.heap.size, 1, none⟩ = some (v1) := cell_of_row _ _ 1 _ _ _ rP10_.out
  have P_2_ : (w3).cell? ⟨W.heap.size, 2, none⟩ = some (v2) := cell_of_row _ _ 2 _ _ _ rP10_.out
  have P_3_ : (w3).cell? ⟨W.heap.size, 3, none⟩ = some (v3) := cell_of_row _ _ 3 _ _ _ rP10_.out
  have P_4_ : (w3).cell? ⟨W.heap.size, 4, none⟩ = some (v4) := cell_of_row _ _ 4 _ _ _ rP10_.out
  have Q_0_ : (w3).cell? ⟨W.heap.size + 1, 0, none⟩ = some (v0') := cell_of_row _ _ 0 _ _ _ rQ11_.out
  have Q_1_ : (w3).cell? ⟨W.heap.size + 1, 1, none⟩ = some (v1') := cell_of_row _ _ 1 _ _ _ rQ11_.out
  have Q_2_ : (w3).cell? ⟨W.heap.size + 1, 2, none⟩ = some (v2') := cell_of_row _ _ 2 _ _ _ rQ11_.out
  have Q_3_ : (w3).cell? ⟨W.heap.size + 1, 3, none⟩ = some (v3') := cell_of_row _ _ 3 _ _ _ rQ11_.out
  have Q_4_ : (w3).cell? ⟨W.heap.size + 1, 4, none⟩ = some (v4') := cell_of_row _ _ 4 _ _ _ rQ11_.out
  go_wp2_with fail
  go_at_call 25
  refine (eqIntSS_d _ v3 v3' xs3 (HI3.out.grow G12_.out) (HJ3.out.grow G12_.out) hl3).mono ?_
  rintro e w4 ⟨rfl, g⟩
  clear P_0_ P_1_ P_2_ P_3_ P_4_ Q_0_ Q_1_ Q_2_ Q_3_ Q_4_
  have rP13_ := Lib.hid (show (w4).heap[W.heap.size]? = some (.cells #[v0, v1, v2, v3, v4] 37 (0, 0)) from row_held g rP10_.out)
  clear rP10_
  have rQ14_ := Lib.hid (show (w4).heap[W.heap.size + 1]? = some (.cells #[v0', v1', v2', v3', v4'] 37 (0, 0)) from row_held g rQ11_.out)
  clear rQ11_
  have G15_ := Lib.hid (show (W).grownBy (w4) none from gby_trans G12_.out g)
  clear g
  have P_0_ : (w4).cell? ⟨W.heap.size, 0, none⟩ = some (v0) := cell_of_row _ _ 0 _ _ _ rP13_.out
  have P_1_ : (w4).cell? ⟨W.heap.size, 1, none⟩ = some (v1) := cell_of_row _ _ 1 _ _ _ rP13_.out
  have P_2_ : (w4).cell? ⟨W.heap.size, 2, none⟩ = some (v2) := cell_of_row _ _ 2 _ _ _ rP13_.out
  have P_3_ : (w4).cell? ⟨W.heap.size, 3, none⟩ = some (v3) := cell_of_row _ _ 3 _ _ _ rP13_.out
  have P_4_ : (w4).cell? ⟨W.heap.size, 4, none⟩ = some (v4) := cell_of_row _ _ 4 _ _ _ rP13_.out
  have Q_0_ : (w4).cell? ⟨W.heap.size + 1, 0, none⟩ = some (v0') := cell_of_row _ _ 0 _ _ _ rQ14_.out
  have Q_1_ : (w4).cell? ⟨W.heap.size + 1, 1, none⟩ = some (v1') := cell_of_row _ _ 1 _ _ _ rQ14_.out
  have Q_2_ : (w4).cell? ⟨W.heap.size + 1, 2, none⟩ = some (v2') := cell_of_row _ _ 2 _ _ _ rQ14_.out
  have Q_3_ : (w4).cell? ⟨W.heap.size + 1, 3, none⟩ = some (v3') := cell_of_row _ _ 3 _ _ _ rQ14_.out
  have Q_4_ : (w4).cell? ⟨W.heap.size + 1, 4, none⟩ = some (v4') := cell_of_row _ _ 4 _ _ _ rQ14_.out
  go_wp2_with fail
  go_at_call 60
  refine (eqGuard_d _ v4 v4' xs4 (HI4.out.grow G15_.out) (HJ4.out.grow G15_.out) hl4).mono ?_
  rintro e w5 ⟨rfl, g⟩
  clear P_0_ P_1_ P_2_ P_3_ P_4_ Q_0_ Q_1_ Q_2_ Q_3_ Q_4_
  have rP16_ := Lib.hid (show (w5).heap[W.heap.size]? = some (.cells #[v0, v1, v2, v3, v4] 37 (0, 0)) from row_held g rP13_.out)
  clear rP13_
  have rQ17_ := Lib.hid (show (w5).heap[W.heap.size + 1]? = some (.cells #[v0', v1', v2', v3', v4'] 37 (0, 0)) from row_held g rQ14_.out)
  clear rQ14_
  have G18_ := Lib.hid (show (W).grownBy (w5) none from gby_trans G15_.out g)
  clear g
  have P_0_ : (w5).cell? ⟨W.heap.size, 0, none⟩ = some (v0) := cell_of_row _ _ 0 _ _ _ rP16_.out
  have P_1_ : (w5).cell? ⟨W.heap.size, 1, none⟩ = some (v1) := cell_of_row _ _ 1 _ _ _ rP16_.out
  have P_2_ : (w5).cell? ⟨W.heap.size, 2, none⟩ = some (v2) := cell_of_row _ _ 2 _ _ _ rP16_.out
  have P_3_ : (w5).cell? ⟨W.heap.size, 3, none⟩ = some (v3) := cell_of_row _ _ 3 _ _ _ rP16_.out
  have P_4_ : (w5).cell? ⟨W.heap.size, 4, none⟩ = some (v4) := cell_of_row _ _ 4 _ _ _ rP16_.out
  have Q_0_ : (w5).cell? ⟨W.heap.size + 1, 0, none⟩ = some (v0') := cell_of_row _ _ 0 _ _ _ rQ17_.out
  have Q_1_ : (w5).cell? ⟨W.heap.size + 1, 1, none⟩ = some (v1') := cell_of_row _ _ 1 _ _ _ rQ17_.out
  have Q_2_ : (w5).cell? ⟨W.heap.size + 1, 2, none⟩ = some (v2') := cell_of_row _ _ 2 _ _ _ rQ17_.out
  have Q_3_ : (w5).cell? ⟨W.heap.size + 1, 3, none⟩ = some (v3') := cell_of_row _ _ 3 _ _ _ rQ17_.out
  have Q_4_ : (w5).cell? ⟨W.heap.size + 1, 4, none⟩ = some (v4') := cell_of_row _ _ 4 _ _ _ rQ17_.out
  go_wp2
  go_ret
  exact ⟨rfl, G18_.out⟩

end Go.Proofs.Ytnighnkkeiegnab
