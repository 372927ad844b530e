/-
  Link by value, on the law's side: measured, copied, compared, marked, held.
-/
import Derived.Test.YtnighnkkeiegnabShpI
import Derived.Test.YtnighnkkeiegnabDFrame
import Derived.Test.YtnighnkkeiegnabQReceiver
import Derived.Test.YtnighnkkeiegnabQSIntS
import Derived.Test.YtnighnkkeiegnabQSender
namespace Go.Proofs.Ytnighnkkeiegnab
open Go Go.RowKit
set_option linter.unusedVariables false

/-- a value of Link -/
def vLink (i0 : Int) (v1 : Value) (i2 : Int) (i3 : Int) (v4 : Value) (v5 : Value) (v6 : Value) : Value := .agg #[.int .i64 i0, v1, .int .i64 i2, .int .i64 i3, v4, v5, v6]

set_option maxRecDepth 8000 in
set_option maxHeartbeats 2000000 in
theorem szLink_d (W : World) (n : Int) (i0 : Int) (v1 : Value) (i2 : Int) (i3 : Int) (v4 : Value) (v5 : Value) (v6 : Value) (xs1 : List DFrame) (xs4 : List (List Int)) (xs5 : List (List Int)) (xs6 : List Int) (H1 : RdL shFrame W v1 xs1) (H4 : RdL (shL shI) W v4 xs4) (H5 : RdL (shL shI) W v5 xs5) (H6 : RdL shI W v6 xs6) (hn : n ≤ 1048576) (h0 : 0 ≤ n) :
    Calls Try.prog 15 #[vLink i0 v1 i2 i3 v4 v5 v6, .int .i64 n] W (AnsN (.int .i64 (lessN n (szL shFrame xs1 + szL (shL shI) xs4 + szL (shL shI) xs5 + szL shI xs6))) W) := by
  obtain ⟨t0, ht0⟩ : ∃ t, t = szL shFrame xs1 := ⟨_, rfl⟩
  obtain ⟨t1, ht1⟩ : ∃ t, t = szL (shL shI) xs4 := ⟨_, rfl⟩
  obtain ⟨t2, ht2⟩ : ∃ t, t = szL (shL shI) xs5 := ⟨_, rfl⟩
  obtain ⟨t3, ht3⟩ : ∃ t, t = szL shI xs6 := ⟨_, rfl⟩
  rw [show (szL shFrame xs1 + szL (shL shI) xs4 + szL (shL shI) xs5 + szL shI xs6) = t0 + t1 + t2 + t3 by omega]
  have HT0 := Lib.hid ht0
  clear ht0
  have HT1 := Lib.hid ht1
  clear ht1
  have HT2 := Lib.hid ht2
  clear ht2
  have HT3 := Lib.hid ht3
  clear ht3
  have HI1 := Lib.hid H1
  clear H1
  have HI4 := Lib.hid H4
  clear H4
  have HI5 := Lib.hid H5
  clear H5
  have HI6 := Lib.hid H6
  clear H6
  unfold vLink
  by_cases h0_ : n < (t0 : Int)
  · rw [show lessN n (t0 + t1 + t2 + t3) = -1 from if_pos (by omega)]
    go_enter Try.func15, Try.ntmps15
    have rA1_ := Lib.hid (show ((W.alloc (.cells #[.int .i64 i0, v1, .int .i64 i2, .int .i64 i3, v4, v5, v6] 46))).heap[W.heap.size]? = some (.cells #[.int .i64 i0, v1, .int .i64 i2, .int .i64 i3, v4, v5, v6] 46 (0, 0)) from by exact heap_alloc_new _ _)
    have G2_ := Lib.hid (show (W).grownBy ((W.alloc (.cells #[.int .i64 i0, v1, .int .i64 i2, .int .i64 i3, v4, v5, v6] 46))) none from (gby_alloc (gby_refl _ _) _))
    have A_0_ : ((W.alloc (.cells #[.int .i64 i0, v1, .int .i64 i2, .int .i64 i3, v4, v5, v6] 46))).cell? ⟨W.heap.size, 0, none⟩ = some (.int .i64 i0) := cell_of_row _ _ 0 _ _ _ rA1_.out
    have A_1_ : ((W.alloc (.cells #[.int .i64 i0, v1, .int .i64 i2, .int .i64 i3, v4, v5, v6] 46))).cell? ⟨W.heap.size, 1, none⟩ = some (v1) := cell_of_row _ _ 1 _ _ _ rA1_.out
    have A_2_ : ((W.alloc (.cells #[.int .i64 i0, v1, .int .i64 i2, .int .i64 i3, v4, v5, v6] 46))).cell? ⟨W.heap.size, 2, none⟩ = some (.int .i64 i2) := cell_of_row _ _ 2 _ _ _ rA1_.out
    have A_3_ : ((W.alloc (.cells #[.int .i64 i0, v1, .int .i64 i2, .int .i64 i3, v4, v5, v6] 46))).cell? ⟨W.heap.size, 3, none⟩ = some (.int .i64 i3) := cell_of_row _ _ 3 _ _ _ rA1_.out
    have A_4_ : ((W.alloc (.cells #[.int .i64 i0, v1, .int .i64 i2, .int .i64 i3, v4, v5, v6] 46))).cell? ⟨W.heap.size, 4, none⟩ = some (v4) := cell_of_row _ _ 4 _ _ _ rA1_.out
    have A_5_ : ((W.alloc (.cells #[.int .i64 i0, v1, .int .i64 i2, .int .i64 i3, v4, v5, v6] 46))).cell? ⟨W.heap.size, 5, none⟩ = some (v5) := cell_of_row _ _ 5 _ _ _ rA1_.out
    have A_6_ : ((W.alloc (.cells #[.int .i64 i0, v1, .int .i64 i2, .int .i64 i3, v4, v5, v6] 46))).cell? ⟨W.heap.size, 6, none⟩ = some (v6) := cell_of_row _ _ 6 _ _ _ rA1_.out
    go_wp2_with fail
    go_at_call 61
    refine (szSender_d _ _ i0 v1 i2 xs1 (HI1.out.grow G2_.out) (by omega) (by omega)).mono ?_
    rintro e w1 ⟨he, g⟩
    rw [← HT0.out, show lessN _ t0 = -1 from if_pos (by omega)] at he
    subst he
    clear A_0_ A_1_ A_2_ A_3_ A_4_ A_5_ A_6_
    have rA3_ := Lib.hid (show (w1).heap[W.heap.size]? = some (.cells #[.int .i64 i0, v1, .int .i64 i2, .int .i64 i3, v4, v5, v6] 46 (0, 0)) from row_held g rA1_.out)
    clear rA1_
    have G4_ := Lib.hid (show (W).grownBy (w1) none from gby_trans G2_.out g)
    clear g
    have hm1 : (-1 : Int) < 0 := by omega
    go_wp2
    go_ret
    exact ⟨rfl, G4_.out⟩
  by_cases h1_ : n - (t0 : Int) < (t1 : Int)
  · rw [show lessN n (t0 + t1 + t2 + t3) = -1 from if_pos (by omega)]
    go_enter Try.func15, Try.ntmps15
    have rA1_ := Lib.hid (show ((W.alloc (.cells #[.int .i64 i0, v1, .int .i64 i2, .int .i64 i3, v4, v5, v6] 46))).heap[W.heap.size]? = some (.cells #[.int .i64 i0, v1, .int .i64 i2, .int .i64 i3, v4, v5, v6] 46 (0, 0)) from by exact heap_alloc_new _ _)
    have G2_ := Lib.hid (show (W).grownBy ((W.alloc (.cells #[.int .i64 i0, v1, .int .i64 i2, .int .i64 i3, v4, v5, v6] 46))) none from (gby_alloc (gby_refl _ _) _))
    have A_0_ : ((W.alloc (.cells #[.int .i64 i0, v1, .int .i64 i2, .int .i64 i3, v4, v5, v6] 46))).cell? ⟨W.heap.size, 0, none⟩ = some (.int .i64 i0) := cell_of_row _ _ 0 _ _ _ rA1_.out
    have A_1_ : ((W.alloc (.cells #[.int .i64 i0, v1, .int .i64 i2, .int .i64 i3, v4, v5, v6] 46))).cell? ⟨W.heap.size, 1, none⟩ = some (v1) := cell_of_row _ _ 1 _ _ _ rA1_.out
    have A_2_ : ((W.alloc (.cells #[.int .i64 i0, v1, .int .i64 i2, .int .i64 i3, v4, v5, v6] 46))).cell? ⟨W.heap.size, 2, none⟩ = some (.int .i64 i2) := cell_of_row _ _ 2 _ _ _ rA1_.out
    have A_3_ : ((W.alloc (.cells #[.int .i64 i0, v1, .int .i64 i2, .int .i64 i3, v4, v5, v6] 46))).cell? ⟨W.heap.size, 3, none⟩ = some (.int .i64 i3) := cell_of_row _ _ 3 _ _ _ rA1_.out
    have A_4_ : ((W.alloc (.cells #[.int .i64 i0, v1, .int .i64 i2, .int .i64 i3, v4, v5, v6] 46))).cell? ⟨W.heap.size, 4, none⟩ = some (v4) := cell_of_row _ _ 4 _ _ _ rA1_.out
    have A_5_ : ((W.alloc (.cells #[.int .i64 i0, v1, .int .i64 i2, .int .i64 i3, v4, v5, v6] 46))).cell? ⟨W.heap.size, 5, none⟩ = some (v5) := cell_of_row _ _ 5 _ _ _ rA1_.out
    have A_6_ : ((W.alloc (.cells #[.int .i64 i0, v1, .int .i64 i2, .int .i64 i3, v4, v5, v6] 46))).cell? ⟨W.heap.size, 6, none⟩ = some (v6) := cell_of_row _ _ 6 _ _ _ rA1_.out
    go_wp2_with fail
    go_at_call 61
    refine (szSender_d _ _ i0 v1 i2 xs1 (HI1.out.grow G2_.out) (by omega) (by omega)).mono ?_
    rintro e w1 ⟨he, g⟩
    rw [← HT0.out, show lessN _ t0 = n - (t0 : Int) from (if_neg (by omega)).trans (by omega)] at he
    subst he
    clear A_0_ A_1_ A_2_ A_3_ A_4_ A_5_ A_6_
    have rA3_ := Lib.hid (show (w1).heap[W.heap.size]? = some (.cells #[.int .i64 i0, v1, .int .i64 i2, .int .i64 i3, v4, v5, v6] 46 (0, 0)) from row_held g rA1_.out)
    clear rA1_
    have G4_ := Lib.hid (show (W).grownBy (w1) none from gby_trans G2_.out g)
    clear g
    have A_0_ : (w1).cell? ⟨W.heap.size, 0, none⟩ = some (.int .i64 i0) := cell_of_row _ _ 0 _ _ _ rA3_.out
    have A_1_ : (w1).cell? ⟨W.heap.size, 1, none⟩ = some (v1) := cell_of_row _ _ 1 _ _ _ rA3_.out
    have A_2_ : (w1).cell? ⟨W.heap.size, 2, none⟩ = some (.int .i64 i2) := cell_of_row _ _ 2 _ _ _ rA3_.out
    have A_3_ : (w1).cell? ⟨W.heap.size, 3, none⟩ = some (.int .i64 i3) := cell_of_row _ _ 3 _ _ _ rA3_.out
    have A_4_ : (w1).cell? ⟨W.heap.size, 4, none⟩ = some (v4) := cell_of_row _ _ 4 _ _ _ rA3_.out
    have A_5_ : (w1).cell? ⟨W.heap.size, 5, none⟩ = some (v5) := cell_of_row _ _ 5 _ _ _ rA3_.out
    have A_6_ : (w1).cell? ⟨W.heap.size, 6, none⟩ = some (v6) := cell_of_row _ _ 6 _ _ _ rA3_.out
    go_wp2_with fail
    go_at_call 37
    refine (szReceiver_d _ _ i3 v4 xs4 (HI4.out.grow G4_.out) (by omega) (by omega)).mono ?_
    rintro e w2 ⟨he, g⟩
    rw [← HT1.out, show lessN _ t1 = -1 from if_pos (by omega)] at he
    subst he
    clear A_0_ A_1_ A_2_ A_3_ A_4_ A_5_ A_6_
    have rA5_ := Lib.hid (show (w2).heap[W.heap.size]? = some (.cells #[.int .i64 i0, v1, .int .i64 i2, .int .i64 i3, v4, v5, v6] 46 (0, 0)) from row_held g rA3_.out)
    clear rA3_
    have G6_ := Lib.hid (show (W).grownBy (w2) none from gby_trans G4_.out g)
    clear g
    have hm1 : (-1 : Int) < 0 := by omega
    go_wp2
    go_ret
    exact ⟨rfl, G6_.out⟩
  by_cases h2_ : n - (t0 : Int) - (t1 : Int) < (t2 : Int)
  · rw [show lessN n (t0 + t1 + t2 + t3) = -1 from if_pos (by omega)]
    go_enter Try.func15, Try.ntmps15
    have rA1_ := Lib.hid (show ((W.alloc (.cells #[.int .i64 i0, v1, .int .i64 i2, .int .i64 i3, v4, v5, v6] 46))).heap[W.heap.size]? = some (.cells #[.int .i64 i0, v1, .int .i64 i2, .int .i64 i3, v4, v5, v6] 46 (0, 0)) from by exact heap_alloc_new _ _)
    have G2_ := Lib.hid (show (W).grownBy ((W.alloc (.cells #[.int .i64 i0, v1, .int .i64 i2, .int .i64 i3, v4, v5, v6] 46))) none from (gby_alloc (gby_refl _ _) _))
    have A_0_ : ((W.alloc (.cells #[.int .i64 i0, v1, .int .i64 i2, .int .i64 i3, v4, v5, v6] 46))).cell? ⟨W.heap.size, 0, none⟩ = some (.int .i64 i0) := cell_of_row _ _ 0 _ _ _ rA1_.out
    have A_1_ : ((W.alloc (.cells #[.int .i64 i0, v1, .int .i64 i2, .int .i64 i3, v4, v5, v6] 46))).cell? ⟨W.heap.size, 1, none⟩ = some (v1) := cell_of_row _ _ 1 _ _ _ rA1_.out
    have A_2_ : ((W.alloc (.cells #[.int .i64 i0, v1, .int .i64 i2, .int .i64 i3, v4, v5, v6] 46))).cell? ⟨W.heap.size, 2, none⟩ = some (.int .i64 i2) := cell_of_row _ _ 2 _ _ _ rA1_.out
    have A_3_ : ((W.alloc (.cells #[.int .i64 i0, v1, .int .i64 i2, .int .i64 i3, v4, v5, v6] 46))).cell? ⟨W.heap.size, 3, none⟩ = some (.int .i64 i3) := cell_of_row _ _ 3 _ _ _ rA1_.out
    have A_4_ : ((W.alloc (.cells #[.int .i64 i0, v1, .int .i64 i2, .int .i64 i3, v4, v5, v6] 46))).cell? ⟨W.heap.size, 4, none⟩ = some (v4) := cell_of_row _ _ 4 _ _ _ rA1_.out
    have A_5_ : ((W.alloc (.cells #[.int .i64 i0, v1, .int .i64 i2, .int .i64 i3, v4, v5, v6] 46))).cell? ⟨W.heap.size, 5, none⟩ = some (v5) := cell_of_row _ _ 5 _ _ _ rA1_.out
    have A_6_ : ((W.alloc (.cells #[.int .i64 i0, v1, .int .i64 i2, .int .i64 i3, v4, v5, v6] 46))).cell? ⟨W.heap.size, 6, none⟩ = some (v6) := cell_of_row _ _ 6 _ _ _ rA1_.out
    go_wp2_with fail
    go_at_call 61
    refine (szSender_d _ _ i0 v1 i2 xs1 (HI1.out.grow G2_.out) (by omega) (by omega)).mono ?_
    rintro e w1 ⟨he, g⟩
    rw [← HT0.out, show lessN _ t0 = n - (t0 : Int) from (if_neg (by omega)).trans (by omega)] at he
    subst he
    clear A_0_ A_1_ A_2_ A_3_ A_4_ A_5_ A_6_
    have rA3_ := Lib.hid (show (w1).heap[W.heap.size]? = some (.cells #[.int .i64 i0, v1, .int .i64 i2, .int .i64 i3, v4, v5, v6] 46 (0, 0)) from row_held g rA1_.out)
    clear rA1_
    have G4_ := Lib.hid (show (W).grownBy (w1) none from gby_trans G2_.out g)
    clear g
    have A_0_ : (w1).cell? ⟨W.heap.size, 0, none⟩ = some (.int .i64 i0) := cell_of_row _ _ 0 _ _ _ rA3_.out
    have A_1_ : (w1).cell? ⟨W.heap.size, 1, none⟩ = some (v1) := cell_of_row _ _ 1 _ _ _ rA3_.out
    have A_2_ : (w1).cell? ⟨W.heap.size, 2, none⟩ = some (.int .i64 i2) := cell_of_row _ _ 2 _ _ _ rA3_.out
    have A_3_ : (w1).cell? ⟨W.heap.size, 3, none⟩ = some (.int .i64 i3) := cell_of_row _ _ 3 _ _ _ rA3_.out
    have A_4_ : (w1).cell? ⟨W.heap.size, 4, none⟩ = some (v4) := cell_of_row _ _ 4 _ _ _ rA3_.out
    have A_5_ : (w1).cell? ⟨W.heap.size, 5, none⟩ = some (v5) := cell_of_row _ _ 5 _ _ _ rA3_.out
    have A_6_ : (w1).cell? ⟨W.heap.size, 6, none⟩ = some (v6) := cell_of_row _ _ 6 _ _ _ rA3_.out
    go_wp2_with fail
    go_at_call 37
    refine (szReceiver_d _ _ i3 v4 xs4 (HI4.out.grow G4_.out) (by omega) (by omega)).mono ?_
    rintro e w2 ⟨he, g⟩
    rw [← HT1.out, show lessN _ t1 = n - (t0 : Int) - (t1 : Int) from (if_neg (by omega)).trans (by omega)] at he
    subst he
    clear A_0_ A_1_ A_2_ A_3_ A_4_ A_5_ A_6_
    have rA5_ := Lib.hid (show (w2).heap[W.heap.size]? = some (.cells #[.int .i64 i0, v1, .int .i64 i2, .int .i64 i3, v4, v5, v6] 46 (0, 0)) from row_held g rA3_.out)
    clear rA3_
    have G6_ := Lib.hid (show (W).grownBy (w2) none from gby_trans G4_.out g)
    clear g
    have A_0_ : (w2).cell? ⟨W.heap.size, 0, none⟩ = some (.int .i64 i0) := cell_of_row _ _ 0 _ _ _ rA5_.out
    have A_1_ : (w2).cell? ⟨W.heap.size, 1, none⟩ = some (v1) := cell_of_row _ _ 1 _ _ _ rA5_.out
    have A_2_ : (w2).cell? ⟨W.heap.size, 2, none⟩ = some (.int .i64 i2) := cell_of_row _ _ 2 _ _ _ rA5_.out
    have A_3_ : (w2).cell? ⟨W.heap.size, 3, none⟩ = some (.int .i64 i3) := cell_of_row _ _ 3 _ _ _ rA5_.out
    have A_4_ : (w2).cell? ⟨W.heap.size, 4, none⟩ = some (v4) := cell_of_row _ _ 4 _ _ _ rA5_.out
    have A_5_ : (w2).cell? ⟨W.heap.size, 5, none⟩ = some (v5) := cell_of_row _ _ 5 _ _ _ rA5_.out
    have A_6_ : (w2).cell? ⟨W.heap.size, 6, none⟩ = some (v6) := cell_of_row _ _ 6 _ _ _ rA5_.out
    go_wp2_with fail
    go_at_call 20
    refine (szIntSS_d _ _ v5 xs5 (HI5.out.grow G6_.out) (by omega) (by omega)).mono ?_
    rintro e w3 ⟨he, g⟩
    rw [← HT2.out, show lessN _ t2 = -1 from if_pos (by omega)] at he
    subst he
    clear A_0_ A_1_ A_2_ A_3_ A_4_ A_5_ A_6_
    have rA7_ := Lib.hid (show (w3).heap[W.heap.size]? = some (.cells #[.int .i64 i0, v1, .int .i64 i2, .int .i64 i3, v4, v5, v6] 46 (0, 0)) from row_held g rA5_.out)
    clear rA5_
    have G8_ := Lib.hid (show (W).grownBy (w3) none from gby_trans G6_.out g)
    clear g
    have hm1 : (-1 : Int) < 0 := by omega
    go_wp2
    go_ret
    exact ⟨rfl, G8_.out⟩
  by_cases h3_ : n - (t0 : Int) - (t1 : Int) - (t2 : Int) < (t3 : Int)
  · rw [show lessN n (t0 + t1 + t2 + t3) = -1 from if_pos (by omega)]
    go_enter Try.func15, Try.ntmps15
    have rA1_ := Lib.hid (show ((W.alloc (.cells #[.int .i64 i0, v1, .int .i64 i2, .int .i64 i3, v4, v5, v6] 46))).heap[W.heap.size]? = some (.cells #[.int .i64 i0, v1, .int .i64 i2, .int .i64 i3, v4, v5, v6] 46 (0, 0)) from by exact heap_alloc_new _ _)
    have G2_ := Lib.hid (show (W).grownBy ((W.alloc (.cells #[.int .i64 i0, v1, .int .i64 i2, .int .i64 i3, v4, v5, v6] 46))) none from (gby_alloc (gby_refl _ _) _))
    have A_0_ : ((W.alloc (.cells #[.int .i64 i0, v1, .int .i64 i2, .int .i64 i3, v4, v5, v6] 46))).cell? ⟨W.heap.size, 0, none⟩ = some (.int .i64 i0) := cell_of_row _ _ 0 _ _ _ rA1_.out
    have A_1_ : ((W.alloc (.cells #[.int .i64 i0, v1, .int .i64 i2, .int .i64 i3, v4, v5, v6] 46))).cell? ⟨W.heap.size, 1, none⟩ = some (v1) := cell_of_row _ _ 1 _ _ _ rA1_.out
    have A_2_ : ((W.alloc (.cells #[.int .i64 i0, v1, .int .i64 i2, .int .i64 i3, v4, v5, v6] 46))).cell? ⟨W.heap.size, 2, none⟩ = some (.int .i64 i2) := cell_of_row _ _ 2 _ _ _ rA1_.out
    have A_3_ : ((W.alloc (.cells #[.int .i64 i0, v1, .int .i64 i2, .int .i64 i3, v4, v5, v6] 46))).cell? ⟨W.heap.size, 3, none⟩ = some (.int .i64 i3) := cell_of_row _ _ 3 _ _ _ rA1_.out
    have A_4_ : ((W.alloc (.cells #[.int .i64 i0, v1, .int .i64 i2, .int .i64 i3, v4, v5, v6] 46))).cell? ⟨W.heap.size, 4, none⟩ = some (v4) := cell_of_row _ _ 4 _ _ _ rA1_.out
    have A_5_ : ((W.alloc (.cells #[.int .i64 i0, v1, .int .i64 i2, .int .i64 i3, v4, v5, v6] 46))).cell? ⟨W.heap.size, 5, none⟩ = some (v5) := cell_of_row _ _ 5 _ _ _ rA1_.out
    have A_6_ : ((W.alloc (.cells #[.int .i64 i0, v1, .int .i64 i2, .int .i64 i3, v4, v5, v6] 46))).cell? ⟨W.heap.size, 6, none⟩ = some (v6) := cell_of_row _ _ 6 _ _ _ rA1_.out
    go_wp2_with fail
    go_at_call 61
    refine (szSender_d _ _ i0 v1 i2 xs1 (HI1.out.grow G2_.out) (by omega) (by omega)).mono ?_
    rintro e w1 ⟨he, g⟩
    rw [← HT0.out, show lessN _ t0 = n - (t0 : Int) from (if_neg (by omega)).trans (by omega)] at he
    subst he
    clear A_0_ A_1_ A_2_ A_3_ A_4_ A_5_ A_6_
    have rA3_ := Lib.hid (show (w1).heap[W.heap.size]? = some (.cells #[.int .i64 i0, v1, .int .i64 i2, .int .i64 i3, v4, v5, v6] 46 (0, 0)) from row_held g rA1_.out)
    clear rA1_
    have G4_ := Lib.hid (show (W).grownBy (w1) none from gby_trans G2_.out g)
    clear g
    have A_0_ : (w1).cell? ⟨W.heap.size, 0, none⟩ = some (.int .i64 i0) := cell_of_row _ _ 0 _ _ _ rA3_.out
    have A_1_ : (w1).cell? ⟨W.heap.size, 1, none⟩ = some (v1) := cell_of_row _ _ 1 _ _ _ rA3_.out
    have A_2_ : (w1).cell? ⟨W.heap.size, 2, none⟩ = some (.int .i64 i2) := cell_of_row _ _ 2 _ _ _ rA3_.out
    have A_3_ : (w1).cell? ⟨W.heap.size, 3, none⟩ = some (.int .i64 i3) := cell_of_row _ _ 3 _ _ _ rA3_.out
    have A_4_ : (w1).cell? ⟨W.heap.size, 4, none⟩ = some (v4) := cell_of_row _ _ 4 _ _ _ rA3_.out
    have A_5_ : (w1).cell? ⟨W.heap.size, 5, none⟩ = some (v5) := cell_of_row _ _ 5 _ _ _ rA3_.out
    have A_6_ : (w1).cell? ⟨W.heap.size, 6, none⟩ = some (v6) := cell_of_row _ _ 6 _ _ _ rA3_.out
    go_wp2_with fail
    go_at_call 37
    refine (szReceiver_d _ _ i3 v4 xs4 (HI4.out.grow G4_.out) (by omega) (by omega)).mono ?_
    rintro e w2 ⟨he, g⟩
    rw [← HT1.out, show lessN _ t1 = n - (t0 : Int) - (t1 : Int) from (if_neg (by omega)).trans (by omega)] at he
    subst he
    clear A_0_ A_1_ A_2_ A_3_ A_4_ A_5_ A_6_
    have rA5_ := Lib.hid (show (w2).heap[W.heap.size]? = some (.cells #[.int .i64 i0, v1, .int .i64 i2, .int .i64 i3, v4, v5, v6] 46 (0, 0)) from row_held g rA3_.out)
    clear rA3_
    have G6_ := Lib.hid (show (W).grownBy (w2) none from gby_trans G4_.out g)
    clear g
    have A_0_ : (w2).cell? ⟨W.heap.size, 0, none⟩ = some (.int .i64 i0) := cell_of_row _ _ 0 _ _ _ rA5_.out
    have A_1_ : (w2).cell? ⟨W.heap.size, 1, none⟩ = some (v1) := cell_of_row _ _ 1 _ _ _ rA5_.out
    have A_2_ : (w2).cell? ⟨W.heap.size, 2, none⟩ = some (.int .i64 i2) := cell_of_row _ _ 2 _ _ _ rA5_.out
    have A_3_ : (w2).cell? ⟨W.heap.size, 3, none⟩ = some (.int .i64 i3) := cell_of_row _ _ 3 _ _ _ rA5_.out
    have A_4_ : (w2).cell? ⟨W.heap.size, 4, none⟩ = some (v4) := cell_of_row _ _ 4 _ _ _ rA5_.out
    have A_5_ : (w2).cell? ⟨W.heap.size, 5, none⟩ = some (v5) := cell_of_row _ _ 5 _ _ _ rA5_.out
    have A_6_ : (w2).cell? ⟨W.heap.size, 6, none⟩ = some (v6) := cell_of_row _ _ 6 _ _ _ rA5_.out
    go_wp2_with fail
    go_at_call 20
    refine (szIntSS_d _ _ v5 xs5 (HI5.out.grow G6_.out) (by omega) (by omega)).mono ?_
    rintro e w3 ⟨he, g⟩
    rw [← HT2.out, show lessN _ t2 = n - (t0 : Int) - (t1 : Int) - (t2 : Int) from (if_neg (by omega)).trans (by omega)] at he
    subst he
    clear A_0_ A_1_ A_2_ A_3_ A_4_ A_5_ A_6_
    have rA7_ := Lib.hid (show (w3).heap[W.heap.size]? = some (.cells #[.int .i64 i0, v1, .int .i64 i2, .int .i64 i3, v4, v5, v6] 46 (0, 0)) from row_held g rA5_.out)
    clear rA5_
    have G8_ := Lib.hid (show (W).grownBy (w3) none from gby_trans G6_.out g)
    clear g
    have A_0_ : (w3).cell? ⟨W.heap.size, 0, none⟩ = some (.int .i64 i0) := cell_of_row _ _ 0 _ _ _ rA7_.out
    have A_1_ : (w3).cell? ⟨W.heap.size, 1, none⟩ = some (v1) := cell_of_row _ _ 1 _ _ _ rA7_.out
    have A_2_ : (w3).cell? ⟨W.heap.size, 2, none⟩ = some (.int .i64 i2) := cell_of_row _ _ 2 _ _ _ rA7_.out
    have A_3_ : (w3).cell? ⟨W.heap.size, 3, none⟩ = some (.int .i64 i3) := cell_of_row _ _ 3 _ _ _ rA7_.out
    have A_4_ : (w3).cell? ⟨W.heap.size, 4, none⟩ = some (v4) := cell_of_row _ _ 4 _ _ _ rA7_.out
    have A_5_ : (w3).cell? ⟨W.heap.size, 5, none⟩ = some (v5) := cell_of_row _ _ 5 _ _ _ rA7_.out
    have A_6_ : (w3).cell? ⟨W.heap.size, 6, none⟩ = some (v6) := cell_of_row _ _ 6 _ _ _ rA7_.out
    go_wp2_with fail
    go_at_call 45
    refine (szIntS_d _ _ v6 xs6 (HI6.out.grow G8_.out) (by omega) (by omega)).mono ?_
    rintro e w4 ⟨he, g⟩
    rw [← HT3.out, show lessN _ t3 = -1 from if_pos (by omega)] at he
    subst he
    clear A_0_ A_1_ A_2_ A_3_ A_4_ A_5_ A_6_
    have rA9_ := Lib.hid (show (w4).heap[W.heap.size]? = some (.cells #[.int .i64 i0, v1, .int .i64 i2, .int .i64 i3, v4, v5, v6] 46 (0, 0)) from row_held g rA7_.out)
    clear rA7_
    have G10_ := Lib.hid (show (W).grownBy (w4) none from gby_trans G8_.out g)
    clear g
    have hm1 : (-1 : Int) < 0 := by omega
    go_wp2
    go_ret
    exact ⟨rfl, G10_.out⟩
  rw [show lessN n (t0 + t1 + t2 + t3) = n - (t0 : Int) - (t1 : Int) - (t2 : Int) - (t3 : Int) from (if_neg (by omega)).trans (by omega)]
  go_enter Try.func15, Try.ntmps15
  have rA1_ := Lib.hid (show ((W.alloc (.cells #[.int .i64 i0, v1, .int .i64 i2, .int .i64 i3, v4, v5, v6] 46))).heap[W.heap.size]? = some (.cells #[.int .i64 i0, v1, .int .i64 i2, .int .i64 i3, v4, v5, v6] 46 (0, 0)) from by exact heap_alloc_new _ _)
  have G2_ := Lib.hid (show (W).grownBy ((W.alloc (.cells #[.int .i64 i0, v1, .int .i64 i2, .int .i64 i3, v4, v5, v6] 46))) none from (gby_alloc (gby_refl _ _) _))
  have A_0_ : ((W.alloc (.cells #[.int .i64 i0, v1, .int .i64 i2, .int .i64 i3, v4, v5, v6] 46))).cell? ⟨W.heap.size, 0, none⟩ = some (.int .i64 i0) := cell_of_row _ _ 0 _ _ _ rA1_.out
  have A_1_ : ((W.alloc (.cells #[.int .i64 i0, v1, .int .i64 i2, .int .i64 i3, v4, v5, v6] 46))).cell? ⟨W.heap.size, 1, none⟩ = some (v1) := cell_of_row _ _ 1 _ _ _ rA1_.out
  have A_2_ : ((W.alloc (.cells #[.int .i64 i0, v1, .int .i64 i2, .int .i64 i3, v4, v5, v6] 46))).cell? ⟨W.heap.size, 2, none⟩ = some (.int .i64 i2) := cell_of_row _ _ 2 _ _ _ rA1_.out
  have A_3_ : ((W.alloc (.cells #[.int .i64 i0, v1, .int .i64 i2, .int .i64 i3, v4, v5, v6] 46))).cell? ⟨W.heap.size, 3, none⟩ = some (.int .i64 i3) := cell_of_row _ _ 3 _ _ _ rA1_.out
  have A_4_ : ((W.alloc (.cells #[.int .i64 i0, v1, .int .i64 i2, .int .i64 i3, v4, v5, v6] 46))).cell? ⟨W.heap.size, 4, none⟩ = some (v4) := cell_of_row _ _ 4 _ _ _ rA1_.out
  have A_5_ : ((W.alloc (.cells #[.int .i64 i0, v1, .int .i64 i2, .int .i64 i3, v4, v5, v6] 46))).cell? ⟨W.heap.size, 5, none⟩ = some (v5) := cell_of_row _ _ 5 _ _ _ rA1_.out
  have A_6_ : ((W.alloc (.cells #[.int .i64 i0, v1, .int .i64 i2, .int .i64 i3, v4, v5, v6] 46))).cell? ⟨W.heap.size, 6, none⟩ = some (v6) := cell_of_row _ _ 6 _ _ _ rA1_.out
  go_wp2_with fail
  go_at_call 61
  refine (szSender_d _ _ i0 v1 i2 xs1 (HI1.out.grow G2_.out) (by omega) (by omega)).mono ?_
  rintro e w1 ⟨he, g⟩
  rw [← HT0.out, show lessN _ t0 = n - (t0 : Int) from (if_neg (by omega)).trans (by omega)] at he
  subst he
  clear A_0_ A_1_ A_2_ A_3_ A_4_ A_5_ A_6_
  have rA3_ := Lib.hid (show (w1).heap[W.heap.size]? = some (.cells #[.int .i64 i0, v1, .int .i64 i2, .int .i64 i3, v4, v5, v6] 46 (0, 0)) from row_held g rA1_.out)
  clear rA1_
  have G4_ := Lib.hid (show (W).grownBy (w1) none from gby_trans G2_.out g)
  clear g
  have A_0_ : (w1).cell? ⟨W.heap.size, 0, none⟩ = some (.int .i64 i0) := cell_of_row _ _ 0 _ _ _ rA3_.out
  have A_1_ : (w1).cell? ⟨W.heap.size, 1, none⟩ = some (v1) := cell_of_row _ _ 1 _ _ _ rA3_.out
  have A_2_ : (w1).cell? ⟨W.heap.size, 2, none⟩ = some (.int .i64 i2) := cell_of_row _ _ 2 _ _ _ rA3_.out
  have A_3_ : (w1).cell? ⟨W.heap.size, 3, none⟩ = some (.int .i64 i3) := cell_of_row _ _ 3 _ _ _ rA3_.out
  have A_4_ : (w1).cell? ⟨W.heap.size, 4, none⟩ = some (v4) := cell_of_row _ _ 4 _ _ _ rA3_.out
  have A_5_ : (w1).cell? ⟨W.heap.size, 5, none⟩ = some (v5) := cell_of_row _ _ 5 _ _ _ rA3_.out
  have A_6_ : (w1).cell? ⟨W.heap.size, 6, none⟩ = some (v6) := cell_of_row _ _ 6 _ _ _ rA3_.out
  go_wp2_with fail
  go_at_call 37
  refine (szReceiver_d _ _ i3 v4 xs4 (HI4.out.grow G4_.out) (by omega) (by omega)).mono ?_
  rintro e w2 ⟨he, g⟩
  rw [← HT1.out, show lessN _ t1 = n - (t0 : Int) - (t1 : Int) from (if_neg (by omega)).trans (by omega)] at he
  subst he
  clear A_0_ A_1_ A_2_ A_3_ A_4_ A_5_ A_6_
  have rA5_ := Lib.hid (show (w2).heap[W.heap.size]? = some (.cells #[.int .i64 i0, v1, .int .i64 i2, .int .i64 i3, v4, v5, v6] 46 (0, 0)) from row_held g rA3_.out)
  clear rA3_
  have G6_ := Lib.hid (show (W).grownBy (w2) none from gby_trans G4_.out g)
  clear g
  have A_0_ : (w2).cell? ⟨W.heap.size, 0, none⟩ = some (.int .i64 i0) := cell_of_row _ _ 0 _ _ _ rA5_.out
  have A_1_ : (w2).cell? ⟨W.heap.size, 1, none⟩ = some (v1) := cell_of_row _ _ 1 _ _ _ rA5_.out
  have A_2_ : (w2).cell? ⟨W.heap.size, 2, none⟩ = some (.int .i64 i2) := cell_of_row _ _ 2 _ _ _ rA5_.out
  have A_3_ : (w2).cell? ⟨W.heap.size, 3, none⟩ = some (.int .i64 i3) := cell_of_row _ _ 3 _ _ _ rA5_.out
  have A_4_ : (w2).cell? ⟨W.heap.size, 4, none⟩ = some (v4) := cell_of_row _ _ 4 _ _ _ rA5_.out
  have A_5_ : (w2).cell? ⟨W.heap.size, 5, none⟩ = some (v5) := cell_of_row _ _ 5 _ _ _ rA5_.out
  have A_6_ : (w2).cell? ⟨W.heap.size, 6, none⟩ = some (v6) := cell_of_row _ _ 6 _ _ _ rA5_.out
  go_wp2_with fail
  go_at_call 20
  refine (szIntSS_d _ _ v5 xs5 (HI5.out.grow G6_.out) (by omega) (by omega)).mono ?_
  rintro e w3 ⟨he, g⟩
  rw [← HT2.out, show lessN _ t2 = n - (t0 : Int) - (t1 : Int) - (t2 : Int) from (if_neg (by omega)).trans (by omega)] at he
  subst he
  clear A_0_ A_1_ A_2_ A_3_ A_4_ A_5_ A_6_
  have rA7_ := Lib.hid (show (w3).heap[W.heap.size]? = some (.cells #[.int .i64 i0, v1, .int .i64 i2, .int .i64 i3, v4, v5, v6] 46 (0, 0)) from row_held g rA5_.out)
  clear rA5_
  have G8_ := Lib.hid (show (W).grownBy (w3) none from gby_trans G6_.out g)
  clear g
  have A_0_ : (w3).cell? ⟨W.heap.size, 0, none⟩ = some (.int .i64 i0) := cell_of_row _ _ 0 _ _ _ rA7_.out
  have A_1_ : (w3).cell? ⟨W.heap.size, 1, none⟩ = some (v1) := cell_of_row _ _ 1 _ _ _ rA7_.out
  have A_2_ : (w3).cell? ⟨W.heap.size, 2, none⟩ = some (.int .i64 i2) := cell_of_row _ _ 2 _ _ _ rA7_.out
  have A_3_ : (w3).cell? ⟨W.heap.size, 3, none⟩ = some (.int .i64 i3) := cell_of_row _ _ 3 _ _ _ rA7_.out
  have A_4_ : (w3).cell? ⟨W.heap.size, 4, none⟩ = some (v4) := cell_of_row _ _ 4 _ _ _ rA7_.out
  have A_5_ : (w3).cell? ⟨W.heap.size, 5, none⟩ = some (v5) := cell_of_row _ _ 5 _ _ _ rA7_.out
  have A_6_ : (w3).cell? ⟨W.heap.size, 6, none⟩ = some (v6) := cell_of_row _ _ 6 _ _ _ rA7_.out
  go_wp2_with fail
  go_at_call 45
  refine (szIntS_d _ _ v6 xs6 (HI6.out.grow G8_.out) (by omega) (by omega)).mono ?_
  rintro e w4 ⟨he, g⟩
  rw [← HT3.out, show lessN _ t3 = n - (t0 : Int) - (t1 : Int) - (t2 : Int) - (t3 : Int) from (if_neg (by omega)).trans (by omega)] at he
  subst he
  clear A_0_ A_1_ A_2_ A_3_ A_4_ A_5_ A_6_
  have rA9_ := Lib.hid (show (w4).heap[W.heap.size]? = some (.cells #[.int .i64 i0, v1, .int .i64 i2, .int .i64 i3, v4, v5, v6] 46 (0, 0)) from row_held g rA7_.out)
  clear rA7_
  have G10_ := Lib.hid (show (W).grownBy (w4) none from gby_trans G8_.out g)
  clear g
  go_wp2
  go_ret
  exact ⟨rfl, G10_.out⟩

/-- a Link in new memory -/
def NewLink (i0 : Int) (xs1 : List DFrame) (i2 : Int) (i3 : Int) (xs4 : List (List Int)) (xs5 : List (List Int)) (xs6 : List Int) (W : World) (e : Ending) (w' : World) : Prop := ∃ v1, ∃ v4, ∃ v5, ∃ v6, e = .returned (vLink i0 v1 i2 i3 v4 v5 v6) ∧ OwU w' W.heap.size w'.heap.size [] [own shFrame v1 xs1, own (shL shI) v4 xs4, own (shL shI) v5 xs5, own shI v6 xs6] ∧ W.grownBy w' none

set_option maxRecDepth 8000 in
set_option maxHeartbeats 4000000 in
theorem toLink_d (W : World) (i0 : Int) (v1 : Value) (i2 : Int) (i3 : Int) (v4 : Value) (v5 : Value) (v6 : Value) (xs1 : List DFrame) (xs4 : List (List Int)) (xs5 : List (List Int)) (xs6 : List Int) (H1 : RdL shFrame W v1 xs1) (hl1 : szL shFrame xs1 ≤ 1048576) (H4 : RdL (shL shI) W v4 xs4) (hl4 : szL (shL shI) xs4 ≤ 1048576) (H5 : RdL (shL shI) W v5 xs5) (hl5 : szL (shL shI) xs5 ≤ 1048576) (H6 : RdL shI W v6 xs6) (hl6 : szL shI xs6 ≤ 1048576) :
    Calls Try.prog 17 #[vLink i0 v1 i2 i3 v4 v5 v6] W (NewLink i0 xs1 i2 i3 xs4 xs5 xs6 W) := by
  have HI1 := Lib.hid H1
  clear H1
  have HI4 := Lib.hid H4
  clear H4
  have HI5 := Lib.hid H5
  clear H5
  have HI6 := Lib.hid H6
  clear H6
  unfold vLink
  go_enter Try.func17, Try.ntmps17
  have rP1_ := Lib.hid (show ((((W.alloc (.cells #[.int .i64 i0, v1, .int .i64 i2, .int .i64 i3, v4, v5, v6] 46)).alloc (.cells #[.int .i64 0, .slice none 0 0, .int .i64 0, .int .i64 0, .slice none 0 0, .slice none 0 0, .slice none 0 0] 54)).alloc (.cells #[.int .i64 0, .slice none 0 0, .int .i64 0, .int .i64 0, .slice none 0 0, .slice none 0 0, .slice none 0 0] 54))).heap[W.heap.size]? = some (.cells #[.int .i64 i0, v1, .int .i64 i2, .int .i64 i3, v4, v5, v6] 46 (0, 0)) from by rw [heap_alloc_old _ _ (by simp only [World.size_alloc]; omega)]; rw [heap_alloc_old _ _ (by simp only [World.size_alloc]; omega)]; exact heap_alloc_new _ _)
  have rR2_ := Lib.hid (show ((((W.alloc (.cells #[.int .i64 i0, v1, .int .i64 i2, .int .i64 i3, v4, v5, v6] 46)).alloc (.cells #[.int .i64 0, .slice none 0 0, .int .i64 0, .int .i64 0, .slice none 0 0, .slice none 0 0, .slice none 0 0] 54)).alloc (.cells #[.int .i64 0, .slice none 0 0, .int .i64 0, .int .i64 0, .slice none 0 0, .slice none 0 0, .slice none 0 0] 54))).heap[W.heap.size + 1]? = some (.cells #[.int .i64 0, .slice none 0 0, .int .i64 0, .int .i64 0, .slice none 0 0, .slice none 0 0, .slice none 0 0] 54 (0, 0)) from by rw [heap_alloc_old _ _ (by simp only [World.size_alloc]; omega)]; exact heap_pair _ _ _)
  have rX3_ := Lib.hid (show ((((W.alloc (.cells #[.int .i64 i0, v1, .int .i64 i2, .int .i64 i3, v4, v5, v6] 46)).alloc (.cells #[.int .i64 0, .slice none 0 0, .int .i64 0, .int .i64 0, .slice none 0 0, .slice none 0 0, .slice none 0 0] 54)).alloc (.cells #[.int .i64 0, .slice none 0 0, .int .i64 0, .int .i64 0, .slice none 0 0, .slice none 0 0, .slice none 0 0] 54))).heap[W.heap.size + 1 + 1]? = some (.cells #[.int .i64 0, .slice none 0 0, .int .i64 0, .int .i64 0, .slice none 0 0, .slice none 0 0, .slice none 0 0] 54 (0, 0)) from by exact heap_trip _ _ _ _)
  have G4_ := Lib.hid (show (W).grownBy ((((W.alloc (.cells #[.int .i64 i0, v1, .int .i64 i2, .int .i64 i3, v4, v5, v6] 46)).alloc (.cells #[.int .i64 0, .slice none 0 0, .int .i64 0, .int .i64 0, .slice none 0 0, .slice none 0 0, .slice none 0 0] 54)).alloc (.cells #[.int .i64 0, .slice none 0 0, .int .i64 0, .int .i64 0, .slice none 0 0, .slice none 0 0, .slice none 0 0] 54))) none from (gby_alloc (gby_alloc (gby_alloc (gby_refl _ _) _) _) _))
  have P_0_ : ((((W.alloc (.cells #[.int .i64 i0, v1, .int .i64 i2, .int .i64 i3, v4, v5, v6] 46)).alloc (.cells #[.int .i64 0, .slice none 0 0, .int .i64 0, .int .i64 0, .slice none 0 0, .slice none 0 0, .slice none 0 0] 54)).alloc (.cells #[.int .i64 0, .slice none 0 0, .int .i64 0, .int .i64 0, .slice none 0 0, .slice none 0 0, .slice none 0 0] 54))).cell? ⟨W.heap.size, 0, none⟩ = some (.int .i64 i0) := cell_of_row _ _ 0 _ _ _ rP1_.out
  have P_1_ : ((((W.alloc (.cells #[.int .i64 i0, v1, .int .i64 i2, .int .i64 i3, v4, v5, v6] 46)).alloc (.cells #[.int .i64 0, .slice none 0 0, .int .i64 0, .int .i64 0, .slice none 0 0, .slice none 0 0, .slice none 0 0] 54)).alloc (.cells #[.int .i64 0, .slice none 0 0, .int .i64 0, .int .i64 0, .slice none 0 0, .slice none 0 0, .slice none 0 0] 54))).cell? ⟨W.heap.size, 1, none⟩ = some (v1) := cell_of_row _ _ 1 _ _ _ rP1_.out
  have P_2_ : ((((W.alloc (.cells #[.int .i64 i0, v1, .int .i64 i2, .int .i64 i3, v4, v5, v6] 46)).alloc (.cells #[.int .i64 0, .slice none 0 0, .int .i64 0, .int .i64 0, .slice none 0 0, .slice none 0 0, .slice none 0 0] 54)).alloc (.cells #[.int .i64 0, .slice none 0 0, .int .i64 0, .int .i64 0, .slice none 0 0, .slice none 0 0, .slice none 0 0] 54))).cell? ⟨W.heap.size, 2, none⟩ = some (.int .i64 i2) := cell_of_row _ _ 2 _ _ _ rP1_.out
  have P_3_ : ((((W.alloc (.cells #[.int .i64 i0, v1, .int .i64 i2, .int .i64 i3, v4, v5, v6] 46)).alloc (.cells #[.int .i64 0, .slice none 0 0, .int .i64 0, .int .i64 0, .slice none 0 0, .slice none 0 0, .slice none 0 0] 54)).alloc (.cells #[.int .i64 0, .slice none 0 0, .int .i64 0, .int .i64 0, .slice none 0 0, .slice none 0 0, .slice none 0 0] 54))).cell? ⟨W.heap.size, 3, none⟩ = some (.int .i64 i3) := cell_of_row _ _ 3 _ _ _ rP1_.out
  have P_4_ : ((((W.alloc (.cells #[.int .i64 i0, v1, .int .i64 i2, .int .i64 i3, v4, v5, v6] 46)).alloc (.cells #[.int .i64 0, .slice none 0 0, .int .i64 0, .int .i64 0, .slice none 0 0, .slice none 0 0, .slice none 0 0] 54)).alloc (.cells #[.int .i64 0, .slice none 0 0, .int .i64 0, .int .i64 0, .slice none 0 0, .slice none 0 0, .slice none 0 0] 54))).cell? ⟨W.heap.size, 4, none⟩ = some (v4) := cell_of_row _ _ 4 _ _ _ rP1_.out
  have P_5_ : ((((W.alloc (.cells #[.int .i64 i0, v1, .int .i64 i2, .int .i64 i3, v4, v5, v6] 46)).alloc (.cells #[.int .i64 0, .slice none 0 0, .int .i64 0, .int .i64 0, .slice none 0 0, .slice none 0 0, .slice none 0 0] 54)).alloc (.cells #[.int .i64 0, .slice none 0 0, .int .i64 0, .int .i64 0, .slice none 0 0, .slice none 0 0, .slice none 0 0] 54))).cell? ⟨W.heap.size, 5, none⟩ = some (v5) := cell_of_row _ _ 5 _ _ _ rP1_.out
  have P_6_ : ((((W.alloc (.cells #[.int .i64 i0, v1, .int .i64 i2, .int .i64 i3, v4, v5, v6] 46)).alloc (.cells #[.int .i64 0, .slice none 0 0, .int .i64 0, .int .i64 0, .slice none 0 0, .slice none 0 0, .slice none 0 0] 54)).alloc (.cells #[.int .i64 0, .slice none 0 0, .int .i64 0, .int .i64 0, .slice none 0 0, .slice none 0 0, .slice none 0 0] 54))).cell? ⟨W.heap.size, 6, none⟩ = some (v6) := cell_of_row _ _ 6 _ _ _ rP1_.out
  have R_0_ : ((((W.alloc (.cells #[.int .i64 i0, v1, .int .i64 i2, .int .i64 i3, v4, v5, v6] 46)).alloc (.cells #[.int .i64 0, .slice none 0 0, .int .i64 0, .int .i64 0, .slice none 0 0, .slice none 0 0, .slice none 0 0] 54)).alloc (.cells #[.int .i64 0, .slice none 0 0, .int .i64 0, .int .i64 0, .slice none 0 0, .slice none 0 0, .slice none 0 0] 54))).cell? ⟨W.heap.size + 1, 0, none⟩ = some (.int .i64 0) := cell_of_row _ _ 0 _ _ _ rR2_.out
  have R_1_ : ((((W.alloc (.cells #[.int .i64 i0, v1, .int .i64 i2, .int .i64 i3, v4, v5, v6] 46)).alloc (.cells #[.int .i64 0, .slice none 0 0, .int .i64 0, .int .i64 0, .slice none 0 0, .slice none 0 0, .slice none 0 0] 54)).alloc (.cells #[.int .i64 0, .slice none 0 0, .int .i64 0, .int .i64 0, .slice none 0 0, .slice none 0 0, .slice none 0 0] 54))).cell? ⟨W.heap.size + 1, 1, none⟩ = some (.slice none 0 0) := cell_of_row _ _ 1 _ _ _ rR2_.out
  have R_2_ : ((((W.alloc (.cells #[.int .i64 i0, v1, .int .i64 i2, .int .i64 i3, v4, v5, v6] 46)).alloc (.cells #[.int .i64 0, .slice none 0 0, .int .i64 0, .int .i64 0, .slice none 0 0, .slice none 0 0, .slice none 0 0] 54)).alloc (.cells #[.int .i64 0, .slice none 0 0, .int .i64 0, .int .i64 0, .slice none 0 0, .slice none 0 0, .slice none 0 0] 54))).cell? ⟨W.heap.size + 1, 2, none⟩ = some (.int .i64 0) := cell_of_row _ _ 2 _ _ _ rR2_.out
  have R_3_ : ((((W.alloc (.cells #[.int .i64 i0, v1, .int .i64 i2, .int .i64 i3, v4, v5, v6] 46)).alloc (.cells #[.int .i64 0, .slice none 0 0, .int .i64 0, .int .i64 0, .slice none 0 0, .slice none 0 0, .slice none 0 0] 54)).alloc (.cells #[.int .i64 0, .slice none 0 0, .int .i64 0, .int .i64 0, .slice none 0 0, .slice none 0 0, .slice none 0 0] 54))).cell? ⟨W.heap.size + 1, 3, none⟩ = some (.int .i64 0) := cell_of_row _ _ 3 _ _ _ rR2_.out
  have R_4_ : ((((W.alloc (.cells #[.int .i64 i0, v1, .int .i64 i2, .int .i64 i3, v4, v5, v6] 46)).alloc (.cells #[.int .i64 0, .slice none 0 0, .int .i64 0, .int .i64 0, .slice none 0 0, .slice none 0 0, .slice none 0 0] 54)).alloc (.cells #[.int .i64 0, .slice none 0 0, .int .i64 0, .int .i64 0, .slice none 0 0, .slice none 0 0, .slice none 0 0] 54))).cell? ⟨W.heap.size + 1, 4, none⟩ = some (.slice none 0 0) := cell_of_row _ _ 4 _ _ _ rR2_.out
  have R_5_ : ((((W.alloc (.cells #[.int .i64 i0, v1, .int .i64 i2, .int .i64 i3, v4, v5, v6] 46)).alloc (.cells #[.int .i64 0, .slice none 0 0, .int .i64 0, .int .i64 0, .slice none 0 0, .slice none 0 0, .slice none 0 0] 54)).alloc (.cells #[.int .i64 0, .slice none 0 0, .int .i64 0, .int .i64 0, .slice none 0 0, .slice none 0 0, .slice none 0 0] 54))).cell? ⟨W.heap.size + 1, 5, none⟩ = some (.slice none 0 0) := cell_of_row _ _ 5 _ _ _ rR2_.out
  have R_6_ : ((((W.alloc (.cells #[.int .i64 i0, v1, .int .i64 i2, .int .i64 i3, v4, v5, v6] 46)).alloc (.cells #[.int .i64 0, .slice none 0 0, .int .i64 0, .int .i64 0, .slice none 0 0, .slice none 0 0, .slice none 0 0] 54)).alloc (.cells #[.int .i64 0, .slice none 0 0, .int .i64 0, .int .i64 0, .slice none 0 0, .slice none 0 0, .slice none 0 0] 54))).cell? ⟨W.heap.size + 1, 6, none⟩ = some (.slice none 0 0) := cell_of_row _ _ 6 _ _ _ rR2_.out
  have X_0_ : ((((W.alloc (.cells #[.int .i64 i0, v1, .int .i64 i2, .int .i64 i3, v4, v5, v6] 46)).alloc (.cells #[.int .i64 0, .slice none 0 0, .int .i64 0, .int .i64 0, .slice none 0 0, .slice none 0 0, .slice none 0 0] 54)).alloc (.cells #[.int .i64 0, .slice none 0 0, .int .i64 0, .int .i64 0, .slice none 0 0, .slice none 0 0, .slice none 0 0] 54))).cell? ⟨W.heap.size + 1 + 1, 0, none⟩ = some (.int .i64 0) := cell_of_row _ _ 0 _ _ _ rX3_.out
  have X_1_ : ((((W.alloc (.cells #[.int .i64 i0, v1, .int .i64 i2, .int .i64 i3, v4, v5, v6] 46)).alloc (.cells #[.int .i64 0, .slice none 0 0, .int .i64 0, .int .i64 0, .slice none 0 0, .slice none 0 0, .slice none 0 0] 54)).alloc (.cells #[.int .i64 0, .slice none 0 0, .int .i64 0, .int .i64 0, .slice none 0 0, .slice none 0 0, .slice none 0 0] 54))).cell? ⟨W.heap.size + 1 + 1, 1, none⟩ = some (.slice none 0 0) := cell_of_row _ _ 1 _ _ _ rX3_.out
  have X_2_ : ((((W.alloc (.cells #[.int .i64 i0, v1, .int .i64 i2, .int .i64 i3, v4, v5, v6] 46)).alloc (.cells #[.int .i64 0, .slice none 0 0, .int .i64 0, .int .i64 0, .slice none 0 0, .slice none 0 0, .slice none 0 0] 54)).alloc (.cells #[.int .i64 0, .slice none 0 0, .int .i64 0, .int .i64 0, .slice none 0 0, .slice none 0 0, .slice none 0 0] 54))).cell? ⟨W.heap.size + 1 + 1, 2, none⟩ = some (.int .i64 0) := cell_of_row _ _ 2 _ _ _ rX3_.out
  have X_3_ : ((((W.alloc (.cells #[.int .i64 i0, v1, .int .i64 i2, .int .i64 i3, v4, v5, v6] 46)).alloc (.cells #[.int .i64 0, .slice none 0 0, .int .i64 0, .int .i64 0, .slice none 0 0, .slice none 0 0, .slice none 0 0] 54)).alloc (.cells #[.int .i64 0, .slice none 0 0, .int .i64 0, .int .i64 0, .slice none 0 0, .slice none 0 0, .slice none 0 0] 54))).cell? ⟨W.heap.size + 1 + 1, 3, none⟩ = some (.int .i64 0) := cell_of_row _ _ 3 _ _ _ rX3_.out
  have X_4_ : ((((W.alloc (.cells #[.int .i64 i0, v1, .int .i64 i2, .int .i64 i3, v4, v5, v6] 46)).alloc (.cells #[.int .i64 0, .slice none 0 0, .int .i64 0, .int .i64 0, .slice none 0 0, .slice none 0 0, .slice none 0 0] 54)).alloc (.cells #[.int .i64 0, .slice none 0 0, .int .i64 0, .int .i64 0, .slice none 0 0, .slice none 0 0, .slice none 0 0] 54))).cell? ⟨W.heap.size + 1 + 1, 4, none⟩ = some (.slice none 0 0) := cell_of_row _ _ 4 _ _ _ rX3_.out
  have X_5_ : ((((W.alloc (.cells #[.int .i64 i0, v1, .int .i64 i2, .int .i64 i3, v4, v5, v6] 46)).alloc (.cells #[.int .i64 0, .slice none 0 0, .int .i64 0, .int .i64 0, .slice none 0 0, .slice none 0 0, .slice none 0 0] 54)).alloc (.cells #[.int .i64 0, .slice none 0 0, .int .i64 0, .int .i64 0, .slice none 0 0, .slice none 0 0, .slice none 0 0] 54))).cell? ⟨W.heap.size + 1 + 1, 5, none⟩ = some (.slice none 0 0) := cell_of_row _ _ 5 _ _ _ rX3_.out
  have X_6_ : ((((W.alloc (.cells #[.int .i64 i0, v1, .int .i64 i2, .int .i64 i3, v4, v5, v6] 46)).alloc (.cells #[.int .i64 0, .slice none 0 0, .int .i64 0, .int .i64 0, .slice none 0 0, .slice none 0 0, .slice none 0 0] 54)).alloc (.cells #[.int .i64 0, .slice none 0 0, .int .i64 0, .int .i64 0, .slice none 0 0, .slice none 0 0, .slice none 0 0] 54))).cell? ⟨W.heap.size + 1 + 1, 6, none⟩ = some (.slice none 0 0) := cell_of_row _ _ 6 _ _ _ rX3_.out
  have Xf0_ : ((((W.alloc (.cells #[.int .i64 i0, v1, .int .i64 i2, .int .i64 i3, v4, v5, v6] 46)).alloc (.cells #[.int .i64 0, .slice none 0 0, .int .i64 0, .int .i64 0, .slice none 0 0, .slice none 0 0, .slice none 0 0] 54)).alloc (.cells #[.int .i64 0, .slice none 0 0, .int .i64 0, .int .i64 0, .slice none 0 0, .slice none 0 0, .slice none 0 0] 54))).frozen? ⟨W.heap.size + 1 + 1, 0, none⟩ = false := frozen_of_row _ _ 0 _ _ rX3_.out
  have Xf1_ : ((((W.alloc (.cells #[.int .i64 i0, v1, .int .i64 i2, .int .i64 i3, v4, v5, v6] 46)).alloc (.cells #[.int .i64 0, .slice none 0 0, .int .i64 0, .int .i64 0, .slice none 0 0, .slice none 0 0, .slice none 0 0] 54)).alloc (.cells #[.int .i64 0, .slice none 0 0, .int .i64 0, .int .i64 0, .slice none 0 0, .slice none 0 0, .slice none 0 0] 54))).frozen? ⟨W.heap.size + 1 + 1, 1, none⟩ = false := frozen_of_row _ _ 1 _ _ rX3_.out
  have Xf2_ : ((((W.alloc (.cells #[.int .i64 i0, v1, .int .i64 i2, .int .i64 i3, v4, v5, v6] 46)).alloc (.cells #[.int .i64 0, .slice none 0 0, .int .i64 0, .int .i64 0, .slice none 0 0, .slice none 0 0, .slice none 0 0] 54)).alloc (.cells #[.int .i64 0, .slice none 0 0, .int .i64 0, .int .i64 0, .slice none 0 0, .slice none 0 0, .slice none 0 0] 54))).frozen? ⟨W.heap.size + 1 + 1, 2, none⟩ = false := frozen_of_row _ _ 2 _ _ rX3_.out
  have Xf3_ : ((((W.alloc (.cells #[.int .i64 i0, v1, .int .i64 i2, .int .i64 i3, v4, v5, v6] 46)).alloc (.cells #[.int .i64 0, .slice none 0 0, .int .i64 0, .int .i64 0, .slice none 0 0, .slice none 0 0, .slice none 0 0] 54)).alloc (.cells #[.int .i64 0, .slice none 0 0, .int .i64 0, .int .i64 0, .slice none 0 0, .slice none 0 0, .slice none 0 0] 54))).frozen? ⟨W.heap.size + 1 + 1, 3, none⟩ = false := frozen_of_row _ _ 3 _ _ rX3_.out
  have Xf4_ : ((((W.alloc (.cells #[.int .i64 i0, v1, .int .i64 i2, .int .i64 i3, v4, v5, v6] 46)).alloc (.cells #[.int .i64 0, .slice none 0 0, .int .i64 0, .int .i64 0, .slice none 0 0, .slice none 0 0, .slice none 0 0] 54)).alloc (.cells #[.int .i64 0, .slice none 0 0, .int .i64 0, .int .i64 0, .slice none 0 0, .slice none 0 0, .slice none 0 0] 54))).frozen? ⟨W.heap.size + 1 + 1, 4, none⟩ = false := frozen_of_row _ _ 4 _ _ rX3_.out
  have Xf5_ : ((((W.alloc (.cells #[.int .i64 i0, v1, .int .i64 i2, .int .i64 i3, v4, v5, v6] 46)).alloc (.cells #[.int .i64 0, .slice none 0 0, .int .i64 0, .int .i64 0, .slice none 0 0, .slice none 0 0, .slice none 0 0] 54)).alloc (.cells #[.int .i64 0, .slice none 0 0, .int .i64 0, .int .i64 0, .slice none 0 0, .slice none 0 0, .slice none 0 0] 54))).frozen? ⟨W.heap.size + 1 + 1, 5, none⟩ = false := frozen_of_row _ _ 5 _ _ rX3_.out
  have Xf6_ : ((((W.alloc (.cells #[.int .i64 i0, v1, .int .i64 i2, .int .i64 i3, v4, v5, v6] 46)).alloc (.cells #[.int .i64 0, .slice none 0 0, .int .i64 0, .int .i64 0, .slice none 0 0, .slice none 0 0, .slice none 0 0] 54)).alloc (.cells #[.int .i64 0, .slice none 0 0, .int .i64 0, .int .i64 0, .slice none 0 0, .slice none 0 0, .slice none 0 0] 54))).frozen? ⟨W.heap.size + 1 + 1, 6, none⟩ = false := frozen_of_row _ _ 6 _ _ rX3_.out
  go_wp2_with fail
  go_at_call 66
  clear P_0_ P_1_ P_2_ P_3_ P_4_ P_5_ P_6_ R_0_ R_1_ R_2_ R_3_ R_4_ R_5_ R_6_ X_0_ X_1_ X_2_ X_3_ X_4_ X_5_ X_6_ Xf0_ Xf1_ Xf2_ Xf3_ Xf4_ Xf5_ Xf6_
  refine (toSender_d _ i0 v1 i2 xs1 (HI1.out.grow G4_.out) hl1).mono ?_
  rintro e w1 ⟨d1, rfl, o, g⟩
  have sz0 := g.size
  first | simp only [World.size_alloc] at sz0 | simp only [World.size_setCell] at sz0 | skip
  first | simp only [World.size_alloc] at o | simp only [World.size_setCell] at o | skip
  have rP5_ := Lib.hid (show (w1).heap[W.heap.size]? = some (.cells #[.int .i64 i0, v1, .int .i64 i2, .int .i64 i3, v4, v5, v6] 46 (0, 0)) from row_held g rP1_.out)
  clear rP1_
  have rR6_ := Lib.hid (show (w1).heap[W.heap.size + 1]? = some (.cells #[.int .i64 0, .slice none 0 0, .int .i64 0, .int .i64 0, .slice none 0 0, .slice none 0 0, .slice none 0 0] 54 (0, 0)) from row_held g rR2_.out)
  clear rR2_
  have rX7_ := Lib.hid (show (w1).heap[W.heap.size + 1 + 1]? = some (.cells #[.int .i64 0, .slice none 0 0, .int .i64 0, .int .i64 0, .slice none 0 0, .slice none 0 0, .slice none 0 0] 54 (0, 0)) from row_held g rX3_.out)
  clear rX3_
  have G8_ := Lib.hid (show (W).grownBy (w1) none from gby_trans G4_.out g)
  clear g
  obtain ⟨p1_, n1_, c1_, hv1_⟩ := RdL.form (OwU.rd o)
  subst hv1_
  have o09_ := Lib.hid (show OwU (w1) (W.heap.size + 1 + 1 + 1) (w1.heap.size) [] [own shFrame (.slice p1_ n1_ c1_) xs1] from o)
  clear o
  try unfold vSender
  have P_0_ : (w1).cell? ⟨W.heap.size, 0, none⟩ = some (.int .i64 i0) := cell_of_row _ _ 0 _ _ _ rP5_.out
  have P_1_ : (w1).cell? ⟨W.heap.size, 1, none⟩ = some (v1) := cell_of_row _ _ 1 _ _ _ rP5_.out
  have P_2_ : (w1).cell? ⟨W.heap.size, 2, none⟩ = some (.int .i64 i2) := cell_of_row _ _ 2 _ _ _ rP5_.out
  have P_3_ : (w1).cell? ⟨W.heap.size, 3, none⟩ = some (.int .i64 i3) := cell_of_row _ _ 3 _ _ _ rP5_.out
  have P_4_ : (w1).cell? ⟨W.heap.size, 4, none⟩ = some (v4) := cell_of_row _ _ 4 _ _ _ rP5_.out
  have P_5_ : (w1).cell? ⟨W.heap.size, 5, none⟩ = some (v5) := cell_of_row _ _ 5 _ _ _ rP5_.out
  have P_6_ : (w1).cell? ⟨W.heap.size, 6, none⟩ = some (v6) := cell_of_row _ _ 6 _ _ _ rP5_.out
  have R_0_ : (w1).cell? ⟨W.heap.size + 1, 0, none⟩ = some (.int .i64 0) := cell_of_row _ _ 0 _ _ _ rR6_.out
  have R_1_ : (w1).cell? ⟨W.heap.size + 1, 1, none⟩ = some (.slice none 0 0) := cell_of_row _ _ 1 _ _ _ rR6_.out
  have R_2_ : (w1).cell? ⟨W.heap.size + 1, 2, none⟩ = some (.int .i64 0) := cell_of_row _ _ 2 _ _ _ rR6_.out
  have R_3_ : (w1).cell? ⟨W.heap.size + 1, 3, none⟩ = some (.int .i64 0) := cell_of_row _ _ 3 _ _ _ rR6_.out
  have R_4_ : (w1).cell? ⟨W.heap.size + 1, 4, none⟩ = some (.slice none 0 0) := cell_of_row _ _ 4 _ _ _ rR6_.out
  have R_5_ : (w1).cell? ⟨W.heap.size + 1, 5, none⟩ = some (.slice none 0 0) := cell_of_row _ _ 5 _ _ _ rR6_.out
  have R_6_ : (w1).cell? ⟨W.heap.size + 1, 6, none⟩ = some (.slice none 0 0) := cell_of_row _ _ 6 _ _ _ rR6_.out
  have X_0_ : (w1).cell? ⟨W.heap.size + 1 + 1, 0, none⟩ = some (.int .i64 0) := cell_of_row _ _ 0 _ _ _ rX7_.out
  have X_1_ : (w1).cell? ⟨W.heap.size + 1 + 1, 1, none⟩ = some (.slice none 0 0) := cell_of_row _ _ 1 _ _ _ rX7_.out
  have X_2_ : (w1).cell? ⟨W.heap.size + 1 + 1, 2, none⟩ = some (.int .i64 0) := cell_of_row _ _ 2 _ _ _ rX7_.out
  have X_3_ : (w1).cell? ⟨W.heap.size + 1 + 1, 3, none⟩ = some (.int .i64 0) := cell_of_row _ _ 3 _ _ _ rX7_.out
  have X_4_ : (w1).cell? ⟨W.heap.size + 1 + 1, 4, none⟩ = some (.slice none 0 0) := cell_of_row _ _ 4 _ _ _ rX7_.out
  have X_5_ : (w1).cell? ⟨W.heap.size + 1 + 1, 5, none⟩ = some (.slice none 0 0) := cell_of_row _ _ 5 _ _ _ rX7_.out
  have X_6_ : (w1).cell? ⟨W.heap.size + 1 + 1, 6, none⟩ = some (.slice none 0 0) := cell_of_row _ _ 6 _ _ _ rX7_.out
  have Xf0_ : (w1).frozen? ⟨W.heap.size + 1 + 1, 0, none⟩ = false := frozen_of_row _ _ 0 _ _ rX7_.out
  have Xf1_ : (w1).frozen? ⟨W.heap.size + 1 + 1, 1, none⟩ = false := frozen_of_row _ _ 1 _ _ rX7_.out
  have Xf2_ : (w1).frozen? ⟨W.heap.size + 1 + 1, 2, none⟩ = false := frozen_of_row _ _ 2 _ _ rX7_.out
  have Xf3_ : (w1).frozen? ⟨W.heap.size + 1 + 1, 3, none⟩ = false := frozen_of_row _ _ 3 _ _ rX7_.out
  have Xf4_ : (w1).frozen? ⟨W.heap.size + 1 + 1, 4, none⟩ = false := frozen_of_row _ _ 4 _ _ rX7_.out
  have Xf5_ : (w1).frozen? ⟨W.heap.size + 1 + 1, 5, none⟩ = false := frozen_of_row _ _ 5 _ _ rX7_.out
  have Xf6_ : (w1).frozen? ⟨W.heap.size + 1 + 1, 6, none⟩ = false := frozen_of_row _ _ 6 _ _ rX7_.out
  go_wp2_with fail
  go_at_call 39
  clear P_0_ P_1_ P_2_ P_3_ P_4_ P_5_ P_6_ R_0_ R_1_ R_2_ R_3_ R_4_ R_5_ R_6_ X_0_ X_1_ X_2_ X_3_ X_4_ X_5_ X_6_ Xf0_ Xf1_ Xf2_ Xf3_ Xf4_ Xf5_ Xf6_
  have rP10_ := Lib.hid (show ((((w1.setCell ⟨W.heap.size + 1 + 1, 0, none⟩ (.int .i64 i0)).setCell ⟨W.heap.size + 1 + 1, 1, none⟩ ((.slice p1_ n1_ c1_))).setCell ⟨W.heap.size + 1 + 1, 2, none⟩ (.int .i64 i2))).heap[W.heap.size]? = some (.cells #[.int .i64 i0, v1, .int .i64 i2, .int .i64 i3, v4, v5, v6] 46 (0, 0)) from (set_far (set_far (set_far rP5_.out (by dsimp only; omega)) (by dsimp only; omega)) (by dsimp only; omega)))
  clear rP5_
  have rR11_ := Lib.hid (show ((((w1.setCell ⟨W.heap.size + 1 + 1, 0, none⟩ (.int .i64 i0)).setCell ⟨W.heap.size + 1 + 1, 1, none⟩ ((.slice p1_ n1_ c1_))).setCell ⟨W.heap.size + 1 + 1, 2, none⟩ (.int .i64 i2))).heap[W.heap.size + 1]? = some (.cells #[.int .i64 0, .slice none 0 0, .int .i64 0, .int .i64 0, .slice none 0 0, .slice none 0 0, .slice none 0 0] 54 (0, 0)) from (set_far (set_far (set_far rR6_.out (by dsimp only; omega)) (by dsimp only; omega)) (by dsimp only; omega)))
  clear rR6_
  have rX12_ := Lib.hid (show ((((w1.setCell ⟨W.heap.size + 1 + 1, 0, none⟩ (.int .i64 i0)).setCell ⟨W.heap.size + 1 + 1, 1, none⟩ ((.slice p1_ n1_ c1_))).setCell ⟨W.heap.size + 1 + 1, 2, none⟩ (.int .i64 i2))).heap[W.heap.size + 1 + 1]? = some (.cells #[.int .i64 i0, (.slice p1_ n1_ c1_), .int .i64 i2, .int .i64 0, .slice none 0 0, .slice none 0 0, .slice none 0 0] 54 (0, 0)) from (heap_setCell_same _ _ 2 _ _ _ (heap_setCell_same _ _ 1 _ _ _ (heap_setCell_same _ _ 0 _ _ _ rX7_.out))))
  clear rX7_
  have o013_ := Lib.hid (show OwU ((((w1.setCell ⟨W.heap.size + 1 + 1, 0, none⟩ (.int .i64 i0)).setCell ⟨W.heap.size + 1 + 1, 1, none⟩ ((.slice p1_ n1_ c1_))).setCell ⟨W.heap.size + 1 + 1, 2, none⟩ (.int .i64 i2))) (W.heap.size + 1 + 1 + 1) (w1.heap.size) [] [own shFrame (.slice p1_ n1_ c1_) xs1] from (OwU.keep (chg_one _ _ _ _) (by omega) (OwU.keep (chg_one _ _ _ _) (by omega) (OwU.keep (chg_one _ _ _ _) (by omega) o09_.out))))
  clear o09_
  have G14_ := Lib.hid (show (W).grownBy ((((w1.setCell ⟨W.heap.size + 1 + 1, 0, none⟩ (.int .i64 i0)).setCell ⟨W.heap.size + 1 + 1, 1, none⟩ ((.slice p1_ n1_ c1_))).setCell ⟨W.heap.size + 1 + 1, 2, none⟩ (.int .i64 i2))) none from (gby_setnew (gby_setnew (gby_setnew G8_.out _ (by dsimp only; omega) _) _ (by dsimp only; omega) _) _ (by dsimp only; omega) _))
  refine (toReceiver_d _ i3 v4 xs4 (HI4.out.grow G14_.out) hl4).mono ?_
  rintro e w2 ⟨d4, rfl, o, g⟩
  have sz3 := g.size
  first | simp only [World.size_alloc] at sz3 | simp only [World.size_setCell] at sz3 | skip
  first | simp only [World.size_alloc] at o | simp only [World.size_setCell] at o | skip
  have rP15_ := Lib.hid (show (w2).heap[W.heap.size]? = some (.cells #[.int .i64 i0, v1, .int .i64 i2, .int .i64 i3, v4, v5, v6] 46 (0, 0)) from row_held g rP10_.out)
  clear rP10_
  have rR16_ := Lib.hid (show (w2).heap[W.heap.size + 1]? = some (.cells #[.int .i64 0, .slice none 0 0, .int .i64 0, .int .i64 0, .slice none 0 0, .slice none 0 0, .slice none 0 0] 54 (0, 0)) from row_held g rR11_.out)
  clear rR11_
  have rX17_ := Lib.hid (show (w2).heap[W.heap.size + 1 + 1]? = some (.cells #[.int .i64 i0, (.slice p1_ n1_ c1_), .int .i64 i2, .int .i64 0, .slice none 0 0, .slice none 0 0, .slice none 0 0] 54 (0, 0)) from row_held g rX12_.out)
  clear rX12_
  have o018_ := Lib.hid (show OwU (w2) (W.heap.size + 1 + 1 + 1) (w1.heap.size) [] [own shFrame (.slice p1_ n1_ c1_) xs1] from OwU.grow o013_.out g)
  clear o013_
  have G19_ := Lib.hid (show (W).grownBy (w2) none from gby_trans G14_.out g)
  clear g
  obtain ⟨p4_, n4_, c4_, hv4_⟩ := RdL.form (OwU.rd o)
  subst hv4_
  have o320_ := Lib.hid (show OwU (w2) (w1.heap.size) (w2.heap.size) [] [own (shL shI) (.slice p4_ n4_ c4_) xs4] from o)
  clear o
  try unfold vReceiver
  have P_0_ : (w2).cell? ⟨W.heap.size, 0, none⟩ = some (.int .i64 i0) := cell_of_row _ _ 0 _ _ _ rP15_.out
  have P_1_ : (w2).cell? ⟨W.heap.size, 1, none⟩ = some (v1) := cell_of_row _ _ 1 _ _ _ rP15_.out
  have P_2_ : (w2).cell? ⟨W.heap.size, 2, none⟩ = some (.int .i64 i2) := cell_of_row _ _ 2 _ _ _ rP15_.out
  have P_3_ : (w2).cell? ⟨W.heap.size, 3, none⟩ = some (.int .i64 i3) := cell_of_row _ _ 3 _ _ _ rP15_.out
  have P_4_ : (w2).cell? ⟨W.heap.size, 4, none⟩ = some (v4) := cell_of_row _ _ 4 _ _ _ rP15_.out
  have P_5_ : (w2).cell? ⟨W.heap.size, 5, none⟩ = some (v5) := cell_of_row _ _ 5 _ _ _ rP15_.out
  have P_6_ : (w2).cell? ⟨W.heap.size, 6, none⟩ = some (v6) := cell_of_row _ _ 6 _ _ _ rP15_.out
  have R_0_ : (w2).cell? ⟨W.heap.size + 1, 0, none⟩ = some (.int .i64 0) := cell_of_row _ _ 0 _ _ _ rR16_.out
  have R_1_ : (w2).cell? ⟨W.heap.size + 1, 1, none⟩ = some (.slice none 0 0) := cell_of_row _ _ 1 _ _ _ rR16_.out
  have R_2_ : (w2).cell? ⟨W.heap.size + 1, 2, none⟩ = some (.int .i64 0) := cell_of_row _ _ 2 _ _ _ rR16_.out
  have R_3_ : (w2).cell? ⟨W.heap.size + 1, 3, none⟩ = some (.int .i64 0) := cell_of_row _ _ 3 _ _ _ rR16_.out
  have R_4_ : (w2).cell? ⟨W.heap.size + 1, 4, none⟩ = some (.slice none 0 0) := cell_of_row _ _ 4 _ _ _ rR16_.out
  have R_5_ : (w2).cell? ⟨W.heap.size + 1, 5, none⟩ = some (.slice none 0 0) := cell_of_row _ _ 5 _ _ _ rR16_.out
  have R_6_ : (w2).cell? ⟨W.heap.size + 1, 6, none⟩ = some (.slice none 0 0) := cell_of_row _ _ 6 _ _ _ rR16_.out
  have X_0_ : (w2).cell? ⟨W.heap.size + 1 + 1, 0, none⟩ = some (.int .i64 i0) := cell_of_row _ _ 0 _ _ _ rX17_.out
  have X_1_ : (w2).cell? ⟨W.heap.size + 1 + 1, 1, none⟩ = some ((.slice p1_ n1_ c1_)) := cell_of_row _ _ 1 _ _ _ rX17_.out
  have X_2_ : (w2).cell? ⟨W.heap.size + 1 + 1, 2, none⟩ = some (.int .i64 i2) := cell_of_row _ _ 2 _ _ _ rX17_.out
  have X_3_ : (w2).cell? ⟨W.heap.size + 1 + 1, 3, none⟩ = some (.int .i64 0) := cell_of_row _ _ 3 _ _ _ rX17_.out
  have X_4_ : (w2).cell? ⟨W.heap.size + 1 + 1, 4, none⟩ = some (.slice none 0 0) := cell_of_row _ _ 4 _ _ _ rX17_.out
  have X_5_ : (w2).cell? ⟨W.heap.size + 1 + 1, 5, none⟩ = some (.slice none 0 0) := cell_of_row _ _ 5 _ _ _ rX17_.out
  have X_6_ : (w2).cell? ⟨W.heap.size + 1 + 1, 6, none⟩ = some (.slice none 0 0) := cell_of_row _ _ 6 _ _ _ rX17_.out
  have Xf0_ : (w2).frozen? ⟨W.heap.size + 1 + 1, 0, none⟩ = false := frozen_of_row _ _ 0 _ _ rX17_.out
  have Xf1_ : (w2).frozen? ⟨W.heap.size + 1 + 1, 1, none⟩ = false := frozen_of_row _ _ 1 _ _ rX17_.out
  have Xf2_ : (w2).frozen? ⟨W.heap.size + 1 + 1, 2, none⟩ = false := frozen_of_row _ _ 2 _ _ rX17_.out
  have Xf3_ : (w2).frozen? ⟨W.heap.size + 1 + 1, 3, none⟩ = false := frozen_of_row _ _ 3 _ _ rX17_.out
  have Xf4_ : (w2).frozen? ⟨W.heap.size + 1 + 1, 4, none⟩ = false := frozen_of_row _ _ 4 _ _ rX17_.out
  have Xf5_ : (w2).frozen? ⟨W.heap.size + 1 + 1, 5, none⟩ = false := frozen_of_row _ _ 5 _ _ rX17_.out
  have Xf6_ : (w2).frozen? ⟨W.heap.size + 1 + 1, 6, none⟩ = false := frozen_of_row _ _ 6 _ _ rX17_.out
  go_wp2_with fail
  go_at_call 22
  clear P_0_ P_1_ P_2_ P_3_ P_4_ P_5_ P_6_ R_0_ R_1_ R_2_ R_3_ R_4_ R_5_ R_6_ X_0_ X_1_ X_2_ X_3_ X_4_ X_5_ X_6_ Xf0_ Xf1_ Xf2_ Xf3_ Xf4_ Xf5_ Xf6_
  have rP21_ := Lib.hid (show (((w2.setCell ⟨W.heap.size + 1 + 1, 3, none⟩ (.int .i64 i3)).setCell ⟨W.heap.size + 1 + 1, 4, none⟩ ((.slice p4_ n4_ c4_)))).heap[W.heap.size]? = some (.cells #[.int .i64 i0, v1, .int .i64 i2, .int .i64 i3, v4, v5, v6] 46 (0, 0)) from (set_far (set_far rP15_.out (by dsimp only; omega)) (by dsimp only; omega)))
  clear rP15_
  have rR22_ := Lib.hid (show (((w2.setCell ⟨W.heap.size + 1 + 1, 3, none⟩ (.int .i64 i3)).setCell ⟨W.heap.size + 1 + 1, 4, none⟩ ((.slice p4_ n4_ c4_)))).heap[W.heap.size + 1]? = some (.cells #[.int .i64 0, .slice none 0 0, .int .i64 0, .int .i64 0, .slice none 0 0, .slice none 0 0, .slice none 0 0] 54 (0, 0)) from (set_far (set_far rR16_.out (by dsimp only; omega)) (by dsimp only; omega)))
  clear rR16_
  have rX23_ := Lib.hid (show (((w2.setCell ⟨W.heap.size + 1 + 1, 3, none⟩ (.int .i64 i3)).setCell ⟨W.heap.size + 1 + 1, 4, none⟩ ((.slice p4_ n4_ c4_)))).heap[W.heap.size + 1 + 1]? = some (.cells #[.int .i64 i0, (.slice p1_ n1_ c1_), .int .i64 i2, .int .i64 i3, (.slice p4_ n4_ c4_), .slice none 0 0, .slice none 0 0] 54 (0, 0)) from (heap_setCell_same _ _ 4 _ _ _ (heap_setCell_same _ _ 3 _ _ _ rX17_.out)))
  clear rX17_
  have o024_ := Lib.hid (show OwU (((w2.setCell ⟨W.heap.size + 1 + 1, 3, none⟩ (.int .i64 i3)).setCell ⟨W.heap.size + 1 + 1, 4, none⟩ ((.slice p4_ n4_ c4_)))) (W.heap.size + 1 + 1 + 1) (w1.heap.size) [] [own shFrame (.slice p1_ n1_ c1_) xs1] from (OwU.keep (chg_one _ _ _ _) (by omega) (OwU.keep (chg_one _ _ _ _) (by omega) o018_.out)))
  clear o018_
  have o325_ := Lib.hid (show OwU (((w2.setCell ⟨W.heap.size + 1 + 1, 3, none⟩ (.int .i64 i3)).setCell ⟨W.heap.size + 1 + 1, 4, none⟩ ((.slice p4_ n4_ c4_)))) (w1.heap.size) (w2.heap.size) [] [own (shL shI) (.slice p4_ n4_ c4_) xs4] from (OwU.keep (chg_one _ _ _ _) (by omega) (OwU.keep (chg_one _ _ _ _) (by omega) o320_.out)))
  clear o320_
  have G26_ := Lib.hid (show (W).grownBy (((w2.setCell ⟨W.heap.size + 1 + 1, 3, none⟩ (.int .i64 i3)).setCell ⟨W.heap.size + 1 + 1, 4, none⟩ ((.slice p4_ n4_ c4_)))) none from (gby_setnew (gby_setnew G19_.out _ (by dsimp only; omega) _) _ (by dsimp only; omega) _))
  refine (toIntSS_d _ v5 xs5 (HI5.out.grow G26_.out) hl5).mono ?_
  rintro e w3 ⟨d5, rfl, o, g⟩
  have sz5 := g.size
  first | simp only [World.size_alloc] at sz5 | simp only [World.size_setCell] at sz5 | skip
  first | simp only [World.size_alloc] at o | simp only [World.size_setCell] at o | skip
  have rP27_ := Lib.hid (show (w3).heap[W.heap.size]? = some (.cells #[.int .i64 i0, v1, .int .i64 i2, .int .i64 i3, v4, v5, v6] 46 (0, 0)) from row_held g rP21_.out)
  clear rP21_
  have rR28_ := Lib.hid (show (w3).heap[W.heap.size + 1]? = some (.cells #[.int .i64 0, .slice none 0 0, .int .i64 0, .int .i64 0, .slice none 0 0, .slice none 0 0, .slice none 0 0] 54 (0, 0)) from row_held g rR22_.out)
  clear rR22_
  have rX29_ := Lib.hid (show (w3).heap[W.heap.size + 1 + 1]? = some (.cells #[.int .i64 i0, (.slice p1_ n1_ c1_), .int .i64 i2, .int .i64 i3, (.slice p4_ n4_ c4_), .slice none 0 0, .slice none 0 0] 54 (0, 0)) from row_held g rX23_.out)
  clear rX23_
  have o030_ := Lib.hid (show OwU (w3) (W.heap.size + 1 + 1 + 1) (w1.heap.size) [] [own shFrame (.slice p1_ n1_ c1_) xs1] from OwU.grow o024_.out g)
  clear o024_
  have o331_ := Lib.hid (show OwU (w3) (w1.heap.size) (w2.heap.size) [] [own (shL shI) (.slice p4_ n4_ c4_) xs4] from OwU.grow o325_.out g)
  clear o325_
  have G32_ := Lib.hid (show (W).grownBy (w3) none from gby_trans G26_.out g)
  clear g
  obtain ⟨p5_, n5_, c5_, hv5_⟩ := RdL.form (OwL.rd o)
  subst hv5_
  have o533_ := Lib.hid (show OwU (w3) (w2.heap.size) (w3.heap.size) [] [own (shL shI) (.slice p5_ n5_ c5_) xs5] from OwU.one o)
  clear o
  have P_0_ : (w3).cell? ⟨W.heap.size, 0, none⟩ = some (.int .i64 i0) := cell_of_row _ _ 0 _ _ _ rP27_.out
  have P_1_ : (w3).cell? ⟨W.heap.size, 1, none⟩ = some (v1) := cell_of_row _ _ 1 _ _ _ rP27_.out
  have P_2_ : (w3).cell? ⟨W.heap.size, 2, none⟩ = some (.int .i64 i2) := cell_of_row _ _ 2 _ _ _ rP27_.out
  have P_3_ : (w3).cell? ⟨W.heap.size, 3, none⟩ = some (.int .i64 i3) := cell_of_row _ _ 3 _ _ _ rP27_.out
  have P_4_ : (w3).cell? ⟨W.heap.size, 4, none⟩ = some (v4) := cell_of_row _ _ 4 _ _ _ rP27_.out
  have P_5_ : (w3).cell? ⟨W.heap.size, 5, none⟩ = some (v5) := cell_of_row _ _ 5 _ _ _ rP27_.out
  have P_6_ : (w3).cell? ⟨W.heap.size, 6, none⟩ = some (v6) := cell_of_row _ _ 6 _ _ _ rP27_.out
  have R_0_ : (w3).cell? ⟨W.heap.size + 1, 0, none⟩ = some (.int .i64 0) := cell_of_row _ _ 0 _ _ _ rR28_.out
  have R_1_ : (w3).cell? ⟨W.heap.size + 1, 1, none⟩ = some (.slice none 0 0) := cell_of_row _ _ 1 _ _ _ rR28_.out
  have R_2_ : (w3).cell? ⟨W.heap.size + 1, 2, none⟩ = some (.int .i64 0) := cell_of_row _ _ 2 _ _ _ rR28_.out
  have R_3_ : (w3).cell? ⟨W.heap.size + 1, 3, none⟩ = some (.int .i64 0) := cell_of_row _ _ 3 _ _ _ rR28_.out
  have R_4_ : (w3).cell? ⟨W.heap.size + 1, 4, none⟩ = some (.slice none 0 0) := cell_of_row _ _ 4 _ _ _ rR28_.out
  have R_5_ : (w3).cell? ⟨W.heap.size + 1, 5, none⟩ = some (.slice none 0 0) := cell_of_row _ _ 5 _ _ _ rR28_.out
  have R_6_ : (w3).cell? ⟨W.heap.size + 1, 6, none⟩ = some (.slice none 0 0) := cell_of_row _ _ 6 _ _ _ rR28_.out
  have X_0_ : (w3).cell? ⟨W.heap.size + 1 + 1, 0, none⟩ = some (.int .i64 i0) := cell_of_row _ _ 0 _ _ _ rX29_.out
  have X_1_ : (w3).cell? ⟨W.heap.size + 1 + 1, 1, none⟩ = some ((.slice p1_ n1_ c1_)) := cell_of_row _ _ 1 _ _ _ rX29_.out
  have X_2_ : (w3).cell? ⟨W.heap.size + 1 + 1, 2, none⟩ = some (.int .i64 i2) := cell_of_row _ _ 2 _ _ _ rX29_.out
  have X_3_ : (w3).cell? ⟨W.heap.size + 1 + 1, 3, none⟩ = some (.int .i64 i3) := cell_of_row _ _ 3 _ _ _ rX29_.out
  have X_4_ : (w3).cell? ⟨W.heap.size + 1 + 1, 4, none⟩ = some ((.slice p4_ n4_ c4_)) := cell_of_row _ _ 4 _ _ _ rX29_.out
  have X_5_ : (w3).cell? ⟨W.heap.size + 1 + 1, 5, none⟩ = some (.slice none 0 0) := cell_of_row _ _ 5 _ _ _ rX29_.out
  have X_6_ : (w3).cell? ⟨W.heap.size + 1 + 1, 6, none⟩ = some (.slice none 0 0) := cell_of_row _ _ 6 _ _ _ rX29_.out
  have Xf0_ : (w3).frozen? ⟨W.heap.size + 1 + 1, 0, none⟩ = false := frozen_of_row _ _ 0 _ _ rX29_.out
  have Xf1_ : (w3).frozen? ⟨W.heap.size + 1 + 1, 1, none⟩ = false := frozen_of_row _ _ 1 _ _ rX29_.out
  have Xf2_ : (w3).frozen? ⟨W.heap.size + 1 + 1, 2, none⟩ = false := frozen_of_row _ _ 2 _ _ rX29_.out
  have Xf3_ : (w3).frozen? ⟨W.heap.size + 1 + 1, 3, none⟩ = false := frozen_of_row _ _ 3 _ _ rX29_.out
  have Xf4_ : (w3).frozen? ⟨W.heap.size + 1 + 1, 4, none⟩ = false := frozen_of_row _ _ 4 _ _ rX29_.out
  have Xf5_ : (w3).frozen? ⟨W.heap.size + 1 + 1, 5, none⟩ = false := frozen_of_row _ _ 5 _ _ rX29_.out
  have Xf6_ : (w3).frozen? ⟨W.heap.size + 1 + 1, 6, none⟩ = false := frozen_of_row _ _ 6 _ _ rX29_.out
  go_wp2_with fail
  go_at_call 35
  clear P_0_ P_1_ P_2_ P_3_ P_4_ P_5_ P_6_ R_0_ R_1_ R_2_ R_3_ R_4_ R_5_ R_6_ X_0_ X_1_ X_2_ X_3_ X_4_ X_5_ X_6_ Xf0_ Xf1_ Xf2_ Xf3_ Xf4_ Xf5_ Xf6_
  have rP34_ := Lib.hid (show ((w3.setCell ⟨W.heap.size + 1 + 1, 5, none⟩ ((.slice p5_ n5_ c5_)))).heap[W.heap.size]? = some (.cells #[.int .i64 i0, v1, .int .i64 i2, .int .i64 i3, v4, v5, v6] 46 (0, 0)) from (set_far rP27_.out (by dsimp only; omega)))
  clear rP27_
  have rR35_ := Lib.hid (show ((w3.setCell ⟨W.heap.size + 1 + 1, 5, none⟩ ((.slice p5_ n5_ c5_)))).heap[W.heap.size + 1]? = some (.cells #[.int .i64 0, .slice none 0 0, .int .i64 0, .int .i64 0, .slice none 0 0, .slice none 0 0, .slice none 0 0] 54 (0, 0)) from (set_far rR28_.out (by dsimp only; omega)))
  clear rR28_
  have rX36_ := Lib.hid (show ((w3.setCell ⟨W.heap.size + 1 + 1, 5, none⟩ ((.slice p5_ n5_ c5_)))).heap[W.heap.size + 1 + 1]? = some (.cells #[.int .i64 i0, (.slice p1_ n1_ c1_), .int .i64 i2, .int .i64 i3, (.slice p4_ n4_ c4_), (.slice p5_ n5_ c5_), .slice none 0 0] 54 (0, 0)) from (heap_setCell_same _ _ 5 _ _ _ rX29_.out))
  clear rX29_
  have o037_ := Lib.hid (show OwU ((w3.setCell ⟨W.heap.size + 1 + 1, 5, none⟩ ((.slice p5_ n5_ c5_)))) (W.heap.size + 1 + 1 + 1) (w1.heap.size) [] [own shFrame (.slice p1_ n1_ c1_) xs1] from (OwU.keep (chg_one _ _ _ _) (by omega) o030_.out))
  clear o030_
  have o338_ := Lib.hid (show OwU ((w3.setCell ⟨W.heap.size + 1 + 1, 5, none⟩ ((.slice p5_ n5_ c5_)))) (w1.heap.size) (w2.heap.size) [] [own (shL shI) (.slice p4_ n4_ c4_) xs4] from (OwU.keep (chg_one _ _ _ _) (by omega) o331_.out))
  clear o331_
  have o539_ := Lib.hid (show OwU ((w3.setCell ⟨W.heap.size + 1 + 1, 5, none⟩ ((.slice p5_ n5_ c5_)))) (w2.heap.size) (w3.heap.size) [] [own (shL shI) (.slice p5_ n5_ c5_) xs5] from (OwU.keep (chg_one _ _ _ _) (by omega) o533_.out))
  clear o533_
  have G40_ := Lib.hid (show (W).grownBy ((w3.setCell ⟨W.heap.size + 1 + 1, 5, none⟩ ((.slice p5_ n5_ c5_)))) none from (gby_setnew G32_.out _ (by dsimp only; omega) _))
  refine (toIntS_d _ v6 xs6 (HI6.out.grow G40_.out) hl6).mono ?_
  rintro e w4 ⟨d6, rfl, o, g⟩
  have sz6 := g.size
  first | simp only [World.size_alloc] at sz6 | simp only [World.size_setCell] at sz6 | skip
  first | simp only [World.size_alloc] at o | simp only [World.size_setCell] at o | skip
  have rP41_ := Lib.hid (show (w4).heap[W.heap.size]? = some (.cells #[.int .i64 i0, v1, .int .i64 i2, .int .i64 i3, v4, v5, v6] 46 (0, 0)) from row_held g rP34_.out)
  clear rP34_
  have rR42_ := Lib.hid (show (w4).heap[W.heap.size + 1]? = some (.cells #[.int .i64 0, .slice none 0 0, .int .i64 0, .int .i64 0, .slice none 0 0, .slice none 0 0, .slice none 0 0] 54 (0, 0)) from row_held g rR35_.out)
  clear rR35_
  have rX43_ := Lib.hid (show (w4).heap[W.heap.size + 1 + 1]? = some (.cells #[.int .i64 i0, (.slice p1_ n1_ c1_), .int .i64 i2, .int .i64 i3, (.slice p4_ n4_ c4_), (.slice p5_ n5_ c5_), .slice none 0 0] 54 (0, 0)) from row_held g rX36_.out)
  clear rX36_
  have o044_ := Lib.hid (show OwU (w4) (W.heap.size + 1 + 1 + 1) (w1.heap.size) [] [own shFrame (.slice p1_ n1_ c1_) xs1] from OwU.grow o037_.out g)
  clear o037_
  have o345_ := Lib.hid (show OwU (w4) (w1.heap.size) (w2.heap.size) [] [own (shL shI) (.slice p4_ n4_ c4_) xs4] from OwU.grow o338_.out g)
  clear o338_
  have o546_ := Lib.hid (show OwU (w4) (w2.heap.size) (w3.heap.size) [] [own (shL shI) (.slice p5_ n5_ c5_) xs5] from OwU.grow o539_.out g)
  clear o539_
  have G47_ := Lib.hid (show (W).grownBy (w4) none from gby_trans G40_.out g)
  clear g
  obtain ⟨p6_, n6_, c6_, hv6_⟩ := RdL.form (OwL.rd o)
  subst hv6_
  have o648_ := Lib.hid (show OwU (w4) (w3.heap.size) (w4.heap.size) [] [own shI (.slice p6_ n6_ c6_) xs6] from OwU.one o)
  clear o
  have P_0_ : (w4).cell? ⟨W.heap.size, 0, none⟩ = some (.int .i64 i0) := cell_of_row _ _ 0 _ _ _ rP41_.out
  have P_1_ : (w4).cell? ⟨W.heap.size, 1, none⟩ = some (v1) := cell_of_row _ _ 1 _ _ _ rP41_.out
  have P_2_ : (w4).cell? ⟨W.heap.size, 2, none⟩ = some (.int .i64 i2) := cell_of_row _ _ 2 _ _ _ rP41_.out
  have P_3_ : (w4).cell? ⟨W.heap.size, 3, none⟩ = some (.int .i64 i3) := cell_of_row _ _ 3 _ _ _ rP41_.out
  have P_4_ : (w4).cell? ⟨W.heap.size, 4, none⟩ = some (v4) := cell_of_row _ _ 4 _ _ _ rP41_.out
  have P_5_ : (w4).cell? ⟨W.heap.size, 5, none⟩ = some (v5) := cell_of_row _ _ 5 _ _ _ rP41_.out
  have P_6_ : (w4).cell? ⟨W.heap.size, 6, none⟩ = some (v6) := cell_of_row _ _ 6 _ _ _ rP41_.out
  have R_0_ : (w4).cell? ⟨W.heap.size + 1, 0, none⟩ = some (.int .i64 0) := cell_of_row _ _ 0 _ _ _ rR42_.out
  have R_1_ : (w4).cell? ⟨W.heap.size + 1, 1, none⟩ = some (.slice none 0 0) := cell_of_row _ _ 1 _ _ _ rR42_.out
  have R_2_ : (w4).cell? ⟨W.heap.size + 1, 2, none⟩ = some (.int .i64 0) := cell_of_row _ _ 2 _ _ _ rR42_.out
  have R_3_ : (w4).cell? ⟨W.heap.size + 1, 3, none⟩ = some (.int .i64 0) := cell_of_row _ _ 3 _ _ _ rR42_.out
  have R_4_ : (w4).cell? ⟨W.heap.size + 1, 4, none⟩ = some (.slice none 0 0) := cell_of_row _ _ 4 _ _ _ rR42_.out
  have R_5_ : (w4).cell? ⟨W.heap.size + 1, 5, none⟩ = some (.slice none 0 0) := cell_of_row _ _ 5 _ _ _ rR42_.out
  have R_6_ : (w4).cell? ⟨W.heap.size + 1, 6, none⟩ = some (.slice none 0 0) := cell_of_row _ _ 6 _ _ _ rR42_.out
  have Rf0_ : (w4).frozen? ⟨W.heap.size + 1, 0, none⟩ = false := frozen_of_row _ _ 0 _ _ rR42_.out
  have Rf1_ : (w4).frozen? ⟨W.heap.size + 1, 1, none⟩ = false := frozen_of_row _ _ 1 _ _ rR42_.out
  have Rf2_ : (w4).frozen? ⟨W.heap.size + 1, 2, none⟩ = false := frozen_of_row _ _ 2 _ _ rR42_.out
  have Rf3_ : (w4).frozen? ⟨W.heap.size + 1, 3, none⟩ = false := frozen_of_row _ _ 3 _ _ rR42_.out
  have Rf4_ : (w4).frozen? ⟨W.heap.size + 1, 4, none⟩ = false := frozen_of_row _ _ 4 _ _ rR42_.out
  have Rf5_ : (w4).frozen? ⟨W.heap.size + 1, 5, none⟩ = false := frozen_of_row _ _ 5 _ _ rR42_.out
  have Rf6_ : (w4).frozen? ⟨W.heap.size + 1, 6, none⟩ = false := frozen_of_row _ _ 6 _ _ rR42_.out
  have X_0_ : (w4).cell? ⟨W.heap.size + 1 + 1, 0, none⟩ = some (.int .i64 i0) := cell_of_row _ _ 0 _ _ _ rX43_.out
  have X_1_ : (w4).cell? ⟨W.heap.size + 1 + 1, 1, none⟩ = some ((.slice p1_ n1_ c1_)) := cell_of_row _ _ 1 _ _ _ rX43_.out
  have X_2_ : (w4).cell? ⟨W.heap.size + 1 + 1, 2, none⟩ = some (.int .i64 i2) := cell_of_row _ _ 2 _ _ _ rX43_.out
  have X_3_ : (w4).cell? ⟨W.heap.size + 1 + 1, 3, none⟩ = some (.int .i64 i3) := cell_of_row _ _ 3 _ _ _ rX43_.out
  have X_4_ : (w4).cell? ⟨W.heap.size + 1 + 1, 4, none⟩ = some ((.slice p4_ n4_ c4_)) := cell_of_row _ _ 4 _ _ _ rX43_.out
  have X_5_ : (w4).cell? ⟨W.heap.size + 1 + 1, 5, none⟩ = some ((.slice p5_ n5_ c5_)) := cell_of_row _ _ 5 _ _ _ rX43_.out
  have X_6_ : (w4).cell? ⟨W.heap.size + 1 + 1, 6, none⟩ = some (.slice none 0 0) := cell_of_row _ _ 6 _ _ _ rX43_.out
  have Xf0_ : (w4).frozen? ⟨W.heap.size + 1 + 1, 0, none⟩ = false := frozen_of_row _ _ 0 _ _ rX43_.out
  have Xf1_ : (w4).frozen? ⟨W.heap.size + 1 + 1, 1, none⟩ = false := frozen_of_row _ _ 1 _ _ rX43_.out
  have Xf2_ : (w4).frozen? ⟨W.heap.size + 1 + 1, 2, none⟩ = false := frozen_of_row _ _ 2 _ _ rX43_.out
  have Xf3_ : (w4).frozen? ⟨W.heap.size + 1 + 1, 3, none⟩ = false := frozen_of_row _ _ 3 _ _ rX43_.out
  have Xf4_ : (w4).frozen? ⟨W.heap.size + 1 + 1, 4, none⟩ = false := frozen_of_row _ _ 4 _ _ rX43_.out
  have Xf5_ : (w4).frozen? ⟨W.heap.size + 1 + 1, 5, none⟩ = false := frozen_of_row _ _ 5 _ _ rX43_.out
  have Xf6_ : (w4).frozen? ⟨W.heap.size + 1 + 1, 6, none⟩ = false := frozen_of_row _ _ 6 _ _ rX43_.out
  go_wp2
  refine bodyPost_ret (v := vLink i0 (.slice p1_ n1_ c1_) i2 i3 (.slice p4_ n4_ c4_) (.slice p5_ n5_ c5_) (.slice p6_ n6_ c6_)) (by simp [results, go_sem, vLink, R_0_, R_1_, R_2_, R_3_, R_4_, R_5_, R_6_]) rfl ⟨(.slice p1_ n1_ c1_), (.slice p4_ n4_ c4_), (.slice p5_ n5_ c5_), (.slice p6_ n6_ c6_), rfl, ?_, ?_⟩
  · refine OwU.wide (lo := W.heap.size + 1 + 1 + 1) (hi := w4.heap.size) (by omega) (by simp) (OwU.keep (w := w4) (lo' := W.heap.size) (hi' := W.heap.size + 3) ?_ (.inr (by omega)) ?_)
    · repeat (with_reducible refine chg_setp ?_ _ (by dsimp only; omega) (by dsimp only; omega) _)
      exact chg_gby (gby_refl _ _) _ _
    · exact OwU.app (by omega) (by omega) o044_.out (OwU.app (by omega) (by omega) o345_.out (OwU.app (by omega) (by omega) o546_.out (o648_.out)))
  · repeat (with_reducible refine gby_setnew ?_ _ (by dsimp only; omega) _)
    exact G47_.out

set_option maxRecDepth 8000 in
set_option maxHeartbeats 2000000 in
theorem eqLink_d (W : World) (i0 : Int) (v1 : Value) (i2 : Int) (i3 : Int) (v4 : Value) (v5 : Value) (v6 : Value) (v1' : Value) (v4' : Value) (v5' : Value) (v6' : Value) (xs1 : List DFrame) (xs4 : List (List Int)) (xs5 : List (List Int)) (xs6 : List Int) (H1 : RdL shFrame W v1 xs1) (K1 : RdL shFrame W v1' xs1) (hl1 : szL shFrame xs1 ≤ 1048576) (H4 : RdL (shL shI) W v4 xs4) (K4 : RdL (shL shI) W v4' xs4) (hl4 : szL (shL shI) xs4 ≤ 1048576) (H5 : RdL (shL shI) W v5 xs5) (K5 : RdL (shL shI) W v5' xs5) (hl5 : szL (shL shI) xs5 ≤ 1048576) (H6 : RdL shI W v6 xs6) (K6 : RdL shI W v6' xs6) (hl6 : szL shI xs6 ≤ 1048576) :
    Calls Try.prog 19 #[vLink i0 v1 i2 i3 v4 v5 v6, vLink i0 v1' i2 i3 v4' v5' v6'] W (AnsN (.bool true) W) := by
  have HI1 := Lib.hid H1
  have HJ1 := Lib.hid K1
  clear H1 K1
  have HI4 := Lib.hid H4
  have HJ4 := Lib.hid K4
  clear H4 K4
  have HI5 := Lib.hid H5
  have HJ5 := Lib.hid K5
  clear H5 K5
  have HI6 := Lib.hid H6
  have HJ6 := Lib.hid K6
  clear H6 K6
  have bk0 : (i0 != i0) = false := by simp
  have bk2 : (i2 != i2) = false := by simp
  have bk3 : (i3 != i3) = false := by simp
  unfold vLink
  go_enter Try.func19, Try.ntmps19
  have rP1_ := Lib.hid (show (((W.alloc (.cells #[.int .i64 i0, v1, .int .i64 i2, .int .i64 i3, v4, v5, v6] 54)).alloc (.cells #[.int .i64 i0, v1', .int .i64 i2, .int .i64 i3, v4', v5', v6'] 54))).heap[W.heap.size]? = some (.cells #[.int .i64 i0, v1, .int .i64 i2, .int .i64 i3, v4, v5, v6] 54 (0, 0)) from by rw [heap_alloc_old _ _ (by simp only [World.size_alloc]; omega)]; exact heap_alloc_new _ _)
  have rQ2_ := Lib.hid (show (((W.alloc (.cells #[.int .i64 i0, v1, .int .i64 i2, .int .i64 i3, v4, v5, v6] 54)).alloc (.cells #[.int .i64 i0, v1', .int .i64 i2, .int .i64 i3, v4', v5', v6'] 54))).heap[W.heap.size + 1]? = some (.cells #[.int .i64 i0, v1', .int .i64 i2, .int .i64 i3, v4', v5', v6'] 54 (0, 0)) from by exact heap_pair _ _ _)
  have G3_ := Lib.hid (show (W).grownBy (((W.alloc (.cells #[.int .i64 i0, v1, .int .i64 i2, .int .i64 i3, v4, v5, v6] 54)).alloc (.cells #[.int .i64 i0, v1', .int .i64 i2, .int .i64 i3, v4', v5', v6'] 54))) none from (gby_alloc (gby_alloc (gby_refl _ _) _) _))
  have P_0_ : (((W.alloc (.cells #[.int .i64 i0, v1, .int .i64 i2, .int .i64 i3, v4, v5, v6] 54)).alloc (.cells #[.int .i64 i0, v1', .int .i64 i2, .int .i64 i3, v4', v5', v6'] 54))).cell? ⟨W.heap.size, 0, none⟩ = some (.int .i64 i0) := cell_of_row _ _ 0 _ _ _ rP1_.out
  have P_1_ : (((W.alloc (.cells #[.int .i64 i0, v1, .int .i64 i2, .int .i64 i3, v4, v5, v6] 54)).alloc (.cells #[.int .i64 i0, v1', .int .i64 i2, .int .i64 i3, v4', v5', v6'] 54))).cell? ⟨W.heap.size, 1, none⟩ = some (v1) := cell_of_row _ _ 1 _ _ _ rP1_.out
  have P_2_ : (((W.alloc (.cells #[.int .i64 i0, v1, .int .i64 i2, .int .i64 i3, v4, v5, v6] 54)).alloc (.cells #[.int .i64 i0, v1', .int .i64 i2, .int .i64 i3, v4', v5', v6'] 54))).cell? ⟨W.heap.size, 2, none⟩ = some (.int .i64 i2) := cell_of_row _ _ 2 _ _ _ rP1_.out
  have P_3_ : (((W.alloc (.cells #[.int .i64 i0, v1, .int .i64 i2, .int .i64 i3, v4, v5, v6] 54)).alloc (.cells #[.int .i64 i0, v1', .int .i64 i2, .int .i64 i3, v4', v5', v6'] 54))).cell? ⟨W.heap.size, 3, none⟩ = some (.int .i64 i3) := cell_of_row _ _ 3 _ _ _ rP1_.out
  have P_4_ : (((W.alloc (.cells #[.int .i64 i0, v1, .int .i64 i2, .int .i64 i3, v4, v5, v6] 54)).alloc (.cells #[.int .i64 i0, v1', .int .i64 i2, .int .i64 i3, v4', v5', v6'] 54))).cell? ⟨W.heap.size, 4, none⟩ = some (v4) := cell_of_row _ _ 4 _ _ _ rP1_.out
  have P_5_ : (((W.alloc (.cells #[.int .i64 i0, v1, .int .i64 i2, .int .i64 i3, v4, v5, v6] 54)).alloc (.cells #[.int .i64 i0, v1', .int .i64 i2, .int .i64 i3, v4', v5', v6'] 54))).cell? ⟨W.heap.size, 5, none⟩ = some (v5) := cell_of_row _ _ 5 _ _ _ rP1_.out
  have P_6_ : (((W.alloc (.cells #[.int .i64 i0, v1, .int .i64 i2, .int .i64 i3, v4, v5, v6] 54)).alloc (.cells #[.int .i64 i0, v1', .int .i64 i2, .int .i64 i3, v4', v5', v6'] 54))).cell? ⟨W.heap.size, 6, none⟩ = some (v6) := cell_of_row _ _ 6 _ _ _ rP1_.out
  have Q_0_ : (((W.alloc (.cells #[.int .i64 i0, v1, .int .i64 i2, .int .i64 i3, v4, v5, v6] 54)).alloc (.cells #[.int .i64 i0, v1', .int .i64 i2, .int .i64 i3, v4', v5', v6'] 54))).cell? ⟨W.heap.size + 1, 0, none⟩ = some (.int .i64 i0) := cell_of_row _ _ 0 _ _ _ rQ2_.out
  have Q_1_ : (((W.alloc (.cells #[.int .i64 i0, v1, .int .i64 i2, .int .i64 i3, v4, v5, v6] 54)).alloc (.cells #[.int .i64 i0, v1', .int .i64 i2, .int .i64 i3, v4', v5', v6'] 54))).cell? ⟨W.heap.size + 1, 1, none⟩ = some (v1') := cell_of_row _ _ 1 _ _ _ rQ2_.out
  have Q_2_ : (((W.alloc (.cells #[.int .i64 i0, v1, .int .i64 i2, .int .i64 i3, v4, v5, v6] 54)).alloc (.cells #[.int .i64 i0, v1', .int .i64 i2, .int .i64 i3, v4', v5', v6'] 54))).cell? ⟨W.heap.size + 1, 2, none⟩ = some (.int .i64 i2) := cell_of_row _ _ 2 _ _ _ rQ2_.out
  have Q_3_ : (((W.alloc (.cells #[.int .i64 i0, v1, .int .i64 i2, .int .i64 i3, v4, v5, v6] 54)).alloc (.cells #[.int .i64 i0, v1', .int .i64 i2, .int .i64 i3, v4', v5', v6'] 54))).cell? ⟨W.heap.size + 1, 3, none⟩ = some (.int .i64 i3) := cell_of_row _ _ 3 _ _ _ rQ2_.out
  have Q_4_ : (((W.alloc (.cells #[.int .i64 i0, v1, .int .i64 i2, .int .i64 i3, v4, v5, v6] 54)).alloc (.cells #[.int .i64 i0, v1', .int .i64 i2, .int .i64 i3, v4', v5', v6'] 54))).cell? ⟨W.heap.size + 1, 4, none⟩ = some (v4') := cell_of_row _ _ 4 _ _ _ rQ2_.out
  have Q_5_ : (((W.alloc (.cells #[.int .i64 i0, v1, .int .i64 i2, .int .i64 i3, v4, v5, v6] 54)).alloc (.cells #[.int .i64 i0, v1', .int .i64 i2, .int .i64 i3, v4', v5', v6'] 54))).cell? ⟨W.heap.size + 1, 5, none⟩ = some (v5') := cell_of_row _ _ 5 _ _ _ rQ2_.out
  have Q_6_ : (((W.alloc (.cells #[.int .i64 i0, v1, .int .i64 i2, .int .i64 i3, v4, v5, v6] 54)).alloc (.cells #[.int .i64 i0, v1', .int .i64 i2, .int .i64 i3, v4', v5', v6'] 54))).cell? ⟨W.heap.size + 1, 6, none⟩ = some (v6') := cell_of_row _ _ 6 _ _ _ rQ2_.out
  go_wp2_with fail
  go_at_call 71
  refine (eqSender_d _ i0 v1 i2 v1' xs1 (HI1.out.grow G3_.out) (HJ1.out.grow G3_.out) hl1).mono ?_
  rintro e w1 ⟨rfl, g⟩
  clear P_0_ P_1_ P_2_ P_3_ P_4_ P_5_ P_6_ Q_0_ Q_1_ Q_2_ Q_3_ Q_4_ Q_5_ Q_6_
  have rP4_ := Lib.hid (show (w1).heap[W.heap.size]? = some (.cells #[.int .i64 i0, v1, .int .i64 i2, .int .i64 i3, v4, v5, v6] 54 (0, 0)) from row_held g rP1_.out)
  clear rP1_
  have rQ5_ := Lib.hid (show (w1).heap[W.heap.size + 1]? = some (.cells #[.int .i64 i0, v1', .int .i64 i2, .int .i64 i3, v4', v5', v6'] 54 (0, 0)) from row_held g rQ2_.out)
  clear rQ2_
  have G6_ := Lib.hid (show (W).grownBy (w1) none from gby_trans G3_.out g)
  clear g
  have P_0_ : (w1).cell? ⟨W.heap.size, 0, none⟩ = some (.int .i64 i0) := cell_of_row _ _ 0 _ _ _ rP4_.out
  have P_1_ : (w1).cell? ⟨W.heap.size, 1, none⟩ = some (v1) := cell_of_row _ _ 1 _ _ _ rP4_.out
  have P_2_ : (w1).cell? ⟨W.heap.size, 2, none⟩ = some (.int .i64 i2) := cell_of_row _ _ 2 _ _ _ rP4_.out
  have P_3_ : (w1).cell? ⟨W.heap.size, 3, none⟩ = some (.int .i64 i3) := cell_of_row _ _ 3 _ _ _ rP4_.out
  have P_4_ : (w1).cell? ⟨W.heap.size, 4, none⟩ = some (v4) := cell_of_row _ _ 4 _ _ _ rP4_.out
  have P_5_ : (w1).cell? ⟨W.heap.size, 5, none⟩ = some (v5) := cell_of_row _ _ 5 _ _ _ rP4_.out
  have P_6_ : (w1).cell? ⟨W.heap.size, 6, none⟩ = some (v6) := cell_of_row _ _ 6 _ _ _ rP4_.out
  have Q_0_ : (w1).cell? ⟨W.heap.size + 1, 0, none⟩ = some (.int .i64 i0) := cell_of_row _ _ 0 _ _ _ rQ5_.out
  have Q_1_ : (w1).cell? ⟨W.heap.size + 1, 1, none⟩ = some (v1') := cell_of_row _ _ 1 _ _ _ rQ5_.out
  have Q_2_ : (w1).cell? ⟨W.heap.size + 1, 2, none⟩ = some (.int .i64 i2) := cell_of_row _ _ 2 _ _ _ rQ5_.out
  have Q_3_ : (w1).cell? ⟨W.heap.size + 1, 3, none⟩ = some (.int .i64 i3) := cell_of_row _ _ 3 _ _ _ rQ5_.out
  have Q_4_ : (w1).cell? ⟨W.heap.size + 1, 4, none⟩ = some (v4') := cell_of_row _ _ 4 _ _ _ rQ5_.out
  have Q_5_ : (w1).cell? ⟨W.heap.size + 1, 5, none⟩ = some (v5') := cell_of_row _ _ 5 _ _ _ rQ5_.out
  have Q_6_ : (w1).cell? ⟨W.heap.size + 1, 6, none⟩ = some (v6') := cell_of_row _ _ 6 _ _ _ rQ5_.out
  go_wp2_with fail
  go_at_call 41
  refine (eqReceiver_d _ i3 v4 v4' xs4 (HI4.out.grow G6_.out) (HJ4.out.grow G6_.out) hl4).mono ?_
  rintro e w2 ⟨rfl, g⟩
  clear P_0_ P_1_ P_2_ P_3_ P_4_ P_5_ P_6_ Q_0_ Q_1_ Q_2_ Q_3_ Q_4_ Q_5_ Q_6_
  have rP7_ := Lib.hid (show (w2).heap[W.heap.size]? = some (.cells #[.int .i64 i0, v1, .int .i64 i2, .int .i64 i3, v4, v5, v6] 54 (0, 0)) from row_held g rP4_.out)
  clear rP4_
  have rQ8_ := Lib.hid (show (w2).heap[W.heap.size + 1]? = some (.cells #[.int .i64 i0, v1', .int .i64 i2, .int .i64 i3, v4', v5', v6'] 54 (0, 0)) from row_held g rQ5_.out)
  clear rQ5_
  have G9_ := Lib.hid (show (W).grownBy (w2) none from gby_trans G6_.out g)
  clear g
  have P_0_ : (w2).cell? ⟨W.heap.size, 0, none⟩ = some (.int .i64 i0) := cell_of_row _ _ 0 _ _ _ rP7_.out
  have P_1_ : (w2).cell? ⟨W.heap.size, 1, none⟩ = some (v1) := cell_of_row _ _ 1 _ _ _ rP7_.out
  have P_2_ : (w2).cell? ⟨W.heap.size, 2, none⟩ = some (.int .i64 i2) := cell_of_row _ _ 2 _ _ _ rP7_.out
  have P_3_ : (w2).cell? ⟨W.heap.size, 3, none⟩ = some (.int .i64 i3) := cell_of_row _ _ 3 _ _ _ rP7_.out
  have P_4_ : (w2).cell? ⟨W.heap.size, 4, none⟩ = some (v4) := cell_of_row _ _ 4 _ _ _ rP7_.out
  have P_5_ : (w2).cell? ⟨W.heap.size, 5, none⟩ = some (v5) := cell_of_row _ _ 5 _ _ _ rP7_.out
  have P_6_ : (w2).cell? ⟨W.heap.size, 6, none⟩ = some (v6) := cell_of_row _ _ 6 _ _ _ rP7_.out
  have Q_0_ : (w2).cell? ⟨W.heap.size + 1, 0, none⟩ = some (.int .i64 i0) := cell_of_row _ _ 0 _ _ _ rQ8_.out
  have Q_1_ : (w2).cell? ⟨W.heap.size + 1, 1, none⟩ = some (v1') := cell_of_row _ _ 1 _ _ _ rQ8_.out
  have Q_2_ : (w2).cell? ⟨W.heap.size + 1, 2, none⟩ = some (.int .i64 i2) := cell_of_row _ _ 2 _ _ _ rQ8_.out
  have Q_3_ : (w2).cell? ⟨W.heap.size + 1, 3, none⟩ = some (.int .i64 i3) := cell_of_row _ _ 3 _ _ _ rQ8_.out
  have Q_4_ : (w2).cell? ⟨W.heap.size + 1, 4, none⟩ = some (v4') := cell_of_row _ _ 4 _ _ _ rQ8_.out
  have Q_5_ : (w2).cell? ⟨W.heap.size + 1, 5, none⟩ = some (v5') := cell_of_row _ _ 5 _ _ _ rQ8_.out
  have Q_6_ : (w2).cell? ⟨W.heap.size + 1, 6, none⟩ = some (v6') := cell_of_row _ _ 6 _ _ _ rQ8_.out
  go_wp2_with fail
  go_at_call 25
  refine (eqIntSS_d _ v5 v5' xs5 (HI5.out.grow G9_.out) (HJ5.out.grow G9_.out) hl5).mono ?_
  rintro e w3 ⟨rfl, g⟩
  clear P_0_ P_1_ P_2_ P_3_ P_4_ P_5_ P_6_ Q_0_ Q_1_ Q_2_ Q_3_ Q_4_ Q_5_ Q_6_
  have rP10_ := Lib.hid (show (w3).heap[W.heap.size]? = some (.cells #[.int .i64 i0, v1, .int .i64 i2, .int .i64 i3, v4, v5, v6] 54 (0, 0)) from row_held g rP7_.out)
  clear rP7_
  have rQ11_ := Lib.hid (show (w3).heap[W.heap.size + 1]? = some (.cells #[.int .i64 i0, v1', .int .i64 i2, .int .i64 i3, v4', v5', v6'] 54 (0, 0)) from row_held g rQ8_.out)
  clear rQ8_
  have G12_ := Lib.hid (show (W).grownBy (w3) none from gby_trans G9_.out g)
  clear g
  have P_0_ : (w3).cell? ⟨W.heap.size, 0, none⟩ = some (.int .i64 i0) := cell_of_row _ _ 0 _ _ _ rP10_.out
  have P_1_ : (w3).cell? ⟨W.heap.size, 1, none⟩ = some (v1) := cell_of_row _ _ 1 _ _ _ rP10_.out
  have P_2_ : (w3).cell? ⟨W.heap.size, 2, none⟩ = some (.int .i64 i2) := cell_of_row _ _ 2 _ _ _ rP10_.out
  have P_3_ : (w3).cell? ⟨W.heap.size, 3, none⟩ = some (.int .i64 i3) := cell_of_row _ _ 3 _ _ _ rP10_.out
  have P_4_ : (w3).cell? ⟨W.heap.size, 4, none⟩ = some (v4) := cell_of_row _ _ 4 _ _ _ rP10_.out
  have P_5_ : (w3).cell? ⟨W.heap.size, 5, none⟩ = some (v5) := cell_of_row _ _ 5 _ _ _ rP10_.out
  have P_6_ : (w3).cell? ⟨W.heap.size, 6, none⟩ = some (v6) := cell_of_row _ _ 6 _ _ _ rP10_.out
  have Q_0_ : (w3).cell? ⟨W.heap.size + 1, 0, none⟩ = some (.int .i64 i0) := cell_of_row _ _ 0 _ _ _ rQ11_.out
  have Q_1_ : (w3).cell? ⟨W.heap.size + 1, 1, none⟩ = some (v1') := cell_of_row _ _ 1 _ _ _ rQ11_.out
  have Q_2_ : (w3).cell? ⟨W.heap.size + 1, 2, none⟩ = some (.int .i64 i2) := cell_of_row _ _ 2 _ _ _ rQ11_.out
  have Q_3_ : (w3).cell? ⟨W.heap.size + 1, 3, none⟩ = some (.int .i64 i3) := cell_of_row _ _ 3 _ _ _ rQ11_.out
  have Q_4_ : (w3).cell? ⟨W.heap.size + 1, 4, none⟩ = some (v4') := cell_of_row _ _ 4 _ _ _ rQ11_.out
  have Q_5_ : (w3).cell? ⟨W.heap.size + 1, 5, none⟩ = some (v5') := cell_of_row _ _ 5 _ _ _ rQ11_.out
  have Q_6_ : (w3).cell? ⟨W.heap.size + 1, 6, none⟩ = some (v6') := cell_of_row _ _ 6 _ _ _ rQ11_.out
  go_wp2_with fail
  go_at_call 24
  refine (eqIntS_d _ v6 v6' xs6 (HI6.out.grow G12_.out) (HJ6.out.grow G12_.out) hl6).mono ?_
  rintro e w4 ⟨rfl, g⟩
  clear P_0_ P_1_ P_2_ P_3_ P_4_ P_5_ P_6_ Q_0_ Q_1_ Q_2_ Q_3_ Q_4_ Q_5_ Q_6_
  have rP13_ := Lib.hid (show (w4).heap[W.heap.size]? = some (.cells #[.int .i64 i0, v1, .int .i64 i2, .int .i64 i3, v4, v5, v6] 54 (0, 0)) from row_held g rP10_.out)
  clear rP10_
  have rQ14_ := Lib.hid (show (w4).heap[W.heap.size + 1]? = some (.cells #[.int .i64 i0, v1', .int .i64 i2, .int .i64 i3, v4', v5', v6'] 54 (0, 0)) from row_held g rQ11_.out)
  clear rQ11_
  have G15_ := Lib.hid (show (W).grownBy (w4) none from gby_trans G12_.out g)
  clear g
  have P_0_ : (w4).cell? ⟨W.heap.size, 0, none⟩ = some (.int .i64 i0) := cell_of_row _ _ 0 _ _ _ rP13_.out
  have P_1_ : (w4).cell? ⟨W.heap.size, 1, none⟩ = some (v1) := cell_of_row _ _ 1 _ _ _ rP13_.out
  have P_2_ : (w4).cell? ⟨W.heap.size, 2, none⟩ = some (.int .i64 i2) := cell_of_row _ _ 2 _ _ _ rP13_.out
  have P_3_ : (w4).cell? ⟨W.heap.size, 3, none⟩ = some (.int .i64 i3) := cell_of_row _ _ 3 _ _ _ rP13_.out
  have P_4_ : (w4).cell? ⟨W.heap.size, 4, none⟩ = some (v4) := cell_of_row _ _ 4 _ _ _ rP13_.out
  have P_5_ : (w4).cell? ⟨W.heap.size, 5, none⟩ = some (v5) := cell_of_row _ _ 5 _ _ _ rP13_.out
  have P_6_ : (w4).cell? ⟨W.heap.size, 6, none⟩ = some (v6) := cell_of_row _ _ 6 _ _ _ rP13_.out
  have Q_0_ : (w4).cell? ⟨W.heap.size + 1, 0, none⟩ = some (.int .i64 i0) := cell_of_row _ _ 0 _ _ _ rQ14_.out
  have Q_1_ : (w4).cell? ⟨W.heap.size + 1, 1, none⟩ = some (v1') := cell_of_row _ _ 1 _ _ _ rQ14_.out
  have Q_2_ : (w4).cell? ⟨W.heap.size + 1, 2, none⟩ = some (.int .i64 i2) := cell_of_row _ _ 2 _ _ _ rQ14_.out
  have Q_3_ : (w4).cell? ⟨W.heap.size + 1, 3, none⟩ = some (.int .i64 i3) := cell_of_row _ _ 3 _ _ _ rQ14_.out
  have Q_4_ : (w4).cell? ⟨W.heap.size + 1, 4, none⟩ = some (v4') := cell_of_row _ _ 4 _ _ _ rQ14_.out
  have Q_5_ : (w4).cell? ⟨W.heap.size + 1, 5, none⟩ = some (v5') := cell_of_row _ _ 5 _ _ _ rQ14_.out
  have Q_6_ : (w4).cell? ⟨W.heap.size + 1, 6, none⟩ = some (v6') := cell_of_row _ _ 6 _ _ _ rQ14_.out
  go_wp2
  go_ret
  exact ⟨rfl, G15_.out⟩

end Go.Proofs.Ytnighnkkeiegnab
