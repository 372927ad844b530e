/-
  Channel by value, on the law's side: measured, copied, compared, marked, held.
-/
import Derived.Test.YtgmpehccklifdaeShpI
import Derived.Test.YtgmpehccklifdaeDPacket
import Derived.Test.YtgmpehccklifdaeQCredits
import Derived.Test.YtgmpehccklifdaeQSPacket
namespace Go.Proofs.Ytgmpehccklifdae
open Go Go.RowKit
set_option linter.unusedVariables false

/-- a value of Channel -/
def vChannel (v0 : Value) (v1 : Value) (v2 : Value) (v3 : Value) (v4 : Value) (v5 : Value) : Value := .agg #[v0, v1, v2, v3, v4, v5]

set_option maxRecDepth 8000 in
set_option maxHeartbeats 2000000 in
theorem szChannel_d (W : World) (n : Int) (v0 : Value) (v1 : Value) (v2 : Value) (v3 : Value) (v4 : Value) (v5 : Value) (xs0 : List Int) (xs1 : List Int) (xs2 : List Int) (xs3 : List Int) (xs4 : List DPacket) (xs5 : List DPacket) (H0 : RdL shI W v0 xs0) (H1 : RdL shI W v1 xs1) (H2 : RdL shI W v2 xs2) (H3 : RdL shI W v3 xs3) (H4 : RdL shPacket W v4 xs4) (H5 : RdL shPacket W v5 xs5) (hn : n ≤ 1048576) (h0 : 0 ≤ n) :
    Calls Try.prog 24 #[vChannel v0 v1 v2 v3 v4 v5, .int .i64 n] W (AnsN (.int .i64 (lessN n (szL shI xs0 + szL shI xs1 + szL shI xs2 + szL shI xs3 + szL shPacket xs4 + szL shPacket xs5))) W) := by
  obtain ⟨t0, ht0⟩ : ∃ t, t = szL shI xs0 + szL shI xs1 := ⟨_, rfl⟩
  obtain ⟨t1, ht1⟩ : ∃ t, t = szL shI xs2 + szL shI xs3 := ⟨_, rfl⟩
  obtain ⟨t2, ht2⟩ : ∃ t, t = szL shPacket xs4 := ⟨_, rfl⟩
  obtain ⟨t3, ht3⟩ : ∃ t, t = szL shPacket xs5 := ⟨_, rfl⟩
  rw [show (szL shI xs0 + szL shI xs1 + szL shI xs2 + szL shI xs3 + szL shPacket xs4 + szL shPacket xs5) = t0 + t1 + t2 + t3 by omega]
  have HT0 := Lib.hid ht0
  clear ht0
  have HT1 := Lib.hid ht1
  clear ht1
  have HT2 := Lib.hid ht2
  clear ht2
  have HT3 := Lib.hid ht3
  clear ht3
  have HI0 := Lib.hid H0
  clear H0
  have HI1 := Lib.hid H1
  clear H1
  have HI2 := Lib.hid H2
  clear H2
  have HI3 := Lib.hid H3
  clear H3
  have HI4 := Lib.hid H4
  clear H4
  have HI5 := Lib.hid H5
  clear H5
  unfold vChannel
  by_cases h0_ : n < (t0 : Int)
  · rw [show lessN n (t0 + t1 + t2 + t3) = -1 from if_pos (by omega)]
    go_enter Try.func24, Try.ntmps24
    have rA1_ := Lib.hid (show ((W.alloc (.cells #[v0, v1, v2, v3, v4, v5] 40))).heap[W.heap.size]? = some (.cells #[v0, v1, v2, v3, v4, v5] 40 (0, 0)) from by exact heap_alloc_new _ _)
    have G2_ := Lib.hid (show (W).grownBy ((W.alloc (.cells #[v0, v1, v2, v3, v4, v5] 40))) none from (gby_alloc (gby_refl _ _) _))
    have A_0_ : ((W.alloc (.cells #[v0, v1, v2, v3, v4, v5] 40))).cell? ⟨W.heap.size, 0, none⟩ = some (v0) := cell_of_row _ _ 0 _ _ _ rA1_.out
    have A_1_ : ((W.alloc (.cells #[v0, v1, v2, v3, v4, v5] 40))).cell? ⟨W.heap.size, 1, none⟩ = some (v1) := cell_of_row _ _ 1 _ _ _ rA1_.out
    have A_2_ : ((W.alloc (.cells #[v0, v1, v2, v3, v4, v5] 40))).cell? ⟨W.heap.size, 2, none⟩ = some (v2) := cell_of_row _ _ 2 _ _ _ rA1_.out
    have A_3_ : ((W.alloc (.cells #[v0, v1, v2, v3, v4, v5] 40))).cell? ⟨W.heap.size, 3, none⟩ = some (v3) := cell_of_row _ _ 3 _ _ _ rA1_.out
    have A_4_ : ((W.alloc (.cells #[v0, v1, v2, v3, v4, v5] 40))).cell? ⟨W.heap.size, 4, none⟩ = some (v4) := cell_of_row _ _ 4 _ _ _ rA1_.out
    have A_5_ : ((W.alloc (.cells #[v0, v1, v2, v3, v4, v5] 40))).cell? ⟨W.heap.size, 5, none⟩ = some (v5) := cell_of_row _ _ 5 _ _ _ rA1_.out
    go_wp2_with fail
    go_at_call 15
    refine (szCredits_d _ _ v0 v1 xs0 xs1 (HI0.out.grow G2_.out) (HI1.out.grow G2_.out) (by omega) (by omega)).mono ?_
    rintro e w1 ⟨he, g⟩
    rw [← HT0.out, show lessN _ t0 = -1 from if_pos (by omega)] at he
    subst he
    clear A_0_ A_1_ A_2_ A_3_ A_4_ A_5_
    have rA3_ := Lib.hid (show (w1).heap[W.heap.size]? = some (.cells #[v0, v1, v2, v3, v4, v5] 40 (0, 0)) from row_held g rA1_.out)
    clear rA1_
    have G4_ := Lib.hid (show (W).grownBy (w1) none from gby_trans G2_.out g)
    clear g
    have hm1 : (-1 : Int) < 0 := by omega
    go_wp2
    go_ret
    exact ⟨rfl, G4_.out⟩
  by_cases h1_ : n - (t0 : Int) < (t1 : Int)
  · rw [show lessN n (t0 + t1 + t2 + t3) = -1 from if_pos (by omega)]
    go_enter Try.func24, Try.ntmps24
    have rA1_ := Lib.hid (show ((W.alloc (.cells #[v0, v1, v2, v3, v4, v5] 40))).heap[W.heap.size]? = some (.cells #[v0, v1, v2, v3, v4, v5] 40 (0, 0)) from by exact heap_alloc_new _ _)
    have G2_ := Lib.hid (show (W).grownBy ((W.alloc (.cells #[v0, v1, v2, v3, v4, v5] 40))) none from (gby_alloc (gby_refl _ _) _))
    have A_0_ : ((W.alloc (.cells #[v0, v1, v2, v3, v4, v5] 40))).cell? ⟨W.heap.size, 0, none⟩ = some (v0) := cell_of_row _ _ 0 _ _ _ rA1_.out
    have A_1_ : ((W.alloc (.cells #[v0, v1, v2, v3, v4, v5] 40))).cell? ⟨W.heap.size, 1, none⟩ = some (v1) := cell_of_row _ _ 1 _ _ _ rA1_.out
    have A_2_ : ((W.alloc (.cells #[v0, v1, v2, v3, v4, v5] 40))).cell? ⟨W.heap.size, 2, none⟩ = some (v2) := cell_of_row _ _ 2 _ _ _ rA1_.out
    have A_3_ : ((W.alloc (.cells #[v0, v1, v2, v3, v4, v5] 40))).cell? ⟨W.heap.size, 3, none⟩ = some (v3) := cell_of_row _ _ 3 _ _ _ rA1_.out
    have A_4_ : ((W.alloc (.cells #[v0, v1, v2, v3, v4, v5] 40))).cell? ⟨W.heap.size, 4, none⟩ = some (v4) := cell_of_row _ _ 4 _ _ _ rA1_.out
    have A_5_ : ((W.alloc (.cells #[v0, v1, v2, v3, v4, v5] 40))).cell? ⟨W.heap.size, 5, none⟩ = some (v5) := cell_of_row _ _ 5 _ _ _ rA1_.out
    go_wp2_with fail
    go_at_call 15
    refine (szCredits_d _ _ v0 v1 xs0 xs1 (HI0.out.grow G2_.out) (HI1.out.grow G2_.out) (by omega) (by omega)).mono ?_
    rintro e w1 ⟨he, g⟩
    rw [← HT0.out, show lessN _ t0 = n - (t0 : Int) from (if_neg (by omega)).trans (by omega)] at he
    subst he
    clear A_0_ A_1_ A_2_ A_3_ A_4_ A_5_
    have rA3_ := Lib.hid (show (w1).heap[W.heap.size]? = some (.cells #[v0, v1, v2, v3, v4, v5] 40 (0, 0)) from row_held g rA1_.out)
    clear rA1_
    have G4_ := Lib.hid (show (W).grownBy (w1) none from gby_trans G2_.out g)
    clear g
    have A_0_ : (w1).cell? ⟨W.heap.size, 0, none⟩ = some (v0) := cell_of_row _ _ 0 _ _ _ rA3_.out
    have A_1_ : (w1).cell? ⟨W.heap.size, 1, none⟩ = some (v1) := cell_of_row _ _ 1 _ _ _ rA3_.out
    have A_2_ : (w1).cell? ⟨W.heap.size, 2, none⟩ = some (v2) := cell_of_row _ _ 2 _ _ _ rA3_.out
    have A_3_ : (w1).cell? ⟨W.heap.size, 3, none⟩ = some (v3) := cell_of_row _ _ 3 _ _ _ rA3_.out
    have A_4_ : (w1).cell? ⟨W.heap.size, 4, none⟩ = some (v4) := cell_of_row _ _ 4 _ _ _ rA3_.out
    have A_5_ : (w1).cell? ⟨W.heap.size, 5, none⟩ = some (v5) := cell_of_row _ _ 5 _ _ _ rA3_.out
    go_wp2_with fail
    go_at_call 15
    refine (szCredits_d _ _ v2 v3 xs2 xs3 (HI2.out.grow G4_.out) (HI3.out.grow G4_.out) (by omega) (by omega)).mono ?_
    rintro e w2 ⟨he, g⟩
    rw [← HT1.out, show lessN _ t1 = -1 from if_pos (by omega)] at he
    subst he
    clear A_0_ A_1_ A_2_ A_3_ A_4_ A_5_
    have rA5_ := Lib.hid (show (w2).heap[W.heap.size]? = some (.cells #[v0, v1, v2, v3, v4, v5] 40 (0, 0)) from row_held g rA3_.out)
    clear rA3_
    have G6_ := Lib.hid (show (W).grownBy (w2) none from gby_trans G4_.out g)
    clear g
    have hm1 : (-1 : Int) < 0 := by omega
    go_wp2
    go_ret
    exact ⟨rfl, G6_.out⟩
  by_cases h2_ : n - (t0 : Int) - (t1 : Int) < (t2 : Int)
  · rw [show lessN n (t0 + t1 + t2 + t3) = -1 from if_pos (by omega)]
    go_enter Try.func24, Try.ntmps24
    have rA1_ := Lib.hid (show ((W.alloc (.cells #[v0, v1, v2, v3, v4, v5] 40))).heap[W.heap.size]? = some (.cells #[v0, v1, v2, v3, v4, v5] 40 (0, 0)) from by exact heap_alloc_new _ _)
    have G2_ := Lib.hid (show (W).grownBy ((W.alloc (.cells #[v0, v1, v2, v3, v4, v5] 40))) none from (gby_alloc (gby_refl _ _) _))
    have A_0_ : ((W.alloc (.cells #[v0, v1, v2, v3, v4, v5] 40))).cell? ⟨W.heap.size, 0, none⟩ = some (v0) := cell_of_row _ _ 0 _ _ _ rA1_.out
    have A_1_ : ((W.alloc (.cells #[v0, v1, v2, v3, v4, v5] 40))).cell? ⟨W.heap.size, 1, none⟩ = some (v1) := cell_of_row _ _ 1 _ _ _ rA1_.out
    have A_2_ : ((W.alloc (.cells #[v0, v1, v2, v3, v4, v5] 40))).cell? ⟨W.heap.size, 2, none⟩ = some (v2) := cell_of_row _ _ 2 _ _ _ rA1_.out
    have A_3_ : ((W.alloc (.cells #[v0, v1, v2, v3, v4, v5] 40))).cell? ⟨W.heap.size, 3, none⟩ = some (v3) := cell_of_row _ _ 3 _ _ _ rA1_.out
    have A_4_ : ((W.alloc (.cells #[v0, v1, v2, v3, v4, v5] 40))).cell? ⟨W.heap.size, 4, none⟩ = some (v4) := cell_of_row _ _ 4 _ _ _ rA1_.out
    have A_5_ : ((W.alloc (.cells #[v0, v1, v2, v3, v4, v5] 40))).cell? ⟨W.heap.size, 5, none⟩ = some (v5) := cell_of_row _ _ 5 _ _ _ rA1_.out
    go_wp2_with fail
    go_at_call 15
    refine (szCredits_d _ _ v0 v1 xs0 xs1 (HI0.out.grow G2_.out) (HI1.out.grow G2_.out) (by omega) (by omega)).mono ?_
    rintro e w1 ⟨he, g⟩
    rw [← HT0.out, show lessN _ t0 = n - (t0 : Int) from (if_neg (by omega)).trans (by omega)] at he
    subst he
    clear A_0_ A_1_ A_2_ A_3_ A_4_ A_5_
    have rA3_ := Lib.hid (show (w1).heap[W.heap.size]? = some (.cells #[v0, v1, v2, v3, v4, v5] 40 (0, 0)) from row_held g rA1_.out)
    clear rA1_
    have G4_ := Lib.hid (show (W).grownBy (w1) none from gby_trans G2_.out g)
    clear g
    have A_0_ : (w1).cell? ⟨W.heap.size, 0, none⟩ = some (v0) := cell_of_row _ _ 0 _ _ _ rA3_.out
    have A_1_ : (w1).cell? ⟨W.heap.size, 1, none⟩ = some (v1) := cell_of_row _ _ 1 _ _ _ rA3_.out
    have A_2_ : (w1).cell? ⟨W.heap.size, 2, none⟩ = some (v2) := cell_of_row _ _ 2 _ _ _ rA3_.out
    have A_3_ : (w1).cell? ⟨W.heap.size, 3, none⟩ = some (v3) := cell_of_row _ _ 3 _ _ _ rA3_.out
    have A_4_ : (w1).cell? ⟨W.heap.size, 4, none⟩ = some (v4) := cell_of_row _ _ 4 _ _ _ rA3_.out
    have A_5_ : (w1).cell? ⟨W.heap.size, 5, none⟩ = some (v5) := cell_of_row _ _ 5 _ _ _ rA3_.out
    go_wp2_with fail
    go_at_call 15
    refine (szCredits_d _ _ v2 v3 xs2 xs3 (HI2.out.grow G4_.out) (HI3.out.grow G4_.out) (by omega) (by omega)).mono ?_
    rintro e w2 ⟨he, g⟩
    rw [← HT1.out, show lessN _ t1 = n - (t0 : Int) - (t1 : Int) from (if_neg (by omega)).trans (by omega)] at he
    subst he
    clear A_0_ A_1_ A_2_ A_3_ A_4_ A_5_
    have rA5_ := Lib.hid (show (w2).heap[W.heap.size]? = some (.cells #[v0, v1, v2, v3, v4, v5] 40 (0, 0)) from row_held g rA3_.out)
    clear rA3_
    have G6_ := Lib.hid (show (W).grownBy (w2) none from gby_trans G4_.out g)
    clear g
    have A_0_ : (w2).cell? ⟨W.heap.size, 0, none⟩ = some (v0) := cell_of_row _ _ 0 _ _ _ rA5_.out
    have A_1_ : (w2).cell? ⟨W.heap.size, 1, none⟩ = some (v1) := cell_of_row _ _ 1 _ _ _ rA5_.out
    have A_2_ : (w2).cell? ⟨W.heap.size, 2, none⟩ = some (v2) := cell_of_row _ _ 2 _ _ _ rA5_.out
    have A_3_ : (w2).cell? ⟨W.heap.size, 3, none⟩ = some (v3) := cell_of_row _ _ 3 _ _ _ rA5_.out
    have A_4_ : (w2).cell? ⟨W.heap.size, 4, none⟩ = some (v4) := cell_of_row _ _ 4 _ _ _ rA5_.out
    have A_5_ : (w2).cell? ⟨W.heap.size, 5, none⟩ = some (v5) := cell_of_row _ _ 5 _ _ _ rA5_.out
    go_wp2_with fail
    go_at_call 73
    refine (szPacketS_d _ _ v4 xs4 (HI4.out.grow G6_.out) (by omega) (by omega)).mono ?_
    rintro e w3 ⟨he, g⟩
    rw [← HT2.out, show lessN _ t2 = -1 from if_pos (by omega)] at he
    subst he
    clear A_0_ A_1_ A_2_ A_3_ A_4_ A_5_
    have rA7_ := Lib.hid (show (w3).heap[W.heap.size]? = some (.cells #[v0, v1, v2, v3, v4, v5] 40 (0, 0)) from row_held g rA5_.out)
    clear rA5_
    have G8_ := Lib.hid (show (W).grownBy (w3) none from gby_trans G6_.out g)
    clear g
    have hm1 : (-1 : Int) < 0 := by omega
    go_wp2
    go_ret
    exact ⟨rfl, G8_.out⟩
  by_cases h3_ : n - (t0 : Int) - (t1 : Int) - (t2 : Int) < (t3 : Int)
  · rw [show lessN n (t0 + t1 + t2 + t3) = -1 from if_pos (by omega)]
    go_enter Try.func24, Try.ntmps24
    have rA1_ := Lib.hid (show ((W.alloc (.cells #[v0, v1, v2, v3, v4, v5] 40))).heap[W.heap.size]? = some (.cells #[v0, v1, v2, v3, v4, v5] 40 (0, 0)) from by exact heap_alloc_new _ _)
    have G2_ := Lib.hid (show (W).grownBy ((W.alloc (.cells #[v0, v1, v2, v3, v4, v5] 40))) none from (gby_alloc (gby_refl _ _) _))
    have A_0_ : ((W.alloc (.cells #[v0, v1, v2, v3, v4, v5] 40))).cell? ⟨W.heap.size, 0, none⟩ = some (v0) := cell_of_row _ _ 0 _ _ _ rA1_.out
    have A_1_ : ((W.alloc (.cells #[v0, v1, v2, v3, v4, v5] 40))).cell? ⟨W.heap.size, 1, none⟩ = some (v1) := cell_of_row _ _ 1 _ _ _ rA1_.out
    have A_2_ : ((W.alloc (.cells #[v0, v1, v2, v3, v4, v5] 40))).cell? ⟨W.heap.size, 2, none⟩ = some (v2) := cell_of_row _ _ 2 _ _ _ rA1_.out
    have A_3_ : ((W.alloc (.cells #[v0, v1, v2, v3, v4, v5] 40))).cell? ⟨W.heap.size, 3, none⟩ = some (v3) := cell_of_row _ _ 3 _ _ _ rA1_.out
    have A_4_ : ((W.alloc (.cells #[v0, v1, v2, v3, v4, v5] 40))).cell? ⟨W.heap.size, 4, none⟩ = some (v4) := cell_of_row _ _ 4 _ _ _ rA1_.out
    have A_5_ : ((W.alloc (.cells #[v0, v1, v2, v3, v4, v5] 40))).cell? ⟨W.heap.size, 5, none⟩ = some (v5) := cell_of_row _ _ 5 _ _ _ rA1_.out
    go_wp2_with fail
    go_at_call 15
    refine (szCredits_d _ _ v0 v1 xs0 xs1 (HI0.out.grow G2_.out) (HI1.out.grow G2_.out) (by omega) (by omega)).mono ?_
    rintro e w1 ⟨he, g⟩
    rw [← HT0.out, show lessN _ t0 = n - (t0 : Int) from (if_neg (by omega)).trans (by omega)] at he
    subst he
    clear A_0_ A_1_ A_2_ A_3_ A_4_ A_5_
    have rA3_ := Lib.hid (show (w1).heap[W.heap.size]? = some (.cells #[v0, v1, v2, v3, v4, v5] 40 (0, 0)) from row_held g rA1_.out)
    clear rA1_
    have G4_ := Lib.hid (show (W).grownBy (w1) none from gby_trans G2_.out g)
    clear g
    have A_0_ : (w1).cell? ⟨W.heap.size, 0, none⟩ = some (v0) := cell_of_row _ _ 0 _ _ _ rA3_.out
    have A_1_ : (w1).cell? ⟨W.heap.size, 1, none⟩ = some (v1) := cell_of_row _ _ 1 _ _ _ rA3_.out
    have A_2_ : (w1).cell? ⟨W.heap.size, 2, none⟩ = some (v2) := cell_of_row _ _ 2 _ _ _ rA3_.out
    have A_3_ : (w1).cell? ⟨W.heap.size, 3, none⟩ = some (v3) := cell_of_row _ _ 3 _ _ _ rA3_.out
    have A_4_ : (w1).cell? ⟨W.heap.size, 4, none⟩ = some (v4) := cell_of_row _ _ 4 _ _ _ rA3_.out
    have A_5_ : (w1).cell? ⟨W.heap.size, 5, none⟩ = some (v5) := cell_of_row _ _ 5 _ _ _ rA3_.out
    go_wp2_with fail
    go_at_call 15
    refine (szCredits_d _ _ v2 v3 xs2 xs3 (HI2.out.grow G4_.out) (HI3.out.grow G4_.out) (by omega) (by omega)).mono ?_
    rintro e w2 ⟨he, g⟩
    rw [← HT1.out, show lessN _ t1 = n - (t0 : Int) - (t1 : Int) from (if_neg (by omega)).trans (by omega)] at he
    subst he
    clear A_0_ A_1_ A_2_ A_3_ A_4_ A_5_
    have rA5_ := Lib.hid (show (w2).heap[W.heap.size]? = some (.cells #[v0, v1, v2, v3, v4, v5] 40 (0, 0)) from row_held g rA3_.out)
    clear rA3_
    have G6_ := Lib.hid (show (W).grownBy (w2) none from gby_trans G4_.out g)
    clear g
    have A_0_ : (w2).cell? ⟨W.heap.size, 0, none⟩ = some (v0) := cell_of_row _ _ 0 _ _ _ rA5_.out
    have A_1_ : (w2).cell? ⟨W.heap.size, 1, none⟩ = some (v1) := cell_of_row _ _ 1 _ _ _ rA5_.out
    have A_2_ : (w2).cell? ⟨W.heap.size, 2, none⟩ = some (v2) := cell_of_row _ _ 2 _ _ _ rA5_.out
    have A_3_ : (w2).cell? ⟨W.heap.size, 3, none⟩ = some (v3) := cell_of_row _ _ 3 _ _ _ rA5_.out
    have A_4_ : (w2).cell? ⟨W.heap.size, 4, none⟩ = some (v4) := cell_of_row _ _ 4 _ _ _ rA5_.out
    have A_5_ : (w2).cell? ⟨W.heap.size, 5, none⟩ = some (v5) := cell_of_row _ _ 5 _ _ _ rA5_.out
    go_wp2_with fail
    go_at_call 73
    refine (szPacketS_d _ _ v4 xs4 (HI4.out.grow G6_.out) (by omega) (by omega)).mono ?_
    rintro e w3 ⟨he, g⟩
    rw [← HT2.out, show lessN _ t2 = n - (t0 : Int) - (t1 : Int) - (t2 : Int) from (if_neg (by omega)).trans (by omega)] at he
    subst he
    clear A_0_ A_1_ A_2_ A_3_ A_4_ A_5_
    have rA7_ := Lib.hid (show (w3).heap[W.heap.size]? = some (.cells #[v0, v1, v2, v3, v4, v5] 40 (0, 0)) from row_held g rA5_.out)
    clear rA5_
    have G8_ := Lib.hid (show (W).grownBy (w3) none from gby_trans G6_.out g)
    clear g
    have A_0_ : (w3).cell? ⟨W.heap.size, 0, none⟩ = some (v0) := cell_of_row _ _ 0 _ _ _ rA7_.out
    have A_1_ : (w3).cell? ⟨W.heap.size, 1, none⟩ = some (v1) := cell_of_row _ _ 1 _ _ _ rA7_.out
    have A_2_ : (w3).cell? ⟨W.heap.size, 2, none⟩ = some (v2) := cell_of_row _ _ 2 _ _ _ rA7_.out
    have A_3_ : (w3).cell? ⟨W.heap.size, 3, none⟩ = some (v3) := cell_of_row _ _ 3 _ _ _ rA7_.out
    have A_4_ : (w3).cell? ⟨W.heap.size, 4, none⟩ = some (v4) := cell_of_row _ _ 4 _ _ _ rA7_.out
    have A_5_ : (w3).cell? ⟨W.heap.size, 5, none⟩ = some (v5) := cell_of_row _ _ 5 _ _ _ rA7_.out
    go_wp2_with fail
    go_at_call 73
    refine (szPacketS_d _ _ v5 xs5 (HI5.out.grow G8_.out) (by omega) (by omega)).mono ?_
    rintro e w4 ⟨he, g⟩
    rw [← HT3.out, show lessN _ t3 = -1 from if_pos (by omega)] at he
    subst he
    clear A_0_ A_1_ A_2_ A_3_ A_4_ A_5_
    have rA9_ := Lib.hid (show (w4).heap[W.heap.size]? = some (.cells #[v0, v1, v2, v3, v4, v5] 40 (0, 0)) from row_held g rA7_.out)
    clear rA7_
    have G10_ := Lib.hid (show (W).grownBy (w4) none from gby_trans G8_.out g)
    clear g
    have hm1 : (-1 : Int) < 0 := by omega
    go_wp2
    go_ret
    exact ⟨rfl, G10_.out⟩
  rw [show lessN n (t0 + t1 + t2 + t3) = n - (t0 : Int) - (t1 : Int) - (t2 : Int) - (t3 : Int) from (if_neg (by omega)).trans (by omega)]
  go_enter Try.func24, Try.ntmps24
  have rA1_ := Lib.hid (show ((W.alloc (.cells #[v0, v1, v2, v3, v4, v5] 40))).heap[W.heap.size]? = some (.cells #[v0, v1, v2, v3, v4, v5] 40 (0, 0)) from by exact heap_alloc_new _ _)
  have G2_ := Lib.hid (show (W).grownBy ((W.alloc (.cells #[v0, v1, v2, v3, v4, v5] 40))) none from (gby_alloc (gby_refl _ _) _))
  have A_0_ : ((W.alloc (.cells #[v0, v1, v2, v3, v4, v5] 40))).cell? ⟨W.heap.size, 0, none⟩ = some (v0) := cell_of_row _ _ 0 _ _ _ rA1_.out
  have A_1_ : ((W.alloc (.cells #[v0, v1, v2, v3, v4, v5] 40))).cell? ⟨W.heap.size, 1, none⟩ = some (v1) := cell_of_row _ _ 1 _ _ _ rA1_.out
  have A_2_ : ((W.alloc (.cells #[v0, v1, v2, v3, v4, v5] 40))).cell? ⟨W.heap.size, 2, none⟩ = some (v2) := cell_of_row _ _ 2 _ _ _ rA1_.out
  have A_3_ : ((W.alloc (.cells #[v0, v1, v2, v3, v4, v5] 40))).cell? ⟨W.heap.size, 3, none⟩ = some (v3) := cell_of_row _ _ 3 _ _ _ rA1_.out
  have A_4_ : ((W.alloc (.cells #[v0, v1, v2, v3, v4, v5] 40))).cell? ⟨W.heap.size, 4, none⟩ = some (v4) := cell_of_row _ _ 4 _ _ _ rA1_.out
  have A_5_ : ((W.alloc (.cells #[v0, v1, v2, v3, v4, v5] 40))).cell? ⟨W.heap.size, 5, none⟩ = some (v5) := cell_of_row _ _ 5 _ _ _ rA1_.out
  go_wp2_with fail
  go_at_call 15
  refine (szCredits_d _ _ v0 v1 xs0 xs1 (HI0.out.grow G2_.out) (HI1.out.grow G2_.out) (by omega) (by omega)).mono ?_
  rintro e w1 ⟨he, g⟩
  rw [← HT0.out, show lessN _ t0 = n - (t0 : Int) from (if_neg (by omega)).trans (by omega)] at he
  subst he
  clear A_0_ A_1_ A_2_ A_3_ A_4_ A_5_
  have rA3_ := Lib.hid (show (w1).heap[W.heap.size]? = some (.cells #[v0, v1, v2, v3, v4, v5] 40 (0, 0)) from row_held g rA1_.out)
  clear rA1_
  have G4_ := Lib.hid (show (W).grownBy (w1) none from gby_trans G2_.out g)
  clear g
  have A_0_ : (w1).cell? ⟨W.heap.size, 0, none⟩ = some (v0) := cell_of_row _ _ 0 _ _ _ rA3_.out
  have A_1_ : (w1).cell? ⟨W.heap.size, 1, none⟩ = some (v1) := cell_of_row _ _ 1 _ _ _ rA3_.out
  have A_2_ : (w1).cell? ⟨W.heap.size, 2, none⟩ = some (v2) := cell_of_row _ _ 2 _ _ _ rA3_.out
  have A_3_ : (w1).cell? ⟨W.heap.size, 3, none⟩ = some (v3) := cell_of_row _ _ 3 _ _ _ rA3_.out
  have A_4_ : (w1).cell? ⟨W.heap.size, 4, none⟩ = some (v4) := cell_of_row _ _ 4 _ _ _ rA3_.out
  have A_5_ : (w1).cell? ⟨W.heap.size, 5, none⟩ = some (v5) := cell_of_row _ _ 5 _ _ _ rA3_.out
  go_wp2_with fail
  go_at_call 15
  refine (szCredits_d _ _ v2 v3 xs2 xs3 (HI2.out.grow G4_.out) (HI3.out.grow G4_.out) (by omega) (by omega)).mono ?_
  rintro e w2 ⟨he, g⟩
  rw [← HT1.out, show lessN _ t1 = n - (t0 : Int) - (t1 : Int) from (if_neg (by omega)).trans (by omega)] at he
  subst he
  clear A_0_ A_1_ A_2_ A_3_ A_4_ A_5_
  have rA5_ := Lib.hid (show (w2).heap[W.heap.size]? = some (.cells #[v0, v1, v2, v3, v4, v5] 40 (0, 0)) from row_held g rA3_.out)
  clear rA3_
  have G6_ := Lib.hid (show (W).grownBy (w2) none from gby_trans G4_.out g)
  clear g
  have A_0_ : (w2).cell? ⟨W.heap.size, 0, none⟩ = some (v0) := cell_of_row _ _ 0 _ _ _ rA5_.out
  have A_1_ : (w2).cell? ⟨W.heap.size, 1, none⟩ = some (v1) := cell_of_row _ _ 1 _ _ _ rA5_.out
  have A_2_ : (w2).cell? ⟨W.heap.size, 2, none⟩ = some (v2) := cell_of_row _ _ 2 _ _ _ rA5_.out
  have A_3_ : (w2).cell? ⟨W.heap.size, 3, none⟩ = some (v3) := cell_of_row _ _ 3 _ _ _ rA5_.out
  have A_4_ : (w2).cell? ⟨W.heap.size, 4, none⟩ = some (v4) := cell_of_row _ _ 4 _ _ _ rA5_.out
  have A_5_ : (w2).cell? ⟨W.heap.size, 5, none⟩ = some (v5) := cell_of_row _ _ 5 _ _ _ rA5_.out
  go_wp2_with fail
  go_at_call 73
  refine (szPacketS_d _ _ v4 xs4 (HI4.out.grow G6_.out) (by omega) (by omega)).mono ?_
  rintro e w3 ⟨he, g⟩
  rw [← HT2.out, show lessN _ t2 = n - (t0 : Int) - (t1 : Int) - (t2 : Int) from (if_neg (by omega)).trans (by omega)] at he
  subst he
  clear A_0_ A_1_ A_2_ A_3_ A_4_ A_5_
  have rA7_ := Lib.hid (show (w3).heap[W.heap.size]? = some (.cells #[v0, v1, v2, v3, v4, v5] 40 (0, 0)) from row_held g rA5_.out)
  clear rA5_
  have G8_ := Lib.hid (show (W).grownBy (w3) none from gby_trans G6_.out g)
  clear g
  have A_0_ : (w3).cell? ⟨W.heap.size, 0, none⟩ = some (v0) := cell_of_row _ _ 0 _ _ _ rA7_.out
  have A_1_ : (w3).cell? ⟨W.heap.size, 1, none⟩ = some (v1) := cell_of_row _ _ 1 _ _ _ rA7_.out
  have A_2_ : (w3).cell? ⟨W.heap.size, 2, none⟩ = some (v2) := cell_of_row _ _ 2 _ _ _ rA7_.out
  have A_3_ : (w3).cell? ⟨W.heap.size, 3, none⟩ = some (v3) := cell_of_row _ _ 3 _ _ _ rA7_.out
  have A_4_ : (w3).cell? ⟨W.heap.size, 4, none⟩ = some (v4) := cell_of_row _ _ 4 _ _ _ rA7_.out
  have A_5_ : (w3).cell? ⟨W.heap.size, 5, none⟩ = some (v5) := cell_of_row _ _ 5 _ _ _ rA7_.out
  go_wp2_with fail
  go_at_call 73
  refine (szPacketS_d _ _ v5 xs5 (HI5.out.grow G8_.out) (by omega) (by omega)).mono ?_
  rintro e w4 ⟨he, g⟩
  rw [← HT3.out, show lessN _ t3 = n - (t0 : Int) - (t1 : Int) - (t2 : Int) - (t3 : Int) from (if_neg (by omega)).trans (by omega)] at he
  subst he
  clear A_0_ A_1_ A_2_ A_3_ A_4_ A_5_
  have rA9_ := Lib.hid (show (w4).heap[W.heap.size]? = some (.cells #[v0, v1, v2, v3, v4, v5] 40 (0, 0)) from row_held g rA7_.out)
  clear rA7_
  have G10_ := Lib.hid (show (W).grownBy (w4) none from gby_trans G8_.out g)
  clear g
  go_wp2
  go_ret
  exact ⟨rfl, G10_.out⟩

/-- a Channel in new memory -/
def NewChannel (xs0 : List Int) (xs1 : List Int) (xs2 : List Int) (xs3 : List Int) (xs4 : List DPacket) (xs5 : List DPacket) (W : World) (e : Ending) (w' : World) : Prop := ∃ v0, ∃ v1, ∃ v2, ∃ v3, ∃ v4, ∃ v5, e = .returned (vChannel v0 v1 v2 v3 v4 v5) ∧ OwU w' W.heap.size w'.heap.size [] [own shI v0 xs0, own shI v1 xs1, own shI v2 xs2, own shI v3 xs3, own shPacket v4 xs4, own shPacket v5 xs5] ∧ W.grownBy w' none

set_option maxRecDepth 8000 in
set_option maxHeartbeats 4000000 in
theorem toChannel_d (W : World) (v0 : Value) (v1 : Value) (v2 : Value) (v3 : Value) (v4 : Value) (v5 : Value) (xs0 : List Int) (xs1 : List Int) (xs2 : List Int) (xs3 : List Int) (xs4 : List DPacket) (xs5 : List DPacket) (H0 : RdL shI W v0 xs0) (hl0 : szL shI xs0 ≤ 1048576) (H1 : RdL shI W v1 xs1) (hl1 : szL shI xs1 ≤ 1048576) (H2 : RdL shI W v2 xs2) (hl2 : szL shI xs2 ≤ 1048576) (H3 : RdL shI W v3 xs3) (hl3 : szL shI xs3 ≤ 1048576) (H4 : RdL shPacket W v4 xs4) (hl4 : szL shPacket xs4 ≤ 1048576) (H5 : RdL shPacket W v5 xs5) (hl5 : szL shPacket xs5 ≤ 1048576) :
    Calls Try.prog 26 #[vChannel v0 v1 v2 v3 v4 v5] W (NewChannel xs0 xs1 xs2 xs3 xs4 xs5 W) := by
  have HI0 := Lib.hid H0
  clear H0
  have HI1 := Lib.hid H1
  clear H1
  have HI2 := Lib.hid H2
  clear H2
  have HI3 := Lib.hid H3
  clear H3
  have HI4 := Lib.hid H4
  clear H4
  have HI5 := Lib.hid H5
  clear H5
  unfold vChannel
  go_enter Try.func26, Try.ntmps26
  have rP1_ := Lib.hid (show ((((W.alloc (.cells #[v0, v1, v2, v3, v4, v5] 40)).alloc (.cells #[.slice none 0 0, .slice none 0 0, .slice none 0 0, .slice none 0 0, .slice none 0 0, .slice none 0 0] 29)).alloc (.cells #[.slice none 0 0, .slice none 0 0, .slice none 0 0, .slice none 0 0, .slice none 0 0, .slice none 0 0] 29))).heap[W.heap.size]? = some (.cells #[v0, v1, v2, v3, v4, v5] 40 (0, 0)) from by rw [heap_alloc_old _ _ (by simp only [World.size_alloc]; omega)]; rw [heap_alloc_old _ _ (by simp only [World.size_alloc]; omega)]; exact heap_alloc_new _ _)
  have rR2_ := Lib.hid (show ((((W.alloc (.cells #[v0, v1, v2, v3, v4, v5] 40)).alloc (.cells #[.slice none 0 0, .slice none 0 0, .slice none 0 0, .slice none 0 0, .slice none 0 0, .slice none 0 0] 29)).alloc (.cells #[.slice none 0 0, .slice none 0 0, .slice none 0 0, .slice none 0 0, .slice none 0 0, .slice none 0 0] 29))).heap[W.heap.size + 1]? = some (.cells #[.slice none 0 0, .slice none 0 0, .slice none 0 0, .slice none 0 0, .slice none 0 0, .slice none 0 0] 29 (0, 0)) from by rw [heap_alloc_old _ _ (by simp only [World.size_alloc]; omega)]; exact heap_pair _ _ _)
  have rX3_ := Lib.hid (show ((((W.alloc (.cells #[v0, v1, v2, v3, v4, v5] 40)).alloc (.cells #[.slice none 0 0, .slice none 0 0, .slice none 0 0, .slice none 0 0, .slice none 0 0, .slice none 0 0] 29)).alloc (.cells #[.slice none 0 0, .slice none 0 0, .slice none 0 0, .slice none 0 0, .slice none 0 0, .slice none 0 0] 29))).heap[W.heap.size + 1 + 1]? = some (.cells #[.slice none 0 0, .slice none 0 0, .slice none 0 0, .slice none 0 0, .slice none 0 0, .slice none 0 0] 29 (0, 0)) from by exact heap_trip _ _ _ _)
  have G4_ := Lib.hid (show (W).grownBy ((((W.alloc (.cells #[v0, v1, v2, v3, v4, v5] 40)).alloc (.cells #[.slice none 0 0, .slice none 0 0, .slice none 0 0, .slice none 0 0, .slice none 0 0, .slice none 0 0] 29)).alloc (.cells #[.slice none 0 0, .slice none 0 0, .slice none 0 0, .slice none 0 0, .slice none 0 0, .slice none 0 0] 29))) none from (gby_alloc (gby_alloc (gby_alloc (gby_refl _ _) _) _) _))
  have P_0_ : ((((W.alloc (.cells #[v0, v1, v2, v3, v4, v5] 40)).alloc (.cells #[.slice none 0 0, .slice none 0 0, .slice none 0 0, .slice none 0 0, .slice none 0 0, .slice none 0 0] 29)).alloc (.cells #[.slice none 0 0, .slice none 0 0, .slice none 0 0, .slice none 0 0, .slice none 0 0, .slice none 0 0] 29))).cell? ⟨W.heap.size, 0, none⟩ = some (v0) := cell_of_row _ _ 0 _ _ _ rP1_.out
  have P_1_ : ((((W.alloc (.cells #[v0, v1, v2, v3, v4, v5] 40)).alloc (.cells #[.slice none 0 0, .slice none 0 0, .slice none 0 0, .slice none 0 0, .slice none 0 0, .slice none 0 0] 29)).alloc (.cells #[.slice none 0 0, .slice none 0 0, .slice none 0 0, .slice none 0 0, .slice none 0 0, .slice none 0 0] 29))).cell? ⟨W.heap.size, 1, none⟩ = some (v1) := cell_of_row _ _ 1 _ _ _ rP1_.out
  have P_2_ : ((((W.alloc (.cells #[v0, v1, v2, v3, v4, v5] 40)).alloc (.cells #[.slice none 0 0, .slice none 0 0, .slice none 0 0, .slice none 0 0, .slice none 0 0, .slice none 0 0] 29)).alloc (.cells #[.slice none 0 0, .slice none 0 0, .slice none 0 0, .slice none 0 0, .slice none 0 0, .slice none 0 0] 29))).cell? ⟨W.heap.size, 2, none⟩ = some (v2) := cell_of_row _ _ 2 _ _ _ rP1_.out
  have P_3_ : ((((W.alloc (.cells #[v0, v1, v2, v3, v4, v5] 40)).alloc (.cells #[.slice none 0 0, .slice none 0 0, .slice none 0 0, .slice none 0 0, .slice none 0 0, .slice none 0 0] 29)).alloc (.cells #[.slice none 0 0, .slice none 0 0, .slice none 0 0, .slice none 0 0, .slice none 0 0, .slice none 0 0] 29))).cell? ⟨W.heap.size, 3, none⟩ = some (v3) := cell_of_row _ _ 3 _ _ _ rP1_.out
  have P_4_ : ((((W.alloc (.cells #[v0, v1, v2, v3, v4, v5] 40)).alloc (.cells #[.slice none 0 0, .slice none 0 0, .slice none 0 0, .slice none 0 0, .slice none 0 0, .slice none 0 0] 29)).alloc (.cells #[.slice none 0 0, .slice none 0 0, .slice none 0 0, .slice none 0 0, .slice none 0 0, .slice none 0 0] 29))).cell? ⟨W.heap.size, 4, none⟩ = some (v4) := cell_of_row _ _ 4 _ _ _ rP1_.out
  have P_5_ : ((((W.alloc (.cells #[v0, v1, v2, v3, v4, v5] 40)).alloc (.cells #[.slice none 0 0, .slice none 0 0, .slice none 0 0, .slice none 0 0, .slice none 0 0, .slice none 0 0] 29)).alloc (.cells #[.slice none 0 0, .slice none 0 0, .slice none 0 0, .slice none 0 0, .slice none 0 0, .slice none 0 0] 29))).cell? ⟨W.heap.size, 5, none⟩ = some (v5) := cell_of_row _ _ 5 _ _ _ rP1_.out
  have R_0_ : ((((W.alloc (.cells #[v0, v1, v2, v3, v4, v5] 40)).alloc (.cells #[.slice none 0 0, .slice none 0 0, .slice none 0 0, .slice none 0 0, .slice none 0 0, .slice none 0 0] 29)).alloc (.cells #[.slice none 0 0, .slice none 0 0, .slice none 0 0, .slice none 0 0, .slice none 0 0, .slice none 0 0] 29))).cell? ⟨W.heap.size + 1, 0, none⟩ = some (.slice none 0 0) := cell_of_row _ _ 0 _ _ _ rR2_.out
  have R_1_ : ((((W.alloc (.cells #[v0, v1, v2, v3, v4, v5] 40)).alloc (.cells #[.slice none 0 0, .slice none 0 0, .slice none 0 0, .slice none 0 0, .slice none 0 0, .slice none 0 0] 29)).alloc (.cells #[.slice none 0 0, .slice none 0 0, .slice none 0 0, .slice none 0 0, .slice none 0 0, .slice none 0 0] 29))).cell? ⟨W.heap.size + 1, 1, none⟩ = some (.slice none 0 0) := cell_of_row _ _ 1 _ _ _ rR2_.out
  have R_2_ : ((((W.alloc (.cells #[v0, v1, v2, v3, v4, v5] 40)).alloc (.cells #[.slice none 0 0, .slice none 0 0, .slice none 0 0, .slice none 0 0, .slice none 0 0, .slice none 0 0] 29)).alloc (.cells #[.slice none 0 0, .slice none 0 0, .slice none 0 0, .slice none 0 0, .slice none 0 0, .slice none 0 0] 29))).cell? ⟨W.heap.size + 1, 2, none⟩ = some (.slice none 0 0) := cell_of_row _ _ 2 _ _ _ rR2_.out
  have R_3_ : ((((W.alloc (.cells #[v0, v1, v2, v3, v4, v5] 40)).alloc (.cells #[.slice none 0 0, .slice none 0 0, .slice none 0 0, .slice none 0 0, .slice none 0 0, .slice none 0 0] 29)).alloc (.cells #[.slice none 0 0, .slice none 0 0, .slice none 0 0, .slice none 0 0, .slice none 0 0, .slice none 0 0] 29))).cell? ⟨W.heap.size + 1, 3, none⟩ = some (.slice none 0 0) := cell_of_row _ _ 3 _ _ _ rR2_.out
  have R_4_ : ((((W.alloc (.cells #[v0, v1, v2, v3, v4, v5] 40)).alloc (.cells #[.slice none 0 0, .slice none 0 0, .slice none 0 0, .slice none 0 0, .slice none 0 0, .slice none 0 0] 29)).alloc (.cells #[.slice none 0 0, .slice none 0 0, .slice none 0 0, .slice none 0 0, .slice none 0 0, .slice none 0 0] 29))).cell? ⟨W.heap.size + 1, 4, none⟩ = some (.slice none 0 0) := cell_of_row _ _ 4 _ _ _ rR2_.out
  have R_5_ : ((((W.alloc (.cells #[v0, v1, v2, v3, v4, v5] 40)).alloc (.cells #[.slice none 0 0, .slice none 0 0, .slice none 0 0, .slice none 0 0, .slice none 0 0, .slice none 0 0] 29)).alloc (.cells #[.slice none 0 0, .slice none 0 0, .slice none 0 0, .slice none 0 0, .slice none 0 0, .slice none 0 0] 29))).cell? ⟨W.heap.size + 1, 5, none⟩ = some (.slice none 0 0) := cell_of_row _ _ 5 _ _ _ rR2_.out
  have X_0_ : ((((W.alloc (.cells #[v0, v1, v2, v3, v4, v5] 40)).alloc (.cells #[.slice none 0 0, .slice none 0 0, .slice none 0 0, .slice none 0 0, .slice none 0 0, .slice none 0 0] 29)).alloc (.cells #[.slice none 0 0, .slice none 0 0, .slice none 0 0, .slice none 0 0, .slice none 0 0, .slice none 0 0] 29))).cell? ⟨W.heap.size + 1 + 1, 0, none⟩ = some (.slice none 0 0) := cell_of_row _ _ 0 _ _ _ rX3_.out
  have X_1_ : ((((W.alloc (.cells #[v0, v1, v2, v3, v4, v5] 40)).alloc (.cells #[.slice none 0 0, .slice none 0 0, .slice none 0 0, .slice none 0 0, .slice none 0 0, .slice none 0 0] 29)).alloc (.cells #[.slice none 0 0, .slice none 0 0, .slice none 0 0, .slice none 0 0, .slice none 0 0, .slice none 0 0] 29))).cell? ⟨W.heap.size + 1 + 1, 1, none⟩ = some (.slice none 0 0) := cell_of_row _ _ 1 _ _ _ rX3_.out
  have X_2_ : ((((W.alloc (.cells #[v0, v1, v2, v3, v4, v5] 40)).alloc (.cells #[.slice none 0 0, .slice none 0 0, .slice none 0 0, .slice none 0 0, .slice none 0 0, .slice none 0 0] 29)).alloc (.cells #[.slice none 0 0, .slice none 0 0, .slice none 0 0, .slice none 0 0, .slice none 0 0, .slice none 0 0] 29))).cell? ⟨W.heap.size + 1 + 1, 2, none⟩ = some (.slice none 0 0) := cell_of_row _ _ 2 _ _ _ rX3_.out
  have X_3_ : ((((W.alloc (.cells #[v0, v1, v2, v3, v4, v5] 40)).alloc (.cells #[.slice none 0 0, .slice none 0 0, .slice none 0 0, .slice none 0 0, .slice none 0 0, .slice none 0 0] 29)).alloc (.cells #[.slice none 0 0, .slice none 0 0, .slice none 0 0, .slice none 0 0, .slice none 0 0, .slice none 0 0] 29))).cell? ⟨W.heap.size + 1 + 1, 3, none⟩ = some (.slice none 0 0) := cell_of_row _ _ 3 _ _ _ rX3_.out
  have X_4_ : ((((W.alloc (.cells #[v0, v1, v2, v3, v4, v5] 40)).alloc (.cells #[.slice none 0 0, .slice none 0 0, .slice none 0 0, .slice none 0 0, .slice none 0 0, .slice none 0 0] 29)).alloc (.cells #[.slice none 0 0, .slice none 0 0, .slice none 0 0, .slice none 0 0, .slice none 0 0, .slice none 0 0] 29))).cell? ⟨W.heap.size + 1 + 1, 4, none⟩ = some (.slice none 0 0) := cell_of_row _ _ 4 _ _ _ rX3_.out
  have X_5_ : ((((W.alloc (.cells #[v0, v1, v2, v3, v4, v5] 40)).alloc (.cells #[.slice none 0 0, .slice none 0 0, .slice none 0 0, .slice none 0 0, .slice none 0 0, .slice none 0 0] 29)).alloc (.cells #[.slice none 0 0, .slice none 0 0, .slice none 0 0, .slice none 0 0, .slice none 0 0, .slice none 0 0] 29))).cell? ⟨W.heap.size + 1 + 1, 5, none⟩ = some (.slice none 0 0) := cell_of_row _ _ 5 _ _ _ rX3_.out
  have Xf0_ : ((((W.alloc (.cells #[v0, v1, v2, v3, v4, v5] 40)).alloc (.cells #[.slice none 0 0, .slice none 0 0, .slice none 0 0, .slice none 0 0, .slice none 0 0, .slice none 0 0] 29)).alloc (.cells #[.slice none 0 0, .slice none 0 0, .slice none 0 0, .slice none 0 0, .slice none 0 0, .slice none 0 0] 29))).frozen? ⟨W.heap.size + 1 + 1, 0, none⟩ = false := frozen_of_row _ _ 0 _ _ rX3_.out
  have Xf1_ : ((((W.alloc (.cells #[v0, v1, v2, v3, v4, v5] 40)).alloc (.cells #[.slice none 0 0, .slice none 0 0, .slice none 0 0, .slice none 0 0, .slice none 0 0, .slice none 0 0] 29)).alloc (.cells #[.slice none 0 0, .slice none 0 0, .slice none 0 0, .slice none 0 0, .slice none 0 0, .slice none 0 0] 29))).frozen? ⟨W.heap.size + 1 + 1, 1, none⟩ = false := frozen_of_row _ _ 1 _ _ rX3_.out
  have Xf2_ : ((((W.alloc (.cells #[v0, v1, v2, v3, v4, v5] 40)).alloc (.cells #[.slice none 0 0, .slice none 0 0, .slice none 0 0, .slice none 0 0, .slice none 0 0, .slice none 0 0] 29)).alloc (.cells #[.slice none 0 0, .slice none 0 0, .slice none 0 0, .slice none 0 0, .slice none 0 0, .slice none 0 0] 29))).frozen? ⟨W.heap.size + 1 + 1, 2, none⟩ = false := frozen_of_row _ _ 2 _ _ rX3_.out
  have Xf3_ : ((((W.alloc (.cells #[v0, v1, v2, v3, v4, v5] 40)).alloc (.cells #[.slice none 0 0, .slice none 0 0, .slice none 0 0, .slice none 0 0, .slice none 0 0, .slice none 0 0] 29)).alloc (.cells #[.slice none 0 0, .slice none 0 0, .slice none 0 0, .slice none 0 0, .slice none 0 0, .slice none 0 0] 29))).frozen? ⟨W.heap.size + 1 + 1, 3, none⟩ = false := frozen_of_row _ _ 3 _ _ rX3_.out
  have Xf4_ : ((((W.alloc (.cells #[v0, v1, v2, v3, v4, v5] 40)).alloc (.cells #[.slice none 0 0, .slice none 0 0, .slice none 0 0, .slice none 0 0, .slice none 0 0, .slice none 0 0] 29)).alloc (.cells #[.slice none 0 0, .slice none 0 0, .slice none 0 0, .slice none 0 0, .slice none 0 0, .slice none 0 0] 29))).frozen? ⟨W.heap.size + 1 + 1, 4, none⟩ = false := frozen_of_row _ _ 4 _ _ rX3_.out
  have Xf5_ : ((((W.alloc (.cells #[v0, v1, v2, v3, v4, v5] 40)).alloc (.cells #[.slice none 0 0, .slice none 0 0, .slice none 0 0, .slice none 0 0, .slice none 0 0, .slice none 0 0] 29)).alloc (.cells #[.slice none 0 0, .slice none 0 0, .slice none 0 0, .slice none 0 0, .slice none 0 0, .slice none 0 0] 29))).frozen? ⟨W.heap.size + 1 + 1, 5, none⟩ = false := frozen_of_row _ _ 5 _ _ rX3_.out
  go_wp2_with fail
  go_at_call 17
  clear P_0_ P_1_ P_2_ P_3_ P_4_ P_5_ R_0_ R_1_ R_2_ R_3_ R_4_ R_5_ X_0_ X_1_ X_2_ X_3_ X_4_ X_5_ Xf0_ Xf1_ Xf2_ Xf3_ Xf4_ Xf5_
  refine (toCredits_d _ v0 v1 xs0 xs1 (HI0.out.grow G4_.out) hl0 (HI1.out.grow G4_.out) hl1).mono ?_
  rintro e w1 ⟨d0, d1, rfl, o, g⟩
  have sz0 := g.size
  first | simp only [World.size_alloc] at sz0 | simp only [World.size_setCell] at sz0 | skip
  first | simp only [World.size_alloc] at o | simp only [World.size_setCell] at o | skip
  have rP5_ := Lib.hid (show (w1).heap[W.heap.size]? = some (.cells #[v0, v1, v2, v3, v4, v5] 40 (0, 0)) from row_held g rP1_.out)
  clear rP1_
  have rR6_ := Lib.hid (show (w1).heap[W.heap.size + 1]? = some (.cells #[.slice none 0 0, .slice none 0 0, .slice none 0 0, .slice none 0 0, .slice none 0 0, .slice none 0 0] 29 (0, 0)) from row_held g rR2_.out)
  clear rR2_
  have rX7_ := Lib.hid (show (w1).heap[W.heap.size + 1 + 1]? = some (.cells #[.slice none 0 0, .slice none 0 0, .slice none 0 0, .slice none 0 0, .slice none 0 0, .slice none 0 0] 29 (0, 0)) from row_held g rX3_.out)
  clear rX3_
  have G8_ := Lib.hid (show (W).grownBy (w1) none from gby_trans G4_.out g)
  clear g
  obtain ⟨p0_, n0_, c0_, hv0_⟩ := RdL.form (OwU.rd o)
  subst hv0_
  obtain ⟨p1_, n1_, c1_, hv1_⟩ := RdL.form (OwU.rd (OwU.tail o))
  subst hv1_
  have o09_ := Lib.hid (show OwU (w1) (W.heap.size + 1 + 1 + 1) (w1.heap.size) [] [own shI (.slice p0_ n0_ c0_) xs0, own shI (.slice p1_ n1_ c1_) xs1] from o)
  clear o
  try unfold vCredits
  have P_0_ : (w1).cell? ⟨W.heap.size, 0, none⟩ = some (v0) := cell_of_row _ _ 0 _ _ _ rP5_.out
  have P_1_ : (w1).cell? ⟨W.heap.size, 1, none⟩ = some (v1) := cell_of_row _ _ 1 _ _ _ rP5_.out
  have P_2_ : (w1).cell? ⟨W.heap.size, 2, none⟩ = some (v2) := cell_of_row _ _ 2 _ _ _ rP5_.out
  have P_3_ : (w1).cell? ⟨W.heap.size, 3, none⟩ = some (v3) := cell_of_row _ _ 3 _ _ _ rP5_.out
  have P_4_ : (w1).cell? ⟨W.heap.size, 4, none⟩ = some (v4) := cell_of_row _ _ 4 _ _ _ rP5_.out
  have P_5_ : (w1).cell? ⟨W.heap.size, 5, none⟩ = some (v5) := cell_of_row _ _ 5 _ _ _ rP5_.out
  have R_0_ : (w1).cell? ⟨W.heap.size + 1, 0, none⟩ = some (.slice none 0 0) := cell_of_row _ _ 0 _ _ _ rR6_.out
  have R_1_ : (w1).cell? ⟨W.heap.size + 1, 1, none⟩ = some (.slice none 0 0) := cell_of_row _ _ 1 _ _ _ rR6_.out
  have R_2_ : (w1).cell? ⟨W.heap.size + 1, 2, none⟩ = some (.slice none 0 0) := cell_of_row _ _ 2 _ _ _ rR6_.out
  have R_3_ : (w1).cell? ⟨W.heap.size + 1, 3, none⟩ = some (.slice none 0 0) := cell_of_row _ _ 3 _ _ _ rR6_.out
  have R_4_ : (w1).cell? ⟨W.heap.size + 1, 4, none⟩ = some (.slice none 0 0) := cell_of_row _ _ 4 _ _ _ rR6_.out
  have R_5_ : (w1).cell? ⟨W.heap.size + 1, 5, none⟩ = some (.slice none 0 0) := cell_of_row _ _ 5 _ _ _ rR6_.out
  have X_0_ : (w1).cell? ⟨W.heap.size + 1 + 1, 0, none⟩ = some (.slice none 0 0) := cell_of_row _ _ 0 _ _ _ rX7_.out
  have X_1_ : (w1).cell? ⟨W.heap.size + 1 + 1, 1, none⟩ = some (.slice none 0 0) := cell_of_row _ _ 1 _ _ _ rX7_.out
  have X_2_ : (w1).cell? ⟨W.heap.size + 1 + 1, 2, none⟩ = some (.slice none 0 0) := cell_of_row _ _ 2 _ _ _ rX7_.out
  have X_3_ : (w1).cell? ⟨W.heap.size + 1 + 1, 3, none⟩ = some (.slice none 0 0) := cell_of_row _ _ 3 _ _ _ rX7_.out
  have X_4_ : (w1).cell? ⟨W.heap.size + 1 + 1, 4, none⟩ = some (.slice none 0 0) := cell_of_row _ _ 4 _ _ _ rX7_.out
  have X_5_ : (w1).cell? ⟨W.heap.size + 1 + 1, 5, none⟩ = some (.slice none 0 0) := cell_of_row _ _ 5 _ _ _ rX7_.out
  have Xf0_ : (w1).frozen? ⟨W.heap.size + 1 + 1, 0, none⟩ = false := frozen_of_row _ _ 0 _ _ rX7_.out
  have Xf1_ : (w1).frozen? ⟨W.heap.size + 1 + 1, 1, none⟩ = false := frozen_of_row _ _ 1 _ _ rX7_.out
  have Xf2_ : (w1).frozen? ⟨W.heap.size + 1 + 1, 2, none⟩ = false := frozen_of_row _ _ 2 _ _ rX7_.out
  have Xf3_ : (w1).frozen? ⟨W.heap.size + 1 + 1, 3, none⟩ = false := frozen_of_row _ _ 3 _ _ rX7_.out
  have Xf4_ : (w1).frozen? ⟨W.heap.size + 1 + 1, 4, none⟩ = false := frozen_of_row _ _ 4 _ _ rX7_.out
  have Xf5_ : (w1).frozen? ⟨W.heap.size + 1 + 1, 5, none⟩ = false := frozen_of_row _ _ 5 _ _ rX7_.out
  go_wp2_with fail
  go_at_call 17
  clear P_0_ P_1_ P_2_ P_3_ P_4_ P_5_ R_0_ R_1_ R_2_ R_3_ R_4_ R_5_ X_0_ X_1_ X_2_ X_3_ X_4_ X_5_ Xf0_ Xf1_ Xf2_ Xf3_ Xf4_ Xf5_
  have rP10_ := Lib.hid (show (((w1.setCell ⟨W.heap.size + 1 + 1, 0, none⟩ ((.slice p0_ n0_ c0_))).setCell ⟨W.heap.size + 1 + 1, 1, none⟩ ((.slice p1_ n1_ c1_)))).heap[W.heap.size]? = some (.cells #[v0, v1, v2, v3, v4, v5] 40 (0, 0)) from (set_far (set_far rP5_.out (by dsimp only; omega)) (by dsimp only; omega)))
  clear rP5_
  have rR11_ := Lib.hid (show (((w1.setCell ⟨W.heap.size + 1 + 1, 0, none⟩ ((.slice p0_ n0_ c0_))).setCell ⟨W.heap.size + 1 + 1, 1, none⟩ ((.slice p1_ n1_ c1_)))).heap[W.heap.size + 1]? = some (.cells #[.slice none 0 0, .slice none 0 0, .slice none 0 0, .slice none 0 0, .slice none 0 0, .slice none 0 0] 29 (0, 0)) from (set_far (set_far rR6_.out (by dsimp only; omega)) (by dsimp only; omega)))
  clear rR6_
  have rX12_ := Lib.hid (show (((w1.setCell ⟨W.heap.size + 1 + 1, 0, none⟩ ((.slice p0_ n0_ c0_))).setCell ⟨W.heap.size + 1 + 1, 1, none⟩ ((.slice p1_ n1_ c1_)))).heap[W.heap.size + 1 + 1]? = some (.cells #[(.slice p0_ n0_ c0_), (.slice p1_ n1_ c1_), .slice none 0 0, .slice none 0 0, .slice none 0 0, .slice none 0 0] 29 (0, 0)) from (heap_setCell_same _ _ 1 _ _ _ (heap_setCell_same _ _ 0 _ _ _ rX7_.out)))
  clear rX7_
  have o013_ := Lib.hid (show OwU (((w1.setCell ⟨W.heap.size + 1 + 1, 0, none⟩ ((.slice p0_ n0_ c0_))).setCell ⟨W.heap.size + 1 + 1, 1, none⟩ ((.slice p1_ n1_ c1_)))) (W.heap.size + 1 + 1 + 1) (w1.heap.size) [] [own shI (.slice p0_ n0_ c0_) xs0, own shI (.slice p1_ n1_ c1_) xs1] from (OwU.keep (chg_one _ _ _ _) (by omega) (OwU.keep (chg_one _ _ _ _) (by omega) o09_.out)))
  clear o09_
  have G14_ := Lib.hid (show (W).grownBy (((w1.setCell ⟨W.heap.size + 1 + 1, 0, none⟩ ((.slice p0_ n0_ c0_))).setCell ⟨W.heap.size + 1 + 1, 1, none⟩ ((.slice p1_ n1_ c1_)))) none from (gby_setnew (gby_setnew G8_.out _ (by dsimp only; omega) _) _ (by dsimp only; omega) _))
  refine (toCredits_d _ v2 v3 xs2 xs3 (HI2.out.grow G14_.out) hl2 (HI3.out.grow G14_.out) hl3).mono ?_
  rintro e w2 ⟨d2, d3, rfl, o, g⟩
  have sz2 := g.size
  first | simp only [World.size_alloc] at sz2 | simp only [World.size_setCell] at sz2 | skip
  first | simp only [World.size_alloc] at o | simp only [World.size_setCell] at o | skip
  have rP15_ := Lib.hid (show (w2).heap[W.heap.size]? = some (.cells #[v0, v1, v2, v3, v4, v5] 40 (0, 0)) from row_held g rP10_.out)
  clear rP10_
  have rR16_ := Lib.hid (show (w2).heap[W.heap.size + 1]? = some (.cells #[.slice none 0 0, .slice none 0 0, .slice none 0 0, .slice none 0 0, .slice none 0 0, .slice none 0 0] 29 (0, 0)) from row_held g rR11_.out)
  clear rR11_
  have rX17_ := Lib.hid (show (w2).heap[W.heap.size + 1 + 1]? = some (.cells #[(.slice p0_ n0_ c0_), (.slice p1_ n1_ c1_), .slice none 0 0, .slice none 0 0, .slice none 0 0, .slice none 0 0] 29 (0, 0)) from row_held g rX12_.out)
  clear rX12_
  have o018_ := Lib.hid (show OwU (w2) (W.heap.size + 1 + 1 + 1) (w1.heap.size) [] [own shI (.slice p0_ n0_ c0_) xs0, own shI (.slice p1_ n1_ c1_) xs1] from OwU.grow o013_.out g)
  clear o013_
  have G19_ := Lib.hid (show (W).grownBy (w2) none from gby_trans G14_.out g)
  clear g
  obtain ⟨p2_, n2_, c2_, hv2_⟩ := RdL.form (OwU.rd o)
  subst hv2_
  obtain ⟨p3_, n3_, c3_, hv3_⟩ := RdL.form (OwU.rd (OwU.tail o))
  subst hv3_
  have o220_ := Lib.hid (show OwU (w2) (w1.heap.size) (w2.heap.size) [] [own shI (.slice p2_ n2_ c2_) xs2, own shI (.slice p3_ n3_ c3_) xs3] from o)
  clear o
  try unfold vCredits
  have P_0_ : (w2).cell? ⟨W.heap.size, 0, none⟩ = some (v0) := cell_of_row _ _ 0 _ _ _ rP15_.out
  have P_1_ : (w2).cell? ⟨W.heap.size, 1, none⟩ = some (v1) := cell_of_row _ _ 1 _ _ _ rP15_.out
  have P_2_ : (w2).cell? ⟨W.heap.size, 2, none⟩ = some (v2) := cell_of_row _ _ 2 _ _ _ rP15_.out
  have P_3_ : (w2).cell? ⟨W.heap.size, 3, none⟩ = some (v3) := cell_of_row _ _ 3 _ _ _ rP15_.out
  have P_4_ : (w2).cell? ⟨W.heap.size, 4, none⟩ = some (v4) := cell_of_row _ _ 4 _ _ _ rP15_.out
  have P_5_ : (w2).cell? ⟨W.heap.size, 5, none⟩ = some (v5) := cell_of_row _ _ 5 _ _ _ rP15_.out
  have R_0_ : (w2).cell? ⟨W.heap.size + 1, 0, none⟩ = some (.slice none 0 0) := cell_of_row _ _ 0 _ _ _ rR16_.out
  have R_1_ : (w2).cell? ⟨W.heap.size + 1, 1, none⟩ = some (.slice none 0 0) := cell_of_row _ _ 1 _ _ _ rR16_.out
  have R_2_ : (w2).cell? ⟨W.heap.size + 1, 2, none⟩ = some (.slice none 0 0) := cell_of_row _ _ 2 _ _ _ rR16_.out
  have R_3_ : (w2).cell? ⟨W.heap.size + 1, 3, none⟩ = some (.slice none 0 0) := cell_of_row _ _ 3 _ _ _ rR16_.out
  have R_4_ : (w2).cell? ⟨W.heap.size + 1, 4, none⟩ = some (.slice none 0 0) := cell_of_row _ _ 4 _ _ _ rR16_.out
  have R_5_ : (w2).cell? ⟨W.heap.size + 1, 5, none⟩ = some (.slice none 0 0) := cell_of_row _ _ 5 _ _ _ rR16_.out
  have X_0_ : (w2).cell? ⟨W.heap.size + 1 + 1, 0, none⟩ = some ((.slice p0_ n0_ c0_)) := cell_of_row _ _ 0 _ _ _ rX17_.out
  have X_1_ : (w2).cell? ⟨W.heap.size + 1 + 1, 1, none⟩ = some ((.slice p1_ n1_ c1_)) := cell_of_row _ _ 1 _ _ _ rX17_.out
  have X_2_ : (w2).cell? ⟨W.heap.size + 1 + 1, 2, none⟩ = some (.slice none 0 0) := cell_of_row _ _ 2 _ _ _ rX17_.out
  have X_3_ : (w2).cell? ⟨W.heap.size + 1 + 1, 3, none⟩ = some (.slice none 0 0) := cell_of_row _ _ 3 _ _ _ rX17_.out
  have X_4_ : (w2).cell? ⟨W.heap.size + 1 + 1, 4, none⟩ = some (.slice none 0 0) := cell_of_row _ _ 4 _ _ _ rX17_.out
  have X_5_ : (w2).cell? ⟨W.heap.size + 1 + 1, 5, none⟩ = some (.slice none 0 0) := cell_of_row _ _ 5 _ _ _ rX17_.out
  have Xf0_ : (w2).frozen? ⟨W.heap.size + 1 + 1, 0, none⟩ = false := frozen_of_row _ _ 0 _ _ rX17_.out
  have Xf1_ : (w2).frozen? ⟨W.heap.size + 1 + 1, 1, none⟩ = false := frozen_of_row _ _ 1 _ _ rX17_.out
  have Xf2_ : (w2).frozen? ⟨W.heap.size + 1 + 1, 2, none⟩ = false := frozen_of_row _ _ 2 _ _ rX17_.out
  have Xf3_ : (w2).frozen? ⟨W.heap.size + 1 + 1, 3, none⟩ = false := frozen_of_row _ _ 3 _ _ rX17_.out
  have Xf4_ : (w2).frozen? ⟨W.heap.size + 1 + 1, 4, none⟩ = false := frozen_of_row _ _ 4 _ _ rX17_.out
  have Xf5_ : (w2).frozen? ⟨W.heap.size + 1 + 1, 5, none⟩ = false := frozen_of_row _ _ 5 _ _ rX17_.out
  go_wp2_with fail
  go_at_call 77
  clear P_0_ P_1_ P_2_ P_3_ P_4_ P_5_ R_0_ R_1_ R_2_ R_3_ R_4_ R_5_ X_0_ X_1_ X_2_ X_3_ X_4_ X_5_ Xf0_ Xf1_ Xf2_ Xf3_ Xf4_ Xf5_
  have rP21_ := Lib.hid (show (((w2.setCell ⟨W.heap.size + 1 + 1, 2, none⟩ ((.slice p2_ n2_ c2_))).setCell ⟨W.heap.size + 1 + 1, 3, none⟩ ((.slice p3_ n3_ c3_)))).heap[W.heap.size]? = some (.cells #[v0, v1, v2, v3, v4, v5] 40 (0, 0)) from (set_far (set_far rP15_.out (by dsimp only; omega)) (by dsimp only; omega)))
  clear rP15_
  have rR22_ := Lib.hid (show (((w2.setCell ⟨W.heap.size + 1 + 1, 2, none⟩ ((.slice p2_ n2_ c2_))).setCell ⟨W.heap.size + 1 + 1, 3, none⟩ ((.slice p3_ n3_ c3_)))).heap[W.heap.size + 1]? = some (.cells #[.slice none 0 0, .slice none 0 0, .slice none 0 0, .slice none 0 0, .slice none 0 0, .slice none 0 0] 29 (0, 0)) from (set_far (set_far rR16_.out (by dsimp only; omega)) (by dsimp only; omega)))
  clear rR16_
  have rX23_ := Lib.hid (show (((w2.setCell ⟨W.heap.size + 1 + 1, 2, none⟩ ((.slice p2_ n2_ c2_))).setCell ⟨W.heap.size + 1 + 1, 3, none⟩ ((.slice p3_ n3_ c3_)))).heap[W.heap.size + 1 + 1]? = some (.cells #[(.slice p0_ n0_ c0_), (.slice p1_ n1_ c1_), (.slice p2_ n2_ c2_), (.slice p3_ n3_ c3_), .slice none 0 0, .slice none 0 0] 29 (0, 0)) from (heap_setCell_same _ _ 3 _ _ _ (heap_setCell_same _ _ 2 _ _ _ rX17_.out)))
  clear rX17_
  have o024_ := Lib.hid (show OwU (((w2.setCell ⟨W.heap.size + 1 + 1, 2, none⟩ ((.slice p2_ n2_ c2_))).setCell ⟨W.heap.size + 1 + 1, 3, none⟩ ((.slice p3_ n3_ c3_)))) (W.heap.size + 1 + 1 + 1) (w1.heap.size) [] [own shI (.slice p0_ n0_ c0_) xs0, own shI (.slice p1_ n1_ c1_) xs1] from (OwU.keep (chg_one _ _ _ _) (by omega) (OwU.keep (chg_one _ _ _ _) (by omega) o018_.out)))
  clear o018_
  have o225_ := Lib.hid (show OwU (((w2.setCell ⟨W.heap.size + 1 + 1, 2, none⟩ ((.slice p2_ n2_ c2_))).setCell ⟨W.heap.size + 1 + 1, 3, none⟩ ((.slice p3_ n3_ c3_)))) (w1.heap.size) (w2.heap.size) [] [own shI (.slice p2_ n2_ c2_) xs2, own shI (.slice p3_ n3_ c3_) xs3] from (OwU.keep (chg_one _ _ _ _) (by omega) (OwU.keep (chg_one _ _ _ _) (by omega) o220_.out)))
  clear o220_
  have G26_ := Lib.hid (show (W).grownBy (((w2.setCell ⟨W.heap.size + 1 + 1, 2, none⟩ ((.slice p2_ n2_ c2_))).setCell ⟨W.heap.size + 1 + 1, 3, none⟩ ((.slice p3_ n3_ c3_)))) none from (gby_setnew (gby_setnew G19_.out _ (by dsimp only; omega) _) _ (by dsimp only; omega) _))
  refine (toPacketS_d _ v4 xs4 (HI4.out.grow G26_.out) hl4).mono ?_
  rintro e w3 ⟨d4, rfl, o, g⟩
  have sz4 := g.size
  first | simp only [World.size_alloc] at sz4 | simp only [World.size_setCell] at sz4 | skip
  first | simp only [World.size_alloc] at o | simp only [World.size_setCell] at o | skip
  have rP27_ := Lib.hid (show (w3).heap[W.heap.size]? = some (.cells #[v0, v1, v2, v3, v4, v5] 40 (0, 0)) from row_held g rP21_.out)
  clear rP21_
  have rR28_ := Lib.hid (show (w3).heap[W.heap.size + 1]? = some (.cells #[.slice none 0 0, .slice none 0 0, .slice none 0 0, .slice none 0 0, .slice none 0 0, .slice none 0 0] 29 (0, 0)) from row_held g rR22_.out)
  clear rR22_
  have rX29_ := Lib.hid (show (w3).heap[W.heap.size + 1 + 1]? = some (.cells #[(.slice p0_ n0_ c0_), (.slice p1_ n1_ c1_), (.slice p2_ n2_ c2_), (.slice p3_ n3_ c3_), .slice none 0 0, .slice none 0 0] 29 (0, 0)) from row_held g rX23_.out)
  clear rX23_
  have o030_ := Lib.hid (show OwU (w3) (W.heap.size + 1 + 1 + 1) (w1.heap.size) [] [own shI (.slice p0_ n0_ c0_) xs0, own shI (.slice p1_ n1_ c1_) xs1] from OwU.grow o024_.out g)
  clear o024_
  have o231_ := Lib.hid (show OwU (w3) (w1.heap.size) (w2.heap.size) [] [own shI (.slice p2_ n2_ c2_) xs2, own shI (.slice p3_ n3_ c3_) xs3] from OwU.grow o225_.out g)
  clear o225_
  have G32_ := Lib.hid (show (W).grownBy (w3) none from gby_trans G26_.out g)
  clear g
  obtain ⟨p4_, n4_, c4_, hv4_⟩ := RdL.form (OwL.rd o)
  subst hv4_
  have o433_ := Lib.hid (show OwU (w3) (w2.heap.size) (w3.heap.size) [] [own shPacket (.slice p4_ n4_ c4_) xs4] from OwU.one o)
  clear o
  have P_0_ : (w3).cell? ⟨W.heap.size, 0, none⟩ = some (v0) := cell_of_row _ _ 0 _ _ _ rP27_.out
  have P_1_ : (w3).cell? ⟨W.heap.size, 1, none⟩ = some (v1) := cell_of_row _ _ 1 _ _ _ rP27_.out
  have P_2_ : (w3).cell? ⟨W.heap.size, 2, none⟩ = some (v2) := cell_of_row _ _ 2 _ _ _ rP27_.out
  have P_3_ : (w3).cell? ⟨W.heap.size, 3, none⟩ = some (v3) := cell_of_row _ _ 3 _ _ _ rP27_.out
  have P_4_ : (w3).cell? ⟨W.heap.size, 4, none⟩ = some (v4) := cell_of_row _ _ 4 _ _ _ rP27_.out
  have P_5_ : (w3).cell? ⟨W.heap.size, 5, none⟩ = some (v5) := cell_of_row _ _ 5 _ _ _ rP27_.out
  have R_0_ : (w3).cell? ⟨W.heap.size + 1, 0, none⟩ = some (.slice none 0 0) := cell_of_row _ _ 0 _ _ _ rR28_.out
  have R_1_ : (w3).cell? ⟨W.heap.size + 1, 1, none⟩ = some (.slice none 0 0) := cell_of_row _ _ 1 _ _ _ rR28_.out
  have R_2_ : (w3).cell? ⟨W.heap.size + 1, 2, none⟩ = some (.slice none 0 0) := cell_of_row _ _ 2 _ _ _ rR28_.out
  have R_3_ : (w3).cell? ⟨W.heap.size + 1, 3, none⟩ = some (.slice none 0 0) := cell_of_row _ _ 3 _ _ _ rR28_.out
  have R_4_ : (w3).cell? ⟨W.heap.size + 1, 4, none⟩ = some (.slice none 0 0) := cell_of_row _ _ 4 _ _ _ rR28_.out
  have R_5_ : (w3).cell? ⟨W.heap.size + 1, 5, none⟩ = some (.slice none 0 0) := cell_of_row _ _ 5 _ _ _ rR28_.out
  have X_0_ : (w3).cell? ⟨W.heap.size + 1 + 1, 0, none⟩ = some ((.slice p0_ n0_ c0_)) := cell_of_row _ _ 0 _ _ _ rX29_.out
  have X_1_ : (w3).cell? ⟨W.heap.size + 1 + 1, 1, none⟩ = some ((.slice p1_ n1_ c1_)) := cell_of_row _ _ 1 _ _ _ rX29_.out
  have X_2_ : (w3).cell? ⟨W.heap.size + 1 + 1, 2, none⟩ = some ((.slice p2_ n2_ c2_)) := cell_of_row _ _ 2 _ _ _ rX29_.out
  have X_3_ : (w3).cell? ⟨W.heap.size + 1 + 1, 3, none⟩ = some ((.slice p3_ n3_ c3_)) := cell_of_row _ _ 3 _ _ _ rX29_.out
  have X_4_ : (w3).cell? ⟨W.heap.size + 1 + 1, 4, none⟩ = some (.slice none 0 0) := cell_of_row _ _ 4 _ _ _ rX29_.out
  have X_5_ : (w3).cell? ⟨W.heap.size + 1 + 1, 5, none⟩ = some (.slice none 0 0) := cell_of_row _ _ 5 _ _ _ rX29_.out
  have Xf0_ : (w3).frozen? ⟨W.heap.size + 1 + 1, 0, none⟩ = false := frozen_of_row _ _ 0 _ _ rX29_.out
  have Xf1_ : (w3).frozen? ⟨W.heap.size + 1 + 1, 1, none⟩ = false := frozen_of_row _ _ 1 _ _ rX29_.out
  have Xf2_ : (w3).frozen? ⟨W.heap.size + 1 + 1, 2, none⟩ = false := frozen_of_row _ _ 2 _ _ rX29_.out
  have Xf3_ : (w3).frozen? ⟨W.heap.size + 1 + 1, 3, none⟩ = false := frozen_of_row _ _ 3 _ _ rX29_.out
  have Xf4_ : (w3).frozen? ⟨W.heap.size + 1 + 1, 4, none⟩ = false := frozen_of_row _ _ 4 _ _ rX29_.out
  have Xf5_ : (w3).frozen? ⟨W.heap.size + 1 + 1, 5, none⟩ = false := frozen_of_row _ _ 5 _ _ rX29_.out
  go_wp2_with fail
  go_at_call 77
  clear P_0_ P_1_ P_2_ P_3_ P_4_ P_5_ R_0_ R_1_ R_2_ R_3_ R_4_ R_5_ X_0_ X_1_ X_2_ X_3_ X_4_ X_5_ Xf0_ Xf1_ Xf2_ Xf3_ Xf4_ Xf5_
  have rP34_ := Lib.hid (show ((w3.setCell ⟨W.heap.size + 1 + 1, 4, none⟩ ((.slice p4_ n4_ c4_)))).heap[W.heap.size]? = some (.cells #[v0, v1, v2, v3, v4, v5] 40 (0, 0)) from (set_far rP27_.out (by dsimp only; omega)))
  clear rP27_
  have rR35_ := Lib.hid (show ((w3.setCell ⟨W.heap.size + 1 + 1, 4, none⟩ ((.slice p4_ n4_ c4_)))).heap[W.heap.size + 1]? = some (.cells #[.slice none 0 0, .slice none 0 0, .slice none 0 0, .slice none 0 0, .slice none 0 0, .slice none 0 0] 29 (0, 0)) from (set_far rR28_.out (by dsimp only; omega)))
  clear rR28_
  have rX36_ := Lib.hid (show ((w3.setCell ⟨W.heap.size + 1 + 1, 4, none⟩ ((.slice p4_ n4_ c4_)))).heap[W.heap.size + 1 + 1]? = some (.cells #[(.slice p0_ n0_ c0_), (.slice p1_ n1_ c1_), (.slice p2_ n2_ c2_), (.slice p3_ n3_ c3_), (.slice p4_ n4_ c4_), .slice none 0 0] 29 (0, 0)) from (heap_setCell_same _ _ 4 _ _ _ rX29_.out))
  clear rX29_
  have o037_ := Lib.hid (show OwU ((w3.setCell ⟨W.heap.size + 1 + 1, 4, none⟩ ((.slice p4_ n4_ c4_)))) (W.heap.size + 1 + 1 + 1) (w1.heap.size) [] [own shI (.slice p0_ n0_ c0_) xs0, own shI (.slice p1_ n1_ c1_) xs1] from (OwU.keep (chg_one _ _ _ _) (by omega) o030_.out))
  clear o030_
  have o238_ := Lib.hid (show OwU ((w3.setCell ⟨W.heap.size + 1 + 1, 4, none⟩ ((.slice p4_ n4_ c4_)))) (w1.heap.size) (w2.heap.size) [] [own shI (.slice p2_ n2_ c2_) xs2, own shI (.slice p3_ n3_ c3_) xs3] from (OwU.keep (chg_one _ _ _ _) (by omega) o231_.out))
  clear o231_
  have o439_ := Lib.hid (show OwU ((w3.setCell ⟨W.heap.size + 1 + 1, 4, none⟩ ((.slice p4_ n4_ c4_)))) (w2.heap.size) (w3.heap.size) [] [own shPacket (.slice p4_ n4_ c4_) xs4] from (OwU.keep (chg_one _ _ _ _) (by omega) o433_.out))
  clear o433_
  have G40_ := Lib.hid (show (W).grownBy ((w3.setCell ⟨W.heap.size + 1 + 1, 4, none⟩ ((.slice p4_ n4_ c4_)))) none from (gby_setnew G32_.out _ (by dsimp only; omega) _))
  refine (toPacketS_d _ v5 xs5 (HI5.out.grow G40_.out) hl5).mono ?_
  rintro e w4 ⟨d5, rfl, o, g⟩
  have sz5 := g.size
  first | simp only [World.size_alloc] at sz5 | simp only [World.size_setCell] at sz5 | skip
  first | simp only [World.size_alloc] at o | simp only [World.size_setCell] at o | skip
  have rP41_ := Lib.hid (show (w4).heap[W.heap.size]? = some (.cells #[v0, v1, v2, v3, v4, v5] 40 (0, 0)) from row_held g rP34_.out)
  clear rP34_
  have rR42_ := Lib.hid (show (w4).heap[W.heap.size + 1]? = some (.cells #[.slice none 0 0, .slice none 0 0, .slice none 0 0, .slice none 0 0, .slice none 0 0, .slice none 0 0] 29 (0, 0)) from row_held g rR35_.out)
  clear rR35_
  have rX43_ := Lib.hid (show (w4).heap[W.heap.size + 1 + 1]? = some (.cells #[(.slice p0_ n0_ c0_), (.slice p1_ n1_ c1_), (.slice p2_ n2_ c2_), (.slice p3_ n3_ c3_), (.slice p4_ n4_ c4_), .slice none 0 0] 29 (0, 0)) from row_held g rX36_.out)
  clear rX36_
  have o044_ := Lib.hid (show OwU (w4) (W.heap.size + 1 + 1 + 1) (w1.heap.size) [] [own shI (.slice p0_ n0_ c0_) xs0, own shI (.slice p1_ n1_ c1_) xs1] from OwU.grow o037_.out g)
  clear o037_
  have o245_ := Lib.hid (show OwU (w4) (w1.heap.size) (w2.heap.size) [] [own shI (.slice p2_ n2_ c2_) xs2, own shI (.slice p3_ n3_ c3_) xs3] from OwU.grow o238_.out g)
  clear o238_
  have o446_ := Lib.hid (show OwU (w4) (w2.heap.size) (w3.heap.size) [] [own shPacket (.slice p4_ n4_ c4_) xs4] from OwU.grow o439_.out g)
  clear o439_
  have G47_ := Lib.hid (show (W).grownBy (w4) none from gby_trans G40_.out g)
  clear g
  obtain ⟨p5_, n5_, c5_, hv5_⟩ := RdL.form (OwL.rd o)
  subst hv5_
  have o548_ := Lib.hid (show OwU (w4) (w3.heap.size) (w4.heap.size) [] [own shPacket (.slice p5_ n5_ c5_) xs5] from OwU.one o)
  clear o
  have P_0_ : (w4).cell? ⟨W.heap.size, 0, none⟩ = some (v0) := cell_of_row _ _ 0 _ _ _ rP41_.out
  have P_1_ : (w4).cell? ⟨W.heap.size, 1, none⟩ = some (v1) := cell_of_row _ _ 1 _ _ _ rP41_.out
  have P_2_ : (w4).cell? ⟨W.heap.size, 2, none⟩ = some (v2) := cell_of_row _ _ 2 _ _ _ rP41_.out
  have P_3_ : (w4).cell? ⟨W.heap.size, 3, none⟩ = some (v3) := cell_of_row _ _ 3 _ _ _ rP41_.out
  have P_4_ : (w4).cell? ⟨W.heap.size, 4, none⟩ = some (v4) := cell_of_row _ _ 4 _ _ _ rP41_.out
  have P_5_ : (w4).cell? ⟨W.heap.size, 5, none⟩ = some (v5) := cell_of_row _ _ 5 _ _ _ rP41_.out
  have R_0_ : (w4).cell? ⟨W.heap.size + 1, 0, none⟩ = some (.slice none 0 0) := cell_of_row _ _ 0 _ _ _ rR42_.out
  have R_1_ : (w4).cell? ⟨W.heap.size + 1, 1, none⟩ = some (.slice none 0 0) := cell_of_row _ _ 1 _ _ _ rR42_.out
  have R_2_ : (w4).cell? ⟨W.heap.size + 1, 2, none⟩ = some (.slice none 0 0) := cell_of_row _ _ 2 _ _ _ rR42_.out
  have R_3_ : (w4).cell? ⟨W.heap.size + 1, 3, none⟩ = some (.slice none 0 0) := cell_of_row _ _ 3 _ _ _ rR42_.out
  have R_4_ : (w4).cell? ⟨W.heap.size + 1, 4, none⟩ = some (.slice none 0 0) := cell_of_row _ _ 4 _ _ _ rR42_.out
  have R_5_ : (w4).cell? ⟨W.heap.size + 1, 5, none⟩ = some (.slice none 0 0) := cell_of_row _ _ 5 _ _ _ rR42_.out
  have Rf0_ : (w4).frozen? ⟨W.heap.size + 1, 0, none⟩ = false := frozen_of_row _ _ 0 _ _ rR42_.out
  have Rf1_ : (w4).frozen? ⟨W.heap.size + 1, 1, none⟩ = false := frozen_of_row _ _ 1 _ _ rR42_.out
  have Rf2_ : (w4).frozen? ⟨W.heap.size + 1, 2, none⟩ = false := frozen_of_row _ _ 2 _ _ rR42_.out
  have Rf3_ : (w4).frozen? ⟨W.heap.size + 1, 3, none⟩ = false := frozen_of_row _ _ 3 _ _ rR42_.out
  have Rf4_ : (w4).frozen? ⟨W.heap.size + 1, 4, none⟩ = false := frozen_of_row _ _ 4 _ _ rR42_.out
  have Rf5_ : (w4).frozen? ⟨W.heap.size + 1, 5, none⟩ = false := frozen_of_row _ _ 5 _ _ rR42_.out
  have X_0_ : (w4).cell? ⟨W.heap.size + 1 + 1, 0, none⟩ = some ((.slice p0_ n0_ c0_)) := cell_of_row _ _ 0 _ _ _ rX43_.out
  have X_1_ : (w4).cell? ⟨W.heap.size + 1 + 1, 1, none⟩ = some ((.slice p1_ n1_ c1_)) := cell_of_row _ _ 1 _ _ _ rX43_.out
  have X_2_ : (w4).cell? ⟨W.heap.size + 1 + 1, 2, none⟩ = some ((.slice p2_ n2_ c2_)) := cell_of_row _ _ 2 _ _ _ rX43_.out
  have X_3_ : (w4).cell? ⟨W.heap.size + 1 + 1, 3, none⟩ = some ((.slice p3_ n3_ c3_)) := cell_of_row _ _ 3 _ _ _ rX43_.out
  have X_4_ : (w4).cell? ⟨W.heap.size + 1 + 1, 4, none⟩ = some ((.slice p4_ n4_ c4_)) := cell_of_row _ _ 4 _ _ _ rX43_.out
  have X_5_ : (w4).cell? ⟨W.heap.size + 1 + 1, 5, none⟩ = some (.slice none 0 0) := cell_of_row _ _ 5 _ _ _ rX43_.out
  have Xf0_ : (w4).frozen? ⟨W.heap.size + 1 + 1, 0, none⟩ = false := frozen_of_row _ _ 0 _ _ rX43_.out
  have Xf1_ : (w4).frozen? ⟨W.heap.size + 1 + 1, 1, none⟩ = false := frozen_of_row _ _ 1 _ _ rX43_.out
  have Xf2_ : (w4).frozen? ⟨W.heap.size + 1 + 1, 2, none⟩ = false := frozen_of_row _ _ 2 _ _ rX43_.out
  have Xf3_ : (w4).frozen? ⟨W.heap.size + 1 + 1, 3, none⟩ = false := frozen_of_row _ _ 3 _ _ rX43_.out
  have Xf4_ : (w4).frozen? ⟨W.heap.size + 1 + 1, 4, none⟩ = false := frozen_of_row _ _ 4 _ _ rX43_.out
  have Xf5_ : (w4).frozen? ⟨W.heap.size + 1 + 1, 5, none⟩ = false := frozen_of_row _ _ 5 _ _ rX43_.out
  go_wp2
  refine bodyPost_ret (v := vChannel (.slice p0_ n0_ c0_) (.slice p1_ n1_ c1_) (.slice p2_ n2_ c2_) (.slice p3_ n3_ c3_) (.slice p4_ n4_ c4_) (.slice p5_ n5_ c5_)) (by simp [results, go_sem, vChannel, R_0_, R_1_, R_2_, R_3_, R_4_, R_5_]) rfl ⟨(.slice p0_ n0_ c0_), (.slice p1_ n1_ c1_), (.slice p2_ n2_ c2_), (.slice p3_ n3_ c3_), (.slice p4_ n4_ c4_), (.slice p5_ n5_ c5_), rfl, ?_, ?_⟩
  · refine OwU.wide (lo := W.heap.size + 1 + 1 + 1) (hi := w4.heap.size) (by omega) (by simp) (OwU.keep (w := w4) (lo' := W.heap.size) (hi' := W.heap.size + 3) ?_ (.inr (by omega)) ?_)
    · repeat (with_reducible refine chg_setp ?_ _ (by dsimp only; omega) (by dsimp only; omega) _)
      exact chg_gby (gby_refl _ _) _ _
    · exact OwU.app (by omega) (by omega) o044_.out (OwU.app (by omega) (by omega) o245_.out (OwU.app (by omega) (by omega) o446_.out (o548_.out)))
  · repeat (with_reducible refine gby_setnew ?_ _ (by dsimp only; omega) _)
    exact G47_.out

set_option maxRecDepth 8000 in
set_option maxHeartbeats 2000000 in
theorem eqChannel_d (W : World) (v0 : Value) (v1 : Value) (v2 : Value) (v3 : Value) (v4 : Value) (v5 : Value) (v0' : Value) (v1' : Value) (v2' : Value) (v3' : Value) (v4' : Value) (v5' : Value) (xs0 : List Int) (xs1 : List Int) (xs2 : List Int) (xs3 : List Int) (xs4 : List DPacket) (xs5 : List DPacket) (H0 : RdL shI W v0 xs0) (K0 : RdL shI W v0' xs0) (hl0 : szL shI xs0 ≤ 1048576) (H1 : RdL shI W v1 xs1) (K1 : RdL shI W v1' xs1) (hl1 : szL shI xs1 ≤ 1048576) (H2 : RdL shI W v2 xs2) (K2 : RdL shI W v2' xs2) (hl2 : szL shI xs2 ≤ 1048576) (H3 : RdL shI W v3 xs3) (K3 : RdL shI W v3' xs3) (hl3 : szL shI xs3 ≤ 1048576) (H4 : RdL shPacket W v4 xs4) (K4 : RdL shPacket W v4' xs4) (hl4 : szL shPacket xs4 ≤ 1048576) (H5 : RdL shPacket W v5 xs5) (K5 : RdL shPacket W v5' xs5) (hl5 : szL shPacket xs5 ≤ 1048576) :
    Calls Try.prog 19 #[vChannel v0 v1 v2 v3 v4 v5, vChannel v0' v1' v2' v3' v4' v5'] W (AnsN (.bool true) W) := by
  have HI0 := Lib.hid H0
  have HJ0 := Lib.hid K0
  clear H0 K0
  have HI1 := Lib.hid H1
  have HJ1 := Lib.hid K1
  clear H1 K1
  have HI2 := Lib.hid H2
  have HJ2 := Lib.hid K2
  clear H2 K2
  have HI3 := Lib.hid H3
  have HJ3 := Lib.hid K3
  clear H3 K3
  have HI4 := Lib.hid H4
  have HJ4 := Lib.hid K4
  clear H4 K4
  have HI5 := Lib.hid H5
  have HJ5 := Lib.hid K5
  clear H5 K5
  unfold vChannel
  go_enter Try.func19, Try.ntmps19
  have rP1_ := Lib.hid (show (((W.alloc (.cells #[v0, v1, v2, v3, v4, v5] 29)).alloc (.cells #[v0', v1', v2', v3', v4', v5'] 29))).heap[W.heap.size]? = some (.cells #[v0, v1, v2, v3, v4, v5] 29 (0, 0)) from by rw [heap_alloc_old _ _ (by simp only [World.size_alloc]; omega)]; exact heap_alloc_new _ _)
  have rQ2_ := Lib.hid (show (((W.alloc (.cells #[v0, v1, v2, v3, v4, v5] 29)).alloc (.cells #[v0', v1', v2', v3', v4', v5'] 29))).heap[W.heap.size + 1]? = some (.cells #[v0', v1', v2', v3', v4', v5'] 29 (0, 0)) from by exact heap_pair _ _ _)
  have G3_ := Lib.hid (show (W).grownBy (((W.alloc (.cells #[v0, v1, v2, v3, v4, v5] 29)).alloc (.cells #[v0', v1', v2', v3', v4', v5'] 29))) none from (gby_alloc (gby_alloc (gby_refl _ _) _) _))
  have P_0_ : (((W.alloc (.cells #[v0, v1, v2, v3, v4, v5] 29)).alloc (.cells #[v0', v1', v2', v3', v4', v5'] 29))).cell? ⟨W.heap.size, 0, none⟩ = some (v0) := cell_of_row _ _ 0 _ _ _ rP1_.out
  have P_1_ : (((W.alloc (.cells #[v0, v1, v2, v3, v4, v5] 29)).alloc (.cells #[v0', v1', v2', v3', v4', v5'] 29))).cell? ⟨W.heap.size, 1, none⟩ = some (v1) := cell_of_row _ _ 1 _ _ _ rP1_.out
  have P_2_ : (((W.alloc (.cells #[v0, v1, v2, v3, v4, v5] 29)).alloc (.cells #[v0', v1', v2', v3', v4', v5'] 29))).cell? ⟨W.heap.size, 2, none⟩ = some (v2) := cell_of_row _ _ 2 _ _ _ rP1_.out
  have P_3_ : (((W.alloc (.cells #[v0, v1, v2, v3, v4, v5] 29)).alloc (.cells #[v0', v1', v2', v3', v4', v5'] 29))).cell? ⟨W.heap.size, 3, none⟩ = some (v3) := cell_of_row _ _ 3 _ _ _ rP1_.out
  have P_4_ : (((W.alloc (.cells #[v0, v1, v2, v3, v4, v5] 29)).alloc (.cells #[v0', v1', v2', v3', v4', v5'] 29))).cell? ⟨W.heap.size, 4, none⟩ = some (v4) := cell_of_row _ _ 4 _ _ _ rP1_.out
  have P_5_ : (((W.alloc (.cells #[v0, v1, v2, v3, v4, v5] 29)).alloc (.cells #[v0', v1', v2', v3', v4', v5'] 29))).cell? ⟨W.heap.size, 5, none⟩ = some (v5) := cell_of_row _ _ 5 _ _ _ rP1_.out
  have Q_0_ : (((W.alloc (.cells #[v0, v1, v2, v3, v4, v5] 29)).alloc (.cells #[v0', v1', v2', v3', v4', v5'] 29))).cell? ⟨W.heap.size + 1, 0, none⟩ = some (v0') := cell_of_row _ _ 0 _ _ _ rQ2_.out
  have Q_1_ : (((W.alloc (.cells #[v0, v1, v2, v3, v4, v5] 29)).alloc (.cells #[v0', v1', v2', v3', v4', v5'] 29))).cell? ⟨W.heap.size + 1, 1, none⟩ = some (v1') := cell_of_row _ _ 1 _ _ _ rQ2_.out
  have Q_2_ : (((W.alloc (.cells #[v0, v1, v2, v3, v4, v5] 29)).alloc (.cells #[v0', v1', v2', v3', v4', v5'] 29))).cell? ⟨W.heap.size + 1, 2, none⟩ = some (v2') := cell_of_row _ _ 2 _ _ _ rQ2_.out
  have Q_3_ : (((W.alloc (.cells #[v0, v1, v2, v3, v4, v5] 29)).alloc (.cells #[v0', v1', v2', v3', v4', v5'] 29))).cell? ⟨W.heap.size + 1, 3, none⟩ = some (v3') := cell_of_row _ _ 3 _ _ _ rQ2_.out
  have Q_4_ : (((W.alloc (.cells #[v0, v1, v2, v3, v4, v5] 29)).alloc (.cells #[v0', v1', v2', v3', v4', v5'] 29))).cell? ⟨W.heap.size + 1, 4, none⟩ = some (v4') := cell_of_row _ _ 4 _ _ _ rQ2_.out
  have Q_5_ : (((W.alloc (.cells #[v0, v1, v2, v3, v4, v5] 29)).alloc (.cells #[v0', v1', v2', v3', v4', v5'] 29))).cell? ⟨W.heap.size + 1, 5, none⟩ = some (v5') := cell_of_row _ _ 5 _ _ _ rQ2_.out
  go_wp2_with fail
  go_at_call 20
  refine (eqCredits_d _ v0 v1 v0' v1' xs0 xs1 (HI0.out.grow G3_.out) (HJ0.out.grow G3_.out) hl0 (HI1.out.grow G3_.out) (HJ1.out.grow G3_.out) hl1).mono ?_
  rintro e w1 ⟨rfl, g⟩
  clear P_0_ P_1_ P_2_ P_3_ P_4_ P_5_ Q_0_ Q_1_ Q_2_ Q_3_ Q_4_ Q_5_
  have rP4_ := Lib.hid (show (w1).heap[W.heap.size]? = some (.cells #[v0, v1, v2, v3, v4, v5] 29 (0, 0)) from row_held g rP1_.out)
  clear rP1_
  have rQ5_ := Lib.hid (show (w1).heap[W.heap.size + 1]? = some (.cells #[v0', v1', v2', v3', v4', v5'] 29 (0, 0)) from row_held g rQ2_.out)
  clear rQ2_
  have G6_ := Lib.hid (show (W).grownBy (w1) none from gby_trans G3_.out g)
  clear g
  have P_0_ : (w1).cell? ⟨W.heap.size, 0, none⟩ = some (v0) := cell_of_row _ _ 0 _ _ _ rP4_.out
  have P_1_ : (w1).cell? ⟨W.heap.size, 1, none⟩ = some (v1) := cell_of_row _ _ 1 _ _ _ rP4_.out
  have P_2_ : (w1).cell? ⟨W.heap.size, 2, none⟩ = some (v2) := cell_of_row _ _ 2 _ _ _ rP4_.out
  have P_3_ : (w1).cell? ⟨W.heap.size, 3, none⟩ = some (v3) := cell_of_row _ _ 3 _ _ _ rP4_.out
  have P_4_ : (w1).cell? ⟨W.heap.size, 4, none⟩ = some (v4) := cell_of_row _ _ 4 _ _ _ rP4_.out
  have P_5_ : (w1).cell? ⟨W.heap.size, 5, none⟩ = some (v5) := cell_of_row _ _ 5 _ _ _ rP4_.out
  have Q_0_ : (w1).cell? ⟨W.heap.size + 1, 0, none⟩ = some (v0') := cell_of_row _ _ 0 _ _ _ rQ5_.out
  have Q_1_ : (w1).cell? ⟨W.heap.size + 1, 1, none⟩ = some (v1') := cell_of_row _ _ 1 _ _ _ rQ5_.out
  have Q_2_ : (w1).cell? ⟨W.heap.size + 1, 2, none⟩ = some (v2') := cell_of_row _ _ 2 _ _ _ rQ5_.out
  have Q_3_ : (w1).cell? ⟨W.heap.size + 1, 3, none⟩ = some (v3') := cell_of_row _ _ 3 _ _ _ rQ5_.out
  have Q_4_ : (w1).cell? ⟨W.heap.size + 1, 4, none⟩ = some (v4') := cell_of_row _ _ 4 _ _ _ rQ5_.out
  have Q_5_ : (w1).cell? ⟨W.heap.size + 1, 5, none⟩ = some (v5') := cell_of_row _ _ 5 _ _ _ rQ5_.out
  go_wp2_with fail
  go_at_call 20
  refine (eqCredits_d _ v2 v3 v2' v3' xs2 xs3 (HI2.out.grow G6_.out) (HJ2.out.grow G6_.out) hl2 (HI3.out.grow G6_.out) (HJ3.out.grow G6_.out) hl3).mono ?_
  rintro e w2 ⟨rfl, g⟩
  clear P_0_ P_1_ P_2_ P_3_ P_4_ P_5_ Q_0_ Q_1_ Q_2_ Q_3_ Q_4_ Q_5_
  have rP7_ := Lib.hid (show (w2).heap[W.heap.size]? = some (.cells #[v0, v1, v2, v3, v4, v5] 29 (0, 0)) from row_held g rP4_.out)
  clear rP4_
  have rQ8_ := Lib.hid (show (w2).heap[W.heap.size + 1]? = some (.cells #[v0', v1', v2', v3', v4', v5'] 29 (0, 0)) from row_held g rQ5_.out)
  clear rQ5_
  have G9_ := Lib.hid (show (W).grownBy (w2) none from gby_trans G6_.out g)
  clear g
  have P_0_ : (w2).cell? ⟨W.heap.size, 0, none⟩ = some (v0) := cell_of_row _ _ 0 _ _ _ rP7_.out
  have P_1_ : (w2).cell? ⟨W.heap.size, 1, none⟩ = some (v1) := cell_of_row _ _ 1 _ _ _ rP7_.out
  have P_2_ : (w2).cell? ⟨W.heap.size, 2, none⟩ = some (v2) := cell_of_row _ _ 2 _ _ _ rP7_.out
  have P_3_ : (w2).cell? ⟨W.heap.size, 3, none⟩ = some (v3) := cell_of_row _ _ 3 _ _ _ rP7_.out
  have P_4_ : (w2).cell? ⟨W.heap.size, 4, none⟩ = some (v4) := cell_of_row _ _ 4 _ _ _ rP7_.out
  have P_5_ : (w2).cell? ⟨W.heap.size, 5, none⟩ = some (v5) := cell_of_row _ _ 5 _ _ _ rP7_.out
  have Q_0_ : (w2).cell? ⟨W.heap.size + 1, 0, none⟩ = some (v0') := cell_of_row _ _ 0 _ _ _ rQ8_.out
  have Q_1_ : (w2).cell? ⟨W.heap.size + 1, 1, none⟩ = some (v1') := cell_of_row _ _ 1 _ _ _ rQ8_.out
  have Q_2_ : (w2).cell? ⟨W.heap.size + 1, 2, none⟩ = some (v2') := cell_of_row _ _ 2 _ _ _ rQ8_.out
  have Q_3_ : (w2).cell? ⟨W.heap.size + 1, 3, none⟩ = some (v3') := cell_of_row _ _ 3 _ _ _ rQ8_.out
  have Q_4_ : (w2).cell? ⟨W.heap.size + 1, 4, none⟩ = some (v4') := cell_of_row _ _ 4 _ _ _ rQ8_.out
  have Q_5_ : (w2).cell? ⟨W.heap.size + 1, 5, none⟩ = some (v5') := cell_of_row _ _ 5 _ _ _ rQ8_.out
  go_wp2_with fail
  go_at_call 67
  refine (eqPacketS_d _ v4 v4' xs4 (HI4.out.grow G9_.out) (HJ4.out.grow G9_.out) hl4).mono ?_
  rintro e w3 ⟨rfl, g⟩
  clear P_0_ P_1_ P_2_ P_3_ P_4_ P_5_ Q_0_ Q_1_ Q_2_ Q_3_ Q_4_ Q_5_
  have rP10_ := Lib.hid (show (w3).heap[W.heap.size]? = some (.cells #[v0, v1, v2, v3, v4, v5] 29 (0, 0)) from row_held g rP7_.out)
  clear rP7_
  have rQ11_ := Lib.hid (show (w3).heap[W.heap.size + 1]? = some (.cells #[v0', v1', v2', v3', v4', v5'] 29 (0, 0)) from row_held g rQ8_.out)
  clear rQ8_
  have G12_ := Lib.hid (show (W).grownBy (w3) none from gby_trans G9_.out g)
  clear g
  have P_0_ : (w3).cell? ⟨W.heap.size, 0, none⟩ = some (v0) := cell_of_row _ _ 0 _ _ _ rP10_.out
  have P_1_ : (w3).cell? ⟨W.heap.size, 1, none⟩ = some (v1) := cell_of_row _ _ 1 _ _ _ rP10_.out
  have P_2_ : (w3).cell? ⟨W.heap.size, 2, none⟩ = some (v2) := cell_of_row _ _ 2 _ _ _ rP10_.out
  have P_3_ : (w3).cell? ⟨W.heap.size, 3, none⟩ = some (v3) := cell_of_row _ _ 3 _ _ _ rP10_.out
  have P_4_ : (w3).cell? ⟨W.heap.size, 4, none⟩ = some (v4) := cell_of_row _ _ 4 _ _ _ rP10_.out
  have P_5_ : (w3).cell? ⟨W.heap.size, 5, none⟩ = some (v5) := cell_of_row _ _ 5 _ _ _ rP10_.out
  have Q_0_ : (w3).cell? ⟨W.heap.size + 1, 0, none⟩ = some (v0') := cell_of_row _ _ 0 _ _ _ rQ11_.out
  have Q_1_ : (w3).cell? ⟨W.heap.size + 1, 1, none⟩ = some (v1') := cell_of_row _ _ 1 _ _ _ rQ11_.out
  have Q_2_ : (w3).cell? ⟨W.heap.size + 1, 2, none⟩ = some (v2') := cell_of_row _ _ 2 _ _ _ rQ11_.out
  have Q_3_ : (w3).cell? ⟨W.heap.size + 1, 3, none⟩ = some (v3') := cell_of_row _ _ 3 _ _ _ rQ11_.out
  have Q_4_ : (w3).cell? ⟨W.heap.size + 1, 4, none⟩ = some (v4') := cell_of_row _ _ 4 _ _ _ rQ11_.out
  have Q_5_ : (w3).cell? ⟨W.heap.size + 1, 5, none⟩ = some (v5') := cell_of_row _ _ 5 _ _ _ rQ11_.out
  go_wp2_with fail
  go_at_call 67
  refine (eqPacketS_d _ v5 v5' xs5 (HI5.out.grow G12_.out) (HJ5.out.grow G12_.out) hl5).mono ?_
  rintro e w4 ⟨rfl, g⟩
  clear P_0_ P_1_ P_2_ P_3_ P_4_ P_5_ Q_0_ Q_1_ Q_2_ Q_3_ Q_4_ Q_5_
  have rP13_ := Lib.hid (show (w4).heap[W.heap.size]? = some (.cells #[v0, v1, v2, v3, v4, v5] 29 (0, 0)) from row_held g rP10_.out)
  clear rP10_
  have rQ14_ := Lib.hid (show (w4).heap[W.heap.size + 1]? = some (.cells #[v0', v1', v2', v3', v4', v5'] 29 (0, 0)) from row_held g rQ11_.out)
  clear rQ11_
  have G15_ := Lib.hid (show (W).grownBy (w4) none from gby_trans G12_.out g)
  clear g
  have P_0_ : (w4).cell? ⟨W.heap.size, 0, none⟩ = some (v0) := cell_of_row _ _ 0 _ _ _ rP13_.out
  have P_1_ : (w4).cell? ⟨W.heap.size, 1, none⟩ = some (v1) := cell_of_row _ _ 1 _ _ _ rP13_.out
  have P_2_ : (w4).cell? ⟨W.heap.size, 2, none⟩ = some (v2) := cell_of_row _ _ 2 _ _ _ rP13_.out
  have P_3_ : (w4).cell? ⟨W.heap.size, 3, none⟩ = some (v3) := cell_of_row _ _ 3 _ _ _ rP13_.out
  have P_4_ : (w4).cell? ⟨W.heap.size, 4, none⟩ = some (v4) := cell_of_row _ _ 4 _ _ _ rP13_.out
  have P_5_ : (w4).cell? ⟨W.heap.size, 5, none⟩ = some (v5) := cell_of_row _ _ 5 _ _ _ rP13_.out
  have Q_0_ : (w4).cell? ⟨W.heap.size + 1, 0, none⟩ = some (v0') := cell_of_row _ _ 0 _ _ _ rQ14_.out
  have Q_1_ : (w4).cell? ⟨W.heap.size + 1, 1, none⟩ = some (v1') := cell_of_row _ _ 1 _ _ _ rQ14_.out
  have Q_2_ : (w4).cell? ⟨W.heap.size + 1, 2, none⟩ = some (v2') := cell_of_row _ _ 2 _ _ _ rQ14_.out
  have Q_3_ : (w4).cell? ⟨W.heap.size + 1, 3, none⟩ = some (v3') := cell_of_row _ _ 3 _ _ _ rQ14_.out
  have Q_4_ : (w4).cell? ⟨W.heap.size + 1, 4, none⟩ = some (v4') := cell_of_row _ _ 4 _ _ _ rQ14_.out
  have Q_5_ : (w4).cell? ⟨W.heap.size + 1, 5, none⟩ = some (v5') := cell_of_row _ _ 5 _ _ _ rQ14_.out
  go_wp2
  go_ret
  exact ⟨rfl, G15_.out⟩

set_option maxRecDepth 8000 in
set_option maxHeartbeats 2000000 in
theorem markChannel_d (w : World) (lo hi m : Nat) (v0 : Value) (v1 : Value) (v2 : Value) (v3 : Value) (v4 : Value) (v5 : Value) (xs0 : List Int) (xs1 : List Int) (xs2 : List Int) (xs3 : List Int) (xs4 : List DPacket) (xs5 : List DPacket) (pre post : List Own) (h1 : OwU w lo hi [] (pre ++ own shI v0 xs0 :: own shI v1 xs1 :: own shI v2 xs2 :: own shI v3 xs3 :: own shPacket v4 xs4 :: own shPacket v5 xs5 :: post)) (hhi : hi ≤ w.heap.size) (hl0 : szL shI xs0 ≤ 1048576) (hl1 : szL shI xs1 ≤ 1048576) (hl2 : szL shI xs2 ≤ 1048576) (hl3 : szL shI xs3 ≤ 1048576) (hl4 : szL shPacket xs4 ≤ 1048576) (hl5 : szL shPacket xs5 ≤ 1048576) (hm2 : m + ecL shI xs0 + ecL shI xs1 + ecL shI xs2 + ecL shI xs3 + ecL shPacket xs4 + ecL shPacket xs5 ≤ 900000000) :
    Calls Try.prog 22 #[vChannel v0 v1 v2 v3 v4 v5, .int .i64 (m : Int)] w (fun e w' => e = .returned (.int .i64 ((m + ecL shI xs0 + ecL shI xs1 + ecL shI xs2 + ecL shI xs3 + ecL shPacket xs4 + ecL shPacket xs5 : Nat) : Int)) ∧ OwU w' lo hi [] (pre ++ own shI v0 (emL shI (m) xs0) :: own shI v1 (emL shI (m + ecL shI xs0) xs1) :: own shI v2 (emL shI (m + ecL shI xs0 + ecL shI xs1) xs2) :: own shI v3 (emL shI (m + ecL shI xs0 + ecL shI xs1 + ecL shI xs2) xs3) :: own shPacket v4 (emL shPacket (m + ecL shI xs0 + ecL shI xs1 + ecL shI xs2 + ecL shI xs3) xs4) :: own shPacket v5 (emL shPacket (m + ecL shI xs0 + ecL shI xs1 + ecL shI xs2 + ecL shI xs3 + ecL shPacket xs4) xs5) :: post) ∧ Chg w w' lo hi) := by
  unfold vChannel
  go_enter Try.func22, Try.ntmps22
  have rP1_ := Lib.hid (show ((w.alloc (.cells #[v0, v1, v2, v3, v4, v5] 29))).heap[w.heap.size]? = some (.cells #[v0, v1, v2, v3, v4, v5] 29 (0, 0)) from by exact heap_alloc_new _ _)
  have G2_ := Lib.hid (show (w).grownBy ((w.alloc (.cells #[v0, v1, v2, v3, v4, v5] 29))) none from (gby_alloc (gby_refl _ _) _))
  have U0 := Lib.hid (OwU.grow h1 (gby_alloc (gby_refl _ _) (.cells #[v0, v1, v2, v3, v4, v5] 29)))
  have C0 := Lib.hid (chg_gby G2_.out lo hi)
  clear h1
  have P_0_ : ((w.alloc (.cells #[v0, v1, v2, v3, v4, v5] 29))).cell? ⟨w.heap.size, 0, none⟩ = some (v0) := cell_of_row _ _ 0 _ _ _ rP1_.out
  have P_1_ : ((w.alloc (.cells #[v0, v1, v2, v3, v4, v5] 29))).cell? ⟨w.heap.size, 1, none⟩ = some (v1) := cell_of_row _ _ 1 _ _ _ rP1_.out
  have P_2_ : ((w.alloc (.cells #[v0, v1, v2, v3, v4, v5] 29))).cell? ⟨w.heap.size, 2, none⟩ = some (v2) := cell_of_row _ _ 2 _ _ _ rP1_.out
  have P_3_ : ((w.alloc (.cells #[v0, v1, v2, v3, v4, v5] 29))).cell? ⟨w.heap.size, 3, none⟩ = some (v3) := cell_of_row _ _ 3 _ _ _ rP1_.out
  have P_4_ : ((w.alloc (.cells #[v0, v1, v2, v3, v4, v5] 29))).cell? ⟨w.heap.size, 4, none⟩ = some (v4) := cell_of_row _ _ 4 _ _ _ rP1_.out
  have P_5_ : ((w.alloc (.cells #[v0, v1, v2, v3, v4, v5] 29))).cell? ⟨w.heap.size, 5, none⟩ = some (v5) := cell_of_row _ _ 5 _ _ _ rP1_.out
  go_wp2_with fail
  go_at_call 21
  refine (markCredits_d _ lo hi m v0 v1 xs0 xs1 pre (own shI v2 xs2 :: own shI v3 xs3 :: own shPacket v4 xs4 :: own shPacket v5 xs5 :: post) (show OwU ((w.alloc (.cells #[v0, v1, v2, v3, v4, v5] 29))) lo hi [] (pre ++ own shI v0 xs0 :: own shI v1 xs1 :: own shI v2 xs2 :: own shI v3 xs3 :: own shPacket v4 xs4 :: own shPacket v5 xs5 :: post) from by first | exact U0.out | (rw [List.append_assoc]; exact U0.out)) (by first | omega | (simp only [World.size_alloc]; omega)) hl0 hl1 (by omega)).mono ?_
  rintro e w1 ⟨rfl, o, c⟩
  clear P_0_ P_1_ P_2_ P_3_ P_4_ P_5_
  have hrow := Chg.keep c rP1_.out (by omega)
  clear rP1_
  have hsz0 := c.size
  try simp only [World.size_alloc] at hsz0
  have rP3_ := Lib.hid (show (w1).heap[w.heap.size]? = some (.cells #[v0, v1, v2, v3, v4, v5] 29 (0, 0)) from hrow)
  clear hrow
  have U1 := Lib.hid (show OwU (w1) lo hi [] (pre ++ own shI v0 (emL shI (m) xs0) :: own shI v1 (emL shI (m + ecL shI xs0) xs1) :: own shI v2 xs2 :: own shI v3 xs3 :: own shPacket v4 xs4 :: own shPacket v5 xs5 :: post) from by first | exact (show OwU (w1) lo hi [] (pre ++ own shI v0 (emL shI (m) xs0) :: own shI v1 (emL shI (m + ecL shI xs0) xs1) :: own shI v2 xs2 :: own shI v3 xs3 :: own shPacket v4 xs4 :: own shPacket v5 xs5 :: post) from o) | (have q := (show OwU (w1) lo hi [] (pre ++ own shI v0 (emL shI (m) xs0) :: own shI v1 (emL shI (m + ecL shI xs0) xs1) :: own shI v2 xs2 :: own shI v3 xs3 :: own shPacket v4 xs4 :: own shPacket v5 xs5 :: post) from o); rw [List.append_assoc] at q; exact q))
  clear U0 o
  have C1 := Lib.hid (chg_trans C0.out (c))
  clear c C0
  have P_0_ : (w1).cell? ⟨w.heap.size, 0, none⟩ = some (v0) := cell_of_row _ _ 0 _ _ _ rP3_.out
  have P_1_ : (w1).cell? ⟨w.heap.size, 1, none⟩ = some (v1) := cell_of_row _ _ 1 _ _ _ rP3_.out
  have P_2_ : (w1).cell? ⟨w.heap.size, 2, none⟩ = some (v2) := cell_of_row _ _ 2 _ _ _ rP3_.out
  have P_3_ : (w1).cell? ⟨w.heap.size, 3, none⟩ = some (v3) := cell_of_row _ _ 3 _ _ _ rP3_.out
  have P_4_ : (w1).cell? ⟨w.heap.size, 4, none⟩ = some (v4) := cell_of_row _ _ 4 _ _ _ rP3_.out
  have P_5_ : (w1).cell? ⟨w.heap.size, 5, none⟩ = some (v5) := cell_of_row _ _ 5 _ _ _ rP3_.out
  go_wp2_with fail
  go_at_call 21
  refine (markCredits_d _ lo hi (m + ecL shI xs0 + ecL shI xs1) v2 v3 xs2 xs3 (pre ++ [own shI v0 (emL shI (m) xs0), own shI v1 (emL shI (m + ecL shI xs0) xs1)]) (own shPacket v4 xs4 :: own shPacket v5 xs5 :: post) (show OwU (w1) lo hi [] ((pre ++ [own shI v0 (emL shI (m) xs0), own shI v1 (emL shI (m + ecL shI xs0) xs1)]) ++ own shI v2 xs2 :: own shI v3 xs3 :: own shPacket v4 xs4 :: own shPacket v5 xs5 :: post) from by first | exact U1.out | (rw [List.append_assoc]; exact U1.out)) (by first | omega | (simp only [World.size_alloc]; omega)) hl2 hl3 (by omega)).mono ?_
  rintro e w2 ⟨rfl, o, c⟩
  clear P_0_ P_1_ P_2_ P_3_ P_4_ P_5_
  have hrow := Chg.keep c rP3_.out (by omega)
  clear rP3_
  have hsz2 := c.size
  try simp only [World.size_alloc] at hsz2
  have rP4_ := Lib.hid (show (w2).heap[w.heap.size]? = some (.cells #[v0, v1, v2, v3, v4, v5] 29 (0, 0)) from hrow)
  clear hrow
  have U2 := Lib.hid (show OwU (w2) lo hi [] (pre ++ own shI v0 (emL shI (m) xs0) :: own shI v1 (emL shI (m + ecL shI xs0) xs1) :: own shI v2 (emL shI (m + ecL shI xs0 + ecL shI xs1) xs2) :: own shI v3 (emL shI (m + ecL shI xs0 + ecL shI xs1 + ecL shI xs2) xs3) :: own shPacket v4 xs4 :: own shPacket v5 xs5 :: post) from by first | exact (show OwU (w2) lo hi [] ((pre ++ [own shI v0 (emL shI (m) xs0), own shI v1 (emL shI (m + ecL shI xs0) xs1)]) ++ own shI v2 (emL shI (m + ecL shI xs0 + ecL shI xs1) xs2) :: own shI v3 (emL shI (m + ecL shI xs0 + ecL shI xs1 + ecL shI xs2) xs3) :: own shPacket v4 xs4 :: own shPacket v5 xs5 :: post) from o) | (have q := (show OwU (w2) lo hi [] ((pre ++ [own shI v0 (emL shI (m) xs0), own shI v1 (emL shI (m + ecL shI xs0) xs1)]) ++ own shI v2 (emL shI (m + ecL shI xs0 + ecL shI xs1) xs2) :: own shI v3 (emL shI (m + ecL shI xs0 + ecL shI xs1 + ecL shI xs2) xs3) :: own shPacket v4 xs4 :: own shPacket v5 xs5 :: post) from o); rw [List.append_assoc] at q; exact q))
  clear U1 o
  have C2 := Lib.hid (chg_trans C1.out (c))
  clear c C1
  have P_0_ : (w2).cell? ⟨w.heap.size, 0, none⟩ = some (v0) := cell_of_row _ _ 0 _ _ _ rP4_.out
  have P_1_ : (w2).cell? ⟨w.heap.size, 1, none⟩ = some (v1) := cell_of_row _ _ 1 _ _ _ rP4_.out
  have P_2_ : (w2).cell? ⟨w.heap.size, 2, none⟩ = some (v2) := cell_of_row _ _ 2 _ _ _ rP4_.out
  have P_3_ : (w2).cell? ⟨w.heap.size, 3, none⟩ = some (v3) := cell_of_row _ _ 3 _ _ _ rP4_.out
  have P_4_ : (w2).cell? ⟨w.heap.size, 4, none⟩ = some (v4) := cell_of_row _ _ 4 _ _ _ rP4_.out
  have P_5_ : (w2).cell? ⟨w.heap.size, 5, none⟩ = some (v5) := cell_of_row _ _ 5 _ _ _ rP4_.out
  obtain ⟨p4, q4, l4, u4, _, oo, ff⟩ := OwU.focus (pre := (pre ++ [own shI v0 (emL shI (m) xs0), own shI v1 (emL shI (m + ecL shI xs0) xs1), own shI v2 (emL shI (m + ecL shI xs0 + ecL shI xs1) xs2), own shI v3 (emL shI (m + ecL shI xs0 + ecL shI xs1 + ecL shI xs2) xs3)])) (p := own shPacket v4 xs4) (post := own shPacket v5 xs5 :: post) (show OwU (w2) lo hi [] ((pre ++ [own shI v0 (emL shI (m) xs0), own shI v1 (emL shI (m + ecL shI xs0) xs1), own shI v2 (emL shI (m + ecL shI xs0 + ecL shI xs1) xs2), own shI v3 (emL shI (m + ecL shI xs0 + ecL shI xs1 + ecL shI xs2) xs3)]) ++ own shPacket v4 xs4 :: own shPacket v5 xs5 :: post) from by first | exact U2.out | (rw [List.append_assoc]; exact U2.out))
  have FF := Lib.hid ff
  clear ff
  go_wp2_with fail
  go_at_call 70
  refine (markPacketS_d _ p4 q4 (m + ecL shI xs0 + ecL shI xs1 + ecL shI xs2 + ecL shI xs3) v4 xs4 oo hl4 (by omega)).mono ?_
  rintro e w3 ⟨rfl, o, c⟩
  clear P_0_ P_1_ P_2_ P_3_ P_4_ P_5_
  have hrow := Chg.keep c rP4_.out (by omega)
  clear rP4_
  have hsz4 := c.size
  try simp only [World.size_alloc] at hsz4
  have rP5_ := Lib.hid (show (w3).heap[w.heap.size]? = some (.cells #[v0, v1, v2, v3, v4, v5] 29 (0, 0)) from hrow)
  clear hrow
  have U3 := Lib.hid (show OwU (w3) lo hi [] (pre ++ own shI v0 (emL shI (m) xs0) :: own shI v1 (emL shI (m + ecL shI xs0) xs1) :: own shI v2 (emL shI (m + ecL shI xs0 + ecL shI xs1) xs2) :: own shI v3 (emL shI (m + ecL shI xs0 + ecL shI xs1 + ecL shI xs2) xs3) :: own shPacket v4 (emL shPacket (m + ecL shI xs0 + ecL shI xs1 + ecL shI xs2 + ecL shI xs3) xs4) :: own shPacket v5 xs5 :: post) from by first | exact (show OwU (w3) lo hi [] ((pre ++ [own shI v0 (emL shI (m) xs0), own shI v1 (emL shI (m + ecL shI xs0) xs1), own shI v2 (emL shI (m + ecL shI xs0 + ecL shI xs1) xs2), own shI v3 (emL shI (m + ecL shI xs0 + ecL shI xs1 + ecL shI xs2) xs3)]) ++ own shPacket v4 (emL shPacket (m + ecL shI xs0 + ecL shI xs1 + ecL shI xs2 + ecL shI xs3) xs4) :: own shPacket v5 xs5 :: post) from FF.out _ (own shPacket v4 (emL shPacket (m + ecL shI xs0 + ecL shI xs1 + ecL shI xs2 + ecL shI xs3) xs4)) c o) | (have q := (show OwU (w3) lo hi [] ((pre ++ [own shI v0 (emL shI (m) xs0), own shI v1 (emL shI (m + ecL shI xs0) xs1), own shI v2 (emL shI (m + ecL shI xs0 + ecL shI xs1) xs2), own shI v3 (emL shI (m + ecL shI xs0 + ecL shI xs1 + ecL shI xs2) xs3)]) ++ own shPacket v4 (emL shPacket (m + ecL shI xs0 + ecL shI xs1 + ecL shI xs2 + ecL shI xs3) xs4) :: own shPacket v5 xs5 :: post) from FF.out _ (own shPacket v4 (emL shPacket (m + ecL shI xs0 + ecL shI xs1 + ecL shI xs2 + ecL shI xs3) xs4)) c o); rw [List.append_assoc] at q; exact q))
  clear U2 o
  have C3 := Lib.hid (chg_trans C2.out (chg_wide c (lo' := lo) (hi' := hi) l4 u4))
  clear c C2
  try clear oo FF
  have P_0_ : (w3).cell? ⟨w.heap.size, 0, none⟩ = some (v0) := cell_of_row _ _ 0 _ _ _ rP5_.out
  have P_1_ : (w3).cell? ⟨w.heap.size, 1, none⟩ = some (v1) := cell_of_row _ _ 1 _ _ _ rP5_.out
  have P_2_ : (w3).cell? ⟨w.heap.size, 2, none⟩ = some (v2) := cell_of_row _ _ 2 _ _ _ rP5_.out
  have P_3_ : (w3).cell? ⟨w.heap.size, 3, none⟩ = some (v3) := cell_of_row _ _ 3 _ _ _ rP5_.out
  have P_4_ : (w3).cell? ⟨w.heap.size, 4, none⟩ = some (v4) := cell_of_row _ _ 4 _ _ _ rP5_.out
  have P_5_ : (w3).cell? ⟨w.heap.size, 5, none⟩ = some (v5) := cell_of_row _ _ 5 _ _ _ rP5_.out
  obtain ⟨p5, q5, l5, u5, _, oo, ff⟩ := OwU.focus (pre := (pre ++ [own shI v0 (emL shI (m) xs0), own shI v1 (emL shI (m + ecL shI xs0) xs1), own shI v2 (emL shI (m + ecL shI xs0 + ecL shI xs1) xs2), own shI v3 (emL shI (m + ecL shI xs0 + ecL shI xs1 + ecL shI xs2) xs3), own shPacket v4 (emL shPacket (m + ecL shI xs0 + ecL shI xs1 + ecL shI xs2 + ecL shI xs3) xs4)])) (p := own shPacket v5 xs5) (post := post) (show OwU (w3) lo hi [] ((pre ++ [own shI v0 (emL shI (m) xs0), own shI v1 (emL shI (m + ecL shI xs0) xs1), own shI v2 (emL shI (m + ecL shI xs0 + ecL shI xs1) xs2), own shI v3 (emL shI (m + ecL shI xs0 + ecL shI xs1 + ecL shI xs2) xs3), own shPacket v4 (emL shPacket (m + ecL shI xs0 + ecL shI xs1 + ecL shI xs2 + ecL shI xs3) xs4)]) ++ own shPacket v5 xs5 :: post) from by first | exact U3.out | (rw [List.append_assoc]; exact U3.out))
  have FF := Lib.hid ff
  clear ff
  go_wp2_with fail
  go_at_call 70
  refine (markPacketS_d _ p5 q5 (m + ecL shI xs0 + ecL shI xs1 + ecL shI xs2 + ecL shI xs3 + ecL shPacket xs4) v5 xs5 oo hl5 (by omega)).mono ?_
  rintro e w4 ⟨rfl, o, c⟩
  clear P_0_ P_1_ P_2_ P_3_ P_4_ P_5_
  have hrow := Chg.keep c rP5_.out (by omega)
  clear rP5_
  have hsz5 := c.size
  try simp only [World.size_alloc] at hsz5
  have rP6_ := Lib.hid (show (w4).heap[w.heap.size]? = some (.cells #[v0, v1, v2, v3, v4, v5] 29 (0, 0)) from hrow)
  clear hrow
  have U4 := Lib.hid (show OwU (w4) lo hi [] (pre ++ own shI v0 (emL shI (m) xs0) :: own shI v1 (emL shI (m + ecL shI xs0) xs1) :: own shI v2 (emL shI (m + ecL shI xs0 + ecL shI xs1) xs2) :: own shI v3 (emL shI (m + ecL shI xs0 + ecL shI xs1 + ecL shI xs2) xs3) :: own shPacket v4 (emL shPacket (m + ecL shI xs0 + ecL shI xs1 + ecL shI xs2 + ecL shI xs3) xs4) :: own shPacket v5 (emL shPacket (m + ecL shI xs0 + ecL shI xs1 + ecL shI xs2 + ecL shI xs3 + ecL shPacket xs4) xs5) :: post) from by first | exact (show OwU (w4) lo hi [] ((pre ++ [own shI v0 (emL shI (m) xs0), own shI v1 (emL shI (m + ecL shI xs0) xs1), own shI v2 (emL shI (m + ecL shI xs0 + ecL shI xs1) xs2), own shI v3 (emL shI (m + ecL shI xs0 + ecL shI xs1 + ecL shI xs2) xs3), own shPacket v4 (emL shPacket (m + ecL shI xs0 + ecL shI xs1 + ecL shI xs2 + ecL shI xs3) xs4)]) ++ own shPacket v5 (emL shPacket (m + ecL shI xs0 + ecL shI xs1 + ecL shI xs2 + ecL shI xs3 + ecL shPacket xs4) xs5) :: post) from FF.out _ (own shPacket v5 (emL shPacket (m + ecL shI xs0 + ecL shI xs1 + ecL shI xs2 + ecL shI xs3 + ecL shPacket xs4) xs5)) c o) | (have q := (show OwU (w4) lo hi [] ((pre ++ [own shI v0 (emL shI (m) xs0), own shI v1 (emL shI (m + ecL shI xs0) xs1), own shI v2 (emL shI (m + ecL shI xs0 + ecL shI xs1) xs2), own shI v3 (emL shI (m + ecL shI xs0 + ecL shI xs1 + ecL shI xs2) xs3), own shPacket v4 (emL shPacket (m + ecL shI xs0 + ecL shI xs1 + ecL shI xs2 + ecL shI xs3) xs4)]) ++ own shPacket v5 (emL shPacket (m + ecL shI xs0 + ecL shI xs1 + ecL shI xs2 + ecL shI xs3 + ecL shPacket xs4) xs5) :: post) from FF.out _ (own shPacket v5 (emL shPacket (m + ecL shI xs0 + ecL shI xs1 + ecL shI xs2 + ecL shI xs3 + ecL shPacket xs4) xs5)) c o); rw [List.append_assoc] at q; exact q))
  clear U3 o
  have C4 := Lib.hid (chg_trans C3.out (chg_wide c (lo' := lo) (hi' := hi) l5 u5))
  clear c C3
  try clear oo FF
  have P_0_ : (w4).cell? ⟨w.heap.size, 0, none⟩ = some (v0) := cell_of_row _ _ 0 _ _ _ rP6_.out
  have P_1_ : (w4).cell? ⟨w.heap.size, 1, none⟩ = some (v1) := cell_of_row _ _ 1 _ _ _ rP6_.out
  have P_2_ : (w4).cell? ⟨w.heap.size, 2, none⟩ = some (v2) := cell_of_row _ _ 2 _ _ _ rP6_.out
  have P_3_ : (w4).cell? ⟨w.heap.size, 3, none⟩ = some (v3) := cell_of_row _ _ 3 _ _ _ rP6_.out
  have P_4_ : (w4).cell? ⟨w.heap.size, 4, none⟩ = some (v4) := cell_of_row _ _ 4 _ _ _ rP6_.out
  have P_5_ : (w4).cell? ⟨w.heap.size, 5, none⟩ = some (v5) := cell_of_row _ _ 5 _ _ _ rP6_.out
  go_wp2
  go_ret
  exact ⟨by first | rfl | (congr 3; omega), by first | exact U4.out | simpa only [Nat.add_assoc] using U4.out, C4.out⟩

set_option maxRecDepth 8000 in
set_option maxHeartbeats 2000000 in
theorem heldChannel_d (w : World) (m : Nat) (v0 : Value) (v1 : Value) (v2 : Value) (v3 : Value) (v4 : Value) (v5 : Value) (xs0 : List Int) (xs1 : List Int) (xs2 : List Int) (xs3 : List Int) (xs4 : List DPacket) (xs5 : List DPacket) (H0 : RdL shI w v0 (emL shI (m) xs0)) (H1 : RdL shI w v1 (emL shI (m + ecL shI xs0) xs1)) (H2 : RdL shI w v2 (emL shI (m + ecL shI xs0 + ecL shI xs1) xs2)) (H3 : RdL shI w v3 (emL shI (m + ecL shI xs0 + ecL shI xs1 + ecL shI xs2) xs3)) (H4 : RdL shPacket w v4 (emL shPacket (m + ecL shI xs0 + ecL shI xs1 + ecL shI xs2 + ecL shI xs3) xs4)) (H5 : RdL shPacket w v5 (emL shPacket (m + ecL shI xs0 + ecL shI xs1 + ecL shI xs2 + ecL shI xs3 + ecL shPacket xs4) xs5)) (hl0 : szL shI xs0 ≤ 1048576) (hl1 : szL shI xs1 ≤ 1048576) (hl2 : szL shI xs2 ≤ 1048576) (hl3 : szL shI xs3 ≤ 1048576) (hl4 : szL shPacket xs4 ≤ 1048576) (hl5 : szL shPacket xs5 ≤ 1048576) (hm2 : m + ecL shI xs0 + ecL shI xs1 + ecL shI xs2 + ecL shI xs3 + ecL shPacket xs4 + ecL shPacket xs5 ≤ 900000000) :
    Calls Try.prog 23 #[vChannel v0 v1 v2 v3 v4 v5, .int .i64 (m : Int)] w (AnsN (.int .i64 ((m + ecL shI xs0 + ecL shI xs1 + ecL shI xs2 + ecL shI xs3 + ecL shPacket xs4 + ecL shPacket xs5 : Nat) : Int)) w) := by
  unfold vChannel
  have HI0 := Lib.hid H0
  clear H0
  have HI1 := Lib.hid H1
  clear H1
  have HI2 := Lib.hid H2
  clear H2
  have HI3 := Lib.hid H3
  clear H3
  have HI4 := Lib.hid H4
  clear H4
  have HI5 := Lib.hid H5
  clear H5
  have ng0 : ¬ (((m + ecL shI xs0 : Nat) : Int) < 0) := by omega
  have ng1 : ¬ (((m + ecL shI xs0 + ecL shI xs1 : Nat) : Int) < 0) := by omega
  have ng2 : ¬ (((m + ecL shI xs0 + ecL shI xs1 + ecL shI xs2 : Nat) : Int) < 0) := by omega
  have ng3 : ¬ (((m + ecL shI xs0 + ecL shI xs1 + ecL shI xs2 + ecL shI xs3 : Nat) : Int) < 0) := by omega
  have ng4 : ¬ (((m + ecL shI xs0 + ecL shI xs1 + ecL shI xs2 + ecL shI xs3 + ecL shPacket xs4 : Nat) : Int) < 0) := by omega
  have ng5 : ¬ (((m + ecL shI xs0 + ecL shI xs1 + ecL shI xs2 + ecL shI xs3 + ecL shPacket xs4 + ecL shPacket xs5 : Nat) : Int) < 0) := by omega
  go_enter Try.func23, Try.ntmps23
  have rP1_ := Lib.hid (show ((w.alloc (.cells #[v0, v1, v2, v3, v4, v5] 29))).heap[w.heap.size]? = some (.cells #[v0, v1, v2, v3, v4, v5] 29 (0, 0)) from by exact heap_alloc_new _ _)
  have G2_ := Lib.hid (show (w).grownBy ((w.alloc (.cells #[v0, v1, v2, v3, v4, v5] 29))) none from (gby_alloc (gby_refl _ _) _))
  have P_0_ : ((w.alloc (.cells #[v0, v1, v2, v3, v4, v5] 29))).cell? ⟨w.heap.size, 0, none⟩ = some (v0) := cell_of_row _ _ 0 _ _ _ rP1_.out
  have P_1_ : ((w.alloc (.cells #[v0, v1, v2, v3, v4, v5] 29))).cell? ⟨w.heap.size, 1, none⟩ = some (v1) := cell_of_row _ _ 1 _ _ _ rP1_.out
  have P_2_ : ((w.alloc (.cells #[v0, v1, v2, v3, v4, v5] 29))).cell? ⟨w.heap.size, 2, none⟩ = some (v2) := cell_of_row _ _ 2 _ _ _ rP1_.out
  have P_3_ : ((w.alloc (.cells #[v0, v1, v2, v3, v4, v5] 29))).cell? ⟨w.heap.size, 3, none⟩ = some (v3) := cell_of_row _ _ 3 _ _ _ rP1_.out
  have P_4_ : ((w.alloc (.cells #[v0, v1, v2, v3, v4, v5] 29))).cell? ⟨w.heap.size, 4, none⟩ = some (v4) := cell_of_row _ _ 4 _ _ _ rP1_.out
  have P_5_ : ((w.alloc (.cells #[v0, v1, v2, v3, v4, v5] 29))).cell? ⟨w.heap.size, 5, none⟩ = some (v5) := cell_of_row _ _ 5 _ _ _ rP1_.out
  go_wp2_with fail
  go_at_call 71
  refine (heldCredits_d _ m v0 v1 xs0 xs1 (HI0.out.grow G2_.out) (HI1.out.grow G2_.out) hl0 hl1 (by omega)).mono ?_
  rintro e w1 ⟨rfl, g⟩
  clear P_0_ P_1_ P_2_ P_3_ P_4_ P_5_
  have rP3_ := Lib.hid (show (w1).heap[w.heap.size]? = some (.cells #[v0, v1, v2, v3, v4, v5] 29 (0, 0)) from row_held g rP1_.out)
  clear rP1_
  have G4_ := Lib.hid (show (w).grownBy (w1) none from gby_trans G2_.out g)
  clear g
  have P_0_ : (w1).cell? ⟨w.heap.size, 0, none⟩ = some (v0) := cell_of_row _ _ 0 _ _ _ rP3_.out
  have P_1_ : (w1).cell? ⟨w.heap.size, 1, none⟩ = some (v1) := cell_of_row _ _ 1 _ _ _ rP3_.out
  have P_2_ : (w1).cell? ⟨w.heap.size, 2, none⟩ = some (v2) := cell_of_row _ _ 2 _ _ _ rP3_.out
  have P_3_ : (w1).cell? ⟨w.heap.size, 3, none⟩ = some (v3) := cell_of_row _ _ 3 _ _ _ rP3_.out
  have P_4_ : (w1).cell? ⟨w.heap.size, 4, none⟩ = some (v4) := cell_of_row _ _ 4 _ _ _ rP3_.out
  have P_5_ : (w1).cell? ⟨w.heap.size, 5, none⟩ = some (v5) := cell_of_row _ _ 5 _ _ _ rP3_.out
  go_wp2_with fail
  go_at_call 71
  refine (heldCredits_d _ (m + ecL shI xs0 + ecL shI xs1) v2 v3 xs2 xs3 (HI2.out.grow G4_.out) (HI3.out.grow G4_.out) hl2 hl3 (by omega)).mono ?_
  rintro e w2 ⟨rfl, g⟩
  clear P_0_ P_1_ P_2_ P_3_ P_4_ P_5_
  have rP5_ := Lib.hid (show (w2).heap[w.heap.size]? = some (.cells #[v0, v1, v2, v3, v4, v5] 29 (0, 0)) from row_held g rP3_.out)
  clear rP3_
  have G6_ := Lib.hid (show (w).grownBy (w2) none from gby_trans G4_.out g)
  clear g
  have P_0_ : (w2).cell? ⟨w.heap.size, 0, none⟩ = some (v0) := cell_of_row _ _ 0 _ _ _ rP5_.out
  have P_1_ : (w2).cell? ⟨w.heap.size, 1, none⟩ = some (v1) := cell_of_row _ _ 1 _ _ _ rP5_.out
  have P_2_ : (w2).cell? ⟨w.heap.size, 2, none⟩ = some (v2) := cell_of_row _ _ 2 _ _ _ rP5_.out
  have P_3_ : (w2).cell? ⟨w.heap.size, 3, none⟩ = some (v3) := cell_of_row _ _ 3 _ _ _ rP5_.out
  have P_4_ : (w2).cell? ⟨w.heap.size, 4, none⟩ = some (v4) := cell_of_row _ _ 4 _ _ _ rP5_.out
  have P_5_ : (w2).cell? ⟨w.heap.size, 5, none⟩ = some (v5) := cell_of_row _ _ 5 _ _ _ rP5_.out
  go_wp2_with fail
  go_at_call 72
  refine (heldPacketS_d _ (m + ecL shI xs0 + ecL shI xs1 + ecL shI xs2 + ecL shI xs3) v4 xs4 (HI4.out.grow G6_.out) hl4 (by omega)).mono ?_
  rintro e w3 ⟨rfl, g⟩
  clear P_0_ P_1_ P_2_ P_3_ P_4_ P_5_
  have rP7_ := Lib.hid (show (w3).heap[w.heap.size]? = some (.cells #[v0, v1, v2, v3, v4, v5] 29 (0, 0)) from row_held g rP5_.out)
  clear rP5_
  have G8_ := Lib.hid (show (w).grownBy (w3) none from gby_trans G6_.out g)
  clear g
  have P_0_ : (w3).cell? ⟨w.heap.size, 0, none⟩ = some (v0) := cell_of_row _ _ 0 _ _ _ rP7_.out
  have P_1_ : (w3).cell? ⟨w.heap.size, 1, none⟩ = some (v1) := cell_of_row _ _ 1 _ _ _ rP7_.out
  have P_2_ : (w3).cell? ⟨w.heap.size, 2, none⟩ = some (v2) := cell_of_row _ _ 2 _ _ _ rP7_.out
  have P_3_ : (w3).cell? ⟨w.heap.size, 3, none⟩ = some (v3) := cell_of_row _ _ 3 _ _ _ rP7_.out
  have P_4_ : (w3).cell? ⟨w.heap.size, 4, none⟩ = some (v4) := cell_of_row _ _ 4 _ _ _ rP7_.out
  have P_5_ : (w3).cell? ⟨w.heap.size, 5, none⟩ = some (v5) := cell_of_row _ _ 5 _ _ _ rP7_.out
  go_wp2_with fail
  go_at_call 72
  refine (heldPacketS_d _ (m + ecL shI xs0 + ecL shI xs1 + ecL shI xs2 + ecL shI xs3 + ecL shPacket xs4) v5 xs5 (HI5.out.grow G8_.out) hl5 (by omega)).mono ?_
  rintro e w4 ⟨rfl, g⟩
  clear P_0_ P_1_ P_2_ P_3_ P_4_ P_5_
  have rP9_ := Lib.hid (show (w4).heap[w.heap.size]? = some (.cells #[v0, v1, v2, v3, v4, v5] 29 (0, 0)) from row_held g rP7_.out)
  clear rP7_
  have G10_ := Lib.hid (show (w).grownBy (w4) none from gby_trans G8_.out g)
  clear g
  have P_0_ : (w4).cell? ⟨w.heap.size, 0, none⟩ = some (v0) := cell_of_row _ _ 0 _ _ _ rP9_.out
  have P_1_ : (w4).cell? ⟨w.heap.size, 1, none⟩ = some (v1) := cell_of_row _ _ 1 _ _ _ rP9_.out
  have P_2_ : (w4).cell? ⟨w.heap.size, 2, none⟩ = some (v2) := cell_of_row _ _ 2 _ _ _ rP9_.out
  have P_3_ : (w4).cell? ⟨w.heap.size, 3, none⟩ = some (v3) := cell_of_row _ _ 3 _ _ _ rP9_.out
  have P_4_ : (w4).cell? ⟨w.heap.size, 4, none⟩ = some (v4) := cell_of_row _ _ 4 _ _ _ rP9_.out
  have P_5_ : (w4).cell? ⟨w.heap.size, 5, none⟩ = some (v5) := cell_of_row _ _ 5 _ _ _ rP9_.out
  go_wp2
  go_ret
  exact ⟨rfl, G10_.out⟩

end Go.Proofs.Ytgmpehccklifdae
