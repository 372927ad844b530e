/-
  Queue by value, on the law's side: measured, copied, compared, marked, held.
-/
import Derived.Test.YtnighnkkeiegnaaShpI
import Derived.Test.YtnighnkkeiegnaaDPacket
import Derived.Test.YtnighnkkeiegnaaQCredits
import Derived.Test.YtnighnkkeiegnaaQSPacket
namespace Go.Proofs.Ytnighnkkeiegnaa
open Go Go.RowKit
set_option linter.unusedVariables false

/-- a value of Queue -/
def vQueue (v0 : Value) (v1 : Value) (v2 : Value) (v3 : Value) : Value := .agg #[v0, v1, v2, v3]

set_option maxRecDepth 8000 in
set_option maxHeartbeats 2000000 in
theorem szQueue_d (W : World) (n : Int) (v0 : Value) (v1 : Value) (v2 : Value) (v3 : Value) (xs0 : List DPacket) (xs1 : List Int) (xs2 : List Int) (xs3 : List DPacket) (H0 : RdL shPacket W v0 xs0) (H1 : RdL shI W v1 xs1) (H2 : RdL shI W v2 xs2) (H3 : RdL shPacket W v3 xs3) (hn : n ≤ 1048576) (h0 : 0 ≤ n) :
    Calls Try.prog 14 #[vQueue v0 v1 v2 v3, .int .i64 n] W (AnsN (.int .i64 (lessN n (szL shPacket xs0 + szL shI xs1 + szL shI xs2 + szL shPacket xs3))) W) := by
  obtain ⟨t0, ht0⟩ : ∃ t, t = szL shPacket xs0 := ⟨_, rfl⟩
  obtain ⟨t1, ht1⟩ : ∃ t, t = szL shI xs1 + szL shI xs2 := ⟨_, rfl⟩
  obtain ⟨t2, ht2⟩ : ∃ t, t = szL shPacket xs3 := ⟨_, rfl⟩
  rw [show (szL shPacket xs0 + szL shI xs1 + szL shI xs2 + szL shPacket xs3) = t0 + t1 + t2 by omega]
  have HT0 := Lib.hid ht0
  clear ht0
  have HT1 := Lib.hid ht1
  clear ht1
  have HT2 := Lib.hid ht2
  clear ht2
  have HI0 := Lib.hid H0
  clear H0
  have HI1 := Lib.hid H1
  clear H1
  have HI2 := Lib.hid H2
  clear H2
  have HI3 := Lib.hid H3
  clear H3
  unfold vQueue
  by_cases h0_ : n < (t0 : Int)
  · rw [show lessN n (t0 + t1 + t2) = -1 from if_pos (by omega)]
    go_enter Try.func14, Try.ntmps14
    have rA1_ := Lib.hid (show ((W.alloc (.cells #[v0, v1, v2, v3] 27))).heap[W.heap.size]? = some (.cells #[v0, v1, v2, v3] 27 (0, 0)) from by exact heap_alloc_new _ _)
    have G2_ := Lib.hid (show (W).grownBy ((W.alloc (.cells #[v0, v1, v2, v3] 27))) none from (gby_alloc (gby_refl _ _) _))
    have A_0_ : ((W.alloc (.cells #[v0, v1, v2, v3] 27))).cell? ⟨W.heap.size, 0, none⟩ = some (v0) := cell_of_row _ _ 0 _ _ _ rA1_.out
    have A_1_ : ((W.alloc (.cells #[v0, v1, v2, v3] 27))).cell? ⟨W.heap.size, 1, none⟩ = some (v1) := cell_of_row _ _ 1 _ _ _ rA1_.out
    have A_2_ : ((W.alloc (.cells #[v0, v1, v2, v3] 27))).cell? ⟨W.heap.size, 2, none⟩ = some (v2) := cell_of_row _ _ 2 _ _ _ rA1_.out
    have A_3_ : ((W.alloc (.cells #[v0, v1, v2, v3] 27))).cell? ⟨W.heap.size, 3, none⟩ = some (v3) := cell_of_row _ _ 3 _ _ _ rA1_.out
    go_wp2_with fail
    go_at_call 21
    refine (szPacketS_d _ _ v0 xs0 (HI0.out.grow G2_.out) (by omega) (by omega)).mono ?_
    rintro e w1 ⟨he, g⟩
    rw [← HT0.out, show lessN _ t0 = -1 from if_pos (by omega)] at he
    subst he
    clear A_0_ A_1_ A_2_ A_3_
    have rA3_ := Lib.hid (show (w1).heap[W.heap.size]? = some (.cells #[v0, v1, v2, v3] 27 (0, 0)) from row_held g rA1_.out)
    clear rA1_
    have G4_ := Lib.hid (show (W).grownBy (w1) none from gby_trans G2_.out g)
    clear g
    have hm1 : (-1 : Int) < 0 := by omega
    go_wp2
    go_ret
    exact ⟨rfl, G4_.out⟩
  by_cases h1_ : n - (t0 : Int) < (t1 : Int)
  · rw [show lessN n (t0 + t1 + t2) = -1 from if_pos (by omega)]
    go_enter Try.func14, Try.ntmps14
    have rA1_ := Lib.hid (show ((W.alloc (.cells #[v0, v1, v2, v3] 27))).heap[W.heap.size]? = some (.cells #[v0, v1, v2, v3] 27 (0, 0)) from by exact heap_alloc_new _ _)
    have G2_ := Lib.hid (show (W).grownBy ((W.alloc (.cells #[v0, v1, v2, v3] 27))) none from (gby_alloc (gby_refl _ _) _))
    have A_0_ : ((W.alloc (.cells #[v0, v1, v2, v3] 27))).cell? ⟨W.heap.size, 0, none⟩ = some (v0) := cell_of_row _ _ 0 _ _ _ rA1_.out
    have A_1_ : ((W.alloc (.cells #[v0, v1, v2, v3] 27))).cell? ⟨W.heap.size, 1, none⟩ = some (v1) := cell_of_row _ _ 1 _ _ _ rA1_.out
    have A_2_ : ((W.alloc (.cells #[v0, v1, v2, v3] 27))).cell? ⟨W.heap.size, 2, none⟩ = some (v2) := cell_of_row _ _ 2 _ _ _ rA1_.out
    have A_3_ : ((W.alloc (.cells #[v0, v1, v2, v3] 27))).cell? ⟨W.heap.size, 3, none⟩ = some (v3) := cell_of_row _ _ 3 _ _ _ rA1_.out
    go_wp2_with fail
    go_at_call 21
    refine (szPacketS_d _ _ v0 xs0 (HI0.out.grow G2_.out) (by omega) (by omega)).mono ?_
    rintro e w1 ⟨he, g⟩
    rw [← HT0.out, show lessN _ t0 = n - (t0 : Int) from (if_neg (by omega)).trans (by omega)] at he
    subst he
    clear A_0_ A_1_ A_2_ A_3_
    have rA3_ := Lib.hid (show (w1).heap[W.heap.size]? = some (.cells #[v0, v1, v2, v3] 27 (0, 0)) from row_held g rA1_.out)
    clear rA1_
    have G4_ := Lib.hid (show (W).grownBy (w1) none from gby_trans G2_.out g)
    clear g
    have A_0_ : (w1).cell? ⟨W.heap.size, 0, none⟩ = some (v0) := cell_of_row _ _ 0 _ _ _ rA3_.out
    have A_1_ : (w1).cell? ⟨W.heap.size, 1, none⟩ = some (v1) := cell_of_row _ _ 1 _ _ _ rA3_.out
    have A_2_ : (w1).cell? ⟨W.heap.size, 2, none⟩ = some (v2) := cell_of_row _ _ 2 _ _ _ rA3_.out
    have A_3_ : (w1).cell? ⟨W.heap.size, 3, none⟩ = some (v3) := cell_of_row _ _ 3 _ _ _ rA3_.out
    go_wp2_with fail
    go_at_call 58
    refine (szCredits_d _ _ v1 v2 xs1 xs2 (HI1.out.grow G4_.out) (HI2.out.grow G4_.out) (by omega) (by omega)).mono ?_
    rintro e w2 ⟨he, g⟩
    rw [← HT1.out, show lessN _ t1 = -1 from if_pos (by omega)] at he
    subst he
    clear A_0_ A_1_ A_2_ A_3_
    have rA5_ := Lib.hid (show (w2).heap[W.heap.size]? = some (.cells #[v0, v1, v2, v3] 27 (0, 0)) from row_held g rA3_.out)
    clear rA3_
    have G6_ := Lib.hid (show (W).grownBy (w2) none from gby_trans G4_.out g)
    clear g
    have hm1 : (-1 : Int) < 0 := by omega
    go_wp2
    go_ret
    exact ⟨rfl, G6_.out⟩
  by_cases h2_ : n - (t0 : Int) - (t1 : Int) < (t2 : Int)
  · rw [show lessN n (t0 + t1 + t2) = -1 from if_pos (by omega)]
    go_enter Try.func14, Try.ntmps14
    have rA1_ := Lib.hid (show ((W.alloc (.cells #[v0, v1, v2, v3] 27))).heap[W.heap.size]? = some (.cells #[v0, v1, v2, v3] 27 (0, 0)) from by exact heap_alloc_new _ _)
    have G2_ := Lib.hid (show (W).grownBy ((W.alloc (.cells #[v0, v1, v2, v3] 27))) none from (gby_alloc (gby_refl _ _) _))
    have A_0_ : ((W.alloc (.cells #[v0, v1, v2, v3] 27))).cell? ⟨W.heap.size, 0, none⟩ = some (v0) := cell_of_row _ _ 0 _ _ _ rA1_.out
    have A_1_ : ((W.alloc (.cells #[v0, v1, v2, v3] 27))).cell? ⟨W.heap.size, 1, none⟩ = some (v1) := cell_of_row _ _ 1 _ _ _ rA1_.out
    have A_2_ : ((W.alloc (.cells #[v0, v1, v2, v3] 27))).cell? ⟨W.heap.size, 2, none⟩ = some (v2) := cell_of_row _ _ 2 _ _ _ rA1_.out
    have A_3_ : ((W.alloc (.cells #[v0, v1, v2, v3] 27))).cell? ⟨W.heap.size, 3, none⟩ = some (v3) := cell_of_row _ _ 3 _ _ _ rA1_.out
    go_wp2_with fail
    go_at_call 21
    refine (szPacketS_d _ _ v0 xs0 (HI0.out.grow G2_.out) (by omega) (by omega)).mono ?_
    rintro e w1 ⟨he, g⟩
    rw [← HT0.out, show lessN _ t0 = n - (t0 : Int) from (if_neg (by omega)).trans (by omega)] at he
    subst he
    clear A_0_ A_1_ A_2_ A_3_
    have rA3_ := Lib.hid (show (w1).heap[W.heap.size]? = some (.cells #[v0, v1, v2, v3] 27 (0, 0)) from row_held g rA1_.out)
    clear rA1_
    have G4_ := Lib.hid (show (W).grownBy (w1) none from gby_trans G2_.out g)
    clear g
    have A_0_ : (w1).cell? ⟨W.heap.size, 0, none⟩ = some (v0) := cell_of_row _ _ 0 _ _ _ rA3_.out
    have A_1_ : (w1).cell? ⟨W.heap.size, 1, none⟩ = some (v1) := cell_of_row _ _ 1 _ _ _ rA3_.out
    have A_2_ : (w1).cell? ⟨W.heap.size, 2, none⟩ = some (v2) := cell_of_row _ _ 2 _ _ _ rA3_.out
    have A_3_ : (w1).cell? ⟨W.heap.size, 3, none⟩ = some (v3) := cell_of_row _ _ 3 _ _ _ rA3_.out
    go_wp2_with fail
    go_at_call 58
    refine (szCredits_d _ _ v1 v2 xs1 xs2 (HI1.out.grow G4_.out) (HI2.out.grow G4_.out) (by omega) (by omega)).mono ?_
    rintro e w2 ⟨he, g⟩
    rw [← HT1.out, show lessN _ t1 = n - (t0 : Int) - (t1 : Int) from (if_neg (by omega)).trans (by omega)] at he
    subst he
    clear A_0_ A_1_ A_2_ A_3_
    have rA5_ := Lib.hid (show (w2).heap[W.heap.size]? = some (.cells #[v0, v1, v2, v3] 27 (0, 0)) from row_held g rA3_.out)
    clear rA3_
    have G6_ := Lib.hid (show (W).grownBy (w2) none from gby_trans G4_.out g)
    clear g
    have A_0_ : (w2).cell? ⟨W.heap.size, 0, none⟩ = some (v0) := cell_of_row _ _ 0 _ _ _ rA5_.out
    have A_1_ : (w2).cell? ⟨W.heap.size, 1, none⟩ = some (v1) := cell_of_row _ _ 1 _ _ _ rA5_.out
    have A_2_ : (w2).cell? ⟨W.heap.size, 2, none⟩ = some (v2) := cell_of_row _ _ 2 _ _ _ rA5_.out
    have A_3_ : (w2).cell? ⟨W.heap.size, 3, none⟩ = some (v3) := cell_of_row _ _ 3 _ _ _ rA5_.out
    go_wp2_with fail
    go_at_call 21
    refine (szPacketS_d _ _ v3 xs3 (HI3.out.grow G6_.out) (by omega) (by omega)).mono ?_
    rintro e w3 ⟨he, g⟩
    rw [← HT2.out, show lessN _ t2 = -1 from if_pos (by omega)] at he
    subst he
    clear A_0_ A_1_ A_2_ A_3_
    have rA7_ := Lib.hid (show (w3).heap[W.heap.size]? = some (.cells #[v0, v1, v2, v3] 27 (0, 0)) from row_held g rA5_.out)
    clear rA5_
    have G8_ := Lib.hid (show (W).grownBy (w3) none from gby_trans G6_.out g)
    clear g
    have hm1 : (-1 : Int) < 0 := by omega
    go_wp2
    go_ret
    exact ⟨rfl, G8_.out⟩
  rw [show lessN n (t0 + t1 + t2) = n - (t0 : Int) - (t1 : Int) - (t2 : Int) from (if_neg (by omega)).trans (by omega)]
  go_enter Try.func14, Try.ntmps14
  have rA1_ := Lib.hid (show ((W.alloc (.cells #[v0, v1, v2, v3] 27))).heap[W.heap.size]? = some (.cells #[v0, v1, v2, v3] 27 (0, 0)) from by exact heap_alloc_new _ _)
  have G2_ := Lib.hid (show (W).grownBy ((W.alloc (.cells #[v0, v1, v2, v3] 27))) none from (gby_alloc (gby_refl _ _) _))
  have A_0_ : ((W.alloc (.cells #[v0, v1, v2, v3] 27))).cell? ⟨W.heap.size, 0, none⟩ = some (v0) := cell_of_row _ _ 0 _ _ _ rA1_.out
  have A_1_ : ((W.alloc (.cells #[v0, v1, v2, v3] 27))).cell? ⟨W.heap.size, 1, none⟩ = some (v1) := cell_of_row _ _ 1 _ _ _ rA1_.out
  have A_2_ : ((W.alloc (.cells #[v0, v1, v2, v3] 27))).cell? ⟨W.heap.size, 2, none⟩ = some (v2) := cell_of_row _ _ 2 _ _ _ rA1_.out
  have A_3_ : ((W.alloc (.cells #[v0, v1, v2, v3] 27))).cell? ⟨W.heap.size, 3, none⟩ = some (v3) := cell_of_row _ _ 3 _ _ _ rA1_.out
  go_wp2_with fail
  go_at_call 21
  refine (szPacketS_d _ _ v0 xs0 (HI0.out.grow G2_.out) (by omega) (by omega)).mono ?_
  rintro e w1 ⟨he, g⟩
  rw [← HT0.out, show lessN _ t0 = n - (t0 : Int) from (if_neg (by omega)).trans (by omega)] at he
  subst he
  clear A_0_ A_1_ A_2_ A_3_
  have rA3_ := Lib.hid (show (w1).heap[W.heap.size]? = some (.cells #[v0, v1, v2, v3] 27 (0, 0)) from row_held g rA1_.out)
  clear rA1_
  have G4_ := Lib.hid (show (W).grownBy (w1) none from gby_trans G2_.out g)
  clear g
  have A_0_ : (w1).cell? ⟨W.heap.size, 0, none⟩ = some (v0) := cell_of_row _ _ 0 _ _ _ rA3_.out
  have A_1_ : (w1).cell? ⟨W.heap.size, 1, none⟩ = some (v1) := cell_of_row _ _ 1 _ _ _ rA3_.out
  have A_2_ : (w1).cell? ⟨W.heap.size, 2, none⟩ = some (v2) := cell_of_row _ _ 2 _ _ _ rA3_.out
  have A_3_ : (w1).cell? ⟨W.heap.size, 3, none⟩ = some (v3) := cell_of_row _ _ 3 _ _ _ rA3_.out
  go_wp2_with fail
  go_at_call 58
  refine (szCredits_d _ _ v1 v2 xs1 xs2 (HI1.out.grow G4_.out) (HI2.out.grow G4_.out) (by omega) (by omega)).mono ?_
  rintro e w2 ⟨he, g⟩
  rw [← HT1.out, show lessN _ t1 = n - (t0 : Int) - (t1 : Int) from (if_neg (by omega)).trans (by omega)] at he
  subst he
  clear A_0_ A_1_ A_2_ A_3_
  have rA5_ := Lib.hid (show (w2).heap[W.heap.size]? = some (.cells #[v0, v1, v2, v3] 27 (0, 0)) from row_held g rA3_.out)
  clear rA3_
  have G6_ := Lib.hid (show (W).grownBy (w2) none from gby_trans G4_.out g)
  clear g
  have A_0_ : (w2).cell? ⟨W.heap.size, 0, none⟩ = some (v0) := cell_of_row _ _ 0 _ _ _ rA5_.out
  have A_1_ : (w2).cell? ⟨W.heap.size, 1, none⟩ = some (v1) := cell_of_row _ _ 1 _ _ _ rA5_.out
  have A_2_ : (w2).cell? ⟨W.heap.size, 2, none⟩ = some (v2) := cell_of_row _ _ 2 _ _ _ rA5_.out
  have A_3_ : (w2).cell? ⟨W.heap.size, 3, none⟩ = some (v3) := cell_of_row _ _ 3 _ _ _ rA5_.out
  go_wp2_with fail
  go_at_call 21
  refine (szPacketS_d _ _ v3 xs3 (HI3.out.grow G6_.out) (by omega) (by omega)).mono ?_
  rintro e w3 ⟨he, g⟩
  rw [← HT2.out, show lessN _ t2 = n - (t0 : Int) - (t1 : Int) - (t2 : Int) from (if_neg (by omega)).trans (by omega)] at he
  subst he
  clear A_0_ A_1_ A_2_ A_3_
  have rA7_ := Lib.hid (show (w3).heap[W.heap.size]? = some (.cells #[v0, v1, v2, v3] 27 (0, 0)) from row_held g rA5_.out)
  clear rA5_
  have G8_ := Lib.hid (show (W).grownBy (w3) none from gby_trans G6_.out g)
  clear g
  go_wp2
  go_ret
  exact ⟨rfl, G8_.out⟩

/-- a Queue in new memory -/
def NewQueue (xs0 : List DPacket) (xs1 : List Int) (xs2 : List Int) (xs3 : List DPacket) (W : World) (e : Ending) (w' : World) : Prop := ∃ v0, ∃ v1, ∃ v2, ∃ v3, e = .returned (vQueue v0 v1 v2 v3) ∧ OwU w' W.heap.size w'.heap.size [] [own shPacket v0 xs0, own shI v1 xs1, own shI v2 xs2, own shPacket v3 xs3] ∧ W.grownBy w' none

set_option maxRecDepth 8000 in
set_option maxHeartbeats 4000000 in
theorem toQueue_d (W : World) (v0 : Value) (v1 : Value) (v2 : Value) (v3 : Value) (xs0 : List DPacket) (xs1 : List Int) (xs2 : List Int) (xs3 : List DPacket) (H0 : RdL shPacket W v0 xs0) (hl0 : szL shPacket xs0 ≤ 1048576) (H1 : RdL shI W v1 xs1) (hl1 : szL shI xs1 ≤ 1048576) (H2 : RdL shI W v2 xs2) (hl2 : szL shI xs2 ≤ 1048576) (H3 : RdL shPacket W v3 xs3) (hl3 : szL shPacket xs3 ≤ 1048576) :
    Calls Try.prog 16 #[vQueue v0 v1 v2 v3] W (NewQueue xs0 xs1 xs2 xs3 W) := by
  have HI0 := Lib.hid H0
  clear H0
  have HI1 := Lib.hid H1
  clear H1
  have HI2 := Lib.hid H2
  clear H2
  have HI3 := Lib.hid H3
  clear H3
  unfold vQueue
  go_enter Try.func16, Try.ntmps16
  have rP1_ := Lib.hid (show ((((W.alloc (.cells #[v0, v1, v2, v3] 27)).alloc (.cells #[.slice none 0 0, .slice none 0 0, .slice none 0 0, .slice none 0 0] 33)).alloc (.cells #[.slice none 0 0, .slice none 0 0, .slice none 0 0, .slice none 0 0] 33))).heap[W.heap.size]? = some (.cells #[v0, v1, v2, v3] 27 (0, 0)) from by rw [heap_alloc_old _ _ (by simp only [World.size_alloc]; omega)]; rw [heap_alloc_old _ _ (by simp only [World.size_alloc]; omega)]; exact heap_alloc_new _ _)
  have rR2_ := Lib.hid (show ((((W.alloc (.cells #[v0, v1, v2, v3] 27)).alloc (.cells #[.slice none 0 0, .slice none 0 0, .slice none 0 0, .slice none 0 0] 33)).alloc (.cells #[.slice none 0 0, .slice none 0 0, .slice none 0 0, .slice none 0 0] 33))).heap[W.heap.size + 1]? = some (.cells #[.slice none 0 0, .slice none 0 0, .slice none 0 0, .slice none 0 0] 33 (0, 0)) from by rw [heap_alloc_old _ _ (by simp only [World.size_alloc]; omega)]; exact heap_pair _ _ _)
  have rX3_ := Lib.hid (show ((((W.alloc (.cells #[v0, v1, v2, v3] 27)).alloc (.cells #[.slice none 0 0, .slice none 0 0, .slice none 0 0, .slice none 0 0] 33)).alloc (.cells #[.slice none 0 0, .slice none 0 0, .slice none 0 0, .slice none 0 0] 33))).heap[W.heap.size + 1 + 1]? = some (.cells #[.slice none 0 0, .slice none 0 0, .slice none 0 0, .slice none 0 0] 33 (0, 0)) from by exact heap_trip _ _ _ _)
  have G4_ := Lib.hid (show (W).grownBy ((((W.alloc (.cells #[v0, v1, v2, v3] 27)).alloc (.cells #[.slice none 0 0, .slice none 0 0, .slice none 0 0, .slice none 0 0] 33)).alloc (.cells #[.slice none 0 0, .slice none 0 0, .slice none 0 0, .slice none 0 0] 33))) none from (gby_alloc (gby_alloc (gby_alloc (gby_refl _ _) _) _) _))
  have P_0_ : ((((W.alloc (.cells #[v0, v1, v2, v3] 27)).alloc (.cells #[.slice none 0 0, .slice none 0 0, .slice none 0 0, .slice none 0 0] 33)).alloc (.cells #[.slice none 0 0, .slice none 0 0, .slice none 0 0, .slice none 0 0] 33))).cell? ⟨W.heap.size, 0, none⟩ = some (v0) := cell_of_row _ _ 0 _ _ _ rP1_.out
  have P_1_ : ((((W.alloc (.cells #[v0, v1, v2, v3] 27)).alloc (.cells #[.slice none 0 0, .slice none 0 0, .slice none 0 0, .slice none 0 0] 33)).alloc (.cells #[.slice none 0 0, .slice none 0 0, .slice none 0 0, .slice none 0 0] 33))).cell? ⟨W.heap.size, 1, none⟩ = some (v1) := cell_of_row _ _ 1 _ _ _ rP1_.out
  have P_2_ : ((((W.alloc (.cells #[v0, v1, v2, v3] 27)).alloc (.cells #[.slice none 0 0, .slice none 0 0, .slice none 0 0, .slice none 0 0] 33)).alloc (.cells #[.slice none 0 0, .slice none 0 0, .slice none 0 0, .slice none 0 0] 33))).cell? ⟨W.heap.size, 2, none⟩ = some (v2) := cell_of_row _ _ 2 _ _ _ rP1_.out
  have P_3_ : ((((W.alloc (.cells #[v0, v1, v2, v3] 27)).alloc (.cells #[.slice none 0 0, .slice none 0 0, .slice none 0 0, .slice none 0 0] 33)).alloc (.cells #[.slice none 0 0, .slice none 0 0, .slice none 0 0, .slice none 0 0] 33))).cell? ⟨W.heap.size, 3, none⟩ = some (v3) := cell_of_row _ _ 3 _ _ _ rP1_.out
  have R_0_ : ((((W.alloc (.cells #[v0, v1, v2, v3] 27)).alloc (.cells #[.slice none 0 0, .slice none 0 0, .slice none 0 0, .slice none 0 0] 33)).alloc (.cells #[.slice none 0 0, .slice none 0 0, .slice none 0 0, .slice none 0 0] 33))).cell? ⟨W.heap.size + 1, 0, none⟩ = some (.slice none 0 0) := cell_of_row _ _ 0 _ _ _ rR2_.out
  have R_1_ : ((((W.alloc (.cells #[v0, v1, v2, v3] 27)).alloc (.cells #[.slice none 0 0, .slice none 0 0, .slice none 0 0, .slice none 0 0] 33)).alloc (.cells #[.slice none 0 0, .slice none 0 0, .slice none 0 0, .slice none 0 0] 33))).cell? ⟨W.heap.size + 1, 1, none⟩ = some (.slice none 0 0) := cell_of_row _ _ 1 _ _ _ rR2_.out
  have R_2_ : ((((W.alloc (.cells #[v0, v1, v2, v3] 27)).alloc (.cells #[.slice none 0 0, .slice none 0 0, .slice none 0 0, .slice none 0 0] 33)).alloc (.cells #[.slice none 0 0, .slice none 0 0, .slice none 0 0, .slice none 0 0] 33))).cell? ⟨W.heap.size + 1, 2, none⟩ = some (.slice none 0 0) := cell_of_row _ _ 2 _ _ _ rR2_.out
  have R_3_ : ((((W.alloc (.cells #[v0, v1, v2, v3] 27)).alloc (.cells #[.slice none 0 0, .slice none 0 0, .slice none 0 0, .slice none 0 0] 33)).alloc (.cells #[.slice none 0 0, .slice none 0 0, .slice none 0 0, .slice none 0 0] 33))).cell? ⟨W.heap.size + 1, 3, none⟩ = some (.slice none 0 0) := cell_of_row _ _ 3 _ _ _ rR2_.out
  have X_0_ : ((((W.alloc (.cells #[v0, v1, v2, v3] 27)).alloc (.cells #[.slice none 0 0, .slice none 0 0, .slice none 0 0, .slice none 0 0] 33)).alloc (.cells #[.slice none 0 0, .slice none 0 0, .slice none 0 0, .slice none 0 0] 33))).cell? ⟨W.heap.size + 1 + 1, 0, none⟩ = some (.slice none 0 0) := cell_of_row _ _ 0 _ _ _ rX3_.out
  have X_1_ : ((((W.alloc (.cells #[v0, v1, v2, v3] 27)).alloc (.cells #[.slice none 0 0, .slice none 0 0, .slice none 0 0, .slice none 0 0] 33)).alloc (.cells #[.slice none 0 0, .slice none 0 0, .slice none 0 0, .slice none 0 0] 33))).cell? ⟨W.heap.size + 1 + 1, 1, none⟩ = some (.slice none 0 0) := cell_of_row _ _ 1 _ _ _ rX3_.out
  have X_2_ : ((((W.alloc (.cells #[v0, v1, v2, v3] 27)).alloc (.cells #[.slice none 0 0, .slice none 0 0, .slice none 0 0, .slice none 0 0] 33)).alloc (.cells #[.slice none 0 0, .slice none 0 0, .slice none 0 0, .slice none 0 0] 33))).cell? ⟨W.heap.size + 1 + 1, 2, none⟩ = some (.slice none 0 0) := cell_of_row _ _ 2 _ _ _ rX3_.out
  have X_3_ : ((((W.alloc (.cells #[v0, v1, v2, v3] 27)).alloc (.cells #[.slice none 0 0, .slice none 0 0, .slice none 0 0, .slice none 0 0] 33)).alloc (.cells #[.slice none 0 0, .slice none 0 0, .slice none 0 0, .slice none 0 0] 33))).cell? ⟨W.heap.size + 1 + 1, 3, none⟩ = some (.slice none 0 0) := cell_of_row _ _ 3 _ _ _ rX3_.out
  have Xf0_ : ((((W.alloc (.cells #[v0, v1, v2, v3] 27)).alloc (.cells #[.slice none 0 0, .slice none 0 0, .slice none 0 0, .slice none 0 0] 33)).alloc (.cells #[.slice none 0 0, .slice none 0 0, .slice none 0 0, .slice none 0 0] 33))).frozen? ⟨W.heap.size + 1 + 1, 0, none⟩ = false := frozen_of_row _ _ 0 _ _ rX3_.out
  have Xf1_ : ((((W.alloc (.cells #[v0, v1, v2, v3] 27)).alloc (.cells #[.slice none 0 0, .slice none 0 0, .slice none 0 0, .slice none 0 0] 33)).alloc (.cells #[.slice none 0 0, .slice none 0 0, .slice none 0 0, .slice none 0 0] 33))).frozen? ⟨W.heap.size + 1 + 1, 1, none⟩ = false := frozen_of_row _ _ 1 _ _ rX3_.out
  have Xf2_ : ((((W.alloc (.cells #[v0, v1, v2, v3] 27)).alloc (.cells #[.slice none 0 0, .slice none 0 0, .slice none 0 0, .slice none 0 0] 33)).alloc (.cells #[.slice none 0 0, .slice none 0 0, .slice none 0 0, .slice none 0 0] 33))).frozen? ⟨W.heap.size + 1 + 1, 2, none⟩ = false := frozen_of_row _ _ 2 _ _ rX3_.out
  have Xf3_ : ((((W.alloc (.cells #[v0, v1, v2, v3] 27)).alloc (.cells #[.slice none 0 0, .slice none 0 0, .slice none 0 0, .slice none 0 0] 33)).alloc (.cells #[.slice none 0 0, .slice none 0 0, .slice none 0 0, .slice none 0 0] 33))).frozen? ⟨W.heap.size + 1 + 1, 3, none⟩ = false := frozen_of_row _ _ 3 _ _ rX3_.out
  go_wp2_with fail
  go_at_call 23
  clear P_0_ P_1_ P_2_ P_3_ R_0_ R_1_ R_2_ R_3_ X_0_ X_1_ X_2_ X_3_ Xf0_ Xf1_ Xf2_ Xf3_
  refine (toPacketS_d _ v0 xs0 (HI0.out.grow G4_.out) hl0).mono ?_
  rintro e w1 ⟨d0, rfl, o, g⟩
  have sz0 := g.size
  first | simp only [World.size_alloc] at sz0 | simp only [World.size_setCell] at sz0 | skip
  first | simp only [World.size_alloc] at o | simp only [World.size_setCell] at o | skip
  have rP5_ := Lib.hid (show (w1).heap[W.heap.size]? = some (.cells #[v0, v1, v2, v3] 27 (0, 0)) from row_held g rP1_.out)
  clear rP1_
  have rR6_ := Lib.hid (show (w1).heap[W.heap.size + 1]? = some (.cells #[.slice none 0 0, .slice none 0 0, .slice none 0 0, .slice none 0 0] 33 (0, 0)) from row_held g rR2_.out)
  clear rR2_
  have rX7_ := Lib.hid (show (w1).heap[W.heap.size + 1 + 1]? = some (.cells #[.slice none 0 0, .slice none 0 0, .slice none 0 0, .slice none 0 0] 33 (0, 0)) from row_held g rX3_.out)
  clear rX3_
  have G8_ := Lib.hid (show (W).grownBy (w1) none from gby_trans G4_.out g)
  clear g
  obtain ⟨p0_, n0_, c0_, hv0_⟩ := RdL.form (OwL.rd o)
  subst hv0_
  have o09_ := Lib.hid (show OwU (w1) (W.heap.size + 1 + 1 + 1) (w1.heap.size) [] [own shPacket (.slice p0_ n0_ c0_) xs0] from OwU.one o)
  clear o
  have P_0_ : (w1).cell? ⟨W.heap.size, 0, none⟩ = some (v0) := cell_of_row _ _ 0 _ _ _ rP5_.out
  have P_1_ : (w1).cell? ⟨W.heap.size, 1, none⟩ = some (v1) := cell_of_row _ _ 1 _ _ _ rP5_.out
  have P_2_ : (w1).cell? ⟨W.heap.size, 2, none⟩ = some (v2) := cell_of_row _ _ 2 _ _ _ rP5_.out
  have P_3_ : (w1).cell? ⟨W.heap.size, 3, none⟩ = some (v3) := cell_of_row _ _ 3 _ _ _ rP5_.out
  have R_0_ : (w1).cell? ⟨W.heap.size + 1, 0, none⟩ = some (.slice none 0 0) := cell_of_row _ _ 0 _ _ _ rR6_.out
  have R_1_ : (w1).cell? ⟨W.heap.size + 1, 1, none⟩ = some (.slice none 0 0) := cell_of_row _ _ 1 _ _ _ rR6_.out
  have R_2_ : (w1).cell? ⟨W.heap.size + 1, 2, none⟩ = some (.slice none 0 0) := cell_of_row _ _ 2 _ _ _ rR6_.out
  have R_3_ : (w1).cell? ⟨W.heap.size + 1, 3, none⟩ = some (.slice none 0 0) := cell_of_row _ _ 3 _ _ _ rR6_.out
  have X_0_ : (w1).cell? ⟨W.heap.size + 1 + 1, 0, none⟩ = some (.slice none 0 0) := cell_of_row _ _ 0 _ _ _ rX7_.out
  have X_1_ : (w1).cell? ⟨W.heap.size + 1 + 1, 1, none⟩ = some (.slice none 0 0) := cell_of_row _ _ 1 _ _ _ rX7_.out
  have X_2_ : (w1).cell? ⟨W.heap.size + 1 + 1, 2, none⟩ = some (.slice none 0 0) := cell_of_row _ _ 2 _ _ _ rX7_.out
  have X_3_ : (w1).cell? ⟨W.heap.size + 1 + 1, 3, none⟩ = some (.slice none 0 0) := cell_of_row _ _ 3 _ _ _ rX7_.out
  have Xf0_ : (w1).frozen? ⟨W.heap.size + 1 + 1, 0, none⟩ = false := frozen_of_row _ _ 0 _ _ rX7_.out
  have Xf1_ : (w1).frozen? ⟨W.heap.size + 1 + 1, 1, none⟩ = false := frozen_of_row _ _ 1 _ _ rX7_.out
  have Xf2_ : (w1).frozen? ⟨W.heap.size + 1 + 1, 2, none⟩ = false := frozen_of_row _ _ 2 _ _ rX7_.out
  have Xf3_ : (w1).frozen? ⟨W.heap.size + 1 + 1, 3, none⟩ = false := frozen_of_row _ _ 3 _ _ rX7_.out
  go_wp2_with fail
  go_at_call 62
  clear P_0_ P_1_ P_2_ P_3_ R_0_ R_1_ R_2_ R_3_ X_0_ X_1_ X_2_ X_3_ Xf0_ Xf1_ Xf2_ Xf3_
  have rP10_ := Lib.hid (show ((w1.setCell ⟨W.heap.size + 1 + 1, 0, none⟩ ((.slice p0_ n0_ c0_)))).heap[W.heap.size]? = some (.cells #[v0, v1, v2, v3] 27 (0, 0)) from (set_far rP5_.out (by dsimp only; omega)))
  clear rP5_
  have rR11_ := Lib.hid (show ((w1.setCell ⟨W.heap.size + 1 + 1, 0, none⟩ ((.slice p0_ n0_ c0_)))).heap[W.heap.size + 1]? = some (.cells #[.slice none 0 0, .slice none 0 0, .slice none 0 0, .slice none 0 0] 33 (0, 0)) from (set_far rR6_.out (by dsimp only; omega)))
  clear rR6_
  have rX12_ := Lib.hid (show ((w1.setCell ⟨W.heap.size + 1 + 1, 0, none⟩ ((.slice p0_ n0_ c0_)))).heap[W.heap.size + 1 + 1]? = some (.cells #[(.slice p0_ n0_ c0_), .slice none 0 0, .slice none 0 0, .slice none 0 0] 33 (0, 0)) from (heap_setCell_same _ _ 0 _ _ _ rX7_.out))
  clear rX7_
  have o013_ := Lib.hid (show OwU ((w1.setCell ⟨W.heap.size + 1 + 1, 0, none⟩ ((.slice p0_ n0_ c0_)))) (W.heap.size + 1 + 1 + 1) (w1.heap.size) [] [own shPacket (.slice p0_ n0_ c0_) xs0] from (OwU.keep (chg_one _ _ _ _) (by omega) o09_.out))
  clear o09_
  have G14_ := Lib.hid (show (W).grownBy ((w1.setCell ⟨W.heap.size + 1 + 1, 0, none⟩ ((.slice p0_ n0_ c0_)))) none from (gby_setnew G8_.out _ (by dsimp only; omega) _))
  refine (toCredits_d _ v1 v2 xs1 xs2 (HI1.out.grow G14_.out) hl1 (HI2.out.grow G14_.out) hl2).mono ?_
  rintro e w2 ⟨d1, d2, rfl, o, g⟩
  have sz1 := g.size
  first | simp only [World.size_alloc] at sz1 | simp only [World.size_setCell] at sz1 | skip
  first | simp only [World.size_alloc] at o | simp only [World.size_setCell] at o | skip
  have rP15_ := Lib.hid (show (w2).heap[W.heap.size]? = some (.cells #[v0, v1, v2, v3] 27 (0, 0)) from row_held g rP10_.out)
  clear rP10_
  have rR16_ := Lib.hid (show (w2).heap[W.heap.size + 1]? = some (.cells #[.slice none 0 0, .slice none 0 0, .slice none 0 0, .slice none 0 0] 33 (0, 0)) from row_held g rR11_.out)
  clear rR11_
  have rX17_ := Lib.hid (show (w2).heap[W.heap.size + 1 + 1]? = some (.cells #[(.slice p0_ n0_ c0_), .slice none 0 0, .slice none 0 0, .slice none 0 0] 33 (0, 0)) from row_held g rX12_.out)
  clear rX12_
  have o018_ := Lib.hid (show OwU (w2) (W.heap.size + 1 + 1 + 1) (w1.heap.size) [] [own shPacket (.slice p0_ n0_ c0_) xs0] from OwU.grow o013_.out g)
  clear o013_
  have G19_ := Lib.hid (show (W).grownBy (w2) none from gby_trans G14_.out g)
  clear g
  obtain ⟨p1_, n1_, c1_, hv1_⟩ := RdL.form (OwU.rd o)
  subst hv1_
  obtain ⟨p2_, n2_, c2_, hv2_⟩ := RdL.form (OwU.rd (OwU.tail o))
  subst hv2_
  have o120_ := Lib.hid (show OwU (w2) (w1.heap.size) (w2.heap.size) [] [own shI (.slice p1_ n1_ c1_) xs1, own shI (.slice p2_ n2_ c2_) xs2] from o)
  clear o
  try unfold vCredits
  have P_0_ : (w2).cell? ⟨W.heap.size, 0, none⟩ = some (v0) := cell_of_row _ _ 0 _ _ _ rP15_.out
  have P_1_ : (w2).cell? ⟨W.heap.size, 1, none⟩ = some (v1) := cell_of_row _ _ 1 _ _ _ rP15_.out
  have P_2_ : (w2).cell? ⟨W.heap.size, 2, none⟩ = some (v2) := cell_of_row _ _ 2 _ _ _ rP15_.out
  have P_3_ : (w2).cell? ⟨W.heap.size, 3, none⟩ = some (v3) := cell_of_row _ _ 3 _ _ _ rP15_.out
  have R_0_ : (w2).cell? ⟨W.heap.size + 1, 0, none⟩ = some (.slice none 0 0) := cell_of_row _ _ 0 _ _ _ rR16_.out
  have R_1_ : (w2).cell? ⟨W.heap.size + 1, 1, none⟩ = some (.slice none 0 0) := cell_of_row _ _ 1 _ _ _ rR16_.out
  have R_2_ : (w2).cell? ⟨W.heap.size + 1, 2, none⟩ = some (.slice none 0 0) := cell_of_row _ _ 2 _ _ _ rR16_.out
  have R_3_ : (w2).cell? ⟨W.heap.size + 1, 3, none⟩ = some (.slice none 0 0) := cell_of_row _ _ 3 _ _ _ rR16_.out
  have X_0_ : (w2).cell? ⟨W.heap.size + 1 + 1, 0, none⟩ = some ((.slice p0_ n0_ c0_)) := cell_of_row _ _ 0 _ _ _ rX17_.out
  have X_1_ : (w2).cell? ⟨W.heap.size + 1 + 1, 1, none⟩ = some (.slice none 0 0) := cell_of_row _ _ 1 _ _ _ rX17_.out
  have X_2_ : (w2).cell? ⟨W.heap.size + 1 + 1, 2, none⟩ = some (.slice none 0 0) := cell_of_row _ _ 2 _ _ _ rX17_.out
  have X_3_ : (w2).cell? ⟨W.heap.size + 1 + 1, 3, none⟩ = some (.slice none 0 0) := cell_of_row _ _ 3 _ _ _ rX17_.out
  have Xf0_ : (w2).frozen? ⟨W.heap.size + 1 + 1, 0, none⟩ = false := frozen_of_row _ _ 0 _ _ rX17_.out
  have Xf1_ : (w2).frozen? ⟨W.heap.size + 1 + 1, 1, none⟩ = false := frozen_of_row _ _ 1 _ _ rX17_.out
  have Xf2_ : (w2).frozen? ⟨W.heap.size + 1 + 1, 2, none⟩ = false := frozen_of_row _ _ 2 _ _ rX17_.out
  have Xf3_ : (w2).frozen? ⟨W.heap.size + 1 + 1, 3, none⟩ = false := frozen_of_row _ _ 3 _ _ rX17_.out
  go_wp2_with fail
  go_at_call 23
  clear P_0_ P_1_ P_2_ P_3_ R_0_ R_1_ R_2_ R_3_ X_0_ X_1_ X_2_ X_3_ Xf0_ Xf1_ Xf2_ Xf3_
  have rP21_ := Lib.hid (show (((w2.setCell ⟨W.heap.size + 1 + 1, 1, none⟩ ((.slice p1_ n1_ c1_))).setCell ⟨W.heap.size + 1 + 1, 2, none⟩ ((.slice p2_ n2_ c2_)))).heap[W.heap.size]? = some (.cells #[v0, v1, v2, v3] 27 (0, 0)) from (set_far (set_far rP15_.out (by dsimp only; omega)) (by dsimp only; omega)))
  clear rP15_
  have rR22_ := Lib.hid (show (((w2.setCell ⟨W.heap.size + 1 + 1, 1, none⟩ ((.slice p1_ n1_ c1_))).setCell ⟨W.heap.size + 1 + 1, 2, none⟩ ((.slice p2_ n2_ c2_)))).heap[W.heap.size + 1]? = some (.cells #[.slice none 0 0, .slice none 0 0, .slice none 0 0, .slice none 0 0] 33 (0, 0)) from (set_far (set_far rR16_.out (by dsimp only; omega)) (by dsimp only; omega)))
  clear rR16_
  have rX23_ := Lib.hid (show (((w2.setCell ⟨W.heap.size + 1 + 1, 1, none⟩ ((.slice p1_ n1_ c1_))).setCell ⟨W.heap.size + 1 + 1, 2, none⟩ ((.slice p2_ n2_ c2_)))).heap[W.heap.size + 1 + 1]? = some (.cells #[(.slice p0_ n0_ c0_), (.slice p1_ n1_ c1_), (.slice p2_ n2_ c2_), .slice none 0 0] 33 (0, 0)) from (heap_setCell_same _ _ 2 _ _ _ (heap_setCell_same _ _ 1 _ _ _ rX17_.out)))
  clear rX17_
  have o024_ := Lib.hid (show OwU (((w2.setCell ⟨W.heap.size + 1 + 1, 1, none⟩ ((.slice p1_ n1_ c1_))).setCell ⟨W.heap.size + 1 + 1, 2, none⟩ ((.slice p2_ n2_ c2_)))) (W.heap.size + 1 + 1 + 1) (w1.heap.size) [] [own shPacket (.slice p0_ n0_ c0_) xs0] from (OwU.keep (chg_one _ _ _ _) (by omega) (OwU.keep (chg_one _ _ _ _) (by omega) o018_.out)))
  clear o018_
  have o125_ := Lib.hid (show OwU (((w2.setCell ⟨W.heap.size + 1 + 1, 1, none⟩ ((.slice p1_ n1_ c1_))).setCell ⟨W.heap.size + 1 + 1, 2, none⟩ ((.slice p2_ n2_ c2_)))) (w1.heap.size) (w2.heap.size) [] [own shI (.slice p1_ n1_ c1_) xs1, own shI (.slice p2_ n2_ c2_) xs2] from (OwU.keep (chg_one _ _ _ _) (by omega) (OwU.keep (chg_one _ _ _ _) (by omega) o120_.out)))
  clear o120_
  have G26_ := Lib.hid (show (W).grownBy (((w2.setCell ⟨W.heap.size + 1 + 1, 1, none⟩ ((.slice p1_ n1_ c1_))).setCell ⟨W.heap.size + 1 + 1, 2, none⟩ ((.slice p2_ n2_ c2_)))) none from (gby_setnew (gby_setnew G19_.out _ (by dsimp only; omega) _) _ (by dsimp only; omega) _))
  refine (toPacketS_d _ v3 xs3 (HI3.out.grow G26_.out) hl3).mono ?_
  rintro e w3 ⟨d3, rfl, o, g⟩
  have sz3 := g.size
  first | simp only [World.size_alloc] at sz3 | simp only [World.size_setCell] at sz3 | skip
  first | simp only [World.size_alloc] at o | simp only [World.size_setCell] at o | skip
  have rP27_ := Lib.hid (show (w3).heap[W.heap.size]? = some (.cells #[v0, v1, v2, v3] 27 (0, 0)) from row_held g rP21_.out)
  clear rP21_
  have rR28_ := Lib.hid (show (w3).heap[W.heap.size + 1]? = some (.cells #[.slice none 0 0, .slice none 0 0, .slice none 0 0, .slice none 0 0] 33 (0, 0)) from row_held g rR22_.out)
  clear rR22_
  have rX29_ := Lib.hid (show (w3).heap[W.heap.size + 1 + 1]? = some (.cells #[(.slice p0_ n0_ c0_), (.slice p1_ n1_ c1_), (.slice p2_ n2_ c2_), .slice none 0 0] 33 (0, 0)) from row_held g rX23_.out)
  clear rX23_
  have o030_ := Lib.hid (show OwU (w3) (W.heap.size + 1 + 1 + 1) (w1.heap.size) [] [own shPacket (.slice p0_ n0_ c0_) xs0] from OwU.grow o024_.out g)
  clear o024_
  have o131_ := Lib.hid (show OwU (w3) (w1.heap.size) (w2.heap.size) [] [own shI (.slice p1_ n1_ c1_) xs1, own shI (.slice p2_ n2_ c2_) xs2] from OwU.grow o125_.out g)
  clear o125_
  have G32_ := Lib.hid (show (W).grownBy (w3) none from gby_trans G26_.out g)
  clear g
  obtain ⟨p3_, n3_, c3_, hv3_⟩ := RdL.form (OwL.rd o)
  subst hv3_
  have o333_ := Lib.hid (show OwU (w3) (w2.heap.size) (w3.heap.size) [] [own shPacket (.slice p3_ n3_ c3_) xs3] from OwU.one o)
  clear o
  have P_0_ : (w3).cell? ⟨W.heap.size, 0, none⟩ = some (v0) := cell_of_row _ _ 0 _ _ _ rP27_.out
  have P_1_ : (w3).cell? ⟨W.heap.size, 1, none⟩ = some (v1) := cell_of_row _ _ 1 _ _ _ rP27_.out
  have P_2_ : (w3).cell? ⟨W.heap.size, 2, none⟩ = some (v2) := cell_of_row _ _ 2 _ _ _ rP27_.out
  have P_3_ : (w3).cell? ⟨W.heap.size, 3, none⟩ = some (v3) := cell_of_row _ _ 3 _ _ _ rP27_.out
  have R_0_ : (w3).cell? ⟨W.heap.size + 1, 0, none⟩ = some (.slice none 0 0) := cell_of_row _ _ 0 _ _ _ rR28_.out
  have R_1_ : (w3).cell? ⟨W.heap.size + 1, 1, none⟩ = some (.slice none 0 0) := cell_of_row _ _ 1 _ _ _ rR28_.out
  have R_2_ : (w3).cell? ⟨W.heap.size + 1, 2, none⟩ = some (.slice none 0 0) := cell_of_row _ _ 2 _ _ _ rR28_.out
  have R_3_ : (w3).cell? ⟨W.heap.size + 1, 3, none⟩ = some (.slice none 0 0) := cell_of_row _ _ 3 _ _ _ rR28_.out
  have Rf0_ : (w3).frozen? ⟨W.heap.size + 1, 0, none⟩ = false := frozen_of_row _ _ 0 _ _ rR28_.out
  have Rf1_ : (w3).frozen? ⟨W.heap.size + 1, 1, none⟩ = false := frozen_of_row _ _ 1 _ _ rR28_.out
  have Rf2_ : (w3).frozen? ⟨W.heap.size + 1, 2, none⟩ = false := frozen_of_row _ _ 2 _ _ rR28_.out
  have Rf3_ : (w3).frozen? ⟨W.heap.size + 1, 3, none⟩ = false := frozen_of_row _ _ 3 _ _ rR28_.out
  have X_0_ : (w3).cell? ⟨W.heap.size + 1 + 1, 0, none⟩ = some ((.slice p0_ n0_ c0_)) := cell_of_row _ _ 0 _ _ _ rX29_.out
  have X_1_ : (w3).cell? ⟨W.heap.size + 1 + 1, 1, none⟩ = some ((.slice p1_ n1_ c1_)) := cell_of_row _ _ 1 _ _ _ rX29_.out
  have X_2_ : (w3).cell? ⟨W.heap.size + 1 + 1, 2, none⟩ = some ((.slice p2_ n2_ c2_)) := cell_of_row _ _ 2 _ _ _ rX29_.out
  have X_3_ : (w3).cell? ⟨W.heap.size + 1 + 1, 3, none⟩ = some (.slice none 0 0) := cell_of_row _ _ 3 _ _ _ rX29_.out
  have Xf0_ : (w3).frozen? ⟨W.heap.size + 1 + 1, 0, none⟩ = false := frozen_of_row _ _ 0 _ _ rX29_.out
  have Xf1_ : (w3).frozen? ⟨W.heap.size + 1 + 1, 1, none⟩ = false := frozen_of_row _ _ 1 _ _ rX29_.out
  have Xf2_ : (w3).frozen? ⟨W.heap.size + 1 + 1, 2, none⟩ = false := frozen_of_row _ _ 2 _ _ rX29_.out
  have Xf3_ : (w3).frozen? ⟨W.heap.size + 1 + 1, 3, none⟩ = false := frozen_of_row _ _ 3 _ _ rX29_.out
  go_wp2
  refine bodyPost_ret (v := vQueue (.slice p0_ n0_ c0_) (.slice p1_ n1_ c1_) (.slice p2_ n2_ c2_) (.slice p3_ n3_ c3_)) (by simp [results, go_sem, vQueue, R_0_, R_1_, R_2_, R_3_]) rfl ⟨(.slice p0_ n0_ c0_), (.slice p1_ n1_ c1_), (.slice p2_ n2_ c2_), (.slice p3_ n3_ c3_), rfl, ?_, ?_⟩
  · refine OwU.wide (lo := W.heap.size + 1 + 1 + 1) (hi := w3.heap.size) (by omega) (by simp) (OwU.keep (w := w3) (lo' := W.heap.size) (hi' := W.heap.size + 3) ?_ (.inr (by omega)) ?_)
    · repeat (with_reducible refine chg_setp ?_ _ (by dsimp only; omega) (by dsimp only; omega) _)
      exact chg_gby (gby_refl _ _) _ _
    · exact OwU.app (by omega) (by omega) o030_.out (OwU.app (by omega) (by omega) o131_.out (o333_.out))
  · repeat (with_reducible refine gby_setnew ?_ _ (by dsimp only; omega) _)
    exact G32_.out

set_option maxRecDepth 8000 in
set_option maxHeartbeats 2000000 in
theorem eqQueue_d (W : World) (v0 : Value) (v1 : Value) (v2 : Value) (v3 : Value) (v0' : Value) (v1' : Value) (v2' : Value) (v3' : Value) (xs0 : List DPacket) (xs1 : List Int) (xs2 : List Int) (xs3 : List DPacket) (H0 : RdL shPacket W v0 xs0) (K0 : RdL shPacket W v0' xs0) (hl0 : szL shPacket xs0 ≤ 1048576) (H1 : RdL shI W v1 xs1) (K1 : RdL shI W v1' xs1) (hl1 : szL shI xs1 ≤ 1048576) (H2 : RdL shI W v2 xs2) (K2 : RdL shI W v2' xs2) (hl2 : szL shI xs2 ≤ 1048576) (H3 : RdL shPacket W v3 xs3) (K3 : RdL shPacket W v3' xs3) (hl3 : szL shPacket xs3 ≤ 1048576) :
    Calls Try.prog 18 #[vQueue v0 v1 v2 v3, vQueue v0' v1' v2' v3'] W (AnsN (.bool true) W) := by
  have HI0 := Lib.hid H0
  have HJ0 := Lib.hid K0
  clear H0 K0
  have HI1 := Lib.hid H1
  have HJ1 := Lib.hid K1
  clear H1 K1
  have HI2 := Lib.hid H2
  have HJ2 := Lib.hid K2
  clear H2 K2
  have HI3 := Lib.hid H3
  have HJ3 := Lib.hid K3
  clear H3 K3
  unfold vQueue
  go_enter Try.func18, Try.ntmps18
  have rP1_ := Lib.hid (show (((W.alloc (.cells #[v0, v1, v2, v3] 33)).alloc (.cells #[v0', v1', v2', v3'] 33))).heap[W.heap.size]? = some (.cells #[v0, v1, v2, v3] 33 (0, 0)) from by rw [heap_alloc_old _ _ (by simp only [World.size_alloc]; omega)]; exact heap_alloc_new _ _)
  have rQ2_ := Lib.hid (show (((W.alloc (.cells #[v0, v1, v2, v3] 33)).alloc (.cells #[v0', v1', v2', v3'] 33))).heap[W.heap.size + 1]? = some (.cells #[v0', v1', v2', v3'] 33 (0, 0)) from by exact heap_pair _ _ _)
  have G3_ := Lib.hid (show (W).grownBy (((W.alloc (.cells #[v0, v1, v2, v3] 33)).alloc (.cells #[v0', v1', v2', v3'] 33))) none from (gby_alloc (gby_alloc (gby_refl _ _) _) _))
  have P_0_ : (((W.alloc (.cells #[v0, v1, v2, v3] 33)).alloc (.cells #[v0', v1', v2', v3'] 33))).cell? ⟨W.heap.size, 0, none⟩ = some (v0) := cell_of_row _ _ 0 _ _ _ rP1_.out
  have P_1_ : (((W.alloc (.cells #[v0, v1, v2, v3] 33)).alloc (.cells #[v0', v1', v2', v3'] 33))).cell? ⟨W.heap.size, 1, none⟩ = some (v1) := cell_of_row _ _ 1 _ _ _ rP1_.out
  have P_2_ : (((W.alloc (.cells #[v0, v1, v2, v3] 33)).alloc (.cells #[v0', v1', v2', v3'] 33))).cell? ⟨W.heap.size, 2, none⟩ = some (v2) := cell_of_row _ _ 2 _ _ _ rP1_.out
  have P_3_ : (((W.alloc (.cells #[v0, v1, v2, v3] 33)).alloc (.cells #[v0', v1', v2', v3'] 33))).cell? ⟨W.heap.size, 3, none⟩ = some (v3) := cell_of_row _ _ 3 _ _ _ rP1_.out
  have Q_0_ : (((W.alloc (.cells #[v0, v1, v2, v3] 33)).alloc (.cells #[v0', v1', v2', v3'] 33))).cell? ⟨W.heap.size + 1, 0, none⟩ = some (v0') := cell_of_row _ _ 0 _ _ _ rQ2_.out
  have Q_1_ : (((W.alloc (.cells #[v0, v1, v2, v3] 33)).alloc (.cells #[v0', v1', v2', v3'] 33))).cell? ⟨W.heap.size + 1, 1, none⟩ = some (v1') := cell_of_row _ _ 1 _ _ _ rQ2_.out
  have Q_2_ : (((W.alloc (.cells #[v0, v1, v2, v3] 33)).alloc (.cells #[v0', v1', v2', v3'] 33))).cell? ⟨W.heap.size + 1, 2, none⟩ = some (v2') := cell_of_row _ _ 2 _ _ _ rQ2_.out
  have Q_3_ : (((W.alloc (.cells #[v0, v1, v2, v3] 33)).alloc (.cells #[v0', v1', v2', v3'] 33))).cell? ⟨W.heap.size + 1, 3, none⟩ = some (v3') := cell_of_row _ _ 3 _ _ _ rQ2_.out
  go_wp2_with fail
  go_at_call 26
  refine (eqPacketS_d _ v0 v0' xs0 (HI0.out.grow G3_.out) (HJ0.out.grow G3_.out) hl0).mono ?_
  rintro e w1 ⟨rfl, g⟩
  clear P_0_ P_1_ P_2_ P_3_ Q_0_ Q_1_ Q_2_ Q_3_
  have rP4_ := Lib.hid (show (w1).heap[W.heap.size]? = some (.cells #[v0, v1, v2, v3] 33 (0, 0)) from row_held g rP1_.out)
  clear rP1_
  have rQ5_ := Lib.hid (show (w1).heap[W.heap.size + 1]? = some (.cells #[v0', v1', v2', v3'] 33 (0, 0)) from row_held g rQ2_.out)
  clear rQ2_
  have G6_ := Lib.hid (show (W).grownBy (w1) none from gby_trans G3_.out g)
  clear g
  have P_0_ : (w1).cell? ⟨W.heap.size, 0, none⟩ = some (v0) := cell_of_row _ _ 0 _ _ _ rP4_.out
  have P_1_ : (w1).cell? ⟨W.heap.size, 1, none⟩ = some (v1) := cell_of_row _ _ 1 _ _ _ rP4_.out
  have P_2_ : (w1).cell? ⟨W.heap.size, 2, none⟩ = some (v2) := cell_of_row _ _ 2 _ _ _ rP4_.out
  have P_3_ : (w1).cell? ⟨W.heap.size, 3, none⟩ = some (v3) := cell_of_row _ _ 3 _ _ _ rP4_.out
  have Q_0_ : (w1).cell? ⟨W.heap.size + 1, 0, none⟩ = some (v0') := cell_of_row _ _ 0 _ _ _ rQ5_.out
  have Q_1_ : (w1).cell? ⟨W.heap.size + 1, 1, none⟩ = some (v1') := cell_of_row _ _ 1 _ _ _ rQ5_.out
  have Q_2_ : (w1).cell? ⟨W.heap.size + 1, 2, none⟩ = some (v2') := cell_of_row _ _ 2 _ _ _ rQ5_.out
  have Q_3_ : (w1).cell? ⟨W.heap.size + 1, 3, none⟩ = some (v3') := cell_of_row _ _ 3 _ _ _ rQ5_.out
  go_wp2_with fail
  go_at_call 65
  refine (eqCredits_d _ v1 v2 v1' v2' xs1 xs2 (HI1.out.grow G6_.out) (HJ1.out.grow G6_.out) hl1 (HI2.out.grow G6_.out) (HJ2.out.grow G6_.out) hl2).mono ?_
  rintro e w2 ⟨rfl, g⟩
  clear P_0_ P_1_ P_2_ P_3_ Q_0_ Q_1_ Q_2_ Q_3_
  have rP7_ := Lib.hid (show (w2).heap[W.heap.size]? = some (.cells #[v0, v1, v2, v3] 33 (0, 0)) from row_held g rP4_.out)
  clear rP4_
  have rQ8_ := Lib.hid (show (w2).heap[W.heap.size + 1]? = some (.cells #[v0', v1', v2', v3'] 33 (0, 0)) from row_held g rQ5_.out)
  clear rQ5_
  have G9_ := Lib.hid (show (W).grownBy (w2) none from gby_trans G6_.out g)
  clear g
  have P_0_ : (w2).cell? ⟨W.heap.size, 0, none⟩ = some (v0) := cell_of_row _ _ 0 _ _ _ rP7_.out
  have P_1_ : (w2).cell? ⟨W.heap.size, 1, none⟩ = some (v1) := cell_of_row _ _ 1 _ _ _ rP7_.out
  have P_2_ : (w2).cell? ⟨W.heap.size, 2, none⟩ = some (v2) := cell_of_row _ _ 2 _ _ _ rP7_.out
  have P_3_ : (w2).cell? ⟨W.heap.size, 3, none⟩ = some (v3) := cell_of_row _ _ 3 _ _ _ rP7_.out
  have Q_0_ : (w2).cell? ⟨W.heap.size + 1, 0, none⟩ = some (v0') := cell_of_row _ _ 0 _ _ _ rQ8_.out
  have Q_1_ : (w2).cell? ⟨W.heap.size + 1, 1, none⟩ = some (v1') := cell_of_row _ _ 1 _ _ _ rQ8_.out
  have Q_2_ : (w2).cell? ⟨W.heap.size + 1, 2, none⟩ = some (v2') := cell_of_row _ _ 2 _ _ _ rQ8_.out
  have Q_3_ : (w2).cell? ⟨W.heap.size + 1, 3, none⟩ = some (v3') := cell_of_row _ _ 3 _ _ _ rQ8_.out
  go_wp2_with fail
  go_at_call 26
  refine (eqPacketS_d _ v3 v3' xs3 (HI3.out.grow G9_.out) (HJ3.out.grow G9_.out) hl3).mono ?_
  rintro e w3 ⟨rfl, g⟩
  clear P_0_ P_1_ P_2_ P_3_ Q_0_ Q_1_ Q_2_ Q_3_
  have rP10_ := Lib.hid (show (w3).heap[W.heap.size]? = some (.cells #[v0, v1, v2, v3] 33 (0, 0)) from row_held g rP7_.out)
  clear rP7_
  have rQ11_ := Lib.hid (show (w3).heap[W.heap.size + 1]? = some (.cells #[v0', v1', v2', v3'] 33 (0, 0)) from row_held g rQ8_.out)
  clear rQ8_
  have G12_ := Lib.hid (show (W).grownBy (w3) none from gby_trans G9_.out g)
  clear g
  have P_0_ : (w3).cell? ⟨W.heap.size, 0, none⟩ = some (v0) := cell_of_row _ _ 0 _ _ _ rP10_.out
  have P_1_ : (w3).cell? ⟨W.heap.size, 1, none⟩ = some (v1) := cell_of_row _ _ 1 _ _ _ rP10_.out
  have P_2_ : (w3).cell? ⟨W.heap.size, 2, none⟩ = some (v2) := cell_of_row _ _ 2 _ _ _ rP10_.out
  have P_3_ : (w3).cell? ⟨W.heap.size, 3, none⟩ = some (v3) := cell_of_row _ _ 3 _ _ _ rP10_.out
  have Q_0_ : (w3).cell? ⟨W.heap.size + 1, 0, none⟩ = some (v0') := cell_of_row _ _ 0 _ _ _ rQ11_.out
  have Q_1_ : (w3).cell? ⟨W.heap.size + 1, 1, none⟩ = some (v1') := cell_of_row _ _ 1 _ _ _ rQ11_.out
  have Q_2_ : (w3).cell? ⟨W.heap.size + 1, 2, none⟩ = some (v2') := cell_of_row _ _ 2 _ _ _ rQ11_.out
  have Q_3_ : (w3).cell? ⟨W.heap.size + 1, 3, none⟩ = some (v3') := cell_of_row _ _ 3 _ _ _ rQ11_.out
  go_wp2
  go_ret
  exact ⟨rfl, G12_.out⟩

set_option maxRecDepth 8000 in
set_option maxHeartbeats 2000000 in
theorem markQueue_d (w : World) (lo hi m : Nat) (v0 : Value) (v1 : Value) (v2 : Value) (v3 : Value) (xs0 : List DPacket) (xs1 : List Int) (xs2 : List Int) (xs3 : List DPacket) (pre post : List Own) (h1 : OwU w lo hi [] (pre ++ own shPacket v0 xs0 :: own shI v1 xs1 :: own shI v2 xs2 :: own shPacket v3 xs3 :: post)) (hhi : hi ≤ w.heap.size) (hl0 : szL shPacket xs0 ≤ 1048576) (hl1 : szL shI xs1 ≤ 1048576) (hl2 : szL shI xs2 ≤ 1048576) (hl3 : szL shPacket xs3 ≤ 1048576) (hm2 : m + ecL shPacket xs0 + ecL shI xs1 + ecL shI xs2 + ecL shPacket xs3 ≤ 900000000) :
    Calls Try.prog 48 #[vQueue v0 v1 v2 v3, .int .i64 (m : Int)] w (fun e w' => e = .returned (.int .i64 ((m + ecL shPacket xs0 + ecL shI xs1 + ecL shI xs2 + ecL shPacket xs3 : Nat) : Int)) ∧ OwU w' lo hi [] (pre ++ own shPacket v0 (emL shPacket (m) xs0) :: own shI v1 (emL shI (m + ecL shPacket xs0) xs1) :: own shI v2 (emL shI (m + ecL shPacket xs0 + ecL shI xs1) xs2) :: own shPacket v3 (emL shPacket (m + ecL shPacket xs0 + ecL shI xs1 + ecL shI xs2) xs3) :: post) ∧ Chg w w' lo hi) := by
  unfold vQueue
  go_enter Try.func48, Try.ntmps48
  have rP1_ := Lib.hid (show ((w.alloc (.cells #[v0, v1, v2, v3] 33))).heap[w.heap.size]? = some (.cells #[v0, v1, v2, v3] 33 (0, 0)) from by exact heap_alloc_new _ _)
  have G2_ := Lib.hid (show (w).grownBy ((w.alloc (.cells #[v0, v1, v2, v3] 33))) none from (gby_alloc (gby_refl _ _) _))
  have U0 := Lib.hid (OwU.grow h1 (gby_alloc (gby_refl _ _) (.cells #[v0, v1, v2, v3] 33)))
  have C0 := Lib.hid (chg_gby G2_.out lo hi)
  clear h1
  have P_0_ : ((w.alloc (.cells #[v0, v1, v2, v3] 33))).cell? ⟨w.heap.size, 0, none⟩ = some (v0) := cell_of_row _ _ 0 _ _ _ rP1_.out
  have P_1_ : ((w.alloc (.cells #[v0, v1, v2, v3] 33))).cell? ⟨w.heap.size, 1, none⟩ = some (v1) := cell_of_row _ _ 1 _ _ _ rP1_.out
  have P_2_ : ((w.alloc (.cells #[v0, v1, v2, v3] 33))).cell? ⟨w.heap.size, 2, none⟩ = some (v2) := cell_of_row _ _ 2 _ _ _ rP1_.out
  have P_3_ : ((w.alloc (.cells #[v0, v1, v2, v3] 33))).cell? ⟨w.heap.size, 3, none⟩ = some (v3) := cell_of_row _ _ 3 _ _ _ rP1_.out
  obtain ⟨p0, q0, l0, u0, _, oo, ff⟩ := OwU.focus (pre := pre) (p := own shPacket v0 xs0) (post := own shI v1 xs1 :: own shI v2 xs2 :: own shPacket v3 xs3 :: post) (show OwU ((w.alloc (.cells #[v0, v1, v2, v3] 33))) lo hi [] (pre ++ own shPacket v0 xs0 :: own shI v1 xs1 :: own shI v2 xs2 :: own shPacket v3 xs3 :: post) from by first | exact U0.out | (rw [List.append_assoc]; exact U0.out))
  have FF := Lib.hid ff
  clear ff
  go_wp2_with fail
  go_at_call 56
  refine (markPacketS_d _ p0 q0 m v0 xs0 oo hl0 (by omega)).mono ?_
  rintro e w1 ⟨rfl, o, c⟩
  clear P_0_ P_1_ P_2_ P_3_
  have hrow := Chg.keep c rP1_.out (by omega)
  clear rP1_
  have hsz0 := c.size
  try simp only [World.size_alloc] at hsz0
  have rP3_ := Lib.hid (show (w1).heap[w.heap.size]? = some (.cells #[v0, v1, v2, v3] 33 (0, 0)) from hrow)
  clear hrow
  have U1 := Lib.hid (show OwU (w1) lo hi [] (pre ++ own shPacket v0 (emL shPacket (m) xs0) :: own shI v1 xs1 :: own shI v2 xs2 :: own shPacket v3 xs3 :: post) from by first | exact (show OwU (w1) lo hi [] (pre ++ own shPacket v0 (emL shPacket (m) xs0) :: own shI v1 xs1 :: own shI v2 xs2 :: own shPacket v3 xs3 :: post) from FF.out _ (own shPacket v0 (emL shPacket (m) xs0)) c o) | (have q := (show OwU (w1) lo hi [] (pre ++ own shPacket v0 (emL shPacket (m) xs0) :: own shI v1 xs1 :: own shI v2 xs2 :: own shPacket v3 xs3 :: post) from FF.out _ (own shPacket v0 (emL shPacket (m) xs0)) c o); rw [List.append_assoc] at q; exact q))
  clear U0 o
  have C1 := Lib.hid (chg_trans C0.out (chg_wide c (lo' := lo) (hi' := hi) l0 u0))
  clear c C0
  try clear oo FF
  have P_0_ : (w1).cell? ⟨w.heap.size, 0, none⟩ = some (v0) := cell_of_row _ _ 0 _ _ _ rP3_.out
  have P_1_ : (w1).cell? ⟨w.heap.size, 1, none⟩ = some (v1) := cell_of_row _ _ 1 _ _ _ rP3_.out
  have P_2_ : (w1).cell? ⟨w.heap.size, 2, none⟩ = some (v2) := cell_of_row _ _ 2 _ _ _ rP3_.out
  have P_3_ : (w1).cell? ⟨w.heap.size, 3, none⟩ = some (v3) := cell_of_row _ _ 3 _ _ _ rP3_.out
  go_wp2_with fail
  go_at_call 88
  refine (markCredits_d _ lo hi (m + ecL shPacket xs0) v1 v2 xs1 xs2 (pre ++ [own shPacket v0 (emL shPacket (m) xs0)]) (own shPacket v3 xs3 :: post) (show OwU (w1) lo hi [] ((pre ++ [own shPacket v0 (emL shPacket (m) xs0)]) ++ own shI v1 xs1 :: own shI v2 xs2 :: own shPacket v3 xs3 :: post) from by first | exact U1.out | (rw [List.append_assoc]; exact U1.out)) (by first | omega | (simp only [World.size_alloc]; omega)) hl1 hl2 (by omega)).mono ?_
  rintro e w2 ⟨rfl, o, c⟩
  clear P_0_ P_1_ P_2_ P_3_
  have hrow := Chg.keep c rP3_.out (by omega)
  clear rP3_
  have hsz1 := c.size
  try simp only [World.size_alloc] at hsz1
  have rP4_ := Lib.hid (show (w2).heap[w.heap.size]? = some (.cells #[v0, v1, v2, v3] 33 (0, 0)) from hrow)
  clear hrow
  have U2 := Lib.hid (show OwU (w2) lo hi [] (pre ++ own shPacket v0 (emL shPacket (m) xs0) :: own shI v1 (emL shI (m + ecL shPacket xs0) xs1) :: own shI v2 (emL shI (m + ecL shPacket xs0 + ecL shI xs1) xs2) :: own shPacket v3 xs3 :: post) from by first | exact (show OwU (w2) lo hi [] ((pre ++ [own shPacket v0 (emL shPacket (m) xs0)]) ++ own shI v1 (emL shI (m + ecL shPacket xs0) xs1) :: own shI v2 (emL shI (m + ecL shPacket xs0 + ecL shI xs1) xs2) :: own shPacket v3 xs3 :: post) from o) | (have q := (show OwU (w2) lo hi [] ((pre ++ [own shPacket v0 (emL shPacket (m) xs0)]) ++ own shI v1 (emL shI (m + ecL shPacket xs0) xs1) :: own shI v2 (emL shI (m + ecL shPacket xs0 + ecL shI xs1) xs2) :: own shPacket v3 xs3 :: post) from o); rw [List.append_assoc] at q; exact q))
  clear U1 o
  have C2 := Lib.hid (chg_trans C1.out (c))
  clear c C1
  have P_0_ : (w2).cell? ⟨w.heap.size, 0, none⟩ = some (v0) := cell_of_row _ _ 0 _ _ _ rP4_.out
  have P_1_ : (w2).cell? ⟨w.heap.size, 1, none⟩ = some (v1) := cell_of_row _ _ 1 _ _ _ rP4_.out
  have P_2_ : (w2).cell? ⟨w.heap.size, 2, none⟩ = some (v2) := cell_of_row _ _ 2 _ _ _ rP4_.out
  have P_3_ : (w2).cell? ⟨w.heap.size, 3, none⟩ = some (v3) := cell_of_row _ _ 3 _ _ _ rP4_.out
  obtain ⟨p3, q3, l3, u3, _, oo, ff⟩ := OwU.focus (pre := (pre ++ [own shPacket v0 (emL shPacket (m) xs0), own shI v1 (emL shI (m + ecL shPacket xs0) xs1), own shI v2 (emL shI (m + ecL shPacket xs0 + ecL shI xs1) xs2)])) (p := own shPacket v3 xs3) (post := post) (show OwU (w2) lo hi [] ((pre ++ [own shPacket v0 (emL shPacket (m) xs0), own shI v1 (emL shI (m + ecL shPacket xs0) xs1), own shI v2 (emL shI (m + ecL shPacket xs0 + ecL shI xs1) xs2)]) ++ own shPacket v3 xs3 :: post) from by first | exact U2.out | (rw [List.append_assoc]; exact U2.out))
  have FF := Lib.hid ff
  clear ff
  go_wp2_with fail
  go_at_call 56
  refine (markPacketS_d _ p3 q3 (m + ecL shPacket xs0 + ecL shI xs1 + ecL shI xs2) v3 xs3 oo hl3 (by omega)).mono ?_
  rintro e w3 ⟨rfl, o, c⟩
  clear P_0_ P_1_ P_2_ P_3_
  have hrow := Chg.keep c rP4_.out (by omega)
  clear rP4_
  have hsz3 := c.size
  try simp only [World.size_alloc] at hsz3
  have rP5_ := Lib.hid (show (w3).heap[w.heap.size]? = some (.cells #[v0, v1, v2, v3] 33 (0, 0)) from hrow)
  clear hrow
  have U3 := Lib.hid (show OwU (w3) lo hi [] (pre ++ own shPacket v0 (emL shPacket (m) xs0) :: own shI v1 (emL shI (m + ecL shPacket xs0) xs1) :: own shI v2 (emL shI (m + ecL shPacket xs0 + ecL shI xs1) xs2) :: own shPacket v3 (emL shPacket (m + ecL shPacket xs0 + ecL shI xs1 + ecL shI xs2) xs3) :: post) from by first | exact (show OwU (w3) lo hi [] ((pre ++ [own shPacket v0 (emL shPacket (m) xs0), own shI v1 (emL shI (m + ecL shPacket xs0) xs1), own shI v2 (emL shI (m + ecL shPacket xs0 + ecL shI xs1) xs2)]) ++ own shPacket v3 (emL shPacket (m + ecL shPacket xs0 + ecL shI xs1 + ecL shI xs2) xs3) :: post) from FF.out _ (own shPacket v3 (emL shPacket (m + ecL shPacket xs0 + ecL shI xs1 + ecL shI xs2) xs3)) c o) | (have q := (show OwU (w3) lo hi [] ((pre ++ [own shPacket v0 (emL shPacket (m) xs0), own shI v1 (emL shI (m + ecL shPacket xs0) xs1), own shI v2 (emL shI (m + ecL shPacket xs0 + ecL shI xs1) xs2)]) ++ own shPacket v3 (emL shPacket (m + ecL shPacket xs0 + ecL shI xs1 + ecL shI xs2) xs3) :: post) from FF.out _ (own shPacket v3 (emL shPacket (m + ecL shPacket xs0 + ecL shI xs1 + ecL shI xs2) xs3)) c o); rw [List.append_assoc] at q; exact q))
  clear U2 o
  have C3 := Lib.hid (chg_trans C2.out (chg_wide c (lo' := lo) (hi' := hi) l3 u3))
  clear c C2
  try clear oo FF
  have P_0_ : (w3).cell? ⟨w.heap.size, 0, none⟩ = some (v0) := cell_of_row _ _ 0 _ _ _ rP5_.out
  have P_1_ : (w3).cell? ⟨w.heap.size, 1, none⟩ = some (v1) := cell_of_row _ _ 1 _ _ _ rP5_.out
  have P_2_ : (w3).cell? ⟨w.heap.size, 2, none⟩ = some (v2) := cell_of_row _ _ 2 _ _ _ rP5_.out
  have P_3_ : (w3).cell? ⟨w.heap.size, 3, none⟩ = some (v3) := cell_of_row _ _ 3 _ _ _ rP5_.out
  go_wp2
  go_ret
  exact ⟨by first | rfl | (congr 3; omega), by first | exact U3.out | simpa only [Nat.add_assoc] using U3.out, C3.out⟩

set_option maxRecDepth 8000 in
set_option maxHeartbeats 2000000 in
theorem heldQueue_d (w : World) (m : Nat) (v0 : Value) (v1 : Value) (v2 : Value) (v3 : Value) (xs0 : List DPacket) (xs1 : List Int) (xs2 : List Int) (xs3 : List DPacket) (H0 : RdL shPacket w v0 (emL shPacket (m) xs0)) (H1 : RdL shI w v1 (emL shI (m + ecL shPacket xs0) xs1)) (H2 : RdL shI w v2 (emL shI (m + ecL shPacket xs0 + ecL shI xs1) xs2)) (H3 : RdL shPacket w v3 (emL shPacket (m + ecL shPacket xs0 + ecL shI xs1 + ecL shI xs2) xs3)) (hl0 : szL shPacket xs0 ≤ 1048576) (hl1 : szL shI xs1 ≤ 1048576) (hl2 : szL shI xs2 ≤ 1048576) (hl3 : szL shPacket xs3 ≤ 1048576) (hm2 : m + ecL shPacket xs0 + ecL shI xs1 + ecL shI xs2 + ecL shPacket xs3 ≤ 900000000) :
    Calls Try.prog 49 #[vQueue v0 v1 v2 v3, .int .i64 (m : Int)] w (AnsN (.int .i64 ((m + ecL shPacket xs0 + ecL shI xs1 + ecL shI xs2 + ecL shPacket xs3 : Nat) : Int)) w) := by
  unfold vQueue
  have HI0 := Lib.hid H0
  clear H0
  have HI1 := Lib.hid H1
  clear H1
  have HI2 := Lib.hid H2
  clear H2
  have HI3 := Lib.hid H3
  clear H3
  have ng0 : ¬ (((m + ecL shPacket xs0 : Nat) : Int) < 0) := by omega
  have ng1 : ¬ (((m + ecL shPacket xs0 + ecL shI xs1 : Nat) : Int) < 0) := by omega
  have ng2 : ¬ (((m + ecL shPacket xs0 + ecL shI xs1 + ecL shI xs2 : Nat) : Int) < 0) := by omega
  have ng3 : ¬ (((m + ecL shPacket xs0 + ecL shI xs1 + ecL shI xs2 + ecL shPacket xs3 : Nat) : Int) < 0) := by omega
  go_enter Try.func49, Try.ntmps49
  have rP1_ := Lib.hid (show ((w.alloc (.cells #[v0, v1, v2, v3] 33))).heap[w.heap.size]? = some (.cells #[v0, v1, v2, v3] 33 (0, 0)) from by exact heap_alloc_new _ _)
  have G2_ := Lib.hid (show (w).grownBy ((w.alloc (.cells #[v0, v1, v2, v3] 33))) none from (gby_alloc (gby_refl _ _) _))
  have P_0_ : ((w.alloc (.cells #[v0, v1, v2, v3] 33))).cell? ⟨w.heap.size, 0, none⟩ = some (v0) := cell_of_row _ _ 0 _ _ _ rP1_.out
  have P_1_ : ((w.alloc (.cells #[v0, v1, v2, v3] 33))).cell? ⟨w.heap.size, 1, none⟩ = some (v1) := cell_of_row _ _ 1 _ _ _ rP1_.out
  have P_2_ : ((w.alloc (.cells #[v0, v1, v2, v3] 33))).cell? ⟨w.heap.size, 2, none⟩ = some (v2) := cell_of_row _ _ 2 _ _ _ rP1_.out
  have P_3_ : ((w.alloc (.cells #[v0, v1, v2, v3] 33))).cell? ⟨w.heap.size, 3, none⟩ = some (v3) := cell_of_row _ _ 3 _ _ _ rP1_.out
  go_wp2_with fail
  go_at_call 57
  refine (heldPacketS_d _ m v0 xs0 (HI0.out.grow G2_.out) hl0 (by omega)).mono ?_
  rintro e w1 ⟨rfl, g⟩
  clear P_0_ P_1_ P_2_ P_3_
  have rP3_ := Lib.hid (show (w1).heap[w.heap.size]? = some (.cells #[v0, v1, v2, v3] 33 (0, 0)) from row_held g rP1_.out)
  clear rP1_
  have G4_ := Lib.hid (show (w).grownBy (w1) none from gby_trans G2_.out g)
  clear g
  have P_0_ : (w1).cell? ⟨w.heap.size, 0, none⟩ = some (v0) := cell_of_row _ _ 0 _ _ _ rP3_.out
  have P_1_ : (w1).cell? ⟨w.heap.size, 1, none⟩ = some (v1) := cell_of_row _ _ 1 _ _ _ rP3_.out
  have P_2_ : (w1).cell? ⟨w.heap.size, 2, none⟩ = some (v2) := cell_of_row _ _ 2 _ _ _ rP3_.out
  have P_3_ : (w1).cell? ⟨w.heap.size, 3, none⟩ = some (v3) := cell_of_row _ _ 3 _ _ _ rP3_.out
  go_wp2_with fail
  go_at_call 89
  refine (heldCredits_d _ (m + ecL shPacket xs0) v1 v2 xs1 xs2 (HI1.out.grow G4_.out) (HI2.out.grow G4_.out) hl1 hl2 (by omega)).mono ?_
  rintro e w2 ⟨rfl, g⟩
  clear P_0_ P_1_ P_2_ P_3_
  have rP5_ := Lib.hid (show (w2).heap[w.heap.size]? = some (.cells #[v0, v1, v2, v3] 33 (0, 0)) from row_held g rP3_.out)
  clear rP3_
  have G6_ := Lib.hid (show (w).grownBy (w2) none from gby_trans G4_.out g)
  clear g
  have P_0_ : (w2).cell? ⟨w.heap.size, 0, none⟩ = some (v0) := cell_of_row _ _ 0 _ _ _ rP5_.out
  have P_1_ : (w2).cell? ⟨w.heap.size, 1, none⟩ = some (v1) := cell_of_row _ _ 1 _ _ _ rP5_.out
  have P_2_ : (w2).cell? ⟨w.heap.size, 2, none⟩ = some (v2) := cell_of_row _ _ 2 _ _ _ rP5_.out
  have P_3_ : (w2).cell? ⟨w.heap.size, 3, none⟩ = some (v3) := cell_of_row _ _ 3 _ _ _ rP5_.out
  go_wp2_with fail
  go_at_call 57
  refine (heldPacketS_d _ (m + ecL shPacket xs0 + ecL shI xs1 + ecL shI xs2) v3 xs3 (HI3.out.grow G6_.out) hl3 (by omega)).mono ?_
  rintro e w3 ⟨rfl, g⟩
  clear P_0_ P_1_ P_2_ P_3_
  have rP7_ := Lib.hid (show (w3).heap[w.heap.size]? = some (.cells #[v0, v1, v2, v3] 33 (0, 0)) from row_held g rP5_.out)
  clear rP5_
  have G8_ := Lib.hid (show (w).grownBy (w3) none from gby_trans G6_.out g)
  clear g
  have P_0_ : (w3).cell? ⟨w.heap.size, 0, none⟩ = some (v0) := cell_of_row _ _ 0 _ _ _ rP7_.out
  have P_1_ : (w3).cell? ⟨w.heap.size, 1, none⟩ = some (v1) := cell_of_row _ _ 1 _ _ _ rP7_.out
  have P_2_ : (w3).cell? ⟨w.heap.size, 2, none⟩ = some (v2) := cell_of_row _ _ 2 _ _ _ rP7_.out
  have P_3_ : (w3).cell? ⟨w.heap.size, 3, none⟩ = some (v3) := cell_of_row _ _ 3 _ _ _ rP7_.out
  go_wp2
  go_ret
  exact ⟨rfl, G8_.out⟩

end Go.Proofs.Ytnighnkkeiegnaa
