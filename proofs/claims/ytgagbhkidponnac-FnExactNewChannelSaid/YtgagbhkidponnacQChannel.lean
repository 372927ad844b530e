/-
  Channel by value, on the law's side: measured, copied, compared, marked, held.
-/
import Derived.Test.YtgagbhkidponnacShpI
import Derived.Test.YtgagbhkidponnacDPacket
import Derived.Test.YtgagbhkidponnacQCredits
import Derived.Test.YtgagbhkidponnacQSPacket
namespace Go.Proofs.Ytgagbhkidponnac
open Go Go.RowKit
set_option linter.unusedVariables false

/-- a value of Channel -/
def vChannel (v0 : Value) (v1 : Value) (v2 : Value) (v3 : Value) (v4 : Value) (v5 : Value) : Value := .agg #[v0, v1, v2, v3, v4, v5]

/-- a Channel in new memory -/
def NewChannel (xs0 : List Int) (xs1 : List Int) (xs2 : List Int) (xs3 : List Int) (xs4 : List DPacket) (xs5 : List DPacket) (W : World) (e : Ending) (w' : World) : Prop := ∃ v0, ∃ v1, ∃ v2, ∃ v3, ∃ v4, ∃ v5, e = .returned (vChannel v0 v1 v2 v3 v4 v5) ∧ OwU w' W.heap.size w'.heap.size [] [own shI v0 xs0, own shI v1 xs1, own shI v2 xs2, own shI v3 xs3, own shPacket v4 xs4, own shPacket v5 xs5] ∧ W.grownBy w' none

set_option maxRecDepth 8000 in
set_option maxHeartbeats 2000000 in
theorem eqChannel_d (W : World) (v0 : Value) (v1 : Value) (v2 : Value) (v3 : Value) (v4 : Value) (v5 : Value) (v0' : Value) (v1' : Value) (v2' : Value) (v3' : Value) (v4' : Value) (v5' : Value) (xs0 : List Int) (xs1 : List Int) (xs2 : List Int) (xs3 : List Int) (xs4 : List DPacket) (xs5 : List DPacket) (H0 : RdL shI W v0 xs0) (K0 : RdL shI W v0' xs0) (hl0 : szL shI xs0 ≤ 1048576) (H1 : RdL shI W v1 xs1) (K1 : RdL shI W v1' xs1) (hl1 : szL shI xs1 ≤ 1048576) (H2 : RdL shI W v2 xs2) (K2 : RdL shI W v2' xs2) (hl2 : szL shI xs2 ≤ 1048576) (H3 : RdL shI W v3 xs3) (K3 : RdL shI W v3' xs3) (hl3 : szL shI xs3 ≤ 1048576) (H4 : RdL shPacket W v4 xs4) (K4 : RdL shPacket W v4' xs4) (hl4 : szL shPacket xs4 ≤ 1048576) (H5 : RdL shPacket W v5 xs5) (K5 : RdL shPacket W v5' xs5) (hl5 : szL shPacket xs5 ≤ 1048576) :
    Calls Try.prog 56 #[vChannel v0 v1 v2 v3 v4 v5, vChannel v0' v1' v2' v3' v4' v5'] W (AnsN (.bool true) W) := by
  have HI0 := Lib.hid H0
  have HJ0 := Lib.hid K0
  clear H0 K0
  have HI1 := Lib.hid H1
  have HJ1 := Lib.hid K1
  clear H1 K1
  have HI2 := Lib.hid H2
  have HJ2 := Lib.hid K2
  clear H2 K2
  have HI3 := Lib.hid H3
  have HJ3 := Lib.hid K3
  clear H3 K3
  have HI4 := Lib.hid H4
  have HJ4 := Lib.hid K4
  clear H4 K4
  have HI5 := Lib.hid H5
  have HJ5 := Lib.hid K5
  clear H5 K5
  unfold vChannel
  go_enter Try.func56, Try.ntmps56
  have rP1_ := Lib.hid (show (((W.alloc (.cells #[v0, v1, v2, v3, v4, v5] 73)).alloc (.cells #[v0', v1', v2', v3', v4', v5'] 73))).heap[W.heap.size]? = some (.cells #[v0, v1, v2, v3, v4, v5] 73 (0, 0)) from by rw [heap_alloc_old _ _ (by simp only [World.size_alloc]; omega)]; exact heap_alloc_new _ _)
  have rQ2_ := Lib.hid (show (((W.alloc (.cells #[v0, v1, v2, v3, v4, v5] 73)).alloc (.cells #[v0', v1', v2', v3', v4', v5'] 73))).heap[W.heap.size + 1]? = some (.cells #[v0', v1', v2', v3', v4', v5'] 73 (0, 0)) from by exact heap_pair _ _ _)
  have G3_ := Lib.hid (show (W).grownBy (((W.alloc (.cells #[v0, v1, v2, v3, v4, v5] 73)).alloc (.cells #[v0', v1', v2', v3', v4', v5'] 73))) none from (gby_alloc (gby_alloc (gby_refl _ _) _) _))
  have P_0_ : (((W.alloc (.cells #[v0, v1, v2, v3, v4, v5] 73)).alloc (.cells #[v0', v1', v2', v3', v4', v5'] 73))).cell? ⟨W.heap.size, 0, none⟩ = some (v0) := cell_of_row _ _ 0 _ _ _ rP1_.out
  have P_1_ : (((W.alloc (.cells #[v0, v1, v2, v3, v4, v5] 73)).alloc (.cells #[v0', v1', v2', v3', v4', v5'] 73))).cell? ⟨W.heap.size, 1, none⟩ = some (v1) := cell_of_row _ _ 1 _ _ _ rP1_.out
  have P_2_ : (((W.alloc (.cells #[v0, v1, v2, v3, v4, v5] 73)).alloc (.cells #[v0', v1', v2', v3', v4', v5'] 73))).cell? ⟨W.heap.size, 2, none⟩ = some (v2) := cell_of_row _ _ 2 _ _ _ rP1_.out
  have P_3_ : (((W.alloc (.cells #[v0, v1, v2, v3, v4, v5] 73)).alloc (.cells #[v0', v1', v2', v3', v4', v5'] 73))).cell? ⟨W.heap.size, 3, none⟩ = some (v3) := cell_of_row _ _ 3 _ _ _ rP1_.out
  have P_4_ : (((W.alloc (.cells #[v0, v1, v2, v3, v4, v5] 73)).alloc (.cells #[v0', v1', v2', v3', v4', v5'] 73))).cell? ⟨W.heap.size, 4, none⟩ = some (v4) := cell_of_row _ _ 4 _ _ _ rP1_.out
  have P_5_ : (((W.alloc (.cells #[v0, v1, v2, v3, v4, v5] 73)).alloc (.cells #[v0', v1', v2', v3', v4', v5'] 73))).cell? ⟨W.heap.size, 5, none⟩ = some (v5) := cell_of_row _ _ 5 _ _ _ rP1_.out
  have Q_0_ : (((W.alloc (.cells #[v0, v1, v2, v3, v4, v5] 73)).alloc (.cells #[v0', v1', v2', v3', v4', v5'] 73))).cell? ⟨W.heap.size + 1, 0, none⟩ = some (v0') := cell_of_row _ _ 0 _ _ _ rQ2_.out
  have Q_1_ : (((W.alloc (.cells #[v0, v1, v2, v3, v4, v5] 73)).alloc (.cells #[v0', v1', v2', v3', v4', v5'] 73))).cell? ⟨W.heap.size + 1, 1, none⟩ = some (v1') := cell_of_row _ _ 1 _ _ _ rQ2_.out
  have Q_2_ : (((W.alloc (.cells #[v0, v1, v2, v3, v4, v5] 73)).alloc (.cells #[v0', v1', v2', v3', v4', v5'] 73))).cell? ⟨W.heap.size + 1, 2, none⟩ = some (v2') := cell_of_row _ _ 2 _ _ _ rQ2_.out
  have Q_3_ : (((W.alloc (.cells #[v0, v1, v2, v3, v4, v5] 73)).alloc (.cells #[v0', v1', v2', v3', v4', v5'] 73))).cell? ⟨W.heap.size + 1, 3, none⟩ = some (v3') := cell_of_row _ _ 3 _ _ _ rQ2_.out
  have Q_4_ : (((W.alloc (.cells #[v0, v1, v2, v3, v4, v5] 73)).alloc (.cells #[v0', v1', v2', v3', v4', v5'] 73))).cell? ⟨W.heap.size + 1, 4, none⟩ = some (v4') := cell_of_row _ _ 4 _ _ _ rQ2_.out
  have Q_5_ : (((W.alloc (.cells #[v0, v1, v2, v3, v4, v5] 73)).alloc (.cells #[v0', v1', v2', v3', v4', v5'] 73))).cell? ⟨W.heap.size + 1, 5, none⟩ = some (v5') := cell_of_row _ _ 5 _ _ _ rQ2_.out
  go_wp2_with fail
  go_at_call 38
  refine (eqCredits_d _ v0 v1 v0' v1' xs0 xs1 (HI0.out.grow G3_.out) (HJ0.out.grow G3_.out) hl0 (HI1.out.grow G3_.out) (HJ1.out.grow G3_.out) hl1).mono ?_
  rintro e w1 ⟨rfl, g⟩
  clear P_0_ P_1_ P_2_ P_3_ P_4_ P_5_ Q_0_ Q_1_ Q_2_ Q_3_ Q_4_ Q_5_
  have rP4_ := Lib.hid (show (w1).heap[W.heap.size]? = some (.cells #[v0, v1, v2, v3, v4, v5] 73 (0, 0)) from row_held g rP1_.out)
  clear rP1_
  have rQ5_ := Lib.hid (show (w1).heap[W.heap.size + 1]? = some (.cells #[v0', v1', v2', v3', v4', v5'] 73 (0, 0)) from row_held g rQ2_.out)
  clear rQ2_
  have G6_ := Lib.hid (show (W).grownBy (w1) none from gby_trans G3_.out g)
  clear g
  have P_0_ : (w1).cell? ⟨W.heap.size, 0, none⟩ = some (v0) := cell_of_row _ _ 0 _ _ _ rP4_.out
  have P_1_ : (w1).cell? ⟨W.heap.size, 1, none⟩ = some (v1) := cell_of_row _ _ 1 _ _ _ rP4_.out
  have P_2_ : (w1).cell? ⟨W.heap.size, 2, none⟩ = some (v2) := cell_of_row _ _ 2 _ _ _ rP4_.out
  have P_3_ : (w1).cell? ⟨W.heap.size, 3, none⟩ = some (v3) := cell_of_row _ _ 3 _ _ _ rP4_.out
  have P_4_ : (w1).cell? ⟨W.heap.size, 4, none⟩ = some (v4) := cell_of_row _ _ 4 _ _ _ rP4_.out
  have P_5_ : (w1).cell? ⟨W.heap.size, 5, none⟩ = some (v5) := cell_of_row _ _ 5 _ _ _ rP4_.out
  have Q_0_ : (w1).cell? ⟨W.heap.size + 1, 0, none⟩ = some (v0') := cell_of_row _ _ 0 _ _ _ rQ5_.out
  have Q_1_ : (w1).cell? ⟨W.heap.size + 1, 1, none⟩ = some (v1') := cell_of_row _ _ 1 _ _ _ rQ5_.out
  have Q_2_ : (w1).cell? ⟨W.heap.size + 1, 2, none⟩ = some (v2') := cell_of_row _ _ 2 _ _ _ rQ5_.out
  have Q_3_ : (w1).cell? ⟨W.heap.size + 1, 3, none⟩ = some (v3') := cell_of_row _ _ 3 _ _ _ rQ5_.out
  have Q_4_ : (w1).cell? ⟨W.heap.size + 1, 4, none⟩ = some (v4') := cell_of_row _ _ 4 _ _ _ rQ5_.out
  have Q_5_ : (w1).cell? ⟨W.heap.size + 1, 5, none⟩ = some (v5') := cell_of_row _ _ 5 _ _ _ rQ5_.out
  go_wp2_with fail
  go_at_call 38
  refine (eqCredits_d _ v2 v3 v2' v3' xs2 xs3 (HI2.out.grow G6_.out) (HJ2.out.grow G6_.out) hl2 (HI3.out.grow G6_.out) (HJ3.out.grow G6_.out) hl3).mono ?_
  rintro e w2 ⟨rfl, g⟩
  clear P_0_ P_1_ P_2_ P_3_ P_4_ P_5_ Q_0_ Q_1_ Q_2_ Q_3_ Q_4_ Q_5_
  have rP7_ := Lib.hid (show (w2).heap[W.heap.size]? = some (.cells #[v0, v1, v2, v3, v4, v5] 73 (0, 0)) from row_held g rP4_.out)
  clear rP4_
  have rQ8_ := Lib.hid (show (w2).heap[W.heap.size + 1]? = some (.cells #[v0', v1', v2', v3', v4', v5'] 73 (0, 0)) from row_held g rQ5_.out)
  clear rQ5_
  have G9_ := Lib.hid (show (W).grownBy (w2) none from gby_trans G6_.out g)
  clear g
  have P_0_ : (w2).cell? ⟨W.heap.size, 0, none⟩ = some (v0) := cell_of_row _ _ 0 _ _ _ rP7_.out
  have P_1_ : (w2).cell? ⟨W.heap.size, 1, none⟩ = some (v1) := cell_of_row _ _ 1 _ _ _ rP7_.out
  have P_2_ : (w2).cell? ⟨W.heap.size, 2, none⟩ = some (v2) := cell_of_row _ _ 2 _ _ _ rP7_.out
  have P_3_ : (w2).cell? ⟨W.heap.size, 3, none⟩ = some (v3) := cell_of_row _ _ 3 _ _ _ rP7_.out
  have P_4_ : (w2).cell? ⟨W.heap.size, 4, none⟩ = some (v4) := cell_of_row _ _ 4 _ _ _ rP7_.out
  have P_5_ : (w2).cell? ⟨W.heap.size, 5, none⟩ = some (v5) := cell_of_row _ _ 5 _ _ _ rP7_.out
  have Q_0_ : (w2).cell? ⟨W.heap.size + 1, 0, none⟩ = some (v0') := cell_of_row _ _ 0 _ _ _ rQ8_.out
  have Q_1_ : (w2).cell? ⟨W.heap.size + 1, 1, none⟩ = some (v1') := cell_of_row _ _ 1 _ _ _ rQ8_.out
  have Q_2_ : (w2).cell? ⟨W.heap.size + 1, 2, none⟩ = some (v2') := cell_of_row _ _ 2 _ _ _ rQ8_.out
  have Q_3_ : (w2).cell? ⟨W.heap.size + 1, 3, none⟩ = some (v3') := cell_of_row _ _ 3 _ _ _ rQ8_.out
  have Q_4_ : (w2).cell? ⟨W.heap.size + 1, 4, none⟩ = some (v4') := cell_of_row _ _ 4 _ _ _ rQ8_.out
  have Q_5_ : (w2).cell? ⟨W.heap.size + 1, 5, none⟩ = some (v5') := cell_of_row _ _ 5 _ _ _ rQ8_.out
  go_wp2_with fail
  go_at_call 101
  refine (eqPacketS_d _ v4 v4' xs4 (HI4.out.grow G9_.out) (HJ4.out.grow G9_.out) hl4).mono ?_
  rintro e w3 ⟨rfl, g⟩
  clear P_0_ P_1_ P_2_ P_3_ P_4_ P_5_ Q_0_ Q_1_ Q_2_ Q_3_ Q_4_ Q_5_
  have rP10_ := Lib.hid (show (w3).heap[W.heap.size]? = some (.cells #[v0, v1, v2, v3, v4, v5] 73 (0, 0)) from row_held g rP7_.out)
  clear rP7_
  have rQ11_ := Lib.hid (show (w3).heap[W.heap.size + 1]? = some (.cells #[v0', v1', v2', v3', v4', v5'] 73 (0, 0)) from row_held g rQ8_.out)
  clear rQ8_
  have G12_ := Lib.hid (show (W).grownBy (w3) none from gby_trans G9_.out g)
  clear g
  have P_0_ : (w3).cell? ⟨W.heap.size, 0, none⟩ = some (v0) := cell_of_row _ _ 0 _ _ _ rP10_.out
  have P_1_ : (w3).cell? ⟨W.heap.size, 1, none⟩ = some (v1) := cell_of_row _ _ 1 _ _ _ rP10_.out
  have P_2_ : (w3).cell? ⟨W.heap.size, 2, none⟩ = some (v2) := cell_of_row _ _ 2 _ _ _ rP10_.out
  have P_3_ : (w3).cell? ⟨W.heap.size, 3, none⟩ = some (v3) := cell_of_row _ _ 3 _ _ _ rP10_.out
  have P_4_ : (w3).cell? ⟨W.heap.size, 4, none⟩ = some (v4) := cell_of_row _ _ 4 _ _ _ rP10_.out
  have P_5_ : (w3).cell? ⟨W.heap.size, 5, none⟩ = some (v5) := cell_of_row _ _ 5 _ _ _ rP10_.out
  have Q_0_ : (w3).cell? ⟨W.heap.size + 1, 0, none⟩ = some (v0') := cell_of_row _ _ 0 _ _ _ rQ11_.out
  have Q_1_ : (w3).cell? ⟨W.heap.size + 1, 1, none⟩ = some (v1') := cell_of_row _ _ 1 _ _ _ rQ11_.out
  have Q_2_ : (w3).cell? ⟨W.heap.size + 1, 2, none⟩ = some (v2') := cell_of_row _ _ 2 _ _ _ rQ11_.out
  have Q_3_ : (w3).cell? ⟨W.heap.size + 1, 3, none⟩ = some (v3') := cell_of_row _ _ 3 _ _ _ rQ11_.out
  have Q_4_ : (w3).cell? ⟨W.heap.size + 1, 4, none⟩ = some (v4') := cell_of_row _ _ 4 _ _ _ rQ11_.out
  have Q_5_ : (w3).cell? ⟨W.heap.size + 1, 5, none⟩ = some (v5') := cell_of_row _ _ 5 _ _ _ rQ11_.out
  go_wp2_with fail
  go_at_call 101
  refine (eqPacketS_d _ v5 v5' xs5 (HI5.out.grow G12_.out) (HJ5.out.grow G12_.out) hl5).mono ?_
  rintro e w4 ⟨rfl, g⟩
  clear P_0_ P_1_ P_2_ P_3_ P_4_ P_5_ Q_0_ Q_1_ Q_2_ Q_3_ Q_4_ Q_5_
  have rP13_ := Lib.hid (show (w4).heap[W.heap.size]? = some (.cells #[v0, v1, v2, v3, v4, v5] 73 (0, 0)) from row_held g rP10_.out)
  clear rP10_
  have rQ14_ := Lib.hid (show (w4).heap[W.heap.size + 1]? = some (.cells #[v0', v1', v2', v3', v4', v5'] 73 (0, 0)) from row_held g rQ11_.out)
  clear rQ11_
  have G15_ := Lib.hid (show (W).grownBy (w4) none from gby_trans G12_.out g)
  clear g
  have P_0_ : (w4).cell? ⟨W.heap.size, 0, none⟩ = some (v0) := cell_of_row _ _ 0 _ _ _ rP13_.out
  have P_1_ : (w4).cell? ⟨W.heap.size, 1, none⟩ = some (v1) := cell_of_row _ _ 1 _ _ _ rP13_.out
  have P_2_ : (w4).cell? ⟨W.heap.size, 2, none⟩ = some (v2) := cell_of_row _ _ 2 _ _ _ rP13_.out
  have P_3_ : (w4).cell? ⟨W.heap.size, 3, none⟩ = some (v3) := cell_of_row _ _ 3 _ _ _ rP13_.out
  have P_4_ : (w4).cell? ⟨W.heap.size, 4, none⟩ = some (v4) := cell_of_row _ _ 4 _ _ _ rP13_.out
  have P_5_ : (w4).cell? ⟨W.heap.size, 5, none⟩ = some (v5) := cell_of_row _ _ 5 _ _ _ rP13_.out
  have Q_0_ : (w4).cell? ⟨W.heap.size + 1, 0, none⟩ = some (v0') := cell_of_row _ _ 0 _ _ _ rQ14_.out
  have Q_1_ : (w4).cell? ⟨W.heap.size + 1, 1, none⟩ = some (v1') := cell_of_row _ _ 1 _ _ _ rQ14_.out
  have Q_2_ : (w4).cell? ⟨W.heap.size + 1, 2, none⟩ = some (v2') := cell_of_row _ _ 2 _ _ _ rQ14_.out
  have Q_3_ : (w4).cell? ⟨W.heap.size + 1, 3, none⟩ = some (v3') := cell_of_row _ _ 3 _ _ _ rQ14_.out
  have Q_4_ : (w4).cell? ⟨W.heap.size + 1, 4, none⟩ = some (v4') := cell_of_row _ _ 4 _ _ _ rQ14_.out
  have Q_5_ : (w4).cell? ⟨W.heap.size + 1, 5, none⟩ = some (v5') := cell_of_row _ _ 5 _ _ _ rQ14_.out
  go_wp2
  go_ret
  exact ⟨rfl, G15_.out⟩

set_option maxRecDepth 8000 in
set_option maxHeartbeats 2000000 in
theorem markChannel_d (w : World) (lo hi m : Nat) (v0 : Value) (v1 : Value) (v2 : Value) (v3 : Value) (v4 : Value) (v5 : Value) (xs0 : List Int) (xs1 : List Int) (xs2 : List Int) (xs3 : List Int) (xs4 : List DPacket) (xs5 : List DPacket) (pre post : List Own) (h1 : OwU w lo hi [] (pre ++ own shI v0 xs0 :: own shI v1 xs1 :: own shI v2 xs2 :: own shI v3 xs3 :: own shPacket v4 xs4 :: own shPacket v5 xs5 :: post)) (hhi : hi ≤ w.heap.size) (hl0 : szL shI xs0 ≤ 1048576) (hl1 : szL shI xs1 ≤ 1048576) (hl2 : szL shI xs2 ≤ 1048576) (hl3 : szL shI xs3 ≤ 1048576) (hl4 : szL shPacket xs4 ≤ 1048576) (hl5 : szL shPacket xs5 ≤ 1048576) (hm2 : m + ecL shI xs0 + ecL shI xs1 + ecL shI xs2 + ecL shI xs3 + ecL shPacket xs4 + ecL shPacket xs5 ≤ 900000000) :
    Calls Try.prog 57 #[vChannel v0 v1 v2 v3 v4 v5, .int .i64 (m : Int)] w (fun e w' => e = .returned (.int .i64 ((m + ecL shI xs0 + ecL shI xs1 + ecL shI xs2 + ecL shI xs3 + ecL shPacket xs4 + ecL shPacket xs5 : Nat) : Int)) ∧ OwU w' lo hi [] (pre ++ own shI v0 (emL shI (m) xs0) :: own shI v1 (emL shI (m + ecL shI xs0) xs1) :: own shI v2 (emL shI (m + ecL shI xs0 + ecL shI xs1) xs2) :: own shI v3 (emL shI (m + ecL shI xs0 + ecL shI xs1 + ecL shI xs2) xs3) :: own shPacket v4 (emL shPacket (m + ecL shI xs0 + ecL shI xs1 + ecL shI xs2 + ecL shI xs3) xs4) :: own shPacket v5 (emL shPacket (m + ecL shI xs0 + ecL shI xs1 + ecL shI xs2 + ecL shI xs3 + ecL shPacket xs4) xs5) :: post) ∧ Chg w w' lo hi) := by
  unfold vChannel
  go_enter Try.func57, Try.ntmps57
  have rP1_ := Lib.hid (show ((w.alloc (.cells #[v0, v1, v2, v3, v4, v5] 73))).heap[w.heap.size]? = some (.cells #[v0, v1, v2, v3, v4, v5] 73 (0, 0)) from by exact heap_alloc_new _ _)
  have G2_ := Lib.hid (show (w).grownBy ((w.alloc (.cells #[v0, v1, v2, v3, v4, v5] 73))) none from (gby_alloc (gby_refl _ _) _))
  have U0 := Lib.hid (OwU.grow h1 (gby_alloc (gby_refl _ _) (.cells #[v0, v1, v2, v3, v4, v5] 73)))
  have C0 := Lib.hid (chg_gby G2_.out lo hi)
  clear h1
  have P_0_ : ((w.alloc (.cells #[v0, v1, v2, v3, v4, v5] 73))).cell? ⟨w.heap.size, 0, none⟩ = some (v0) := cell_of_row _ _ 0 _ _ _ rP1_.out
  have P_1_ : ((w.alloc (.cells #[v0, v1, v2, v3, v4, v5] 73))).cell? ⟨w.heap.size, 1, none⟩ = some (v1) := cell_of_row _ _ 1 _ _ _ rP1_.out
  have P_2_ : ((w.alloc (.cells #[v0, v1, v2, v3, v4, v5] 73))).cell? ⟨w.heap.size, 2, none⟩ = some (v2) := cell_of_row _ _ 2 _ _ _ rP1_.out
  have P_3_ : ((w.alloc (.cells #[v0, v1, v2, v3, v4, v5] 73))).cell? ⟨w.heap.size, 3, none⟩ = some (v3) := cell_of_row _ _ 3 _ _ _ rP1_.out
  have P_4_ : ((w.alloc (.cells #[v0, v1, v2, v3, v4, v5] 73))).cell? ⟨w.heap.size, 4, none⟩ = some (v4) := cell_of_row _ _ 4 _ _ _ rP1_.out
  have P_5_ : ((w.alloc (.cells #[v0, v1, v2, v3, v4, v5] 73))).cell? ⟨w.heap.size, 5, none⟩ = some (v5) := cell_of_row _ _ 5 _ _ _ rP1_.out
  go_wp2_with fail
  go_at_call 39
  refine (markCredits_d _ lo hi m v0 v1 xs0 xs1 pre (own shI v2 xs2 :: own shI v3 xs3 :: own shPacket v4 xs4 :: own shPacket v5 xs5 :: post) (show OwU ((w.alloc (.cells #[v0, v1, v2, v3, v4, v5] 73))) lo hi [] (pre ++ own shI v0 xs0 :: own shI v1 xs1 :: own shI v2 xs2 :: own shI v3 xs3 :: own shPacket v4 xs4 :: own shPacket v5 xs5 :: post) from by first | exact U0.out | (rw [List.append_assoc]; exact U0.out)) (by first | omega | (simp only [World.size_alloc]; omega)) hl0 hl1 (by omega)).mono ?_
  rintro e w1 ⟨rfl, o, c⟩
  clear P_0_ P_1_ P_2_ P_3_ P_4_ P_5_
  have hrow := Chg.keep c rP1_.out (by omega)
  clear rP1_
  have hsz0 := c.size
  try simp only [World.size_alloc] at hsz0
  have rP3_ := Lib.hid (show (w1).heap[w.heap.size]? = some (.cells #[v0, v1, v2, v3, v4, v5] 73 (0, 0)) from hrow)
  clear hrow
  have U1 := Lib.hid (show OwU (w1) lo hi [] (pre ++ own shI v0 (emL shI (m) xs0) :: own shI v1 (emL shI (m + ecL shI xs0) xs1) :: own shI v2 xs2 :: own shI v3 xs3 :: own shPacket v4 xs4 :: own shPacket v5 xs5 :: post) from by first | exact (show OwU (w1) lo hi [] (pre ++ own shI v0 (emL shI (m) xs0) :: own shI v1 (emL shI (m + ecL shI xs0) xs1) :: own shI v2 xs2 :: own shI v3 xs3 :: own shPacket v4 xs4 :: own shPacket v5 xs5 :: post) from o) | (have q := (show OwU (w1) lo hi [] (pre ++ own shI v0 (emL shI (m) xs0) :: own shI v1 (emL shI (m + ecL shI xs0) xs1) :: own shI v2 xs2 :: own shI v3 xs3 :: own shPacket v4 xs4 :: own shPacket v5 xs5 :: post) from o); rw [List.append_assoc] at q; exact q))
  clear U0 o
  have C1 := Lib.hid (chg_trans C0.out (c))
  clear c C0
  have P_0_ : (w1).cell? ⟨w.heap.size, 0, none⟩ = some (v0) := cell_of_row _ _ 0 _ _ _ rP3_.out
  have P_1_ : (w1).cell? ⟨w.heap.size, 1, none⟩ = some (v1) := cell_of_row _ _ 1 _ _ _ rP3_.out
  have P_2_ : (w1).cell? ⟨w.heap.size, 2, none⟩ = some (v2) := cell_of_row _ _ 2 _ _ _ rP3_.out
  have P_3_ : (w1).cell? ⟨w.heap.size, 3, none⟩ = some (v3) := cell_of_row _ _ 3 _ _ _ rP3_.out
  have P_4_ : (w1).cell? ⟨w.heap.size, 4, none⟩ = some (v4) := cell_of_row _ _ 4 _ _ _ rP3_.out
  have P_5_ : (w1).cell? ⟨w.heap.size, 5, none⟩ = some (v5) := cell_of_row _ _ 5 _ _ _ rP3_.out
  go_wp2_with fail
  go_at_call 39
  refine (markCredits_d _ lo hi (m + ecL shI xs0 + ecL shI xs1) v2 v3 xs2 xs3 (pre ++ [own shI v0 (emL shI (m) xs0), own shI v1 (emL shI (m + ecL shI xs0) xs1)]) (own shPacket v4 xs4 :: own shPacket v5 xs5 :: post) (show OwU (w1) lo hi [] ((pre ++ [own shI v0 (emL shI (m) xs0), own shI v1 (emL shI (m + ecL shI xs0) xs1)]) ++ own shI v2 xs2 :: own shI v3 xs3 :: own shPacket v4 xs4 :: own shPacket v5 xs5 :: post) from by first | exact U1.out | (rw [List.append_assoc]; exact U1.out)) (by first | omega | (simp only [World.size_alloc]; omega)) hl2 hl3 (by omega)).mono ?_
  rintro e w2 ⟨rfl, o, c⟩
  clear P_0_ P_1_ P_2_ P_3_ P_4_ P_5_
  have hrow := Chg.keep c rP3_.out (by omega)
  clear rP3_
  have hsz2 := c.size
  try simp only [World.size_alloc] at hsz2
  have rP4_ := Lib.hid (show (w2).heap[w.heap.size]? = some (.cells #[v0, v1, v2, v3, v4, v5] 73 (0, 0)) from hrow)
  clear hrow
  have U2 := Lib.hid (show OwU (w2) lo hi [] (pre ++ own shI v0 (emL shI (m) xs0) :: own shI v1 (emL shI (m + ecL shI xs0) xs1) :: own shI v2 (emL shI (m + ecL shI xs0 + ecL shI xs1) xs2) :: own shI v3 (emL shI (m + ecL shI xs0 + ecL shI xs1 + ecL shI xs2) xs3) :: own shPacket v4 xs4 :: own shPacket v5 xs5 :: post) from by first | exact (show OwU (w2) lo hi [] ((pre ++ [own shI v0 (emL shI (m) xs0), own shI v1 (emL shI (m + ecL shI xs0) xs1)]) ++ own shI v2 (emL shI (m + ecL shI xs0 + ecL shI xs1) xs2) :: own shI v3 (emL shI (m + ecL shI xs0 + ecL shI xs1 + ecL shI xs2) xs3) :: own shPacket v4 xs4 :: own shPacket v5 xs5 :: post) from o) | (have q := (show OwU (w2) lo hi [] ((pre ++ [own shI v0 (emL shI (m) xs0), own shI v1 (emL shI (m + ecL shI xs0) xs1)]) ++ own shI v2 (emL shI (m + ecL shI xs0 + ecL shI xs1) xs2) :: own shI v3 (emL shI (m + ecL shI xs0 + ecL shI xs1 + ecL shI xs2) xs3) :: own shPacket v4 xs4 :: own shPacket v5 xs5 :: post) from o); rw [List.append_assoc] at q; exact q))
  clear U1 o
  have C2 := Lib.hid (chg_trans C1.out (c))
  clear c C1
  have P_0_ : (w2).cell? ⟨w.heap.size, 0, none⟩ = some (v0) := cell_of_row _ _ 0 _ _ _ rP4_.out
  have P_1_ : (w2).cell? ⟨w.heap.size, 1, none⟩ = some (v1) := cell_of_row _ _ 1 _ _ _ rP4_.out
  have P_2_ : (w2).cell? ⟨w.heap.size, 2, none⟩ = some (v2) := cell_of_row _ _ 2 _ _ _ rP4_.out
  have P_3_ : (w2).cell? ⟨w.heap.size, 3, none⟩ = some (v3) := cell_of_row _ _ 3 _ _ _ rP4_.out
  have P_4_ : (w2).cell? ⟨w.heap.size, 4, none⟩ = some (v4) := cell_of_row _ _ 4 _ _ _ rP4_.out
  have P_5_ : (w2).cell? ⟨w.heap.size, 5, none⟩ = some (v5) := cell_of_row _ _ 5 _ _ _ rP4_.out
  obtain ⟨p4, q4, l4, u4, _, oo, ff⟩ := OwU.focus (pre := (pre ++ [own shI v0 (emL shI (m) xs0), own shI v1 (emL shI (m + ecL shI xs0) xs1), own shI v2 (emL shI (m + ecL shI xs0 + ecL shI xs1) xs2), own shI v3 (emL shI (m + ecL shI xs0 + ecL shI xs1 + ecL shI xs2) xs3)])) (p := own shPacket v4 xs4) (post := own shPacket v5 xs5 :: post) (show OwU (w2) lo hi [] ((pre ++ [own shI v0 (emL shI (m) xs0), own shI v1 (emL shI (m + ecL shI xs0) xs1), own shI v2 (emL shI (m + ecL shI xs0 + ecL shI xs1) xs2), own shI v3 (emL shI (m + ecL shI xs0 + ecL shI xs1 + ecL shI xs2) xs3)]) ++ own shPacket v4 xs4 :: own shPacket v5 xs5 :: post) from by first | exact U2.out | (rw [List.append_assoc]; exact U2.out))
  have FF := Lib.hid ff
  clear ff
  go_wp2_with fail
  go_at_call 102
  refine (markPacketS_d _ p4 q4 (m + ecL shI xs0 + ecL shI xs1 + ecL shI xs2 + ecL shI xs3) v4 xs4 oo hl4 (by omega)).mono ?_
  rintro e w3 ⟨rfl, o, c⟩
  clear P_0_ P_1_ P_2_ P_3_ P_4_ P_5_
  have hrow := Chg.keep c rP4_.out (by omega)
  clear rP4_
  have hsz4 := c.size
  try simp only [World.size_alloc] at hsz4
  have rP5_ := Lib.hid (show (w3).heap[w.heap.size]? = some (.cells #[v0, v1, v2, v3, v4, v5] 73 (0, 0)) from hrow)
  clear hrow
  have U3 := Lib.hid (show OwU (w3) lo hi [] (pre ++ own shI v0 (emL shI (m) xs0) :: own shI v1 (emL shI (m + ecL shI xs0) xs1) :: own shI v2 (emL shI (m + ecL shI xs0 + ecL shI xs1) xs2) :: own shI v3 (emL shI (m + ecL shI xs0 + ecL shI xs1 + ecL shI xs2) xs3) :: own shPacket v4 (emL shPacket (m + ecL shI xs0 + ecL shI xs1 + ecL shI xs2 + ecL shI xs3) xs4) :: own shPacket v5 xs5 :: post) from by first | exact (show OwU (w3) lo hi [] ((pre ++ [own shI v0 (emL shI (m) xs0), own shI v1 (emL shI (m + ecL shI xs0) xs1), own shI v2 (emL shI (m + ecL shI xs0 + ecL shI xs1) xs2), own shI v3 (emL shI (m + ecL shI xs0 + ecL shI xs1 + ecL shI xs2) xs3)]) ++ own shPacket v4 (emL shPacket (m + ecL shI xs0 + ecL shI xs1 + ecL shI xs2 + ecL shI xs3) xs4) :: own shPacket v5 xs5 :: post) from FF.out _ (own shPacket v4 (emL shPacket (m + ecL shI xs0 + ecL shI xs1 + ecL shI xs2 + ecL shI xs3) xs4)) c o) | (have q := (show OwU (w3) lo hi [] ((pre ++ [own shI v0 (emL shI (m) xs0), own shI v1 (emL shI (m + ecL shI xs0) xs1), own shI v2 (emL shI (m + ecL shI xs0 + ecL shI xs1) xs2), own shI v3 (emL shI (m + ecL shI xs0 + ecL shI xs1 + ecL shI xs2) xs3)]) ++ own shPacket v4 (emL shPacket (m + ecL shI xs0 + ecL shI xs1 + ecL shI xs2 + ecL shI xs3) xs4) :: own shPacket v5 xs5 :: post) from FF.out _ (own shPacket v4 (emL shPacket (m + ecL shI xs0 + ecL shI xs1 + ecL shI xs2 + ecL shI xs3) xs4)) c o); rw [List.append_assoc] at q; exact q))
  clear U2 o
  have C3 := Lib.hid (chg_trans C2.out (chg_wide c (lo' := lo) (hi' := hi) l4 u4))
  clear c C2
  try clear oo FF
  have P_0_ : (w3).cell? ⟨w.heap.size, 0, none⟩ = some (v0) := cell_of_row _ _ 0 _ _ _ rP5_.out
  have P_1_ : (w3).cell? ⟨w.heap.size, 1, none⟩ = some (v1) := cell_of_row _ _ 1 _ _ _ rP5_.out
  have P_2_ : (w3).cell? ⟨w.heap.size, 2, none⟩ = some (v2) := cell_of_row _ _ 2 _ _ _ rP5_.out
  have P_3_ : (w3).cell? ⟨w.heap.size, 3, none⟩ = some (v3) := cell_of_row _ _ 3 _ _ _ rP5_.out
  have P_4_ : (w3).cell? ⟨w.heap.size, 4, none⟩ = some (v4) := cell_of_row _ _ 4 _ _ _ rP5_.out
  have P_5_ : (w3).cell? ⟨w.heap.size, 5, none⟩ = some (v5) := cell_of_row _ _ 5 _ _ _ rP5_.out
  obtain ⟨p5, q5, l5, u5, _, oo, ff⟩ := OwU.focus (pre := (pre ++ [own shI v0 (emL shI (m) xs0), own shI v1 (emL shI (m + ecL shI xs0) xs1), own shI v2 (emL shI (m + ecL shI xs0 + ecL shI xs1) xs2), own shI v3 (emL shI (m + ecL shI xs0 + ecL shI xs1 + ecL shI xs2) xs3), own shPacket v4 (emL shPacket (m + ecL shI xs0 + ecL shI xs1 + ecL shI xs2 + ecL shI xs3) xs4)])) (p := own shPacket v5 xs5) (post := post) (show OwU (w3) lo hi [] ((pre ++ [own shI v0 (emL shI (m) xs0), own shI v1 (emL shI (m + ecL shI xs0) xs1), own shI v2 (emL shI (m + ecL shI xs0 + ecL shI xs1) xs2), own shI v3 (emL shI (m + ecL shI xs0 + ecL shI xs1 + ecL shI xs2) xs3), own shPacket v4 (emL shPacket (m + ecL shI xs0 + ecL shI xs1 + ecL shI xs2 + ecL shI xs3) xs4)]) ++ own shPacket v5 xs5 :: post) from by first | exact U3.out | (rw [List.append_assoc]; exact U3.out))
  have FF := Lib.hid ff
  clear ff
  go_wp2_with fail
  go_at_call 102
  refine (markPacketS_d _ p5 q5 (m + ecL shI xs0 + ecL shI xs1 + ecL shI xs2 + ecL shI xs3 + ecL shPacket xs4) v5 xs5 oo hl5 (by omega)).mono ?_
  rintro e w4 ⟨rfl, o, c⟩
  clear P_0_ P_1_ P_2_ P_3_ P_4_ P_5_
  have hrow := Chg.keep c rP5_.out (by omega)
  clear rP5_
  have hsz5 := c.size
  try simp only [World.size_alloc] at hsz5
  have rP6_ := Lib.hid (show (w4).heap[w.heap.size]? = some (.cells #[v0, v1, v2, v3, v4, v5] 73 (0, 0)) from hrow)
  clear hrow
  have U4 := Lib.hid (show OwU (w4) lo hi [] (pre ++ own shI v0 (emL shI (m) xs0) :: own shI v1 (emL shI (m + ecL shI xs0) xs1) :: own shI v2 (emL shI (m + ecL shI xs0 + ecL shI xs1) xs2) :: own shI v3 (emL shI (m + ecL shI xs0 + ecL shI xs1 + ecL shI xs2) xs3) :: own shPacket v4 (emL shPacket (m + ecL shI xs0 + ecL shI xs1 + ecL shI xs2 + ecL shI xs3) xs4) :: own shPacket v5 (emL shPacket (m + ecL shI xs0 + ecL shI xs1 + ecL shI xs2 + ecL shI xs3 + ecL shPacket xs4) xs5) :: post) from by first | exact (show OwU (w4) lo hi [] ((pre ++ [own shI v0 (emL shI (m) xs0), own shI v1 (emL shI (m + ecL shI xs0) xs1), own shI v2 (emL shI (m + ecL shI xs0 + ecL shI xs1) xs2), own shI v3 (emL shI (m + ecL shI xs0 + ecL shI xs1 + ecL shI xs2) xs3), own shPacket v4 (emL shPacket (m + ecL shI xs0 + ecL shI xs1 + ecL shI xs2 + ecL shI xs3) xs4)]) ++ own shPacket v5 (emL shPacket (m + ecL shI xs0 + ecL shI xs1 + ecL shI xs2 + ecL shI xs3 + ecL shPacket xs4) xs5) :: post) from FF.out _ (own shPacket v5 (emL shPacket (m + ecL shI xs0 + ecL shI xs1 + ecL shI xs2 + ecL shI xs3 + ecL shPacket xs4) xs5)) c o) | (have q := (show OwU (w4) lo hi [] ((pre ++ [own shI v0 (emL shI (m) xs0), own shI v1 (emL shI (m + ecL shI xs0) xs1), own shI v2 (emL shI (m + ecL shI xs0 + ecL shI xs1) xs2), own shI v3 (emL shI (m + ecL shI xs0 + ecL shI xs1 + ecL shI xs2) xs3), own shPacket v4 (emL shPacket (m + ecL shI xs0 + ecL shI xs1 + ecL shI xs2 + ecL shI xs3) xs4)]) ++ own shPacket v5 (emL shPacket (m + ecL shI xs0 + ecL shI xs1 + ecL shI xs2 + ecL shI xs3 + ecL shPacket xs4) xs5) :: post) from FF.out _ (own shPacket v5 (emL shPacket (m + ecL shI xs0 + ecL shI xs1 + ecL shI xs2 + ecL shI xs3 + ecL shPacket xs4) xs5)) c o); rw [List.append_assoc] at q; exact q))
  clear U3 o
  have C4 := Lib.hid (chg_trans C3.out (chg_wide c (lo' := lo) (hi' := hi) l5 u5))
  clear c C3
  try clear oo FF
  have P_0_ : (w4).cell? ⟨w.heap.size, 0, none⟩ = some (v0) := cell_of_row _ _ 0 _ _ _ rP6_.out
  have P_1_ : (w4).cell? ⟨w.heap.size, 1, none⟩ = some (v1) := cell_of_row _ _ 1 _ _ _ rP6_.out
  have P_2_ : (w4).cell? ⟨w.heap.size, 2, none⟩ = some (v2) := cell_of_row _ _ 2 _ _ _ rP6_.out
  have P_3_ : (w4).cell? ⟨w.heap.size, 3, none⟩ = some (v3) := cell_of_row _ _ 3 _ _ _ rP6_.out
  have P_4_ : (w4).cell? ⟨w.heap.size, 4, none⟩ = some (v4) := cell_of_row _ _ 4 _ _ _ rP6_.out
  have P_5_ : (w4).cell? ⟨w.heap.size, 5, none⟩ = some (v5) := cell_of_row _ _ 5 _ _ _ rP6_.out
  go_wp2
  go_ret
  exact ⟨by first | rfl | (congr 3; omega), by first | exact U4.out | simpa only [Nat.add_assoc] using U4.out, C4.out⟩

set_option maxRecDepth 8000 in
set_option maxHeartbeats 2000000 in
theorem heldChannel_d (w : World) (m : Nat) (v0 : Value) (v1 : Value) (v2 : Value) (v3 : Value) (v4 : Value) (v5 : Value) (xs0 : List Int) (xs1 : List Int) (xs2 : List Int) (xs3 : List Int) (xs4 : List DPacket) (xs5 : List DPacket) (H0 : RdL shI w v0 (emL shI (m) xs0)) (H1 : RdL shI w v1 (emL shI (m + ecL shI xs0) xs1)) (H2 : RdL shI w v2 (emL shI (m + ecL shI xs0 + ecL shI xs1) xs2)) (H3 : RdL shI w v3 (emL shI (m + ecL shI xs0 + ecL shI xs1 + ecL shI xs2) xs3)) (H4 : RdL shPacket w v4 (emL shPacket (m + ecL shI xs0 + ecL shI xs1 + ecL shI xs2 + ecL shI xs3) xs4)) (H5 : RdL shPacket w v5 (emL shPacket (m + ecL shI xs0 + ecL shI xs1 + ecL shI xs2 + ecL shI xs3 + ecL shPacket xs4) xs5)) (hl0 : szL shI xs0 ≤ 1048576) (hl1 : szL shI xs1 ≤ 1048576) (hl2 : szL shI xs2 ≤ 1048576) (hl3 : szL shI xs3 ≤ 1048576) (hl4 : szL shPacket xs4 ≤ 1048576) (hl5 : szL shPacket xs5 ≤ 1048576) (hm2 : m + ecL shI xs0 + ecL shI xs1 + ecL shI xs2 + ecL shI xs3 + ecL shPacket xs4 + ecL shPacket xs5 ≤ 900000000) :
    Calls Try.prog 58 #[vChannel v0 v1 v2 v3 v4 v5, .int .i64 (m : Int)] w (AnsN (.int .i64 ((m + ecL shI xs0 + ecL shI xs1 + ecL shI xs2 + ecL shI xs3 + ecL shPacket xs4 + ecL shPacket xs5 : Nat) : Int)) w) := by
  unfold vChannel
  have HI0 := Lib.hid H0
  clear H0
  have HI1 := Lib.hid H1
  clear H1
  have HI2 := Lib.hid H2
  clear H2
  have HI3 := Lib.hid H3
  clear H3
  have HI4 := Lib.hid H4
  clear H4
  have HI5 := Lib.hid H5
  clear H5
  have ng0 : ¬ (((m + ecL shI xs0 : Nat) : Int) < 0) := by omega
  have ng1 : ¬ (((m + ecL shI xs0 + ecL shI xs1 : Nat) : Int) < 0) := by omega
  have ng2 : ¬ (((m + ecL shI xs0 + ecL shI xs1 + ecL shI xs2 : Nat) : Int) < 0) := by omega
  have ng3 : ¬ (((m + ecL shI xs0 + ecL shI xs1 + ecL shI xs2 + ecL shI xs3 : Nat) : Int) < 0) := by omega
  have ng4 : ¬ (((m + ecL shI xs0 + ecL shI xs1 + ecL shI xs2 + ecL shI xs3 + ecL shPacket xs4 : Nat) : Int) < 0) := by omega
  have ng5 : ¬ (((m + ecL shI xs0 + ecL shI xs1 + ecL shI xs2 + ecL shI xs3 + ecL shPacket xs4 + ecL shPacket xs5 : Nat) : Int) < 0) := by omega
  go_enter Try.func58, Try.ntmps58
  have rP1_ := Lib.hid (show ((w.alloc (.cells #[v0, v1, v2, v3, v4, v5] 73))).heap[w.heap.size]? = some (.cells #[v0, v1, v2, v3, v4, v5] 73 (0, 0)) from by exact heap_alloc_new _ _)
  have G2_ := Lib.hid (show (w).grownBy ((w.alloc (.cells #[v0, v1, v2, v3, v4, v5] 73))) none from (gby_alloc (gby_refl _ _) _))
  have P_0_ : ((w.alloc (.cells #[v0, v1, v2, v3, v4, v5] 73))).cell? ⟨w.heap.size, 0, none⟩ = some (v0) := cell_of_row _ _ 0 _ _ _ rP1_.out
  have P_1_ : ((w.alloc (.cells #[v0, v1, v2, v3, v4, v5] 73))).cell? ⟨w.heap.size, 1, none⟩ = some (v1) := cell_of_row _ _ 1 _ _ _ rP1_.out
  have P_2_ : ((w.alloc (.cells #[v0, v1, v2, v3, v4, v5] 73))).cell? ⟨w.heap.size, 2, none⟩ = some (v2) := cell_of_row _ _ 2 _ _ _ rP1_.out
  have P_3_ : ((w.alloc (.cells #[v0, v1, v2, v3, v4, v5] 73))).cell? ⟨w.heap.size, 3, none⟩ = some (v3) := cell_of_row _ _ 3 _ _ _ rP1_.out
  have P_4_ : ((w.alloc (.cells #[v0, v1, v2, v3, v4, v5] 73))).cell? ⟨w.heap.size, 4, none⟩ = some (v4) := cell_of_row _ _ 4 _ _ _ rP1_.out
  have P_5_ : ((w.alloc (.cells #[v0, v1, v2, v3, v4, v5] 73))).cell? ⟨w.heap.size, 5, none⟩ = some (v5) := cell_of_row _ _ 5 _ _ _ rP1_.out
  go_wp2_with fail
  go_at_call 40
  refine (heldCredits_d _ m v0 v1 xs0 xs1 (HI0.out.grow G2_.out) (HI1.out.grow G2_.out) hl0 hl1 (by omega)).mono ?_
  rintro e w1 ⟨rfl, g⟩
  clear P_0_ P_1_ P_2_ P_3_ P_4_ P_5_
  have rP3_ := Lib.hid (show (w1).heap[w.heap.size]? = some (.cells #[v0, v1, v2, v3, v4, v5] 73 (0, 0)) from row_held g rP1_.out)
  clear rP1_
  have G4_ := Lib.hid (show (w).grownBy (w1) none from gby_trans G2_.out g)
  clear g
  have P_0_ : (w1).cell? ⟨w.heap.size, 0, none⟩ = some (v0) := cell_of_row _ _ 0 _ _ _ rP3_.out
  have P_1_ : (w1).cell? ⟨w.heap.size, 1, none⟩ = some (v1) := cell_of_row _ _ 1 _ _ _ rP3_.out
  have P_2_ : (w1).cell? ⟨w.heap.size, 2, none⟩ = some (v2) := cell_of_row _ _ 2 _ _ _ rP3_.out
  have P_3_ : (w1).cell? ⟨w.heap.size, 3, none⟩ = some (v3) := cell_of_row _ _ 3 _ _ _ rP3_.out
  have P_4_ : (w1).cell? ⟨w.heap.size, 4, none⟩ = some (v4) := cell_of_row _ _ 4 _ _ _ rP3_.out
  have P_5_ : (w1).cell? ⟨w.heap.size, 5, none⟩ = some (v5) := cell_of_row _ _ 5 _ _ _ rP3_.out
  go_wp2_with fail
  go_at_call 40
  refine (heldCredits_d _ (m + ecL shI xs0 + ecL shI xs1) v2 v3 xs2 xs3 (HI2.out.grow G4_.out) (HI3.out.grow G4_.out) hl2 hl3 (by omega)).mono ?_
  rintro e w2 ⟨rfl, g⟩
  clear P_0_ P_1_ P_2_ P_3_ P_4_ P_5_
  have rP5_ := Lib.hid (show (w2).heap[w.heap.size]? = some (.cells #[v0, v1, v2, v3, v4, v5] 73 (0, 0)) from row_held g rP3_.out)
  clear rP3_
  have G6_ := Lib.hid (show (w).grownBy (w2) none from gby_trans G4_.out g)
  clear g
  have P_0_ : (w2).cell? ⟨w.heap.size, 0, none⟩ = some (v0) := cell_of_row _ _ 0 _ _ _ rP5_.out
  have P_1_ : (w2).cell? ⟨w.heap.size, 1, none⟩ = some (v1) := cell_of_row _ _ 1 _ _ _ rP5_.out
  have P_2_ : (w2).cell? ⟨w.heap.size, 2, none⟩ = some (v2) := cell_of_row _ _ 2 _ _ _ rP5_.out
  have P_3_ : (w2).cell? ⟨w.heap.size, 3, none⟩ = some (v3) := cell_of_row _ _ 3 _ _ _ rP5_.out
  have P_4_ : (w2).cell? ⟨w.heap.size, 4, none⟩ = some (v4) := cell_of_row _ _ 4 _ _ _ rP5_.out
  have P_5_ : (w2).cell? ⟨w.heap.size, 5, none⟩ = some (v5) := cell_of_row _ _ 5 _ _ _ rP5_.out
  go_wp2_with fail
  go_at_call 103
  refine (heldPacketS_d _ (m + ecL shI xs0 + ecL shI xs1 + ecL shI xs2 + ecL shI xs3) v4 xs4 (HI4.out.grow G6_.out) hl4 (by omega)).mono ?_
  rintro e w3 ⟨rfl, g⟩
  clear P_0_ P_1_ P_2_ P_3_ P_4_ P_5_
  have rP7_ := Lib.hid (show (w3).heap[w.heap.size]? = some (.cells #[v0, v1, v2, v3, v4, v5] 73 (0, 0)) from row_held g rP5_.out)
  clear rP5_
  have G8_ := Lib.hid (show (w).grownBy (w3) none from gby_trans G6_.out g)
  clear g
  have P_0_ : (w3).cell? ⟨w.heap.size, 0, none⟩ = some (v0) := cell_of_row _ _ 0 _ _ _ rP7_.out
  have P_1_ : (w3).cell? ⟨w.heap.size, 1, none⟩ = some (v1) := cell_of_row _ _ 1 _ _ _ rP7_.out
  have P_2_ : (w3).cell? ⟨w.heap.size, 2, none⟩ = some (v2) := cell_of_row _ _ 2 _ _ _ rP7_.out
  have P_3_ : (w3).cell? ⟨w.heap.size, 3, none⟩ = some (v3) := cell_of_row _ _ 3 _ _ _ rP7_.out
  have P_4_ : (w3).cell? ⟨w.heap.size, 4, none⟩ = some (v4) := cell_of_row _ _ 4 _ _ _ rP7_.out
  have P_5_ : (w3).cell? ⟨w.heap.size, 5, none⟩ = some (v5) := cell_of_row _ _ 5 _ _ _ rP7_.out
  go_wp2_with fail
  go_at_call 103
  refine (heldPacketS_d _ (m + ecL shI xs0 + ecL shI xs1 + ecL shI xs2 + ecL shI xs3 + ecL shPacket xs4) v5 xs5 (HI5.out.grow G8_.out) hl5 (by omega)).mono ?_
  rintro e w4 ⟨rfl, g⟩
  clear P_0_ P_1_ P_2_ P_3_ P_4_ P_5_
  have rP9_ := Lib.hid (show (w4).heap[w.heap.size]? = some (.cells #[v0, v1, v2, v3, v4, v5] 73 (0, 0)) from row_held g rP7_.out)
  clear rP7_
  have G10_ := Lib.hid (show (w).grownBy (w4) none from gby_trans G8_.out g)
  clear g
  have P_0_ : (w4).cell? ⟨w.heap.size, 0, none⟩ = some (v0) := cell_of_row _ _ 0 _ _ _ rP9_.out
  have P_1_ : (w4).cell? ⟨w.heap.size, 1, none⟩ = some (v1) := cell_of_row _ _ 1 _ _ _ rP9_.out
  have P_2_ : (w4).cell? ⟨w.heap.size, 2, none⟩ = some (v2) := cell_of_row _ _ 2 _ _ _ rP9_.out
  have P_3_ : (w4).cell? ⟨w.heap.size, 3, none⟩ = some (v3) := cell_of_row _ _ 3 _ _ _ rP9_.out
  have P_4_ : (w4).cell? ⟨w.heap.size, 4, none⟩ = some (v4) := cell_of_row _ _ 4 _ _ _ rP9_.out
  have P_5_ : (w4).cell? ⟨w.heap.size, 5, none⟩ = some (v5) := cell_of_row _ _ 5 _ _ _ rP9_.out
  go_wp2
  go_ret
  exact ⟨rfl, G10_.out⟩

end Go.Proofs.Ytgagbhkidponnac
