/-
  Packet by value, on the law's side: measured, copied, compared, marked, held.
-/
import Derived.Test.YtnighnkkeiegnaaShpI
namespace Go.Proofs.Ytnighnkkeiegnaa
open Go Go.RowKit
set_option linter.unusedVariables false

/-- a value of Packet -/
def vPacket (i0 : Int) (i1 : Int) (i2 : Int) (i3 : Int) (i4 : Int) (i5 : Int) (i6 : Int) (v7 : Value) : Value := .agg #[.int .i64 i0, .int .i64 i1, .int .i64 i2, .int .i64 i3, .int .i64 i4, .int .i64 i5, .int .i64 i6, v7]

set_option maxRecDepth 8000 in
set_option maxHeartbeats 2000000 in
theorem szPacket_d (W : World) (n : Int) (i0 : Int) (i1 : Int) (i2 : Int) (i3 : Int) (i4 : Int) (i5 : Int) (i6 : Int) (v7 : Value) (xs7 : List Int) (H7 : RdL shI W v7 xs7) (hn : n ≤ 1048576) (h0 : 0 ≤ n) :
    Calls Try.prog 37 #[vPacket i0 i1 i2 i3 i4 i5 i6 v7, .int .i64 n] W (AnsN (.int .i64 (lessN n (szL shI xs7))) W) := by
  obtain ⟨t0, ht0⟩ : ∃ t, t = szL shI xs7 := ⟨_, rfl⟩
  rw [show (szL shI xs7) = t0 by omega]
  have HT0 := Lib.hid ht0
  clear ht0
  have HI7 := Lib.hid H7
  clear H7
  unfold vPacket
  by_cases h0_ : n < (t0 : Int)
  · rw [show lessN n (t0) = -1 from if_pos (by omega)]
    go_enter Try.func37, Try.ntmps37
    have rA1_ := Lib.hid (show ((W.alloc (.cells #[.int .i64 i0, .int .i64 i1, .int .i64 i2, .int .i64 i3, .int .i64 i4, .int .i64 i5, .int .i64 i6, v7] 57))).heap[W.heap.size]? = some (.cells #[.int .i64 i0, .int .i64 i1, .int .i64 i2, .int .i64 i3, .int .i64 i4, .int .i64 i5, .int .i64 i6, v7] 57 (0, 0)) from by exact heap_alloc_new _ _)
    have G2_ := Lib.hid (show (W).grownBy ((W.alloc (.cells #[.int .i64 i0, .int .i64 i1, .int .i64 i2, .int .i64 i3, .int .i64 i4, .int .i64 i5, .int .i64 i6, v7] 57))) none from (gby_alloc (gby_refl _ _) _))
    have A_0_ : ((W.alloc (.cells #[.int .i64 i0, .int .i64 i1, .int .i64 i2, .int .i64 i3, .int .i64 i4, .int .i64 i5, .int .i64 i6, v7] 57))).cell? ⟨W.heap.size, 0, none⟩ = some (.int .i64 i0) := cell_of_row _ _ 0 _ _ _ rA1_.out
    have A_1_ : ((W.alloc (.cells #[.int .i64 i0, .int .i64 i1, .int .i64 i2, .int .i64 i3, .int .i64 i4, .int .i64 i5, .int .i64 i6, v7] 57))).cell? ⟨W.heap.size, 1, none⟩ = some (.int .i64 i1) := cell_of_row _ _ 1 _ _ _ rA1_.out
    have A_2_ : ((W.alloc (.cells #[.int .i64 i0, .int .i64 i1, .int .i64 i2, .int .i64 i3, .int .i64 i4, .int .i64 i5, .int .i64 i6, v7] 57))).cell? ⟨W.heap.size, 2, none⟩ = some (.int .i64 i2) := cell_of_row _ _ 2 _ _ _ rA1_.out
    have A_3_ : ((W.alloc (.cells #[.int .i64 i0, .int .i64 i1, .int .i64 i2, .int .i64 i3, .int .i64 i4, .int .i64 i5, .int .i64 i6, v7] 57))).cell? ⟨W.heap.size, 3, none⟩ = some (.int .i64 i3) := cell_of_row _ _ 3 _ _ _ rA1_.out
    have A_4_ : ((W.alloc (.cells #[.int .i64 i0, .int .i64 i1, .int .i64 i2, .int .i64 i3, .int .i64 i4, .int .i64 i5, .int .i64 i6, v7] 57))).cell? ⟨W.heap.size, 4, none⟩ = some (.int .i64 i4) := cell_of_row _ _ 4 _ _ _ rA1_.out
    have A_5_ : ((W.alloc (.cells #[.int .i64 i0, .int .i64 i1, .int .i64 i2, .int .i64 i3, .int .i64 i4, .int .i64 i5, .int .i64 i6, v7] 57))).cell? ⟨W.heap.size, 5, none⟩ = some (.int .i64 i5) := cell_of_row _ _ 5 _ _ _ rA1_.out
    have A_6_ : ((W.alloc (.cells #[.int .i64 i0, .int .i64 i1, .int .i64 i2, .int .i64 i3, .int .i64 i4, .int .i64 i5, .int .i64 i6, v7] 57))).cell? ⟨W.heap.size, 6, none⟩ = some (.int .i64 i6) := cell_of_row _ _ 6 _ _ _ rA1_.out
    have A_7_ : ((W.alloc (.cells #[.int .i64 i0, .int .i64 i1, .int .i64 i2, .int .i64 i3, .int .i64 i4, .int .i64 i5, .int .i64 i6, v7] 57))).cell? ⟨W.heap.size, 7, none⟩ = some (v7) := cell_of_row _ _ 7 _ _ _ rA1_.out
    go_wp2_with fail
    go_at_call 90
    refine (szIntS_d _ _ v7 xs7 (HI7.out.grow G2_.out) (by omega) (by omega)).mono ?_
    rintro e w1 ⟨he, g⟩
    rw [← HT0.out, show lessN _ t0 = -1 from if_pos (by omega)] at he
    subst he
    clear A_0_ A_1_ A_2_ A_3_ A_4_ A_5_ A_6_ A_7_
    have rA3_ := Lib.hid (show (w1).heap[W.heap.size]? = some (.cells #[.int .i64 i0, .int .i64 i1, .int .i64 i2, .int .i64 i3, .int .i64 i4, .int .i64 i5, .int .i64 i6, v7] 57 (0, 0)) from row_held g rA1_.out)
    clear rA1_
    have G4_ := Lib.hid (show (W).grownBy (w1) none from gby_trans G2_.out g)
    clear g
    have hm1 : (-1 : Int) < 0 := by omega
    go_wp2
    go_ret
    exact ⟨rfl, G4_.out⟩
  rw [show lessN n (t0) = n - (t0 : Int) from (if_neg (by omega)).trans (by omega)]
  go_enter Try.func37, Try.ntmps37
  have rA1_ := Lib.hid (show ((W.alloc (.cells #[.int .i64 i0, .int .i64 i1, .int .i64 i2, .int .i64 i3, .int .i64 i4, .int .i64 i5, .int .i64 i6, v7] 57))).heap[W.heap.size]? = some (.cells #[.int .i64 i0, .int .i64 i1, .int .i64 i2, .int .i64 i3, .int .i64 i4, .int .i64 i5, .int .i64 i6, v7] 57 (0, 0)) from by exact heap_alloc_new _ _)
  have G2_ := Lib.hid (show (W).grownBy ((W.alloc (.cells #[.int .i64 i0, .int .i64 i1, .int .i64 i2, .int .i64 i3, .int .i64 i4, .int .i64 i5, .int .i64 i6, v7] 57))) none from (gby_alloc (gby_refl _ _) _))
  have A_0_ : ((W.alloc (.cells #[.int .i64 i0, .int .i64 i1, .int .i64 i2, .int .i64 i3, .int .i64 i4, .int .i64 i5, .int .i64 i6, v7] 57))).cell? ⟨W.heap.size, 0, none⟩ = some (.int .i64 i0) := cell_of_row _ _ 0 _ _ _ rA1_.out
  have A_1_ : ((W.alloc (.cells #[.int .i64 i0, .int .i64 i1, .int .i64 i2, .int .i64 i3, .int .i64 i4, .int .i64 i5, .int .i64 i6, v7] 57))).cell? ⟨W.heap.size, 1, none⟩ = some (.int .i64 i1) := cell_of_row _ _ 1 _ _ _ rA1_.out
  have A_2_ : ((W.alloc (.cells #[.int .i64 i0, .int .i64 i1, .int .i64 i2, .int .i64 i3, .int .i64 i4, .int .i64 i5, .int .i64 i6, v7] 57))).cell? ⟨W.heap.size, 2, none⟩ = some (.int .i64 i2) := cell_of_row _ _ 2 _ _ _ rA1_.out
  have A_3_ : ((W.alloc (.cells #[.int .i64 i0, .int .i64 i1, .int .i64 i2, .int .i64 i3, .int .i64 i4, .int .i64 i5, .int .i64 i6, v7] 57))).cell? ⟨W.heap.size, 3, none⟩ = some (.int .i64 i3) := cell_of_row _ _ 3 _ _ _ rA1_.out
  have A_4_ : ((W.alloc (.cells #[.int .i64 i0, .int .i64 i1, .int .i64 i2, .int .i64 i3, .int .i64 i4, .int .i64 i5, .int .i64 i6, v7] 57))).cell? ⟨W.heap.size, 4, none⟩ = some (.int .i64 i4) := cell_of_row _ _ 4 _ _ _ rA1_.out
  have A_5_ : ((W.alloc (.cells #[.int .i64 i0, .int .i64 i1, .int .i64 i2, .int .i64 i3, .int .i64 i4, .int .i64 i5, .int .i64 i6, v7] 57))).cell? ⟨W.heap.size, 5, none⟩ = some (.int .i64 i5) := cell_of_row _ _ 5 _ _ _ rA1_.out
  have A_6_ : ((W.alloc (.cells #[.int .i64 i0, .int .i64 i1, .int .i64 i2, .int .i64 i3, .int .i64 i4, .int .i64 i5, .int .i64 i6, v7] 57))).cell? ⟨W.heap.size, 6, none⟩ = some (.int .i64 i6) := cell_of_row _ _ 6 _ _ _ rA1_.out
  have A_7_ : ((W.alloc (.cells #[.int .i64 i0, .int .i64 i1, .int .i64 i2, .int .i64 i3, .int .i64 i4, .int .i64 i5, .int .i64 i6, v7] 57))).cell? ⟨W.heap.size, 7, none⟩ = some (v7) := cell_of_row _ _ 7 _ _ _ rA1_.out
  go_wp2_with fail
  go_at_call 90
  refine (szIntS_d _ _ v7 xs7 (HI7.out.grow G2_.out) (by omega) (by omega)).mono ?_
  rintro e w1 ⟨he, g⟩
  rw [← HT0.out, show lessN _ t0 = n - (t0 : Int) from (if_neg (by omega)).trans (by omega)] at he
  subst he
  clear A_0_ A_1_ A_2_ A_3_ A_4_ A_5_ A_6_ A_7_
  have rA3_ := Lib.hid (show (w1).heap[W.heap.size]? = some (.cells #[.int .i64 i0, .int .i64 i1, .int .i64 i2, .int .i64 i3, .int .i64 i4, .int .i64 i5, .int .i64 i6, v7] 57 (0, 0)) from row_held g rA1_.out)
  clear rA1_
  have G4_ := Lib.hid (show (W).grownBy (w1) none from gby_trans G2_.out g)
  clear g
  go_wp2
  go_ret
  exact ⟨rfl, G4_.out⟩

/-- a Packet in new memory -/
def NewPacket (i0 : Int) (i1 : Int) (i2 : Int) (i3 : Int) (i4 : Int) (i5 : Int) (i6 : Int) (xs7 : List Int) (W : World) (e : Ending) (w' : World) : Prop := ∃ v7, e = .returned (vPacket i0 i1 i2 i3 i4 i5 i6 v7) ∧ OwU w' W.heap.size w'.heap.size [] [own shI v7 xs7] ∧ W.grownBy w' none

set_option maxRecDepth 8000 in
set_option maxHeartbeats 4000000 in
theorem toPacket_d (W : World) (i0 : Int) (i1 : Int) (i2 : Int) (i3 : Int) (i4 : Int) (i5 : Int) (i6 : Int) (v7 : Value) (xs7 : List Int) (H7 : RdL shI W v7 xs7) (hl7 : szL shI xs7 ≤ 1048576) :
    Calls Try.prog 39 #[vPacket i0 i1 i2 i3 i4 i5 i6 v7] W (NewPacket i0 i1 i2 i3 i4 i5 i6 xs7 W) := by
  have HI7 := Lib.hid H7
  clear H7
  unfold vPacket
  go_enter Try.func39, Try.ntmps39
  have rP1_ := Lib.hid (show ((((W.alloc (.cells #[.int .i64 i0, .int .i64 i1, .int .i64 i2, .int .i64 i3, .int .i64 i4, .int .i64 i5, .int .i64 i6, v7] 57)).alloc (.cells #[.int .i64 0, .int .i64 0, .int .i64 0, .int .i64 0, .int .i64 0, .int .i64 0, .int .i64 0, .slice none 0 0] 60)).alloc (.cells #[.int .i64 i0, .int .i64 i1, .int .i64 i2, .int .i64 i3, .int .i64 i4, .int .i64 i5, .int .i64 i6, .slice none 0 0] 60))).heap[W.heap.size]? = some (.cells #[.int .i64 i0, .int .i64 i1, .int .i64 i2, .int .i64 i3, .int .i64 i4, .int .i64 i5, .int .i64 i6, v7] 57 (0, 0)) from by rw [heap_alloc_old _ _ (by simp only [World.size_alloc]; omega)]; rw [heap_alloc_old _ _ (by simp only [World.size_alloc]; omega)]; exact heap_alloc_new _ _)
  have rR2_ := Lib.hid (show ((((W.alloc (.cells #[.int .i64 i0, .int .i64 i1, .int .i64 i2, .int .i64 i3, .int .i64 i4, .int .i64 i5, .int .i64 i6, v7] 57)).alloc (.cells #[.int .i64 0, .int .i64 0, .int .i64 0, .int .i64 0, .int .i64 0, .int .i64 0, .int .i64 0, .slice none 0 0] 60)).alloc (.cells #[.int .i64 i0, .int .i64 i1, .int .i64 i2, .int .i64 i3, .int .i64 i4, .int .i64 i5, .int .i64 i6, .slice none 0 0] 60))).heap[W.heap.size + 1]? = some (.cells #[.int .i64 0, .int .i64 0, .int .i64 0, .int .i64 0, .int .i64 0, .int .i64 0, .int .i64 0, .slice none 0 0] 60 (0, 0)) from by rw [heap_alloc_old _ _ (by simp only [World.size_alloc]; omega)]; exact heap_pair _ _ _)
  have rX3_ := Lib.hid (show ((((W.alloc (.cells #[.int .i64 i0, .int .i64 i1, .int .i64 i2, .int .i64 i3, .int .i64 i4, .int .i64 i5, .int .i64 i6, v7] 57)).alloc (.cells #[.int .i64 0, .int .i64 0, .int .i64 0, .int .i64 0, .int .i64 0, .int .i64 0, .int .i64 0, .slice none 0 0] 60)).alloc (.cells #[.int .i64 i0, .int .i64 i1, .int .i64 i2, .int .i64 i3, .int .i64 i4, .int .i64 i5, .int .i64 i6, .slice none 0 0] 60))).heap[W.heap.size + 1 + 1]? = some (.cells #[.int .i64 i0, .int .i64 i1, .int .i64 i2, .int .i64 i3, .int .i64 i4, .int .i64 i5, .int .i64 i6, .slice none 0 0] 60 (0, 0)) from by exact heap_trip _ _ _ _)
  have G4_ := Lib.hid (show (W).grownBy ((((W.alloc (.cells #[.int .i64 i0, .int .i64 i1, .int .i64 i2, .int .i64 i3, .int .i64 i4, .int .i64 i5, .int .i64 i6, v7] 57)).alloc (.cells #[.int .i64 0, .int .i64 0, .int .i64 0, .int .i64 0, .int .i64 0, .int .i64 0, .int .i64 0, .slice none 0 0] 60)).alloc (.cells #[.int .i64 i0, .int .i64 i1, .int .i64 i2, .int .i64 i3, .int .i64 i4, .int .i64 i5, .int .i64 i6, .slice none 0 0] 60))) none from (gby_alloc (gby_alloc (gby_alloc (gby_refl _ _) _) _) _))
  have P_0_ : ((((W.alloc (.cells #[.int .i64 i0, .int .i64 i1, .int .i64 i2, .int .i64 i3, .int .i64 i4, .int .i64 i5, .int .i64 i6, v7] 57)).alloc (.cells #[.int .i64 0, .int .i64 0, .int .i64 0, .int .i64 0, .int .i64 0, .int .i64 0, .int .i64 0, .slice none 0 0] 60)).alloc (.cells #[.int .i64 i0, .int .i64 i1, .int .i64 i2, .int .i64 i3, .int .i64 i4, .int .i64 i5, .int .i64 i6, .slice none 0 0] 60))).cell? ⟨W.heap.size, 0, none⟩ = some (.int .i64 i0) := cell_of_row _ _ 0 _ _ _ rP1_.out
  have P_1_ : ((((W.alloc (.cells #[.int .i64 i0, .int .i64 i1, .int .i64 i2, .int .i64 i3, .int .i64 i4, .int .i64 i5, .int .i64 i6, v7] 57)).alloc (.cells #[.int .i64 0, .int .i64 0, .int .i64 0, .int .i64 0, .int .i64 0, .int .i64 0, .int .i64 0, .slice none 0 0] 60)).alloc (.cells #[.int .i64 i0, .int .i64 i1, .int .i64 i2, .int .i64 i3, .int .i64 i4, .int .i64 i5, .int .i64 i6, .slice none 0 0] 60))).cell? ⟨W.heap.size, 1, none⟩ = some (.int .i64 i1) := cell_of_row _ _ 1 _ _ _ rP1_.out
  have P_2_ : ((((W.alloc (.cells #[.int .i64 i0, .int .i64 i1, .int .i64 i2, .int .i64 i3, .int .i64 i4, .int .i64 i5, .int .i64 i6, v7] 57)).alloc (.cells #[.int .i64 0, .int .i64 0, .int .i64 0, .int .i64 0, .int .i64 0, .int .i64 0, .int .i64 0, .slice none 0 0] 60)).alloc (.cells #[.int .i64 i0, .int .i64 i1, .int .i64 i2, .int .i64 i3, .int .i64 i4, .int .i64 i5, .int .i64 i6, .slice none 0 0] 60))).cell? ⟨W.heap.size, 2, none⟩ = some (.int .i64 i2) := cell_of_row _ _ 2 _ _ _ rP1_.out
  have P_3_ : ((((W.alloc (.cells #[.int .i64 i0, .int .i64 i1, .int .i64 i2, .int .i64 i3, .int .i64 i4, .int .i64 i5, .int .i64 i6, v7] 57)).alloc (.cells #[.int .i64 0, .int .i64 0, .int .i64 0, .int .i64 0, .int .i64 0, .int .i64 0, .int .i64 0, .slice none 0 0] 60)).alloc (.cells #[.int .i64 i0, .int .i64 i1, .int .i64 i2, .int .i64 i3, .int .i64 i4, .int .i64 i5, .int .i64 i6, .slice none 0 0] 60))).cell? ⟨W.heap.size, 3, none⟩ = some (.int .i64 i3) := cell_of_row _ _ 3 _ _ _ rP1_.out
  have P_4_ : ((((W.alloc (.cells #[.int .i64 i0, .int .i64 i1, .int .i64 i2, .int .i64 i3, .int .i64 i4, .int .i64 i5, .int .i64 i6, v7] 57)).alloc (.cells #[.int .i64 0, .int .i64 0, .int .i64 0, .int .i64 0, .int .i64 0, .int .i64 0, .int .i64 0, .slice none 0 0] 60)).alloc (.cells #[.int .i64 i0, .int .i64 i1, .int .i64 i2, .int .i64 i3, .int .i64 i4, .int .i64 i5, .int .i64 i6, .slice none 0 0] 60))).cell? ⟨W.heap.size, 4, none⟩ = some (.int .i64 i4) := cell_of_row _ _ 4 _ _ _ rP1_.out
  have P_5_ : ((((W.alloc (.cells #[.int .i64 i0, .int .i64 i1, .int .i64 i2, .int .i64 i3, .int .i64 i4, .int .i64 i5, .int .i64 i6, v7] 57)).alloc (.cells #[.int .i64 0, .int .i64 0, .int .i64 0, .int .i64 0, .int .i64 0, .int .i64 0, .int .i64 0, .slice none 0 0] 60)).alloc (.cells #[.int .i64 i0, .int .i64 i1, .int .i64 i2, .int .i64 i3, .int .i64 i4, .int .i64 i5, .int .i64 i6, .slice none 0 0] 60))).cell? ⟨W.heap.size, 5, none⟩ = some (.int .i64 i5) := cell_of_row _ _ 5 _ _ _ rP1_.out
  have P_6_ : ((((W.alloc (.cells #[.int .i64 i0, .int .i64 i1, .int .i64 i2, .int .i64 i3, .int .i64 i4, .int .i64 i5, .int .i64 i6, v7] 57)).alloc (.cells #[.int .i64 0, .int .i64 0, .int .i64 0, .int .i64 0, .int .i64 0, .int .i64 0, .int .i64 0, .slice none 0 0] 60)).alloc (.cells #[.int .i64 i0, .int .i64 i1, .int .i64 i2, .int .i64 i3, .int .i64 i4, .int .i64 i5, .int .i64 i6, .slice none 0 0] 60))).cell? ⟨W.heap.size, 6, none⟩ = some (.int .i64 i6) := cell_of_row _ _ 6 _ _ _ rP1_.out
  have P_7_ : ((((W.alloc (.cells #[.int .i64 i0, .int .i64 i1, .int .i64 i2, .int .i64 i3, .int .i64 i4, .int .i64 i5, .int .i64 i6, v7] 57)).alloc (.cells #[.int .i64 0, .int .i64 0, .int .i64 0, .int .i64 0, .int .i64 0, .int .i64 0, .int .i64 0, .slice none 0 0] 60)).alloc (.cells #[.int .i64 i0, .int .i64 i1, .int .i64 i2, .int .i64 i3, .int .i64 i4, .int .i64 i5, .int .i64 i6, .slice none 0 0] 60))).cell? ⟨W.heap.size, 7, none⟩ = some (v7) := cell_of_row _ _ 7 _ _ _ rP1_.out
  have R_0_ : ((((W.alloc (.cells #[.int .i64 i0, .int .i64 i1, .int .i64 i2, .int .i64 i3, .int .i64 i4, .int .i64 i5, .int .i64 i6, v7] 57)).alloc (.cells #[.int .i64 0, .int .i64 0, .int .i64 0, .int .i64 0, .int .i64 0, .int .i64 0, .int .i64 0, .slice none 0 0] 60)).alloc (.cells #[.int .i64 i0, .int .i64 i1, .int .i64 i2, .int .i64 i3, .int .i64 i4, .int .i64 i5, .int .i64 i6, .slice none 0 0] 60))).cell? ⟨W.heap.size + 1, 0, none⟩ = some (.int .i64 0) := cell_of_row _ _ 0 _ _ _ rR2_.out
  have R_1_ : ((((W.alloc (.cells #[.int .i64 i0, .int .i64 i1, .int .i64 i2, .int .i64 i3, .int .i64 i4, .int .i64 i5, .int .i64 i6, v7] 57)).alloc (.cells #[.int .i64 0, .int .i64 0, .int .i64 0, .int .i64 0, .int .i64 0, .int .i64 0, .int .i64 0, .slice none 0 0] 60)).alloc (.cells #[.int .i64 i0, .int .i64 i1, .int .i64 i2, .int .i64 i3, .int .i64 i4, .int .i64 i5, .int .i64 i6, .slice none 0 0] 60))).cell? ⟨W.heap.size + 1, 1, none⟩ = some (.int .i64 0) := cell_of_row _ _ 1 _ _ _ rR2_.out
  have R_2_ : ((((W.alloc (.cells #[.int .i64 i0, .int .i64 i1, .int .i64 i2, .int .i64 i3, .int .i64 i4, .int .i64 i5, .int .i64 i6, v7] 57)).alloc (.cells #[.int .i64 0, .int .i64 0, .int .i64 0, .int .i64 0, .int .i64 0, .int .i64 0, .int .i64 0, .slice none 0 0] 60)).alloc (.cells #[.int .i64 i0, .int .i64 i1, .int .i64 i2, .int .i64 i3, .int .i64 i4, .int .i64 i5, .int .i64 i6, .slice none 0 0] 60))).cell? ⟨W.heap.size + 1, 2, none⟩ = some (.int .i64 0) := cell_of_row _ _ 2 _ _ _ rR2_.out
  have R_3_ : ((((W.alloc (.cells #[.int .i64 i0, .int .i64 i1, .int .i64 i2, .int .i64 i3, .int .i64 i4, .int .i64 i5, .int .i64 i6, v7] 57)).alloc (.cells #[.int .i64 0, .int .i64 0, .int .i64 0, .int .i64 0, .int .i64 0, .int .i64 0, .int .i64 0, .slice none 0 0] 60)).alloc (.cells #[.int .i64 i0, .int .i64 i1, .int .i64 i2, .int .i64 i3, .int .i64 i4, .int .i64 i5, .int .i64 i6, .slice none 0 0] 60))).cell? ⟨W.heap.size + 1, 3, none⟩ = some (.int .i64 0) := cell_of_row _ _ 3 _ _ _ rR2_.out
  have R_4_ : ((((W.alloc (.cells #[.int .i64 i0, .int .i64 i1, .int .i64 i2, .int .i64 i3, .int .i64 i4, .int .i64 i5, .int .i64 i6, v7] 57)).alloc (.cells #[.int .i64 0, .int .i64 0, .int .i64 0, .int .i64 0, .int .i64 0, .int .i64 0, .int .i64 0, .slice none 0 0] 60)).alloc (.cells #[.int .i64 i0, .int .i64 i1, .int .i64 i2, .int .i64 i3, .int .i64 i4, .int .i64 i5, .int .i64 i6, .slice none 0 0] 60))).cell? ⟨W.heap.size + 1, 4, none⟩ = some (.int .i64 0) := cell_of_row _ _ 4 _ _ _ rR2_.out
  have R_5_ : ((((W.alloc (.cells #[.int .i64 i0, .int .i64 i1, .int .i64 i2, .int .i64 i3, .int .i64 i4, .int .i64 i5, .int .i64 i6, v7] 57)).alloc (.cells #[.int .i64 0, .int .i64 0, .int .i64 0, .int .i64 0, .int .i64 0, .int .i64 0, .int .i64 0, .slice none 0 0] 60)).alloc (.cells #[.int .i64 i0, .int .i64 i1, .int .i64 i2, .int .i64 i3, .int .i64 i4, .int .i64 i5, .int .i64 i6, .slice none 0 0] 60))).cell? ⟨W.heap.size + 1, 5, none⟩ = some (.int .i64 0) := cell_of_row _ _ 5 _ _ _ rR2_.out
  have R_6_ : ((((W.alloc (.cells #[.int .i64 i0, .int .i64 i1, .int .i64 i2, .int .i64 i3, .int .i64 i4, .int .i64 i5, .int .i64 i6, v7] 57)).alloc (.cells #[.int .i64 0, .int .i64 0, .int .i64 0, .int .i64 0, .int .i64 0, .int .i64 0, .int .i64 0, .slice none 0 0] 60)).alloc (.cells #[.int .i64 i0, .int .i64 i1, .int .i64 i2, .int .i64 i3, .int .i64 i4, .int .i64 i5, .int .i64 i6, .slice none 0 0] 60))).cell? ⟨W.heap.size + 1, 6, none⟩ = some (.int .i64 0) := cell_of_row _ _ 6 _ _ _ rR2_.out
  have R_7_ : ((((W.alloc (.cells #[.int .i64 i0, .int .i64 i1, .int .i64 i2, .int .i64 i3, .int .i64 i4, .int .i64 i5, .int .i64 i6, v7] 57)).alloc (.cells #[.int .i64 0, .int .i64 0, .int .i64 0, .int .i64 0, .int .i64 0, .int .i64 0, .int .i64 0, .slice none 0 0] 60)).alloc (.cells #[.int .i64 i0, .int .i64 i1, .int .i64 i2, .int .i64 i3, .int .i64 i4, .int .i64 i5, .int .i64 i6, .slice none 0 0] 60))).cell? ⟨W.heap.size + 1, 7, none⟩ = some (.slice none 0 0) := cell_of_row _ _ 7 _ _ _ rR2_.out
  have X_0_ : ((((W.alloc (.cells #[.int .i64 i0, .int .i64 i1, .int .i64 i2, .int .i64 i3, .int .i64 i4, .int .i64 i5, .int .i64 i6, v7] 57)).alloc (.cells #[.int .i64 0, .int .i64 0, .int .i64 0, .int .i64 0, .int .i64 0, .int .i64 0, .int .i64 0, .slice none 0 0] 60)).alloc (.cells #[.int .i64 i0, .int .i64 i1, .int .i64 i2, .int .i64 i3, .int .i64 i4, .int .i64 i5, .int .i64 i6, .slice none 0 0] 60))).cell? ⟨W.heap.size + 1 + 1, 0, none⟩ = some (.int .i64 i0) := cell_of_row _ _ 0 _ _ _ rX3_.out
  have X_1_ : ((((W.alloc (.cells #[.int .i64 i0, .int .i64 i1, .int .i64 i2, .int .i64 i3, .int .i64 i4, .int .i64 i5, .int .i64 i6, v7] 57)).alloc (.cells #[.int .i64 0, .int .i64 0, .int .i64 0, .int .i64 0, .int .i64 0, .int .i64 0, .int .i64 0, .slice none 0 0] 60)).alloc (.cells #[.int .i64 i0, .int .i64 i1, .int .i64 i2, .int .i64 i3, .int .i64 i4, .int .i64 i5, .int .i64 i6, .slice none 0 0] 60))).cell? ⟨W.heap.size + 1 + 1, 1, none⟩ = some (.int .i64 i1) := cell_of_row _ _ 1 _ _ _ rX3_.out
  have X_2_ : ((((W.alloc (.cells #[.int .i64 i0, .int .i64 i1, .int .i64 i2, .int .i64 i3, .int .i64 i4, .int .i64 i5, .int .i64 i6, v7] 57)).alloc (.cells #[.int .i64 0, .int .i64 0, .int .i64 0, .int .i64 0, .int .i64 0, .int .i64 0, .int .i64 0, .slice none 0 0] 60)).alloc (.cells #[.int .i64 i0, .int .i64 i1, .int .i64 i2, .int .i64 i3, .int .i64 i4, .int .i64 i5, .int .i64 i6, .slice none 0 0] 60))).cell? ⟨W.heap.size + 1 + 1, 2, none⟩ = some (.int .i64 i2) := cell_of_row _ _ 2 _ _ _ rX3_.out
  have X_3_ : ((((W.alloc (.cells #[.int .i64 i0, .int .i64 i1, .int .i64 i2, .int .i64 i3, .int .i64 i4, .int .i64 i5, .int .i64 i6, v7] 57)).alloc (.cells #[.int .i64 0, .int .i64 0, .int .i64 0, .int .i64 0, .int .i64 0, .int .i64 0, .int .i64 0, .slice none 0 0] 60)).alloc (.cells #[.int .i64 i0, .int .i64 i1, .int .i64 i2, .int .i64 i3, .int .i64 i4, .int .i64 i5, .int .i64 i6, .slice none 0 0] 60))).cell? ⟨W.heap.size + 1 + 1, 3, none⟩ = some (.int .i64 i3) := cell_of_row _ _ 3 _ _ _ rX3_.out
  have X_4_ : ((((W.alloc (.cells #[.int .i64 i0, .int .i64 i1, .int .i64 i2, .int .i64 i3, .int .i64 i4, .int .i64 i5, .int .i64 i6, v7] 57)).alloc (.cells #[.int .i64 0, .int .i64 0, .int .i64 0, .int .i64 0, .int .i64 0, .int .i64 0, .int .i64 0, .slice none 0 0] 60)).alloc (.cells #[.int .i64 i0, .int .i64 i1, .int .i64 i2, .int .i64 i3, .int .i64 i4, .int .i64 i5, .int .i64 i6, .slice none 0 0] 60))).cell? ⟨W.heap.size + 1 + 1, 4, none⟩ = some (.int .i64 i4) := cell_of_row _ _ 4 _ _ _ rX3_.out
  have X_5_ : ((((W.alloc (.cells #[.int .i64 i0, .int .i64 i1, .int .i64 i2, .int .i64 i3, .int .i64 i4, .int .i64 i5, .int .i64 i6, v7] 57)).alloc (.cells #[.int .i64 0, .int .i64 0, .int .i64 0, .int .i64 0, .int .i64 0, .int .i64 0, .int .i64 0, .slice none 0 0] 60)).alloc (.cells #[.int .i64 i0, .int .i64 i1, .int .i64 i2, .int .i64 i3, .int .i64 i4, .int .i64 i5, .int .i64 i6, .slice none 0 0] 60))).cell? ⟨W.heap.size + 1 + 1, 5, none⟩ = some (.int .i64 i5) := cell_of_row _ _ 5 _ _ _ rX3_.out
  have X_6_ : ((((W.alloc (.cells #[.int .i64 i0, .int .i64 i1, .int .i64 i2, .int .i64 i3, .int .i64 i4, .int .i64 i5, .int .i64 i6, v7] 57)).alloc (.cells #[.int .i64 0, .int .i64 0, .int .i64 0, .int .i64 0, .int .i64 0, .int .i64 0, .int .i64 0, .slice none 0 0] 60)).alloc (.cells #[.int .i64 i0, .int .i64 i1, .int .i64 i2, .int .i64 i3, .int .i64 i4, .int .i64 i5, .int .i64 i6, .slice none 0 0] 60))).cell? ⟨W.heap.size + 1 + 1, 6, none⟩ = some (.int .i64 i6) := cell_of_row _ _ 6 _ _ _ rX3_.out
  have X_7_ : ((((W.alloc (.cells #[.int .i64 i0, .int .i64 i1, .int .i64 i2, .int .i64 i3, .int .i64 i4, .int .i64 i5, .int .i64 i6, v7] 57)).alloc (.cells #[.int .i64 0, .int .i64 0, .int .i64 0, .int .i64 0, .int .i64 0, .int .i64 0, .int .i64 0, .slice none 0 0] 60)).alloc (.cells #[.int .i64 i0, .int .i64 i1, .int .i64 i2, .int .i64 i3, .int .i64 i4, .int .i64 i5, .int .i64 i6, .slice none 0 0] 60))).cell? ⟨W.heap.size + 1 + 1, 7, none⟩ = some (.slice none 0 0) := cell_of_row _ _ 7 _ _ _ rX3_.out
  have Xf0_ : ((((W.alloc (.cells #[.int .i64 i0, .int .i64 i1, .int .i64 i2, .int .i64 i3, .int .i64 i4, .int .i64 i5, .int .i64 i6, v7] 57)).alloc (.cells #[.int .i64 0, .int .i64 0, .int .i64 0, .int .i64 0, .int .i64 0, .int .i64 0, .int .i64 0, .slice none 0 0] 60)).alloc (.cells #[.int .i64 i0, .int .i64 i1, .int .i64 i2, .int .i64 i3, .int .i64 i4, .int .i64 i5, .int .i64 i6, .slice none 0 0] 60))).frozen? ⟨W.heap.size + 1 + 1, 0, none⟩ = false := frozen_of_row _ _ 0 _ _ rX3_.out
  have Xf1_ : ((((W.alloc (.cells #[.int .i64 i0, .int .i64 i1, .int .i64 i2, .int .i64 i3, .int .i64 i4, .int .i64 i5, .int .i64 i6, v7] 57)).alloc (.cells #[.int .i64 0, .int .i64 0, .int .i64 0, .int .i64 0, .int .i64 0, .int .i64 0, .int .i64 0, .slice none 0 0] 60)).alloc (.cells #[.int .i64 i0, .int .i64 i1, .int .i64 i2, .int .i64 i3, .int .i64 i4, .int .i64 i5, .int .i64 i6, .slice none 0 0] 60))).frozen? ⟨W.heap.size + 1 + 1, 1, none⟩ = false := frozen_of_row _ _ 1 _ _ rX3_.out
  have Xf2_ : ((((W.alloc (.cells #[.int .i64 i0, .int .i64 i1, .int .i64 i2, .int .i64 i3, .int .i64 i4, .int .i64 i5, .int .i64 i6, v7] 57)).alloc (.cells #[.int .i64 0, .int .i64 0, .int .i64 0, .int .i64 0, .int .i64 0, .int .i64 0, .int .i64 0, .slice none 0 0] 60)).alloc (.cells #[.int .i64 i0, .int .i64 i1, .int .i64 i2, .int .i64 i3, .int .i64 i4, .int .i64 i5, .int .i64 i6, .slice none 0 0] 60))).frozen? ⟨W.heap.size + 1 + 1, 2, none⟩ = false := frozen_of_row _ _ 2 _ _ rX3_.out
  have Xf3_ : ((((W.alloc (.cells #[.int .i64 i0, .int .i64 i1, .int .i64 i2, .int .i64 i3, .int .i64 i4, .int .i64 i5, .int .i64 i6, v7] 57)).alloc (.cells #[.int .i64 0, .int .i64 0, .int .i64 0, .int .i64 0, .int .i64 0, .int .i64 0, .int .i64 0, .slice none 0 0] 60)).alloc (.cells #[.int .i64 i0, .int .i64 i1, .int .i64 i2, .int .i64 i3, .int .i64 i4, .int .i64 i5, .int .i64 i6, .slice none 0 0] 60))).frozen? ⟨W.heap.size + 1 + 1, 3, none⟩ = false := frozen_of_row _ _ 3 _ _ rX3_.out
  have Xf4_ : ((((W.alloc (.cells #[.int .i64 i0, .int .i64 i1, .int .i64 i2, .int .i64 i3, .int .i64 i4, .int .i64 i5, .int .i64 i6, v7] 57)).alloc (.cells #[.int .i64 0, .int .i64 0, .int .i64 0, .int .i64 0, .int .i64 0, .int .i64 0, .int .i64 0, .slice none 0 0] 60)).alloc (.cells #[.int .i64 i0, .int .i64 i1, .int .i64 i2, .int .i64 i3, .int .i64 i4, .int .i64 i5, .int .i64 i6, .slice none 0 0] 60))).frozen? ⟨W.heap.size + 1 + 1, 4, none⟩ = false := frozen_of_row _ _ 4 _ _ rX3_.out
  have Xf5_ : ((((W.alloc (.cells #[.int .i64 i0, .int .i64 i1, .int .i64 i2, .int .i64 i3, .int .i64 i4, .int .i64 i5, .int .i64 i6, v7] 57)).alloc (.cells #[.int .i64 0, .int .i64 0, .int .i64 0, .int .i64 0, .int .i64 0, .int .i64 0, .int .i64 0, .slice none 0 0] 60)).alloc (.cells #[.int .i64 i0, .int .i64 i1, .int .i64 i2, .int .i64 i3, .int .i64 i4, .int .i64 i5, .int .i64 i6, .slice none 0 0] 60))).frozen? ⟨W.heap.size + 1 + 1, 5, none⟩ = false := frozen_of_row _ _ 5 _ _ rX3_.out
  have Xf6_ : ((((W.alloc (.cells #[.int .i64 i0, .int .i64 i1, .int .i64 i2, .int .i64 i3, .int .i64 i4, .int .i64 i5, .int .i64 i6, v7] 57)).alloc (.cells #[.int .i64 0, .int .i64 0, .int .i64 0, .int .i64 0, .int .i64 0, .int .i64 0, .int .i64 0, .slice none 0 0] 60)).alloc (.cells #[.int .i64 i0, .int .i64 i1, .int .i64 i2, .int .i64 i3, .int .i64 i4, .int .i64 i5, .int .i64 i6, .slice none 0 0] 60))).frozen? ⟨W.heap.size + 1 + 1, 6, none⟩ = false := frozen_of_row _ _ 6 _ _ rX3_.out
  have Xf7_ : ((((W.alloc (.cells #[.int .i64 i0, .int .i64 i1, .int .i64 i2, .int .i64 i3, .int .i64 i4, .int .i64 i5, .int .i64 i6, v7] 57)).alloc (.cells #[.int .i64 0, .int .i64 0, .int .i64 0, .int .i64 0, .int .i64 0, .int .i64 0, .int .i64 0, .slice none 0 0] 60)).alloc (.cells #[.int .i64 i0, .int .i64 i1, .int .i64 i2, .int .i64 i3, .int .i64 i4, .int .i64 i5, .int .i64 i6, .slice none 0 0] 60))).frozen? ⟨W.heap.size + 1 + 1, 7, none⟩ = false := frozen_of_row _ _ 7 _ _ rX3_.out
  go_wp2_with fail
  go_at_call 24
  clear P_0_ P_1_ P_2_ P_3_ P_4_ P_5_ P_6_ P_7_ R_0_ R_1_ R_2_ R_3_ R_4_ R_5_ R_6_ R_7_ X_0_ X_1_ X_2_ X_3_ X_4_ X_5_ X_6_ X_7_ Xf0_ Xf1_ Xf2_ Xf3_ Xf4_ Xf5_ Xf6_ Xf7_
  refine (toIntS_d _ v7 xs7 (HI7.out.grow G4_.out) hl7).mono ?_
  rintro e w1 ⟨d7, rfl, o, g⟩
  have sz7 := g.size
  first | simp only [World.size_alloc] at sz7 | simp only [World.size_setCell] at sz7 | skip
  first | simp only [World.size_alloc] at o | simp only [World.size_setCell] at o | skip
  have rP5_ := Lib.hid (show (w1).heap[W.heap.size]? = some (.cells #[.int .i64 i0, .int .i64 i1, .int .i64 i2, .int .i64 i3, .int .i64 i4, .int .i64 i5, .int .i64 i6, v7] 57 (0, 0)) from row_held g rP1_.out)
  clear rP1_
  have rR6_ := Lib.hid (show (w1).heap[W.heap.size + 1]? = some (.cells #[.int .i64 0, .int .i64 0, .int .i64 0, .int .i64 0, .int .i64 0, .int .i64 0, .int .i64 0, .slice none 0 0] 60 (0, 0)) from row_held g rR2_.out)
  clear rR2_
  have rX7_ := Lib.hid (show (w1).heap[W.heap.size + 1 + 1]? = some (.cells #[.int .i64 i0, .int .i64 i1, .int .i64 i2, .int .i64 i3, .int .i64 i4, .int .i64 i5, .int .i64 i6, .slice none 0 0] 60 (0, 0)) from row_held g rX3_.out)
  clear rX3_
  have G8_ := Lib.hid (show (W).grownBy (w1) none from gby_trans G4_.out g)
  clear g
  obtain ⟨p7_, n7_, c7_, hv7_⟩ := RdL.form (OwL.rd o)
  subst hv7_
  have o79_ := Lib.hid (show OwU (w1) (W.heap.size + 1 + 1 + 1) (w1.heap.size) [] [own shI (.slice p7_ n7_ c7_) xs7] from OwU.one o)
  clear o
  have P_0_ : (w1).cell? ⟨W.heap.size, 0, none⟩ = some (.int .i64 i0) := cell_of_row _ _ 0 _ _ _ rP5_.out
  have P_1_ : (w1).cell? ⟨W.heap.size, 1, none⟩ = some (.int .i64 i1) := cell_of_row _ _ 1 _ _ _ rP5_.out
  have P_2_ : (w1).cell? ⟨W.heap.size, 2, none⟩ = some (.int .i64 i2) := cell_of_row _ _ 2 _ _ _ rP5_.out
  have P_3_ : (w1).cell? ⟨W.heap.size, 3, none⟩ = some (.int .i64 i3) := cell_of_row _ _ 3 _ _ _ rP5_.out
  have P_4_ : (w1).cell? ⟨W.heap.size, 4, none⟩ = some (.int .i64 i4) := cell_of_row _ _ 4 _ _ _ rP5_.out
  have P_5_ : (w1).cell? ⟨W.heap.size, 5, none⟩ = some (.int .i64 i5) := cell_of_row _ _ 5 _ _ _ rP5_.out
  have P_6_ : (w1).cell? ⟨W.heap.size, 6, none⟩ = some (.int .i64 i6) := cell_of_row _ _ 6 _ _ _ rP5_.out
  have P_7_ : (w1).cell? ⟨W.heap.size, 7, none⟩ = some (v7) := cell_of_row _ _ 7 _ _ _ rP5_.out
  have R_0_ : (w1).cell? ⟨W.heap.size + 1, 0, none⟩ = some (.int .i64 0) := cell_of_row _ _ 0 _ _ _ rR6_.out
  have R_1_ : (w1).cell? ⟨W.heap.size + 1, 1, none⟩ = some (.int .i64 0) := cell_of_row _ _ 1 _ _ _ rR6_.out
  have R_2_ : (w1).cell? ⟨W.heap.size + 1, 2, none⟩ = some (.int .i64 0) := cell_of_row _ _ 2 _ _ _ rR6_.out
  have R_3_ : (w1).cell? ⟨W.heap.size + 1, 3, none⟩ = some (.int .i64 0) := cell_of_row _ _ 3 _ _ _ rR6_.out
  have R_4_ : (w1).cell? ⟨W.heap.size + 1, 4, none⟩ = some (.int .i64 0) := cell_of_row _ _ 4 _ _ _ rR6_.out
  have R_5_ : (w1).cell? ⟨W.heap.size + 1, 5, none⟩ = some (.int .i64 0) := cell_of_row _ _ 5 _ _ _ rR6_.out
  have R_6_ : (w1).cell? ⟨W.heap.size + 1, 6, none⟩ = some (.int .i64 0) := cell_of_row _ _ 6 _ _ _ rR6_.out
  have R_7_ : (w1).cell? ⟨W.heap.size + 1, 7, none⟩ = some (.slice none 0 0) := cell_of_row _ _ 7 _ _ _ rR6_.out
  have Rf0_ : (w1).frozen? ⟨W.heap.size + 1, 0, none⟩ = false := frozen_of_row _ _ 0 _ _ rR6_.out
  have Rf1_ : (w1).frozen? ⟨W.heap.size + 1, 1, none⟩ = false := frozen_of_row _ _ 1 _ _ rR6_.out
  have Rf2_ : (w1).frozen? ⟨W.heap.size + 1, 2, none⟩ = false := frozen_of_row _ _ 2 _ _ rR6_.out
  have Rf3_ : (w1).frozen? ⟨W.heap.size + 1, 3, none⟩ = false := frozen_of_row _ _ 3 _ _ rR6_.out
  have Rf4_ : (w1).frozen? ⟨W.heap.size + 1, 4, none⟩ = false := frozen_of_row _ _ 4 _ _ rR6_.out
  have Rf5_ : (w1).frozen? ⟨W.heap.size + 1, 5, none⟩ = false := frozen_of_row _ _ 5 _ _ rR6_.out
  have Rf6_ : (w1).frozen? ⟨W.heap.size + 1, 6, none⟩ = false := frozen_of_row _ _ 6 _ _ rR6_.out
  have Rf7_ : (w1).frozen? ⟨W.heap.size + 1, 7, none⟩ = false := frozen_of_row _ _ 7 _ _ rR6_.out
  have X_0_ : (w1).cell? ⟨W.heap.size + 1 + 1, 0, none⟩ = some (.int .i64 i0) := cell_of_row _ _ 0 _ _ _ rX7_.out
  have X_1_ : (w1).cell? ⟨W.heap.size + 1 + 1, 1, none⟩ = some (.int .i64 i1) := cell_of_row _ _ 1 _ _ _ rX7_.out
  have X_2_ : (w1).cell? ⟨W.heap.size + 1 + 1, 2, none⟩ = some (.int .i64 i2) := cell_of_row _ _ 2 _ _ _ rX7_.out
  have X_3_ : (w1).cell? ⟨W.heap.size + 1 + 1, 3, none⟩ = some (.int .i64 i3) := cell_of_row _ _ 3 _ _ _ rX7_.out
  have X_4_ : (w1).cell? ⟨W.heap.size + 1 + 1, 4, none⟩ = some (.int .i64 i4) := cell_of_row _ _ 4 _ _ _ rX7_.out
  have X_5_ : (w1).cell? ⟨W.heap.size + 1 + 1, 5, none⟩ = some (.int .i64 i5) := cell_of_row _ _ 5 _ _ _ rX7_.out
  have X_6_ : (w1).cell? ⟨W.heap.size + 1 + 1, 6, none⟩ = some (.int .i64 i6) := cell_of_row _ _ 6 _ _ _ rX7_.out
  have X_7_ : (w1).cell? ⟨W.heap.size + 1 + 1, 7, none⟩ = some (.slice none 0 0) := cell_of_row _ _ 7 _ _ _ rX7_.out
  have Xf0_ : (w1).frozen? ⟨W.heap.size + 1 + 1, 0, none⟩ = false := frozen_of_row _ _ 0 _ _ rX7_.out
  have Xf1_ : (w1).frozen? ⟨W.heap.size + 1 + 1, 1, none⟩ = false := frozen_of_row _ _ 1 _ _ rX7_.out
  have Xf2_ : (w1).frozen? ⟨W.heap.size + 1 + 1, 2, none⟩ = false := frozen_of_row _ _ 2 _ _ rX7_.out
  have Xf3_ : (w1).frozen? ⟨W.heap.size + 1 + 1, 3, none⟩ = false := frozen_of_row _ _ 3 _ _ rX7_.out
  have Xf4_ : (w1).frozen? ⟨W.heap.size + 1 + 1, 4, none⟩ = false := frozen_of_row _ _ 4 _ _ rX7_.out
  have Xf5_ : (w1).frozen? ⟨W.heap.size + 1 + 1, 5, none⟩ = false := frozen_of_row _ _ 5 _ _ rX7_.out
  have Xf6_ : (w1).frozen? ⟨W.heap.size + 1 + 1, 6, none⟩ = false := frozen_of_row _ _ 6 _ _ rX7_.out
  have Xf7_ : (w1).frozen? ⟨W.heap.size + 1 + 1, 7, none⟩ = false := frozen_of_row _ _ 7 _ _ rX7_.out
  go_wp2
  refine bodyPost_ret (v := vPacket i0 i1 i2 i3 i4 i5 i6 (.slice p7_ n7_ c7_)) (by simp [results, go_sem, vPacket, R_0_, R_1_, R_2_, R_3_, R_4_, R_5_, R_6_, R_7_]) rfl ⟨(.slice p7_ n7_ c7_), rfl, ?_, ?_⟩
  · refine OwU.wide (lo := W.heap.size + 1 + 1 + 1) (hi := w1.heap.size) (by omega) (by simp) (OwU.keep (w := w1) (lo' := W.heap.size) (hi' := W.heap.size + 3) ?_ (.inr (by omega)) ?_)
    · repeat (with_reducible refine chg_setp ?_ _ (by dsimp only; omega) (by dsimp only; omega) _)
      exact chg_gby (gby_refl _ _) _ _
    · exact o79_.out
  · repeat (with_reducible refine gby_setnew ?_ _ (by dsimp only; omega) _)
    exact G8_.out

set_option maxRecDepth 8000 in
set_option maxHeartbeats 2000000 in
theorem eqPacket_d (W : World) (i0 : Int) (i1 : Int) (i2 : Int) (i3 : Int) (i4 : Int) (i5 : Int) (i6 : Int) (v7 : Value) (v7' : Value) (xs7 : List Int) (H7 : RdL shI W v7 xs7) (K7 : RdL shI W v7' xs7) (hl7 : szL shI xs7 ≤ 1048576) :
    Calls Try.prog 41 #[vPacket i0 i1 i2 i3 i4 i5 i6 v7, vPacket i0 i1 i2 i3 i4 i5 i6 v7'] W (AnsN (.bool true) W) := by
  have HI7 := Lib.hid H7
  have HJ7 := Lib.hid K7
  clear H7 K7
  have bk0 : (i0 != i0) = false := by simp
  have bk1 : (i1 != i1) = false := by simp
  have bk2 : (i2 != i2) = false := by simp
  have bk3 : (i3 != i3) = false := by simp
  have bk4 : (i4 != i4) = false := by simp
  have bk5 : (i5 != i5) = false := by simp
  have bk6 : (i6 != i6) = false := by simp
  unfold vPacket
  go_enter Try.func41, Try.ntmps41
  have rP1_ := Lib.hid (show (((W.alloc (.cells #[.int .i64 i0, .int .i64 i1, .int .i64 i2, .int .i64 i3, .int .i64 i4, .int .i64 i5, .int .i64 i6, v7] 60)).alloc (.cells #[.int .i64 i0, .int .i64 i1, .int .i64 i2, .int .i64 i3, .int .i64 i4, .int .i64 i5, .int .i64 i6, v7'] 60))).heap[W.heap.size]? = some (.cells #[.int .i64 i0, .int .i64 i1, .int .i64 i2, .int .i64 i3, .int .i64 i4, .int .i64 i5, .int .i64 i6, v7] 60 (0, 0)) from by rw [heap_alloc_old _ _ (by simp only [World.size_alloc]; omega)]; exact heap_alloc_new _ _)
  have rQ2_ := Lib.hid (show (((W.alloc (.cells #[.int .i64 i0, .int .i64 i1, .int .i64 i2, .int .i64 i3, .int .i64 i4, .int .i64 i5, .int .i64 i6, v7] 60)).alloc (.cells #[.int .i64 i0, .int .i64 i1, .int .i64 i2, .int .i64 i3, .int .i64 i4, .int .i64 i5, .int .i64 i6, v7'] 60))).heap[W.heap.size + 1]? = some (.cells #[.int .i64 i0, .int .i64 i1, .int .i64 i2, .int .i64 i3, .int .i64 i4, .int .i64 i5, .int .i64 i6, v7'] 60 (0, 0)) from by exact heap_pair _ _ _)
  have G3_ := Lib.hid (show (W).grownBy (((W.alloc (.cells #[.int .i64 i0, .int .i64 i1, .int .i64 i2, .int .i64 i3, .int .i64 i4, .int .i64 i5, .int .i64 i6, v7] 60)).alloc (.cells #[.int .i64 i0, .int .i64 i1, .int .i64 i2, .int .i64 i3, .int .i64 i4, .int .i64 i5, .int .i64 i6, v7'] 60))) none from (gby_alloc (gby_alloc (gby_refl _ _) _) _))
  have P_0_ : (((W.alloc (.cells #[.int .i64 i0, .int .i64 i1, .int .i64 i2, .int .i64 i3, .int .i64 i4, .int .i64 i5, .int .i64 i6, v7] 60)).alloc (.cells #[.int .i64 i0, .int .i64 i1, .int .i64 i2, .int .i64 i3, .int .i64 i4, .int .i64 i5, .int .i64 i6, v7'] 60))).cell? ⟨W.heap.size, 0, none⟩ = some (.int .i64 i0) := cell_of_row _ _ 0 _ _ _ rP1_.out
  have P_1_ : (((W.alloc (.cells #[.int .i64 i0, .int .i64 i1, .int .i64 i2, .int .i64 i3, .int .i64 i4, .int .i64 i5, .int .i64 i6, v7] 60)).alloc (.cells #[.int .i64 i0, .int .i64 i1, .int .i64 i2, .int .i64 i3, .int .i64 i4, .int .i64 i5, .int .i64 i6, v7'] 60))).cell? ⟨W.heap.size, 1, none⟩ = some (.int .i64 i1) := cell_of_row _ _ 1 _ _ _ rP1_.out
  have P_2_ : (((W.alloc (.cells #[.int .i64 i0, .int .i64 i1, .int .i64 i2, .int .i64 i3, .int .i64 i4, .int .i64 i5, .int .i64 i6, v7] 60)).alloc (.cells #[.int .i64 i0, .int .i64 i1, .int .i64 i2, .int .i64 i3, .int .i64 i4, .int .i64 i5, .int .i64 i6, v7'] 60))).cell? ⟨W.heap.size, 2, none⟩ = some (.int .i64 i2) := cell_of_row _ _ 2 _ _ _ rP1_.out
  have P_3_ : (((W.alloc (.cells #[.int .i64 i0, .int .i64 i1, .int .i64 i2, .int .i64 i3, .int .i64 i4, .int .i64 i5, .int .i64 i6, v7] 60)).alloc (.cells #[.int .i64 i0, .int .i64 i1, .int .i64 i2, .int .i64 i3, .int .i64 i4, .int .i64 i5, .int .i64 i6, v7'] 60))).cell? ⟨W.heap.size, 3, none⟩ = some (.int .i64 i3) := cell_of_row _ _ 3 _ _ _ rP1_.out
  have P_4_ : (((W.alloc (.cells #[.int .i64 i0, .int .i64 i1, .int .i64 i2, .int .i64 i3, .int .i64 i4, .int .i64 i5, .int .i64 i6, v7] 60)).alloc (.cells #[.int .i64 i0, .int .i64 i1, .int .i64 i2, .int .i64 i3, .int .i64 i4, .int .i64 i5, .int .i64 i6, v7'] 60))).cell? ⟨W.heap.size, 4, none⟩ = some (.int .i64 i4) := cell_of_row _ _ 4 _ _ _ rP1_.out
  have P_5_ : (((W.alloc (.cells #[.int .i64 i0, .int .i64 i1, .int .i64 i2, .int .i64 i3, .int .i64 i4, .int .i64 i5, .int .i64 i6, v7] 60)).alloc (.cells #[.int .i64 i0, .int .i64 i1, .int .i64 i2, .int .i64 i3, .int .i64 i4, .int .i64 i5, .int .i64 i6, v7'] 60))).cell? ⟨W.heap.size, 5, none⟩ = some (.int .i64 i5) := cell_of_row _ _ 5 _ _ _ rP1_.out
  have P_6_ : (((W.alloc (.cells #[.int .i64 i0, .int .i64 i1, .int .i64 i2, .int .i64 i3, .int .i64 i4, .int .i64 i5, .int .i64 i6, v7] 60)).alloc (.cells #[.int .i64 i0, .int .i64 i1, .int .i64 i2, .int .i64 i3, .int .i64 i4, .int .i64 i5, .int .i64 i6, v7'] 60))).cell? ⟨W.heap.size, 6, none⟩ = some (.int .i64 i6) := cell_of_row _ _ 6 _ _ _ rP1_.out
  have P_7_ : (((W.alloc (.cells #[.int .i64 i0, .int .i64 i1, .int .i64 i2, .int .i64 i3, .int .i64 i4, .int .i64 i5, .int .i64 i6, v7] 60)).alloc (.cells #[.int .i64 i0, .int .i64 i1, .int .i64 i2, .int .i64 i3, .int .i64 i4, .int .i64 i5, .int .i64 i6, v7'] 60))).cell? ⟨W.heap.size, 7, none⟩ = some (v7) := cell_of_row _ _ 7 _ _ _ rP1_.out
  have Q_0_ : (((W.alloc (.cells #[.int .i64 i0, .int .i64 i1, .int .i64 i2, .int .i64 i3, .int .i64 i4, .int .i64 i5, .int .i64 i6, v7] 60)).alloc (.cells #[.int .i64 i0, .int .i64 i1, .int .i64 i2, .int .i64 i3, .int .i64 i4, .int .i64 i5, .int .i64 i6, v7'] 60))).cell? ⟨W.heap.size + 1, 0, none⟩ = some (.int .i64 i0) := cell_of_row _ _ 0 _ _ _ rQ2_.out
  have Q_1_ : (((W.alloc (.cells #[.int .i64 i0, .int .i64 i1, .int .i64 i2, .int .i64 i3, .int .i64 i4, .int .i64 i5, .int .i64 i6, v7] 60)).alloc (.cells #[.int .i64 i0, .int .i64 i1, .int .i64 i2, .int .i64 i3, .int .i64 i4, .int .i64 i5, .int .i64 i6, v7'] 60))).cell? ⟨W.heap.size + 1, 1, none⟩ = some (.int .i64 i1) := cell_of_row _ _ 1 _ _ _ rQ2_.out
  have Q_2_ : (((W.alloc (.cells #[.int .i64 i0, .int .i64 i1, .int .i64 i2, .int .i64 i3, .int .i64 i4, .int .i64 i5, .int .i64 i6, v7] 60)).alloc (.cells #[.int .i64 i0, .int .i64 i1, .int .i64 i2, .int .i64 i3, .int .i64 i4, .int .i64 i5, .int .i64 i6, v7'] 60))).cell? ⟨W.heap.size + 1, 2, none⟩ = some (.int .i64 i2) := cell_of_row _ _ 2 _ _ _ rQ2_.out
  have Q_3_ : (((W.alloc (.cells #[.int .i64 i0, .int .i64 i1, .int .i64 i2, .int .i64 i3, .int .i64 i4, .int .i64 i5, .int .i64 i6, v7] 60)).alloc (.cells #[.int .i64 i0, .int .i64 i1, .int .i64 i2, .int .i64 i3, .int .i64 i4, .int .i64 i5, .int .i64 i6, v7'] 60))).cell? ⟨W.heap.size + 1, 3, none⟩ = some (.int .i64 i3) := cell_of_row _ _ 3 _ _ _ rQ2_.out
  have Q_4_ : (((W.alloc (.cells #[.int .i64 i0, .int .i64 i1, .int .i64 i2, .int .i64 i3, .int .i64 i4, .int .i64 i5, .int .i64 i6, v7] 60)).alloc (.cells #[.int .i64 i0, .int .i64 i1, .int .i64 i2, .int .i64 i3, .int .i64 i4, .int .i64 i5, .int .i64 i6, v7'] 60))).cell? ⟨W.heap.size + 1, 4, none⟩ = some (.int .i64 i4) := cell_of_row _ _ 4 _ _ _ rQ2_.out
  have Q_5_ : (((W.alloc (.cells #[.int .i64 i0, .int .i64 i1, .int .i64 i2, .int .i64 i3, .int .i64 i4, .int .i64 i5, .int .i64 i6, v7] 60)).alloc (.cells #[.int .i64 i0, .int .i64 i1, .int .i64 i2, .int .i64 i3, .int .i64 i4, .int .i64 i5, .int .i64 i6, v7'] 60))).cell? ⟨W.heap.size + 1, 5, none⟩ = some (.int .i64 i5) := cell_of_row _ _ 5 _ _ _ rQ2_.out
  have Q_6_ : (((W.alloc (.cells #[.int .i64 i0, .int .i64 i1, .int .i64 i2, .int .i64 i3, .int .i64 i4, .int .i64 i5, .int .i64 i6, v7] 60)).alloc (.cells #[.int .i64 i0, .int .i64 i1, .int .i64 i2, .int .i64 i3, .int .i64 i4, .int .i64 i5, .int .i64 i6, v7'] 60))).cell? ⟨W.heap.size + 1, 6, none⟩ = some (.int .i64 i6) := cell_of_row _ _ 6 _ _ _ rQ2_.out
  have Q_7_ : (((W.alloc (.cells #[.int .i64 i0, .int .i64 i1, .int .i64 i2, .int .i64 i3, .int .i64 i4, .int .i64 i5, .int .i64 i6, v7] 60)).alloc (.cells #[.int .i64 i0, .int .i64 i1, .int .i64 i2, .int .i64 i3, .int .i64 i4, .int .i64 i5, .int .i64 i6, v7'] 60))).cell? ⟨W.heap.size + 1, 7, none⟩ = some (v7') := cell_of_row _ _ 7 _ _ _ rQ2_.out
  go_wp2_with fail
  go_at_call 27
  refine (eqIntS_d _ v7 v7' xs7 (HI7.out.grow G3_.out) (HJ7.out.grow G3_.out) hl7).mono ?_
  rintro e w1 ⟨rfl, g⟩
  clear P_0_ P_1_ P_2_ P_3_ P_4_ P_5_ P_6_ P_7_ Q_0_ Q_1_ Q_2_ Q_3_ Q_4_ Q_5_ Q_6_ Q_7_
  have rP4_ := Lib.hid (show (w1).heap[W.heap.size]? = some (.cells #[.int .i64 i0, .int .i64 i1, .int .i64 i2, .int .i64 i3, .int .i64 i4, .int .i64 i5, .int .i64 i6, v7] 60 (0, 0)) from row_held g rP1_.out)
  clear rP1_
  have rQ5_ := Lib.hid (show (w1).heap[W.heap.size + 1]? = some (.cells #[.int .i64 i0, .int .i64 i1, .int .i64 i2, .int .i64 i3, .int .i64 i4, .int .i64 i5, .int .i64 i6, v7'] 60 (0, 0)) from row_held g rQ2_.out)
  clear rQ2_
  have G6_ := Lib.hid (show (W).grownBy (w1) none from gby_trans G3_.out g)
  clear g
  have P_0_ : (w1).cell? ⟨W.heap.size, 0, none⟩ = some (.int .i64 i0) := cell_of_row _ _ 0 _ _ _ rP4_.out
  have P_1_ : (w1).cell? ⟨W.heap.size, 1, none⟩ = some (.int .i64 i1) := cell_of_row _ _ 1 _ _ _ rP4_.out
  have P_2_ : (w1).cell? ⟨W.heap.size, 2, none⟩ = some (.int .i64 i2) := cell_of_row _ _ 2 _ _ _ rP4_.out
  have P_3_ : (w1).cell? ⟨W.heap.size, 3, none⟩ = some (.int .i64 i3) := cell_of_row _ _ 3 _ _ _ rP4_.out
  have P_4_ : (w1).cell? ⟨W.heap.size, 4, none⟩ = some (.int .i64 i4) := cell_of_row _ _ 4 _ _ _ rP4_.out
  have P_5_ : (w1).cell? ⟨W.heap.size, 5, none⟩ = some (.int .i64 i5) := cell_of_row _ _ 5 _ _ _ rP4_.out
  have P_6_ : (w1).cell? ⟨W.heap.size, 6, none⟩ = some (.int .i64 i6) := cell_of_row _ _ 6 _ _ _ rP4_.out
  have P_7_ : (w1).cell? ⟨W.heap.size, 7, none⟩ = some (v7) := cell_of_row _ _ 7 _ _ _ rP4_.out
  have Q_0_ : (w1).cell? ⟨W.heap.size + 1, 0, none⟩ = some (.int .i64 i0) := cell_of_row _ _ 0 _ _ _ rQ5_.out
  have Q_1_ : (w1).cell? ⟨W.heap.size + 1, 1, none⟩ = some (.int .i64 i1) := cell_of_row _ _ 1 _ _ _ rQ5_.out
  have Q_2_ : (w1).cell? ⟨W.heap.size + 1, 2, none⟩ = some (.int .i64 i2) := cell_of_row _ _ 2 _ _ _ rQ5_.out
  have Q_3_ : (w1).cell? ⟨W.heap.size + 1, 3, none⟩ = some (.int .i64 i3) := cell_of_row _ _ 3 _ _ _ rQ5_.out
  have Q_4_ : (w1).cell? ⟨W.heap.size + 1, 4, none⟩ = some (.int .i64 i4) := cell_of_row _ _ 4 _ _ _ rQ5_.out
  have Q_5_ : (w1).cell? ⟨W.heap.size + 1, 5, none⟩ = some (.int .i64 i5) := cell_of_row _ _ 5 _ _ _ rQ5_.out
  have Q_6_ : (w1).cell? ⟨W.heap.size + 1, 6, none⟩ = some (.int .i64 i6) := cell_of_row _ _ 6 _ _ _ rQ5_.out
  have Q_7_ : (w1).cell? ⟨W.heap.size + 1, 7, none⟩ = some (v7') := cell_of_row _ _ 7 _ _ _ rQ5_.out
  go_wp2
  go_ret
  exact ⟨rfl, G6_.out⟩

set_option maxRecDepth 8000 in
set_option maxHeartbeats 2000000 in
theorem markPacket_d (w : World) (lo hi m : Nat) (i0 : Int) (i1 : Int) (i2 : Int) (i3 : Int) (i4 : Int) (i5 : Int) (i6 : Int) (v7 : Value) (xs7 : List Int) (pre post : List Own) (h1 : OwU w lo hi [] (pre ++ own shI v7 xs7 :: post)) (hhi : hi ≤ w.heap.size) (hl7 : szL shI xs7 ≤ 1048576) (hm2 : m + ecL shI xs7 ≤ 900000000) :
    Calls Try.prog 42 #[vPacket i0 i1 i2 i3 i4 i5 i6 v7, .int .i64 (m : Int)] w (fun e w' => e = .returned (.int .i64 ((m + ecL shI xs7 : Nat) : Int)) ∧ OwU w' lo hi [] (pre ++ own shI v7 (emL shI (m) xs7) :: post) ∧ Chg w w' lo hi) := by
  unfold vPacket
  go_enter Try.func42, Try.ntmps42
  have rP1_ := Lib.hid (show ((w.alloc (.cells #[.int .i64 i0, .int .i64 i1, .int .i64 i2, .int .i64 i3, .int .i64 i4, .int .i64 i5, .int .i64 i6, v7] 60))).heap[w.heap.size]? = some (.cells #[.int .i64 i0, .int .i64 i1, .int .i64 i2, .int .i64 i3, .int .i64 i4, .int .i64 i5, .int .i64 i6, v7] 60 (0, 0)) from by exact heap_alloc_new _ _)
  have G2_ := Lib.hid (show (w).grownBy ((w.alloc (.cells #[.int .i64 i0, .int .i64 i1, .int .i64 i2, .int .i64 i3, .int .i64 i4, .int .i64 i5, .int .i64 i6, v7] 60))) none from (gby_alloc (gby_refl _ _) _))
  have U0 := Lib.hid (OwU.grow h1 (gby_alloc (gby_refl _ _) (.cells #[.int .i64 i0, .int .i64 i1, .int .i64 i2, .int .i64 i3, .int .i64 i4, .int .i64 i5, .int .i64 i6, v7] 60)))
  have C0 := Lib.hid (chg_gby G2_.out lo hi)
  clear h1
  have P_0_ : ((w.alloc (.cells #[.int .i64 i0, .int .i64 i1, .int .i64 i2, .int .i64 i3, .int .i64 i4, .int .i64 i5, .int .i64 i6, v7] 60))).cell? ⟨w.heap.size, 0, none⟩ = some (.int .i64 i0) := cell_of_row _ _ 0 _ _ _ rP1_.out
  have P_1_ : ((w.alloc (.cells #[.int .i64 i0, .int .i64 i1, .int .i64 i2, .int .i64 i3, .int .i64 i4, .int .i64 i5, .int .i64 i6, v7] 60))).cell? ⟨w.heap.size, 1, none⟩ = some (.int .i64 i1) := cell_of_row _ _ 1 _ _ _ rP1_.out
  have P_2_ : ((w.alloc (.cells #[.int .i64 i0, .int .i64 i1, .int .i64 i2, .int .i64 i3, .int .i64 i4, .int .i64 i5, .int .i64 i6, v7] 60))).cell? ⟨w.heap.size, 2, none⟩ = some (.int .i64 i2) := cell_of_row _ _ 2 _ _ _ rP1_.out
  have P_3_ : ((w.alloc (.cells #[.int .i64 i0, .int .i64 i1, .int .i64 i2, .int .i64 i3, .int .i64 i4, .int .i64 i5, .int .i64 i6, v7] 60))).cell? ⟨w.heap.size, 3, none⟩ = some (.int .i64 i3) := cell_of_row _ _ 3 _ _ _ rP1_.out
  have P_4_ : ((w.alloc (.cells #[.int .i64 i0, .int .i64 i1, .int .i64 i2, .int .i64 i3, .int .i64 i4, .int .i64 i5, .int .i64 i6, v7] 60))).cell? ⟨w.heap.size, 4, none⟩ = some (.int .i64 i4) := cell_of_row _ _ 4 _ _ _ rP1_.out
  have P_5_ : ((w.alloc (.cells #[.int .i64 i0, .int .i64 i1, .int .i64 i2, .int .i64 i3, .int .i64 i4, .int .i64 i5, .int .i64 i6, v7] 60))).cell? ⟨w.heap.size, 5, none⟩ = some (.int .i64 i5) := cell_of_row _ _ 5 _ _ _ rP1_.out
  have P_6_ : ((w.alloc (.cells #[.int .i64 i0, .int .i64 i1, .int .i64 i2, .int .i64 i3, .int .i64 i4, .int .i64 i5, .int .i64 i6, v7] 60))).cell? ⟨w.heap.size, 6, none⟩ = some (.int .i64 i6) := cell_of_row _ _ 6 _ _ _ rP1_.out
  have P_7_ : ((w.alloc (.cells #[.int .i64 i0, .int .i64 i1, .int .i64 i2, .int .i64 i3, .int .i64 i4, .int .i64 i5, .int .i64 i6, v7] 60))).cell? ⟨w.heap.size, 7, none⟩ = some (v7) := cell_of_row _ _ 7 _ _ _ rP1_.out
  obtain ⟨p7, q7, l7, u7, _, oo, ff⟩ := OwU.focus (pre := pre) (p := own shI v7 xs7) (post := post) (show OwU ((w.alloc (.cells #[.int .i64 i0, .int .i64 i1, .int .i64 i2, .int .i64 i3, .int .i64 i4, .int .i64 i5, .int .i64 i6, v7] 60))) lo hi [] (pre ++ own shI v7 xs7 :: post) from by first | exact U0.out | (rw [List.append_assoc]; exact U0.out))
  have FF := Lib.hid ff
  clear ff
  go_wp2_with fail
  go_at_call 94
  refine (markIntS_d _ p7 q7 m v7 xs7 oo hl7 (by omega)).mono ?_
  rintro e w1 ⟨rfl, o, c⟩
  clear P_0_ P_1_ P_2_ P_3_ P_4_ P_5_ P_6_ P_7_
  have hrow := Chg.keep c rP1_.out (by omega)
  clear rP1_
  have hsz7 := c.size
  try simp only [World.size_alloc] at hsz7
  have rP3_ := Lib.hid (show (w1).heap[w.heap.size]? = some (.cells #[.int .i64 i0, .int .i64 i1, .int .i64 i2, .int .i64 i3, .int .i64 i4, .int .i64 i5, .int .i64 i6, v7] 60 (0, 0)) from hrow)
  clear hrow
  have U1 := Lib.hid (show OwU (w1) lo hi [] (pre ++ own shI v7 (emL shI (m) xs7) :: post) from by first | exact (show OwU (w1) lo hi [] (pre ++ own shI v7 (emL shI (m) xs7) :: post) from FF.out _ (own shI v7 (emL shI (m) xs7)) c o) | (have q := (show OwU (w1) lo hi [] (pre ++ own shI v7 (emL shI (m) xs7) :: post) from FF.out _ (own shI v7 (emL shI (m) xs7)) c o); rw [List.append_assoc] at q; exact q))
  clear U0 o
  have C1 := Lib.hid (chg_trans C0.out (chg_wide c (lo' := lo) (hi' := hi) l7 u7))
  clear c C0
  try clear oo FF
  have P_0_ : (w1).cell? ⟨w.heap.size, 0, none⟩ = some (.int .i64 i0) := cell_of_row _ _ 0 _ _ _ rP3_.out
  have P_1_ : (w1).cell? ⟨w.heap.size, 1, none⟩ = some (.int .i64 i1) := cell_of_row _ _ 1 _ _ _ rP3_.out
  have P_2_ : (w1).cell? ⟨w.heap.size, 2, none⟩ = some (.int .i64 i2) := cell_of_row _ _ 2 _ _ _ rP3_.out
  have P_3_ : (w1).cell? ⟨w.heap.size, 3, none⟩ = some (.int .i64 i3) := cell_of_row _ _ 3 _ _ _ rP3_.out
  have P_4_ : (w1).cell? ⟨w.heap.size, 4, none⟩ = some (.int .i64 i4) := cell_of_row _ _ 4 _ _ _ rP3_.out
  have P_5_ : (w1).cell? ⟨w.heap.size, 5, none⟩ = some (.int .i64 i5) := cell_of_row _ _ 5 _ _ _ rP3_.out
  have P_6_ : (w1).cell? ⟨w.heap.size, 6, none⟩ = some (.int .i64 i6) := cell_of_row _ _ 6 _ _ _ rP3_.out
  have P_7_ : (w1).cell? ⟨w.heap.size, 7, none⟩ = some (v7) := cell_of_row _ _ 7 _ _ _ rP3_.out
  go_wp2
  go_ret
  exact ⟨by first | rfl | (congr 3; omega), by first | exact U1.out | simpa only [Nat.add_assoc] using U1.out, C1.out⟩

set_option maxRecDepth 8000 in
set_option maxHeartbeats 2000000 in
theorem heldPacket_d (w : World) (m : Nat) (i0 : Int) (i1 : Int) (i2 : Int) (i3 : Int) (i4 : Int) (i5 : Int) (i6 : Int) (v7 : Value) (xs7 : List Int) (H7 : RdL shI w v7 (emL shI (m) xs7)) (hl7 : szL shI xs7 ≤ 1048576) (hm2 : m + ecL shI xs7 ≤ 900000000) :
    Calls Try.prog 45 #[vPacket i0 i1 i2 i3 i4 i5 i6 v7, .int .i64 (m : Int)] w (AnsN (.int .i64 ((m + ecL shI xs7 : Nat) : Int)) w) := by
  unfold vPacket
  have HI7 := Lib.hid H7
  clear H7
  have ng7 : ¬ (((m + ecL shI xs7 : Nat) : Int) < 0) := by omega
  go_enter Try.func45, Try.ntmps45
  have rP1_ := Lib.hid (show ((w.alloc (.cells #[.int .i64 i0, .int .i64 i1, .int .i64 i2, .int .i64 i3, .int .i64 i4, .int .i64 i5, .int .i64 i6, v7] 60))).heap[w.heap.size]? = some (.cells #[.int .i64 i0, .int .i64 i1, .int .i64 i2, .int .i64 i3, .int .i64 i4, .int .i64 i5, .int .i64 i6, v7] 60 (0, 0)) from by exact heap_alloc_new _ _)
  have G2_ := Lib.hid (show (w).grownBy ((w.alloc (.cells #[.int .i64 i0, .int .i64 i1, .int .i64 i2, .int .i64 i3, .int .i64 i4, .int .i64 i5, .int .i64 i6, v7] 60))) none from (gby_alloc (gby_refl _ _) _))
  have P_0_ : ((w.alloc (.cells #[.int .i64 i0, .int .i64 i1, .int .i64 i2, .int .i64 i3, .int .i64 i4, .int .i64 i5, .int .i64 i6, v7] 60))).cell? ⟨w.heap.size, 0, none⟩ = some (.int .i64 i0) := cell_of_row _ _ 0 _ _ _ rP1_.out
  have P_1_ : ((w.alloc (.cells #[.int .i64 i0, .int .i64 i1, .int .i64 i2, .int .i64 i3, .int .i64 i4, .int .i64 i5, .int .i64 i6, v7] 60))).cell? ⟨w.heap.size, 1, none⟩ = some (.int .i64 i1) := cell_of_row _ _ 1 _ _ _ rP1_.out
  have P_2_ : ((w.alloc (.cells #[.int .i64 i0, .int .i64 i1, .int .i64 i2, .int .i64 i3, .int .i64 i4, .int .i64 i5, .int .i64 i6, v7] 60))).cell? ⟨w.heap.size, 2, none⟩ = some (.int .i64 i2) := cell_of_row _ _ 2 _ _ _ rP1_.out
  have P_3_ : ((w.alloc (.cells #[.int .i64 i0, .int .i64 i1, .int .i64 i2, .int .i64 i3, .int .i64 i4, .int .i64 i5, .int .i64 i6, v7] 60))).cell? ⟨w.heap.size, 3, none⟩ = some (.int .i64 i3) := cell_of_row _ _ 3 _ _ _ rP1_.out
  have P_4_ : ((w.alloc (.cells #[.int .i64 i0, .int .i64 i1, .int .i64 i2, .int .i64 i3, .int .i64 i4, .int .i64 i5, .int .i64 i6, v7] 60))).cell? ⟨w.heap.size, 4, none⟩ = some (.int .i64 i4) := cell_of_row _ _ 4 _ _ _ rP1_.out
  have P_5_ : ((w.alloc (.cells #[.int .i64 i0, .int .i64 i1, .int .i64 i2, .int .i64 i3, .int .i64 i4, .int .i64 i5, .int .i64 i6, v7] 60))).cell? ⟨w.heap.size, 5, none⟩ = some (.int .i64 i5) := cell_of_row _ _ 5 _ _ _ rP1_.out
  have P_6_ : ((w.alloc (.cells #[.int .i64 i0, .int .i64 i1, .int .i64 i2, .int .i64 i3, .int .i64 i4, .int .i64 i5, .int .i64 i6, v7] 60))).cell? ⟨w.heap.size, 6, none⟩ = some (.int .i64 i6) := cell_of_row _ _ 6 _ _ _ rP1_.out
  have P_7_ : ((w.alloc (.cells #[.int .i64 i0, .int .i64 i1, .int .i64 i2, .int .i64 i3, .int .i64 i4, .int .i64 i5, .int .i64 i6, v7] 60))).cell? ⟨w.heap.size, 7, none⟩ = some (v7) := cell_of_row _ _ 7 _ _ _ rP1_.out
  go_wp2_with fail
  go_at_call 96
  refine (heldIntS_d _ m v7 xs7 (HI7.out.grow G2_.out) hl7 (by omega)).mono ?_
  rintro e w1 ⟨rfl, g⟩
  clear P_0_ P_1_ P_2_ P_3_ P_4_ P_5_ P_6_ P_7_
  have rP3_ := Lib.hid (show (w1).heap[w.heap.size]? = some (.cells #[.int .i64 i0, .int .i64 i1, .int .i64 i2, .int .i64 i3, .int .i64 i4, .int .i64 i5, .int .i64 i6, v7] 60 (0, 0)) from row_held g rP1_.out)
  clear rP1_
  have G4_ := Lib.hid (show (w).grownBy (w1) none from gby_trans G2_.out g)
  clear g
  have P_0_ : (w1).cell? ⟨w.heap.size, 0, none⟩ = some (.int .i64 i0) := cell_of_row _ _ 0 _ _ _ rP3_.out
  have P_1_ : (w1).cell? ⟨w.heap.size, 1, none⟩ = some (.int .i64 i1) := cell_of_row _ _ 1 _ _ _ rP3_.out
  have P_2_ : (w1).cell? ⟨w.heap.size, 2, none⟩ = some (.int .i64 i2) := cell_of_row _ _ 2 _ _ _ rP3_.out
  have P_3_ : (w1).cell? ⟨w.heap.size, 3, none⟩ = some (.int .i64 i3) := cell_of_row _ _ 3 _ _ _ rP3_.out
  have P_4_ : (w1).cell? ⟨w.heap.size, 4, none⟩ = some (.int .i64 i4) := cell_of_row _ _ 4 _ _ _ rP3_.out
  have P_5_ : (w1).cell? ⟨w.heap.size, 5, none⟩ = some (.int .i64 i5) := cell_of_row _ _ 5 _ _ _ rP3_.out
  have P_6_ : (w1).cell? ⟨w.heap.size, 6, none⟩ = some (.int .i64 i6) := cell_of_row _ _ 6 _ _ _ rP3_.out
  have P_7_ : (w1).cell? ⟨w.heap.size, 7, none⟩ = some (v7) := cell_of_row _ _ 7 _ _ _ rP3_.out
  go_wp2
  go_ret
  exact ⟨rfl, G4_.out⟩

end Go.Proofs.Ytnighnkkeiegnaa
