/-
  Frame by value, on the law's side: measured, copied, compared, marked, held.
-/
import Derived.Test.YtnighnkkeiegnabShpI
namespace Go.Proofs.Ytnighnkkeiegnab
open Go Go.RowKit
set_option linter.unusedVariables false

/-- a value of Frame -/
def vFrame (i0 : Int) (v1 : Value) : Value := .agg #[.int .i64 i0, v1]

set_option maxRecDepth 8000 in
set_option maxHeartbeats 2000000 in
theorem szFrame_d (W : World) (n : Int) (i0 : Int) (v1 : Value) (xs1 : List Int) (H1 : RdL shI W v1 xs1) (hn : n ≤ 1048576) (h0 : 0 ≤ n) :
    Calls Try.prog 108 #[vFrame i0 v1, .int .i64 n] W (AnsN (.int .i64 (lessN n (szL shI xs1))) W) := by
  obtain ⟨t0, ht0⟩ : ∃ t, t = szL shI xs1 := ⟨_, rfl⟩
  rw [show (szL shI xs1) = t0 by omega]
  have HT0 := Lib.hid ht0
  clear ht0
  have HI1 := Lib.hid H1
  clear H1
  unfold vFrame
  by_cases h0_ : n < (t0 : Int)
  · rw [show lessN n (t0) = -1 from if_pos (by omega)]
    go_enter Try.func108, Try.ntmps108
    have rA1_ := Lib.hid (show ((W.alloc (.cells #[.int .i64 i0, v1] 134))).heap[W.heap.size]? = some (.cells #[.int .i64 i0, v1] 134 (0, 0)) from by exact heap_alloc_new _ _)
    have G2_ := Lib.hid (show (W).grownBy ((W.alloc (.cells #[.int .i64 i0, v1] 134))) none from (gby_alloc (gby_refl _ _) _))
    have A_0_ : ((W.alloc (.cells #[.int .i64 i0, v1] 134))).cell? ⟨W.heap.size, 0, none⟩ = some (.int .i64 i0) := cell_of_row _ _ 0 _ _ _ rA1_.out
    have A_1_ : ((W.alloc (.cells #[.int .i64 i0, v1] 134))).cell? ⟨W.heap.size, 1, none⟩ = some (v1) := cell_of_row _ _ 1 _ _ _ rA1_.out
    go_wp2_with fail
    go_at_call 45
    refine (szIntS_d _ _ v1 xs1 (HI1.out.grow G2_.out) (by omega) (by omega)).mono ?_
    rintro e w1 ⟨he, g⟩
    rw [← HT0.out, show lessN _ t0 = -1 from if_pos (by omega)] at he
    subst he
    clear A_0_ A_1_
    have rA3_ := Lib.hid (show (w1).heap[W.heap.size]? = some (.cells #[.int .i64 i0, v1] 134 (0, 0)) from row_held g rA1_.out)
    clear rA1_
    have G4_ := Lib.hid (show (W).grownBy (w1) none from gby_trans G2_.out g)
    clear g
    have hm1 : (-1 : Int) < 0 := by omega
    go_wp2
    go_ret
    exact ⟨rfl, G4_.out⟩
  rw [show lessN n (t0) = n - (t0 : Int) from (if_neg (by omega)).trans (by omega)]
  go_enter Try.func108, Try.ntmps108
  have rA1_ := Lib.hid (show ((W.alloc (.cells #[.int .i64 i0, v1] 134))).heap[W.heap.size]? = some (.cells #[.int .i64 i0, v1] 134 (0, 0)) from by exact heap_alloc_new _ _)
  have G2_ := Lib.hid (show (W).grownBy ((W.alloc (.cells #[.int .i64 i0, v1] 134))) none from (gby_alloc (gby_refl _ _) _))
  have A_0_ : ((W.alloc (.cells #[.int .i64 i0, v1] 134))).cell? ⟨W.heap.size, 0, none⟩ = some (.int .i64 i0) := cell_of_row _ _ 0 _ _ _ rA1_.out
  have A_1_ : ((W.alloc (.cells #[.int .i64 i0, v1] 134))).cell? ⟨W.heap.size, 1, none⟩ = some (v1) := cell_of_row _ _ 1 _ _ _ rA1_.out
  go_wp2_with fail
  go_at_call 45
  refine (szIntS_d _ _ v1 xs1 (HI1.out.grow G2_.out) (by omega) (by omega)).mono ?_
  rintro e w1 ⟨he, g⟩
  rw [← HT0.out, show lessN _ t0 = n - (t0 : Int) from (if_neg (by omega)).trans (by omega)] at he
  subst he
  clear A_0_ A_1_
  have rA3_ := Lib.hid (show (w1).heap[W.heap.size]? = some (.cells #[.int .i64 i0, v1] 134 (0, 0)) from row_held g rA1_.out)
  clear rA1_
  have G4_ := Lib.hid (show (W).grownBy (w1) none from gby_trans G2_.out g)
  clear g
  go_wp2
  go_ret
  exact ⟨rfl, G4_.out⟩

/-- a Frame in new memory -/
def NewFrame (i0 : Int) (xs1 : List Int) (W : World) (e : Ending) (w' : World) : Prop := ∃ v1, e = .returned (vFrame i0 v1) ∧ OwU w' W.heap.size w'.heap.size [] [own shI v1 xs1] ∧ W.grownBy w' none

set_option maxRecDepth 8000 in
set_option maxHeartbeats 4000000 in
theorem toFrame_d (W : World) (i0 : Int) (v1 : Value) (xs1 : List Int) (H1 : RdL shI W v1 xs1) (hl1 : szL shI xs1 ≤ 1048576) :
    Calls Try.prog 109 #[vFrame i0 v1] W (NewFrame i0 xs1 W) := by
  have HI1 := Lib.hid H1
  clear H1
  unfold vFrame
  go_enter Try.func109, Try.ntmps109
  have rP1_ := Lib.hid (show ((((W.alloc (.cells #[.int .i64 i0, v1] 134)).alloc (.cells #[.int .i64 0, .slice none 0 0] 104)).alloc (.cells #[.int .i64 i0, .slice none 0 0] 104))).heap[W.heap.size]? = some (.cells #[.int .i64 i0, v1] 134 (0, 0)) from by rw [heap_alloc_old _ _ (by simp only [World.size_alloc]; omega)]; rw [heap_alloc_old _ _ (by simp only [World.size_alloc]; omega)]; exact heap_alloc_new _ _)
  have rR2_ := Lib.hid (show ((((W.alloc (.cells #[.int .i64 i0, v1] 134)).alloc (.cells #[.int .i64 0, .slice none 0 0] 104)).alloc (.cells #[.int .i64 i0, .slice none 0 0] 104))).heap[W.heap.size + 1]? = some (.cells #[.int .i64 0, .slice none 0 0] 104 (0, 0)) from by rw [heap_alloc_old _ _ (by simp only [World.size_alloc]; omega)]; exact heap_pair _ _ _)
  have rX3_ := Lib.hid (show ((((W.alloc (.cells #[.int .i64 i0, v1] 134)).alloc (.cells #[.int .i64 0, .slice none 0 0] 104)).alloc (.cells #[.int .i64 i0, .slice none 0 0] 104))).heap[W.heap.size + 1 + 1]? = some (.cells #[.int .i64 i0, .slice none 0 0] 104 (0, 0)) from by exact heap_trip _ _ _ _)
  have G4_ := Lib.hid (show (W).grownBy ((((W.alloc (.cells #[.int .i64 i0, v1] 134)).alloc (.cells #[.int .i64 0, .slice none 0 0] 104)).alloc (.cells #[.int .i64 i0, .slice none 0 0] 104))) none from (gby_alloc (gby_alloc (gby_alloc (gby_refl _ _) _) _) _))
  have P_0_ : ((((W.alloc (.cells #[.int .i64 i0, v1] 134)).alloc (.cells #[.int .i64 0, .slice none 0 0] 104)).alloc (.cells #[.int .i64 i0, .slice none 0 0] 104))).cell? ⟨W.heap.size, 0, none⟩ = some (.int .i64 i0) := cell_of_row _ _ 0 _ _ _ rP1_.out
  have P_1_ : ((((W.alloc (.cells #[.int .i64 i0, v1] 134)).alloc (.cells #[.int .i64 0, .slice none 0 0] 104)).alloc (.cells #[.int .i64 i0, .slice none 0 0] 104))).cell? ⟨W.heap.size, 1, none⟩ = some (v1) := cell_of_row _ _ 1 _ _ _ rP1_.out
  have R_0_ : ((((W.alloc (.cells #[.int .i64 i0, v1] 134)).alloc (.cells #[.int .i64 0, .slice none 0 0] 104)).alloc (.cells #[.int .i64 i0, .slice none 0 0] 104))).cell? ⟨W.heap.size + 1, 0, none⟩ = some (.int .i64 0) := cell_of_row _ _ 0 _ _ _ rR2_.out
  have R_1_ : ((((W.alloc (.cells #[.int .i64 i0, v1] 134)).alloc (.cells #[.int .i64 0, .slice none 0 0] 104)).alloc (.cells #[.int .i64 i0, .slice none 0 0] 104))).cell? ⟨W.heap.size + 1, 1, none⟩ = some (.slice none 0 0) := cell_of_row _ _ 1 _ _ _ rR2_.out
  have X_0_ : ((((W.alloc (.cells #[.int .i64 i0, v1] 134)).alloc (.cells #[.int .i64 0, .slice none 0 0] 104)).alloc (.cells #[.int .i64 i0, .slice none 0 0] 104))).cell? ⟨W.heap.size + 1 + 1, 0, none⟩ = some (.int .i64 i0) := cell_of_row _ _ 0 _ _ _ rX3_.out
  have X_1_ : ((((W.alloc (.cells #[.int .i64 i0, v1] 134)).alloc (.cells #[.int .i64 0, .slice none 0 0] 104)).alloc (.cells #[.int .i64 i0, .slice none 0 0] 104))).cell? ⟨W.heap.size + 1 + 1, 1, none⟩ = some (.slice none 0 0) := cell_of_row _ _ 1 _ _ _ rX3_.out
  have Xf0_ : ((((W.alloc (.cells #[.int .i64 i0, v1] 134)).alloc (.cells #[.int .i64 0, .slice none 0 0] 104)).alloc (.cells #[.int .i64 i0, .slice none 0 0] 104))).frozen? ⟨W.heap.size + 1 + 1, 0, none⟩ = false := frozen_of_row _ _ 0 _ _ rX3_.out
  have Xf1_ : ((((W.alloc (.cells #[.int .i64 i0, v1] 134)).alloc (.cells #[.int .i64 0, .slice none 0 0] 104)).alloc (.cells #[.int .i64 i0, .slice none 0 0] 104))).frozen? ⟨W.heap.size + 1 + 1, 1, none⟩ = false := frozen_of_row _ _ 1 _ _ rX3_.out
  go_wp2_with fail
  go_at_call 35
  clear P_0_ P_1_ R_0_ R_1_ X_0_ X_1_ Xf0_ Xf1_
  refine (toIntS_d _ v1 xs1 (HI1.out.grow G4_.out) hl1).mono ?_
  rintro e w1 ⟨d1, rfl, o, g⟩
  have sz1 := g.size
  first | simp only [World.size_alloc] at sz1 | simp only [World.size_setCell] at sz1 | skip
  first | simp only [World.size_alloc] at o | simp only [World.size_setCell] at o | skip
  have rP5_ := Lib.hid (show (w1).heap[W.heap.size]? = some (.cells #[.int .i64 i0, v1] 134 (0, 0)) from row_held g rP1_.out)
  clear rP1_
  have rR6_ := Lib.hid (show (w1).heap[W.heap.size + 1]? = some (.cells #[.int .i64 0, .slice none 0 0] 104 (0, 0)) from row_held g rR2_.out)
  clear rR2_
  have rX7_ := Lib.hid (show (w1).heap[W.heap.size + 1 + 1]? = some (.cells #[.int .i64 i0, .slice none 0 0] 104 (0, 0)) from row_held g rX3_.out)
  clear rX3_
  have G8_ := Lib.hid (show (W).grownBy (w1) none from gby_trans G4_.out g)
  clear g
  obtain ⟨p1_, n1_, c1_, hv1_⟩ := RdL.form (OwL.rd o)
  subst hv1_
  have o19_ := Lib.hid (show OwU (w1) (W.heap.size + 1 + 1 + 1) (w1.heap.size) [] [own shI (.slice p1_ n1_ c1_) xs1] from OwU.one o)
  clear o
  have P_0_ : (w1).cell? ⟨W.heap.size, 0, none⟩ = some (.int .i64 i0) := cell_of_row _ _ 0 _ _ _ rP5_.out
  have P_1_ : (w1).cell? ⟨W.heap.size, 1, none⟩ = some (v1) := cell_of_row _ _ 1 _ _ _ rP5_.out
  have R_0_ : (w1).cell? ⟨W.heap.size + 1, 0, none⟩ = some (.int .i64 0) := cell_of_row _ _ 0 _ _ _ rR6_.out
  have R_1_ : (w1).cell? ⟨W.heap.size + 1, 1, none⟩ = some (.slice none 0 0) := cell_of_row _ _ 1 _ _ _ rR6_.out
  have Rf0_ : (w1).frozen? ⟨W.heap.size + 1, 0, none⟩ = false := frozen_of_row _ _ 0 _ _ rR6_.out
  have Rf1_ : (w1).frozen? ⟨W.heap.size + 1, 1, none⟩ = false := frozen_of_row _ _ 1 _ _ rR6_.out
  have X_0_ : (w1).cell? ⟨W.heap.size + 1 + 1, 0, none⟩ = some (.int .i64 i0) := cell_of_row _ _ 0 _ _ _ rX7_.out
  have X_1_ : (w1).cell? ⟨W.heap.size + 1 + 1, 1, none⟩ = some (.slice none 0 0) := cell_of_row _ _ 1 _ _ _ rX7_.out
  have Xf0_ : (w1).frozen? ⟨W.heap.size + 1 + 1, 0, none⟩ = false := frozen_of_row _ _ 0 _ _ rX7_.out
  have Xf1_ : (w1).frozen? ⟨W.heap.size + 1 + 1, 1, none⟩ = false := frozen_of_row _ _ 1 _ _ rX7_.out
  go_wp2
  refine bodyPost_ret (v := vFrame i0 (.slice p1_ n1_ c1_)) (by simp [results, go_sem, vFrame, R_0_, R_1_]) rfl ⟨(.slice p1_ n1_ c1_), rfl, ?_, ?_⟩
  · refine OwU.wide (lo := W.heap.size + 1 + 1 + 1) (hi := w1.heap.size) (by omega) (by simp) (OwU.keep (w := w1) (lo' := W.heap.size) (hi' := W.heap.size + 3) ?_ (.inr (by omega)) ?_)
    · repeat (with_reducible refine chg_setp ?_ _ (by dsimp only; omega) (by dsimp only; omega) _)
      exact chg_gby (gby_refl _ _) _ _
    · exact o19_.out
  · repeat (with_reducible refine gby_setnew ?_ _ (by dsimp only; omega) _)
    exact G8_.out

set_option maxRecDepth 8000 in
set_option maxHeartbeats 2000000 in
theorem eqFrame_d (W : World) (i0 : Int) (v1 : Value) (v1' : Value) (xs1 : List Int) (H1 : RdL shI W v1 xs1) (K1 : RdL shI W v1' xs1) (hl1 : szL shI xs1 ≤ 1048576) :
    Calls Try.prog 111 #[vFrame i0 v1, vFrame i0 v1'] W (AnsN (.bool true) W) := by
  have HI1 := Lib.hid H1
  have HJ1 := Lib.hid K1
  clear H1 K1
  have bk0 : (i0 != i0) = false := by simp
  unfold vFrame
  go_enter Try.func111, Try.ntmps111
  have rP1_ := Lib.hid (show (((W.alloc (.cells #[.int .i64 i0, v1] 104)).alloc (.cells #[.int .i64 i0, v1'] 104))).heap[W.heap.size]? = some (.cells #[.int .i64 i0, v1] 104 (0, 0)) from by rw [heap_alloc_old _ _ (by simp only [World.size_alloc]; omega)]; exact heap_alloc_new _ _)
  have rQ2_ := Lib.hid (show (((W.alloc (.cells #[.int .i64 i0, v1] 104)).alloc (.cells #[.int .i64 i0, v1'] 104))).heap[W.heap.size + 1]? = some (.cells #[.int .i64 i0, v1'] 104 (0, 0)) from by exact heap_pair _ _ _)
  have G3_ := Lib.hid (show (W).grownBy (((W.alloc (.cells #[.int .i64 i0, v1] 104)).alloc (.cells #[.int .i64 i0, v1'] 104))) none from (gby_alloc (gby_alloc (gby_refl _ _) _) _))
  have P_0_ : (((W.alloc (.cells #[.int .i64 i0, v1] 104)).alloc (.cells #[.int .i64 i0, v1'] 104))).cell? ⟨W.heap.size, 0, none⟩ = some (.int .i64 i0) := cell_of_row _ _ 0 _ _ _ rP1_.out
  have P_1_ : (((W.alloc (.cells #[.int .i64 i0, v1] 104)).alloc (.cells #[.int .i64 i0, v1'] 104))).cell? ⟨W.heap.size, 1, none⟩ = some (v1) := cell_of_row _ _ 1 _ _ _ rP1_.out
  have Q_0_ : (((W.alloc (.cells #[.int .i64 i0, v1] 104)).alloc (.cells #[.int .i64 i0, v1'] 104))).cell? ⟨W.heap.size + 1, 0, none⟩ = some (.int .i64 i0) := cell_of_row _ _ 0 _ _ _ rQ2_.out
  have Q_1_ : (((W.alloc (.cells #[.int .i64 i0, v1] 104)).alloc (.cells #[.int .i64 i0, v1'] 104))).cell? ⟨W.heap.size + 1, 1, none⟩ = some (v1') := cell_of_row _ _ 1 _ _ _ rQ2_.out
  go_wp2_with fail
  go_at_call 24
  refine (eqIntS_d _ v1 v1' xs1 (HI1.out.grow G3_.out) (HJ1.out.grow G3_.out) hl1).mono ?_
  rintro e w1 ⟨rfl, g⟩
  clear P_0_ P_1_ Q_0_ Q_1_
  have rP4_ := Lib.hid (show (w1).heap[W.heap.size]? = some (.cells #[.int .i64 i0, v1] 104 (0, 0)) from row_held g rP1_.out)
  clear rP1_
  have rQ5_ := Lib.hid (show (w1).heap[W.heap.size + 1]? = some (.cells #[.int .i64 i0, v1'] 104 (0, 0)) from row_held g rQ2_.out)
  clear rQ2_
  have G6_ := Lib.hid (show (W).grownBy (w1) none from gby_trans G3_.out g)
  clear g
  have P_0_ : (w1).cell? ⟨W.heap.size, 0, none⟩ = some (.int .i64 i0) := cell_of_row _ _ 0 _ _ _ rP4_.out
  have P_1_ : (w1).cell? ⟨W.heap.size, 1, none⟩ = some (v1) := cell_of_row _ _ 1 _ _ _ rP4_.out
  have Q_0_ : (w1).cell? ⟨W.heap.size + 1, 0, none⟩ = some (.int .i64 i0) := cell_of_row _ _ 0 _ _ _ rQ5_.out
  have Q_1_ : (w1).cell? ⟨W.heap.size + 1, 1, none⟩ = some (v1') := cell_of_row _ _ 1 _ _ _ rQ5_.out
  go_wp2
  go_ret
  exact ⟨rfl, G6_.out⟩

end Go.Proofs.Ytnighnkkeiegnab
