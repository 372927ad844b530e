/-
  Sender by value, on the law's side: measured, copied, compared, marked, held.
-/
import Derived.Test.YtcenngekjopjpaaShpI
import Derived.Test.YtcenngekjopjpaaDFrame
import Derived.Test.YtcenngekjopjpaaQSFrame
namespace Go.Proofs.Ytcenngekjopjpaa
open Go Go.RowKit
set_option linter.unusedVariables false

/-- a value of Sender -/
def vSender (i0 : Int) (v1 : Value) (i2 : Int) : Value := .agg #[.int .i64 i0, v1, .int .i64 i2]

set_option maxRecDepth 8000 in
set_option maxHeartbeats 2000000 in
theorem szSender_d (W : World) (n : Int) (i0 : Int) (v1 : Value) (i2 : Int) (xs1 : List DFrame) (H1 : RdL shFrame W v1 xs1) (hn : n ≤ 1048576) (h0 : 0 ≤ n) :
    Calls Try.prog 8 #[vSender i0 v1 i2, .int .i64 n] W (AnsN (.int .i64 (lessN n (szL shFrame xs1))) W) := by
  obtain ⟨t0, ht0⟩ : ∃ t, t = szL shFrame xs1 := ⟨_, rfl⟩
  rw [show (szL shFrame xs1) = t0 by omega]
  have HT0 := Lib.hid ht0
  clear ht0
  have HI1 := Lib.hid H1
  clear H1
  unfold vSender
  by_cases h0_ : n < (t0 : Int)
  · rw [show lessN n (t0) = -1 from if_pos (by omega)]
    go_enter Try.func8, Try.ntmps8
    have rA1_ := Lib.hid (show ((W.alloc (.cells #[.int .i64 i0, v1, .int .i64 i2] 24))).heap[W.heap.size]? = some (.cells #[.int .i64 i0, v1, .int .i64 i2] 24 (0, 0)) from by exact heap_alloc_new _ _)
    have G2_ := Lib.hid (show (W).grownBy ((W.alloc (.cells #[.int .i64 i0, v1, .int .i64 i2] 24))) none from (gby_alloc (gby_refl _ _) _))
    have A_0_ : ((W.alloc (.cells #[.int .i64 i0, v1, .int .i64 i2] 24))).cell? ⟨W.heap.size, 0, none⟩ = some (.int .i64 i0) := cell_of_row _ _ 0 _ _ _ rA1_.out
    have A_1_ : ((W.alloc (.cells #[.int .i64 i0, v1, .int .i64 i2] 24))).cell? ⟨W.heap.size, 1, none⟩ = some (v1) := cell_of_row _ _ 1 _ _ _ rA1_.out
    have A_2_ : ((W.alloc (.cells #[.int .i64 i0, v1, .int .i64 i2] 24))).cell? ⟨W.heap.size, 2, none⟩ = some (.int .i64 i2) := cell_of_row _ _ 2 _ _ _ rA1_.out
    go_wp2_with fail
    go_at_call 29
    refine (szFrameS_d _ _ v1 xs1 (HI1.out.grow G2_.out) (by omega) (by omega)).mono ?_
    rintro e w1 ⟨he, g⟩
    rw [← HT0.out, show lessN _ t0 = -1 from if_pos (by omega)] at he
    subst he
    clear A_0_ A_1_ A_2_
    have rA3_ := Lib.hid (show (w1).heap[W.heap.size]? = some (.cells #[.int .i64 i0, v1, .int .i64 i2] 24 (0, 0)) from row_held g rA1_.out)
    clear rA1_
    have G4_ := Lib.hid (show (W).grownBy (w1) none from gby_trans G2_.out g)
    clear g
    have hm1 : (-1 : Int) < 0 := by omega
    go_wp2
    go_ret
    exact ⟨rfl, G4_.out⟩
  rw [show lessN n (t0) = n - (t0 : Int) from (if_neg (by omega)).trans (by omega)]
  go_enter Try.func8, Try.ntmps8
  have rA1_ := Lib.hid (show ((W.alloc (.cells #[.int .i64 i0, v1, .int .i64 i2] 24))).heap[W.heap.size]? = some (.cells #[.int .i64 i0, v1, .int .i64 i2] 24 (0, 0)) from by exact heap_alloc_new _ _)
  have G2_ := Lib.hid (show (W).grownBy ((W.alloc (.cells #[.int .i64 i0, v1, .int .i64 i2] 24))) none from (gby_alloc (gby_refl _ _) _))
  have A_0_ : ((W.alloc (.cells #[.int .i64 i0, v1, .int .i64 i2] 24))).cell? ⟨W.heap.size, 0, none⟩ = some (.int .i64 i0) := cell_of_row _ _ 0 _ _ _ rA1_.out
  have A_1_ : ((W.alloc (.cells #[.int .i64 i0, v1, .int .i64 i2] 24))).cell? ⟨W.heap.size, 1, none⟩ = some (v1) := cell_of_row _ _ 1 _ _ _ rA1_.out
  have A_2_ : ((W.alloc (.cells #[.int .i64 i0, v1, .int .i64 i2] 24))).cell? ⟨W.heap.size, 2, none⟩ = some (.int .i64 i2) := cell_of_row _ _ 2 _ _ _ rA1_.out
  go_wp2_with fail
  go_at_call 29
  refine (szFrameS_d _ _ v1 xs1 (HI1.out.grow G2_.out) (by omega) (by omega)).mono ?_
  rintro e w1 ⟨he, g⟩
  rw [← HT0.out, show lessN _ t0 = n - (t0 : Int) from (if_neg (by omega)).trans (by omega)] at he
  subst he
  clear A_0_ A_1_ A_2_
  have rA3_ := Lib.hid (show (w1).heap[W.heap.size]? = some (.cells #[.int .i64 i0, v1, .int .i64 i2] 24 (0, 0)) from row_held g rA1_.out)
  clear rA1_
  have G4_ := Lib.hid (show (W).grownBy (w1) none from gby_trans G2_.out g)
  clear g
  go_wp2
  go_ret
  exact ⟨rfl, G4_.out⟩

/-- a Sender in new memory -/
def NewSender (i0 : Int) (xs1 : List DFrame) (i2 : Int) (W : World) (e : Ending) (w' : World) : Prop := ∃ v1, e = .returned (vSender i0 v1 i2) ∧ OwU w' W.heap.size w'.heap.size [] [own shFrame v1 xs1] ∧ W.grownBy w' none

set_option maxRecDepth 8000 in
set_option maxHeartbeats 4000000 in
theorem toSender_d (W : World) (i0 : Int) (v1 : Value) (i2 : Int) (xs1 : List DFrame) (H1 : RdL shFrame W v1 xs1) (hl1 : szL shFrame xs1 ≤ 1048576) :
    Calls Try.prog 10 #[vSender i0 v1 i2] W (NewSender i0 xs1 i2 W) := by
  have HI1 := Lib.hid H1
  clear H1
  unfold vSender
  go_enter Try.func10, Try.ntmps10
  have rP1_ := Lib.hid (show ((((W.alloc (.cells #[.int .i64 i0, v1, .int .i64 i2] 24)).alloc (.cells #[.int .i64 0, .slice none 0 0, .int .i64 0] 29)).alloc (.cells #[.int .i64 i0, .slice none 0 0, .int .i64 0] 29))).heap[W.heap.size]? = some (.cells #[.int .i64 i0, v1, .int .i64 i2] 24 (0, 0)) from by rw [heap_alloc_old _ _ (by simp only [World.size_alloc]; omega)]; rw [heap_alloc_old _ _ (by simp only [World.size_alloc]; omega)]; exact heap_alloc_new _ _)
  have rR2_ := Lib.hid (show ((((W.alloc (.cells #[.int .i64 i0, v1, .int .i64 i2] 24)).alloc (.cells #[.int .i64 0, .slice none 0 0, .int .i64 0] 29)).alloc (.cells #[.int .i64 i0, .slice none 0 0, .int .i64 0] 29))).heap[W.heap.size + 1]? = some (.cells #[.int .i64 0, .slice none 0 0, .int .i64 0] 29 (0, 0)) from by rw [heap_alloc_old _ _ (by simp only [World.size_alloc]; omega)]; exact heap_pair _ _ _)
  have rX3_ := Lib.hid (show ((((W.alloc (.cells #[.int .i64 i0, v1, .int .i64 i2] 24)).alloc (.cells #[.int .i64 0, .slice none 0 0, .int .i64 0] 29)).alloc (.cells #[.int .i64 i0, .slice none 0 0, .int .i64 0] 29))).heap[W.heap.size + 1 + 1]? = some (.cells #[.int .i64 i0, .slice none 0 0, .int .i64 0] 29 (0, 0)) from by exact heap_trip _ _ _ _)
  have G4_ := Lib.hid (show (W).grownBy ((((W.alloc (.cells #[.int .i64 i0, v1, .int .i64 i2] 24)).alloc (.cells #[.int .i64 0, .slice none 0 0, .int .i64 0] 29)).alloc (.cells #[.int .i64 i0, .slice none 0 0, .int .i64 0] 29))) none from (gby_alloc (gby_alloc (gby_alloc (gby_refl _ _) _) _) _))
  have P_0_ : ((((W.alloc (.cells #[.int .i64 i0, v1, .int .i64 i2] 24)).alloc (.cells #[.int .i64 0, .slice none 0 0, .int .i64 0] 29)).alloc (.cells #[.int .i64 i0, .slice none 0 0, .int .i64 0] 29))).cell? ⟨W.heap.size, 0, none⟩ = some (.int .i64 i0) := cell_of_row _ _ 0 _ _ _ rP1_.out
  have P_1_ : ((((W.alloc (.cells #[.int .i64 i0, v1, .int .i64 i2] 24)).alloc (.cells #[.int .i64 0, .slice none 0 0, .int .i64 0] 29)).alloc (.cells #[.int .i64 i0, .slice none 0 0, .int .i64 0] 29))).cell? ⟨W.heap.size, 1, none⟩ = some (v1) := cell_of_row _ _ 1 _ _ _ rP1_.out
  have P_2_ : ((((W.alloc (.cells #[.int .i64 i0, v1, .int .i64 i2] 24)).alloc (.cells #[.int .i64 0, .slice none 0 0, .int .i64 0] 29)).alloc (.cells #[.int .i64 i0, .slice none 0 0, .int .i64 0] 29))).cell? ⟨W.heap.size, 2, none⟩ = some (.int .i64 i2) := cell_of_row _ _ 2 _ _ _ rP1_.out
  have R_0_ : ((((W.alloc (.cells #[.int .i64 i0, v1, .int .i64 i2] 24)).alloc (.cells #[.int .i64 0, .slice none 0 0, .int .i64 0] 29)).alloc (.cells #[.int .i64 i0, .slice none 0 0, .int .i64 0] 29))).cell? ⟨W.heap.size + 1, 0, none⟩ = some (.int .i64 0) := cell_of_row _ _ 0 _ _ _ rR2_.out
  have R_1_ : ((((W.alloc (.cells #[.int .i64 i0, v1, .int .i64 i2] 24)).alloc (.cells #[.int .i64 0, .slice none 0 0, .int .i64 0] 29)).alloc (.cells #[.int .i64 i0, .slice none 0 0, .int .i64 0] 29))).cell? ⟨W.heap.size + 1, 1, none⟩ = some (.slice none 0 0) := cell_of_row _ _ 1 _ _ _ rR2_.out
  have R_2_ : ((((W.alloc (.cells #[.int .i64 i0, v1, .int .i64 i2] 24)).alloc (.cells #[.int .i64 0, .slice none 0 0, .int .i64 0] 29)).alloc (.cells #[.int .i64 i0, .slice none 0 0, .int .i64 0] 29))).cell? ⟨W.heap.size + 1, 2, none⟩ = some (.int .i64 0) := cell_of_row _ _ 2 _ _ _ rR2_.out
  have X_0_ : ((((W.alloc (.cells #[.int .i64 i0, v1, .int .i64 i2] 24)).alloc (.cells #[.int .i64 0, .slice none 0 0, .int .i64 0] 29)).alloc (.cells #[.int .i64 i0, .slice none 0 0, .int .i64 0] 29))).cell? ⟨W.heap.size + 1 + 1, 0, none⟩ = some (.int .i64 i0) := cell_of_row _ _ 0 _ _ _ rX3_.out
  have X_1_ : ((((W.alloc (.cells #[.int .i64 i0, v1, .int .i64 i2] 24)).alloc (.cells #[.int .i64 0, .slice none 0 0, .int .i64 0] 29)).alloc (.cells #[.int .i64 i0, .slice none 0 0, .int .i64 0] 29))).cell? ⟨W.heap.size + 1 + 1, 1, none⟩ = some (.slice none 0 0) := cell_of_row _ _ 1 _ _ _ rX3_.out
  have X_2_ : ((((W.alloc (.cells #[.int .i64 i0, v1, .int .i64 i2] 24)).alloc (.cells #[.int .i64 0, .slice none 0 0, .int .i64 0] 29)).alloc (.cells #[.int .i64 i0, .slice none 0 0, .int .i64 0] 29))).cell? ⟨W.heap.size + 1 + 1, 2, none⟩ = some (.int .i64 0) := cell_of_row _ _ 2 _ _ _ rX3_.out
  have Xf0_ : ((((W.alloc (.cells #[.int .i64 i0, v1, .int .i64 i2] 24)).alloc (.cells #[.int .i64 0, .slice none 0 0, .int .i64 0] 29)).alloc (.cells #[.int .i64 i0, .slice none 0 0, .int .i64 0] 29))).frozen? ⟨W.heap.size + 1 + 1, 0, none⟩ = false := frozen_of_row _ _ 0 _ _ rX3_.out
  have Xf1_ : ((((W.alloc (.cells #[.int .i64 i0, v1, .int .i64 i2] 24)).alloc (.cells #[.int .i64 0, .slice none 0 0, .int .i64 0] 29)).alloc (.cells #[.int .i64 i0, .slice none 0 0, .int .i64 0] 29))).frozen? ⟨W.heap.size + 1 + 1, 1, none⟩ = false := frozen_of_row _ _ 1 _ _ rX3_.out
  have Xf2_ : ((((W.alloc (.cells #[.int .i64 i0, v1, .int .i64 i2] 24)).alloc (.cells #[.int .i64 0, .slice none 0 0, .int .i64 0] 29)).alloc (.cells #[.int .i64 i0, .slice none 0 0, .int .i64 0] 29))).frozen? ⟨W.heap.size + 1 + 1, 2, none⟩ = false := frozen_of_row _ _ 2 _ _ rX3_.out
  go_wp2_with fail
  go_at_call 34
  clear P_0_ P_1_ P_2_ R_0_ R_1_ R_2_ X_0_ X_1_ X_2_ Xf0_ Xf1_ Xf2_
  refine (toFrameS_d _ v1 xs1 (HI1.out.grow G4_.out) hl1).mono ?_
  rintro e w1 ⟨d1, rfl, o, g⟩
  have sz1 := g.size
  first | simp only [World.size_alloc] at sz1 | simp only [World.size_setCell] at sz1 | skip
  first | simp only [World.size_alloc] at o | simp only [World.size_setCell] at o | skip
  have rP5_ := Lib.hid (show (w1).heap[W.heap.size]? = some (.cells #[.int .i64 i0, v1, .int .i64 i2] 24 (0, 0)) from row_held g rP1_.out)
  clear rP1_
  have rR6_ := Lib.hid (show (w1).heap[W.heap.size + 1]? = some (.cells #[.int .i64 0, .slice none 0 0, .int .i64 0] 29 (0, 0)) from row_held g rR2_.out)
  clear rR2_
  have rX7_ := Lib.hid (show (w1).heap[W.heap.size + 1 + 1]? = some (.cells #[.int .i64 i0, .slice none 0 0, .int .i64 0] 29 (0, 0)) from row_held g rX3_.out)
  clear rX3_
  have G8_ := Lib.hid (show (W).grownBy (w1) none from gby_trans G4_.out g)
  clear g
  obtain ⟨p1_, n1_, c1_, hv1_⟩ := RdL.form (OwL.rd o)
  subst hv1_
  have o19_ := Lib.hid (show OwU (w1) (W.heap.size + 1 + 1 + 1) (w1.heap.size) [] [own shFrame (.slice p1_ n1_ c1_) xs1] from OwU.one o)
  clear o
  have P_0_ : (w1).cell? ⟨W.heap.size, 0, none⟩ = some (.int .i64 i0) := cell_of_row _ _ 0 _ _ _ rP5_.out
  have P_1_ : (w1).cell? ⟨W.heap.size, 1, none⟩ = some (v1) := cell_of_row _ _ 1 _ _ _ rP5_.out
  have P_2_ : (w1).cell? ⟨W.heap.size, 2, none⟩ = some (.int .i64 i2) := cell_of_row _ _ 2 _ _ _ rP5_.out
  have R_0_ : (w1).cell? ⟨W.heap.size + 1, 0, none⟩ = some (.int .i64 0) := cell_of_row _ _ 0 _ _ _ rR6_.out
  have R_1_ : (w1).cell? ⟨W.heap.size + 1, 1, none⟩ = some (.slice none 0 0) := cell_of_row _ _ 1 _ _ _ rR6_.out
  have R_2_ : (w1).cell? ⟨W.heap.size + 1, 2, none⟩ = some (.int .i64 0) := cell_of_row _ _ 2 _ _ _ rR6_.out
  have Rf0_ : (w1).frozen? ⟨W.heap.size + 1, 0, none⟩ = false := frozen_of_row _ _ 0 _ _ rR6_.out
  have Rf1_ : (w1).frozen? ⟨W.heap.size + 1, 1, none⟩ = false := frozen_of_row _ _ 1 _ _ rR6_.out
  have Rf2_ : (w1).frozen? ⟨W.heap.size + 1, 2, none⟩ = false := frozen_of_row _ _ 2 _ _ rR6_.out
  have X_0_ : (w1).cell? ⟨W.heap.size + 1 + 1, 0, none⟩ = some (.int .i64 i0) := cell_of_row _ _ 0 _ _ _ rX7_.out
  have X_1_ : (w1).cell? ⟨W.heap.size + 1 + 1, 1, none⟩ = some (.slice none 0 0) := cell_of_row _ _ 1 _ _ _ rX7_.out
  have X_2_ : (w1).cell? ⟨W.heap.size + 1 + 1, 2, none⟩ = some (.int .i64 0) := cell_of_row _ _ 2 _ _ _ rX7_.out
  have Xf0_ : (w1).frozen? ⟨W.heap.size + 1 + 1, 0, none⟩ = false := frozen_of_row _ _ 0 _ _ rX7_.out
  have Xf1_ : (w1).frozen? ⟨W.heap.size + 1 + 1, 1, none⟩ = false := frozen_of_row _ _ 1 _ _ rX7_.out
  have Xf2_ : (w1).frozen? ⟨W.heap.size + 1 + 1, 2, none⟩ = false := frozen_of_row _ _ 2 _ _ rX7_.out
  go_wp2
  refine bodyPost_ret (v := vSender i0 (.slice p1_ n1_ c1_) i2) (by simp [results, go_sem, vSender, R_0_, R_1_, R_2_]) rfl ⟨(.slice p1_ n1_ c1_), rfl, ?_, ?_⟩
  · refine OwU.wide (lo := W.heap.size + 1 + 1 + 1) (hi := w1.heap.size) (by omega) (by simp) (OwU.keep (w := w1) (lo' := W.heap.size) (hi' := W.heap.size + 3) ?_ (.inr (by omega)) ?_)
    · repeat (with_reducible refine chg_setp ?_ _ (by dsimp only; omega) (by dsimp only; omega) _)
      exact chg_gby (gby_refl _ _) _ _
    · exact o19_.out
  · repeat (with_reducible refine gby_setnew ?_ _ (by dsimp only; omega) _)
    exact G8_.out

set_option maxRecDepth 8000 in
set_option maxHeartbeats 2000000 in
theorem eqSender_d (W : World) (i0 : Int) (v1 : Value) (i2 : Int) (v1' : Value) (xs1 : List DFrame) (H1 : RdL shFrame W v1 xs1) (K1 : RdL shFrame W v1' xs1) (hl1 : szL shFrame xs1 ≤ 1048576) :
    Calls Try.prog 12 #[vSender i0 v1 i2, vSender i0 v1' i2] W (AnsN (.bool true) W) := by
  have HI1 := Lib.hid H1
  have HJ1 := Lib.hid K1
  clear H1 K1
  have bk0 : (i0 != i0) = false := by simp
  have bk2 : (i2 != i2) = false := by simp
  unfold vSender
  go_enter Try.func12, Try.ntmps12
  have rP1_ := Lib.hid (show (((W.alloc (.cells #[.int .i64 i0, v1, .int .i64 i2] 29)).alloc (.cells #[.int .i64 i0, v1', .int .i64 i2] 29))).heap[W.heap.size]? = some (.cells #[.int .i64 i0, v1, .int .i64 i2] 29 (0, 0)) from by rw [heap_alloc_old _ _ (by simp only [World.size_alloc]; omega)]; exact heap_alloc_new _ _)
  have rQ2_ := Lib.hid (show (((W.alloc (.cells #[.int .i64 i0, v1, .int .i64 i2] 29)).alloc (.cells #[.int .i64 i0, v1', .int .i64 i2] 29))).heap[W.heap.size + 1]? = some (.cells #[.int .i64 i0, v1', .int .i64 i2] 29 (0, 0)) from by exact heap_pair _ _ _)
  have G3_ := Lib.hid (show (W).grownBy (((W.alloc (.cells #[.int .i64 i0, v1, .int .i64 i2] 29)).alloc (.cells #[.int .i64 i0, v1', .int .i64 i2] 29))) none from (gby_alloc (gby_alloc (gby_refl _ _) _) _))
  have P_0_ : (((W.alloc (.cells #[.int .i64 i0, v1, .int .i64 i2] 29)).alloc (.cells #[.int .i64 i0, v1', .int .i64 i2] 29))).cell? ⟨W.heap.size, 0, none⟩ = some (.int .i64 i0) := cell_of_row _ _ 0 _ _ _ rP1_.out
  have P_1_ : (((W.alloc (.cells #[.int .i64 i0, v1, .int .i64 i2] 29)).alloc (.cells #[.int .i64 i0, v1', .int .i64 i2] 29))).cell? ⟨W.heap.size, 1, none⟩ = some (v1) := cell_of_row _ _ 1 _ _ _ rP1_.out
  have P_2_ : (((W.alloc (.cells #[.int .i64 i0, v1, .int .i64 i2] 29)).alloc (.cells #[.int .i64 i0, v1', .int .i64 i2] 29))).cell? ⟨W.heap.size, 2, none⟩ = some (.int .i64 i2) := cell_of_row _ _ 2 _ _ _ rP1_.out
  have Q_0_ : (((W.alloc (.cells #[.int .i64 i0, v1, .int .i64 i2] 29)).alloc (.cells #[.int .i64 i0, v1', .int .i64 i2] 29))).cell? ⟨W.heap.size + 1, 0, none⟩ = some (.int .i64 i0) := cell_of_row _ _ 0 _ _ _ rQ2_.out
  have Q_1_ : (((W.alloc (.cells #[.int .i64 i0, v1, .int .i64 i2] 29)).alloc (.cells #[.int .i64 i0, v1', .int .i64 i2] 29))).cell? ⟨W.heap.size + 1, 1, none⟩ = some (v1') := cell_of_row _ _ 1 _ _ _ rQ2_.out
  have Q_2_ : (((W.alloc (.cells #[.int .i64 i0, v1, .int .i64 i2] 29)).alloc (.cells #[.int .i64 i0, v1', .int .i64 i2] 29))).cell? ⟨W.heap.size + 1, 2, none⟩ = some (.int .i64 i2) := cell_of_row _ _ 2 _ _ _ rQ2_.out
  go_wp2_with fail
  go_at_call 39
  refine (eqFrameS_d _ v1 v1' xs1 (HI1.out.grow G3_.out) (HJ1.out.grow G3_.out) hl1).mono ?_
  rintro e w1 ⟨rfl, g⟩
  clear P_0_ P_1_ P_2_ Q_0_ Q_1_ Q_2_
  have rP4_ := Lib.hid (show (w1).heap[W.heap.size]? = some (.cells #[.int .i64 i0, v1, .int .i64 i2] 29 (0, 0)) from row_held g rP1_.out)
  clear rP1_
  have rQ5_ := Lib.hid (show (w1).heap[W.heap.size + 1]? = some (.cells #[.int .i64 i0, v1', .int .i64 i2] 29 (0, 0)) from row_held g rQ2_.out)
  clear rQ2_
  have G6_ := Lib.hid (show (W).grownBy (w1) none from gby_trans G3_.out g)
  clear g
  have P_0_ : (w1).cell? ⟨W.heap.size, 0, none⟩ = some (.int .i64 i0) := cell_of_row _ _ 0 _ _ _ rP4_.out
  have P_1_ : (w1).cell? ⟨W.heap.size, 1, none⟩ = some (v1) := cell_of_row _ _ 1 _ _ _ rP4_.out
  have P_2_ : (w1).cell? ⟨W.heap.size, 2, none⟩ = some (.int .i64 i2) := cell_of_row _ _ 2 _ _ _ rP4_.out
  have Q_0_ : (w1).cell? ⟨W.heap.size + 1, 0, none⟩ = some (.int .i64 i0) := cell_of_row _ _ 0 _ _ _ rQ5_.out
  have Q_1_ : (w1).cell? ⟨W.heap.size + 1, 1, none⟩ = some (v1') := cell_of_row _ _ 1 _ _ _ rQ5_.out
  have Q_2_ : (w1).cell? ⟨W.heap.size + 1, 2, none⟩ = some (.int .i64 i2) := cell_of_row _ _ 2 _ _ _ rQ5_.out
  go_wp2
  go_ret
  exact ⟨rfl, G6_.out⟩

set_option maxRecDepth 8000 in
set_option maxHeartbeats 2000000 in
theorem markSender_d (w : World) (lo hi m : Nat) (i0 : Int) (v1 : Value) (i2 : Int) (xs1 : List DFrame) (pre post : List Own) (h1 : OwU w lo hi [] (pre ++ own shFrame v1 xs1 :: post)) (hhi : hi ≤ w.heap.size) (hl1 : szL shFrame xs1 ≤ 1048576) (hm2 : m + ecL shFrame xs1 ≤ 900000000) :
    Calls Try.prog 15 #[vSender i0 v1 i2, .int .i64 (m : Int)] w (fun e w' => e = .returned (.int .i64 ((m + ecL shFrame xs1 : Nat) : Int)) ∧ OwU w' lo hi [] (pre ++ own shFrame v1 (emL shFrame (m) xs1) :: post) ∧ Chg w w' lo hi) := by
  unfold vSender
  go_enter Try.func15, Try.ntmps15
  have rP1_ := Lib.hid (show ((w.alloc (.cells #[.int .i64 i0, v1, .int .i64 i2] 29))).heap[w.heap.size]? = some (.cells #[.int .i64 i0, v1, .int .i64 i2] 29 (0, 0)) from by exact heap_alloc_new _ _)
  have G2_ := Lib.hid (show (w).grownBy ((w.alloc (.cells #[.int .i64 i0, v1, .int .i64 i2] 29))) none from (gby_alloc (gby_refl _ _) _))
  have U0 := Lib.hid (OwU.grow h1 (gby_alloc (gby_refl _ _) (.cells #[.int .i64 i0, v1, .int .i64 i2] 29)))
  have C0 := Lib.hid (chg_gby G2_.out lo hi)
  clear h1
  have P_0_ : ((w.alloc (.cells #[.int .i64 i0, v1, .int .i64 i2] 29))).cell? ⟨w.heap.size, 0, none⟩ = some (.int .i64 i0) := cell_of_row _ _ 0 _ _ _ rP1_.out
  have P_1_ : ((w.alloc (.cells #[.int .i64 i0, v1, .int .i64 i2] 29))).cell? ⟨w.heap.size, 1, none⟩ = some (v1) := cell_of_row _ _ 1 _ _ _ rP1_.out
  have P_2_ : ((w.alloc (.cells #[.int .i64 i0, v1, .int .i64 i2] 29))).cell? ⟨w.heap.size, 2, none⟩ = some (.int .i64 i2) := cell_of_row _ _ 2 _ _ _ rP1_.out
  obtain ⟨p1, q1, l1, u1, _, oo, ff⟩ := OwU.focus (pre := pre) (p := own shFrame v1 xs1) (post := post) (show OwU ((w.alloc (.cells #[.int .i64 i0, v1, .int .i64 i2] 29))) lo hi [] (pre ++ own shFrame v1 xs1 :: post) from by first | exact U0.out | (rw [List.append_assoc]; exact U0.out))
  have FF := Lib.hid ff
  clear ff
  go_wp2_with fail
  go_at_call 43
  refine (markFrameS_d _ p1 q1 m v1 xs1 oo hl1 (by omega)).mono ?_
  rintro e w1 ⟨rfl, o, c⟩
  clear P_0_ P_1_ P_2_
  have hrow := Chg.keep c rP1_.out (by omega)
  clear rP1_
  have hsz1 := c.size
  try simp only [World.size_alloc] at hsz1
  have rP3_ := Lib.hid (show (w1).heap[w.heap.size]? = some (.cells #[.int .i64 i0, v1, .int .i64 i2] 29 (0, 0)) from hrow)
  clear hrow
  have U1 := Lib.hid (show OwU (w1) lo hi [] (pre ++ own shFrame v1 (emL shFrame (m) xs1) :: post) from by first | exact (show OwU (w1) lo hi [] (pre ++ own shFrame v1 (emL shFrame (m) xs1) :: post) from FF.out _ (own shFrame v1 (emL shFrame (m) xs1)) c o) | (have q := (show OwU (w1) lo hi [] (pre ++ own shFrame v1 (emL shFrame (m) xs1) :: post) from FF.out _ (own shFrame v1 (emL shFrame (m) xs1)) c o); rw [List.append_assoc] at q; exact q))
  clear U0 o
  have C1 := Lib.hid (chg_trans C0.out (chg_wide c (lo' := lo) (hi' := hi) l1 u1))
  clear c C0
  try clear oo FF
  have P_0_ : (w1).cell? ⟨w.heap.size, 0, none⟩ = some (.int .i64 i0) := cell_of_row _ _ 0 _ _ _ rP3_.out
  have P_1_ : (w1).cell? ⟨w.heap.size, 1, none⟩ = some (v1) := cell_of_row _ _ 1 _ _ _ rP3_.out
  have P_2_ : (w1).cell? ⟨w.heap.size, 2, none⟩ = some (.int .i64 i2) := cell_of_row _ _ 2 _ _ _ rP3_.out
  go_wp2
  go_ret
  exact ⟨by first | rfl | (congr 3; omega), by first | exact U1.out | simpa only [Nat.add_assoc] using U1.out, C1.out⟩

set_option maxRecDepth 8000 in
set_option maxHeartbeats 2000000 in
theorem heldSender_d (w : World) (m : Nat) (i0 : Int) (v1 : Value) (i2 : Int) (xs1 : List DFrame) (H1 : RdL shFrame w v1 (emL shFrame (m) xs1)) (hl1 : szL shFrame xs1 ≤ 1048576) (hm2 : m + ecL shFrame xs1 ≤ 900000000) :
    Calls Try.prog 16 #[vSender i0 v1 i2, .int .i64 (m : Int)] w (AnsN (.int .i64 ((m + ecL shFrame xs1 : Nat) : Int)) w) := by
  unfold vSender
  have HI1 := Lib.hid H1
  clear H1
  have ng1 : ¬ (((m + ecL shFrame xs1 : Nat) : Int) < 0) := by omega
  go_enter Try.func16, Try.ntmps16
  have rP1_ := Lib.hid (show ((w.alloc (.cells #[.int .i64 i0, v1, .int .i64 i2] 29))).heap[w.heap.size]? = some (.cells #[.int .i64 i0, v1, .int .i64 i2] 29 (0, 0)) from by exact heap_alloc_new _ _)
  have G2_ := Lib.hid (show (w).grownBy ((w.alloc (.cells #[.int .i64 i0, v1, .int .i64 i2] 29))) none from (gby_alloc (gby_refl _ _) _))
  have P_0_ : ((w.alloc (.cells #[.int .i64 i0, v1, .int .i64 i2] 29))).cell? ⟨w.heap.size, 0, none⟩ = some (.int .i64 i0) := cell_of_row _ _ 0 _ _ _ rP1_.out
  have P_1_ : ((w.alloc (.cells #[.int .i64 i0, v1, .int .i64 i2] 29))).cell? ⟨w.heap.size, 1, none⟩ = some (v1) := cell_of_row _ _ 1 _ _ _ rP1_.out
  have P_2_ : ((w.alloc (.cells #[.int .i64 i0, v1, .int .i64 i2] 29))).cell? ⟨w.heap.size, 2, none⟩ = some (.int .i64 i2) := cell_of_row _ _ 2 _ _ _ rP1_.out
  go_wp2_with fail
  go_at_call 44
  refine (heldFrameS_d _ m v1 xs1 (HI1.out.grow G2_.out) hl1 (by omega)).mono ?_
  rintro e w1 ⟨rfl, g⟩
  clear P_0_ P_1_ P_2_
  have rP3_ := Lib.hid (show (w1).heap[w.heap.size]? = some (.cells #[.int .i64 i0, v1, .int .i64 i2] 29 (0, 0)) from row_held g rP1_.out)
  clear rP1_
  have G4_ := Lib.hid (show (w).grownBy (w1) none from gby_trans G2_.out g)
  clear g
  have P_0_ : (w1).cell? ⟨w.heap.size, 0, none⟩ = some (.int .i64 i0) := cell_of_row _ _ 0 _ _ _ rP3_.out
  have P_1_ : (w1).cell? ⟨w.heap.size, 1, none⟩ = some (v1) := cell_of_row _ _ 1 _ _ _ rP3_.out
  have P_2_ : (w1).cell? ⟨w.heap.size, 2, none⟩ = some (.int .i64 i2) := cell_of_row _ _ 2 _ _ _ rP3_.out
  go_wp2
  go_ret
  exact ⟨rfl, G4_.out⟩

end Go.Proofs.Ytcenngekjopjpaa
