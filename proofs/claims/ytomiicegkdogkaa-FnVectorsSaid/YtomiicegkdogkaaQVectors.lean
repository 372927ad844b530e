/-
  Vectors by value, on the law's side: measured, copied, compared, marked, held.
-/
import Derived.Test.YtomiicegkdogkaaShpI
import Derived.Test.YtomiicegkdogkaaQSBool
namespace Go.Proofs.Ytomiicegkdogkaa
open Go Go.RowKit
set_option linter.unusedVariables false

/-- a value of Vectors -/
def vVectors (i0 : Int) (v1 : Value) (v2 : Value) : Value := .agg #[.int .i64 i0, v1, v2]

set_option maxRecDepth 8000 in
set_option maxHeartbeats 2000000 in
theorem szVectors_d (W : World) (n : Int) (i0 : Int) (v1 : Value) (v2 : Value) (xs1 : List Bool) (xs2 : List Bool) (H1 : RdL shB W v1 xs1) (H2 : RdL shB W v2 xs2) (hn : n ≤ 1048576) (h0 : 0 ≤ n) :
    Calls Try.prog 11 #[vVectors i0 v1 v2, .int .i64 n] W (AnsN (.int .i64 (lessN n (szL shB xs1 + szL shB xs2))) W) := by
  obtain ⟨t0, ht0⟩ : ∃ t, t = szL shB xs1 := ⟨_, rfl⟩
  obtain ⟨t1, ht1⟩ : ∃ t, t = szL shB xs2 := ⟨_, rfl⟩
  rw [show (szL shB xs1 + szL shB xs2) = t0 + t1 by omega]
  have HT0 := Lib.hid ht0
  clear ht0
  have HT1 := Lib.hid ht1
  clear ht1
  have HI1 := Lib.hid H1
  clear H1
  have HI2 := Lib.hid H2
  clear H2
  unfold vVectors
  by_cases h0_ : n < (t0 : Int)
  · rw [show lessN n (t0 + t1) = -1 from if_pos (by omega)]
    go_enter Try.func11, Try.ntmps11
    have rA1_ := Lib.hid (show ((W.alloc (.cells #[.int .i64 i0, v1, v2] 24))).heap[W.heap.size]? = some (.cells #[.int .i64 i0, v1, v2] 24 (0, 0)) from by exact heap_alloc_new _ _)
    have G2_ := Lib.hid (show (W).grownBy ((W.alloc (.cells #[.int .i64 i0, v1, v2] 24))) none from (gby_alloc (gby_refl _ _) _))
    have A_0_ : ((W.alloc (.cells #[.int .i64 i0, v1, v2] 24))).cell? ⟨W.heap.size, 0, none⟩ = some (.int .i64 i0) := cell_of_row _ _ 0 _ _ _ rA1_.out
    have A_1_ : ((W.alloc (.cells #[.int .i64 i0, v1, v2] 24))).cell? ⟨W.heap.size, 1, none⟩ = some (v1) := cell_of_row _ _ 1 _ _ _ rA1_.out
    have A_2_ : ((W.alloc (.cells #[.int .i64 i0, v1, v2] 24))).cell? ⟨W.heap.size, 2, none⟩ = some (v2) := cell_of_row _ _ 2 _ _ _ rA1_.out
    go_wp2_with fail
    go_at_call 59
    refine (szBoolS_d _ _ v1 xs1 (HI1.out.grow G2_.out) (by omega) (by omega)).mono ?_
    rintro e w1 ⟨he, g⟩
    rw [← HT0.out, show lessN _ t0 = -1 from if_pos (by omega)] at he
    subst he
    clear A_0_ A_1_ A_2_
    have rA3_ := Lib.hid (show (w1).heap[W.heap.size]? = some (.cells #[.int .i64 i0, v1, v2] 24 (0, 0)) from row_held g rA1_.out)
    clear rA1_
    have G4_ := Lib.hid (show (W).grownBy (w1) none from gby_trans G2_.out g)
    clear g
    have hm1 : (-1 : Int) < 0 := by omega
    go_wp2
    go_ret
    exact ⟨rfl, G4_.out⟩
  by_cases h1_ : n - (t0 : Int) < (t1 : Int)
  · rw [show lessN n (t0 + t1) = -1 from if_pos (by omega)]
    go_enter Try.func11, Try.ntmps11
    have rA1_ := Lib.hid (show ((W.alloc (.cells #[.int .i64 i0, v1, v2] 24))).heap[W.heap.size]? = some (.cells #[.int .i64 i0, v1, v2] 24 (0, 0)) from by exact heap_alloc_new _ _)
    have G2_ := Lib.hid (show (W).grownBy ((W.alloc (.cells #[.int .i64 i0, v1, v2] 24))) none from (gby_alloc (gby_refl _ _) _))
    have A_0_ : ((W.alloc (.cells #[.int .i64 i0, v1, v2] 24))).cell? ⟨W.heap.size, 0, none⟩ = some (.int .i64 i0) := cell_of_row _ _ 0 _ _ _ rA1_.out
    have A_1_ : ((W.alloc (.cells #[.int .i64 i0, v1, v2] 24))).cell? ⟨W.heap.size, 1, none⟩ = some (v1) := cell_of_row _ _ 1 _ _ _ rA1_.out
    have A_2_ : ((W.alloc (.cells #[.int .i64 i0, v1, v2] 24))).cell? ⟨W.heap.size, 2, none⟩ = some (v2) := cell_of_row _ _ 2 _ _ _ rA1_.out
    go_wp2_with fail
    go_at_call 59
    refine (szBoolS_d _ _ v1 xs1 (HI1.out.grow G2_.out) (by omega) (by omega)).mono ?_
    rintro e w1 ⟨he, g⟩
    rw [← HT0.out, show lessN _ t0 = n - (t0 : Int) from (if_neg (by omega)).trans (by omega)] at he
    subst he
    clear A_0_ A_1_ A_2_
    have rA3_ := Lib.hid (show (w1).heap[W.heap.size]? = some (.cells #[.int .i64 i0, v1, v2] 24 (0, 0)) from row_held g rA1_.out)
    clear rA1_
    have G4_ := Lib.hid (show (W).grownBy (w1) none from gby_trans G2_.out g)
    clear g
    have A_0_ : (w1).cell? ⟨W.heap.size, 0, none⟩ = some (.int .i64 i0) := cell_of_row _ _ 0 _ _ _ rA3_.out
    have A_1_ : (w1).cell? ⟨W.heap.size, 1, none⟩ = some (v1) := cell_of_row _ _ 1 _ _ _ rA3_.out
    have A_2_ : (w1).cell? ⟨W.heap.size, 2, none⟩ = some (v2) := cell_of_row _ _ 2 _ _ _ rA3_.out
    go_wp2_with fail
    go_at_call 59
    refine (szBoolS_d _ _ v2 xs2 (HI2.out.grow G4_.out) (by omega) (by omega)).mono ?_
    rintro e w2 ⟨he, g⟩
    rw [← HT1.out, show lessN _ t1 = -1 from if_pos (by omega)] at he
    subst he
    clear A_0_ A_1_ A_2_
    have rA5_ := Lib.hid (show (w2).heap[W.heap.size]? = some (.cells #[.int .i64 i0, v1, v2] 24 (0, 0)) from row_held g rA3_.out)
    clear rA3_
    have G6_ := Lib.hid (show (W).grownBy (w2) none from gby_trans G4_.out g)
    clear g
    have hm1 : (-1 : Int) < 0 := by omega
    go_wp2
    go_ret
    exact ⟨rfl, G6_.out⟩
  rw [show lessN n (t0 + t1) = n - (t0 : Int) - (t1 : Int) from (if_neg (by omega)).trans (by omega)]
  go_enter Try.func11, Try.ntmps11
  have rA1_ := Lib.hid (show ((W.alloc (.cells #[.int .i64 i0, v1, v2] 24))).heap[W.heap.size]? = some (.cells #[.int .i64 i0, v1, v2] 24 (0, 0)) from by exact heap_alloc_new _ _)
  have G2_ := Lib.hid (show (W).grownBy ((W.alloc (.cells #[.int .i64 i0, v1, v2] 24))) none from (gby_alloc (gby_refl _ _) _))
  have A_0_ : ((W.alloc (.cells #[.int .i64 i0, v1, v2] 24))).cell? ⟨W.heap.size, 0, none⟩ = some (.int .i64 i0) := cell_of_row _ _ 0 _ _ _ rA1_.out
  have A_1_ : ((W.alloc (.cells #[.int .i64 i0, v1, v2] 24))).cell? ⟨W.heap.size, 1, none⟩ = some (v1) := cell_of_row _ _ 1 _ _ _ rA1_.out
  have A_2_ : ((W.alloc (.cells #[.int .i64 i0, v1, v2] 24))).cell? ⟨W.heap.size, 2, none⟩ = some (v2) := cell_of_row _ _ 2 _ _ _ rA1_.out
  go_wp2_with fail
  go_at_call 59
  refine (szBoolS_d _ _ v1 xs1 (HI1.out.grow G2_.out) (by omega) (by omega)).mono ?_
  rintro e w1 ⟨he, g⟩
  rw [← HT0.out, show lessN _ t0 = n - (t0 : Int) from (if_neg (by omega)).trans (by omega)] at he
  subst he
  clear A_0_ A_1_ A_2_
  have rA3_ := Lib.hid (show (w1).heap[W.heap.size]? = some (.cells #[.int .i64 i0, v1, v2] 24 (0, 0)) from row_held g rA1_.out)
  clear rA1_
  have G4_ := Lib.hid (show (W).grownBy (w1) none from gby_trans G2_.out g)
  clear g
  have A_0_ : (w1).cell? ⟨W.heap.size, 0, none⟩ = some (.int .i64 i0) := cell_of_row _ _ 0 _ _ _ rA3_.out
  have A_1_ : (w1).cell? ⟨W.heap.size, 1, none⟩ = some (v1) := cell_of_row _ _ 1 _ _ _ rA3_.out
  have A_2_ : (w1).cell? ⟨W.heap.size, 2, none⟩ = some (v2) := cell_of_row _ _ 2 _ _ _ rA3_.out
  go_wp2_with fail
  go_at_call 59
  refine (szBoolS_d _ _ v2 xs2 (HI2.out.grow G4_.out) (by omega) (by omega)).mono ?_
  rintro e w2 ⟨he, g⟩
  rw [← HT1.out, show lessN _ t1 = n - (t0 : Int) - (t1 : Int) from (if_neg (by omega)).trans (by omega)] at he
  subst he
  clear A_0_ A_1_ A_2_
  have rA5_ := Lib.hid (show (w2).heap[W.heap.size]? = some (.cells #[.int .i64 i0, v1, v2] 24 (0, 0)) from row_held g rA3_.out)
  clear rA3_
  have G6_ := Lib.hid (show (W).grownBy (w2) none from gby_trans G4_.out g)
  clear g
  go_wp2
  go_ret
  exact ⟨rfl, G6_.out⟩

/-- a Vectors in new memory -/
def NewVectors (i0 : Int) (xs1 : List Bool) (xs2 : List Bool) (W : World) (e : Ending) (w' : World) : Prop := ∃ v1, ∃ v2, e = .returned (vVectors i0 v1 v2) ∧ OwU w' W.heap.size w'.heap.size [] [own shB v1 xs1, own shB v2 xs2] ∧ W.grownBy w' none

set_option maxRecDepth 8000 in
set_option maxHeartbeats 4000000 in
theorem toVectors_d (W : World) (i0 : Int) (v1 : Value) (v2 : Value) (xs1 : List Bool) (xs2 : List Bool) (H1 : RdL shB W v1 xs1) (hl1 : szL shB xs1 ≤ 1048576) (H2 : RdL shB W v2 xs2) (hl2 : szL shB xs2 ≤ 1048576) :
    Calls Try.prog 13 #[vVectors i0 v1 v2] W (NewVectors i0 xs1 xs2 W) := by
  have HI1 := Lib.hid H1
  clear H1
  have HI2 := Lib.hid H2
  clear H2
  unfold vVectors
  go_enter Try.func13, Try.ntmps13
  have rP1_ := Lib.hid (show ((((W.alloc (.cells #[.int .i64 i0, v1, v2] 24)).alloc (.cells #[.int .i64 0, .slice none 0 0, .slice none 0 0] 26)).alloc (.cells #[.int .i64 i0, .slice none 0 0, .slice none 0 0] 26))).heap[W.heap.size]? = some (.cells #[.int .i64 i0, v1, v2] 24 (0, 0)) from by rw [heap_alloc_old _ _ (by simp only [World.size_alloc]; omega)]; rw [heap_alloc_old _ _ (by simp only [World.size_alloc]; omega)]; exact heap_alloc_new _ _)
  have rR2_ := Lib.hid (show ((((W.alloc (.cells #[.int .i64 i0, v1, v2] 24)).alloc (.cells #[.int .i64 0, .slice none 0 0, .slice none 0 0] 26)).alloc (.cells #[.int .i64 i0, .slice none 0 0, .slice none 0 0] 26))).heap[W.heap.size + 1]? = some (.cells #[.int .i64 0, .slice none 0 0, .slice none 0 0] 26 (0, 0)) from by rw [heap_alloc_old _ _ (by simp only [World.size_alloc]; omega)]; exact heap_pair _ _ _)
  have rX3_ := Lib.hid (show ((((W.alloc (.cells #[.int .i64 i0, v1, v2] 24)).alloc (.cells #[.int .i64 0, .slice none 0 0, .slice none 0 0] 26)).alloc (.cells #[.int .i64 i0, .slice none 0 0, .slice none 0 0] 26))).heap[W.heap.size + 1 + 1]? = some (.cells #[.int .i64 i0, .slice none 0 0, .slice none 0 0] 26 (0, 0)) from by exact heap_trip _ _ _ _)
  have G4_ := Lib.hid (show (W).grownBy ((((W.alloc (.cells #[.int .i64 i0, v1, v2] 24)).alloc (.cells #[.int .i64 0, .slice none 0 0, .slice none 0 0] 26)).alloc (.cells #[.int .i64 i0, .slice none 0 0, .slice none 0 0] 26))) none from (gby_alloc (gby_alloc (gby_alloc (gby_refl _ _) _) _) _))
  have P_0_ : ((((W.alloc (.cells #[.int .i64 i0, v1, v2] 24)).alloc (.cells #[.int .i64 0, .slice none 0 0, .slice none 0 0] 26)).alloc (.cells #[.int .i64 i0, .slice none 0 0, .slice none 0 0] 26))).cell? ⟨W.heap.size, 0, none⟩ = some (.int .i64 i0) := cell_of_row _ _ 0 _ _ _ rP1_.out
  have P_1_ : ((((W.alloc (.cells #[.int .i64 i0, v1, v2] 24)).alloc (.cells #[.int .i64 0, .slice none 0 0, .slice none 0 0] 26)).alloc (.cells #[.int .i64 i0, .slice none 0 0, .slice none 0 0] 26))).cell? ⟨W.heap.size, 1, none⟩ = some (v1) := cell_of_row _ _ 1 _ _ _ rP1_.out
  have P_2_ : ((((W.alloc (.cells #[.int .i64 i0, v1, v2] 24)).alloc (.cells #[.int .i64 0, .slice none 0 0, .slice none 0 0] 26)).alloc (.cells #[.int .i64 i0, .slice none 0 0, .slice none 0 0] 26))).cell? ⟨W.heap.size, 2, none⟩ = some (v2) := cell_of_row _ _ 2 _ _ _ rP1_.out
  have R_0_ : ((((W.alloc (.cells #[.int .i64 i0, v1, v2] 24)).alloc (.cells #[.int .i64 0, .slice none 0 0, .slice none 0 0] 26)).alloc (.cells #[.int .i64 i0, .slice none 0 0, .slice none 0 0] 26))).cell? ⟨W.heap.size + 1, 0, none⟩ = some (.int .i64 0) := cell_of_row _ _ 0 _ _ _ rR2_.out
  have R_1_ : ((((W.alloc (.cells #[.int .i64 i0, v1, v2] 24)).alloc (.cells #[.int .i64 0, .slice none 0 0, .slice none 0 0] 26)).alloc (.cells #[.int .i64 i0, .slice none 0 0, .slice none 0 0] 26))).cell? ⟨W.heap.size + 1, 1, none⟩ = some (.slice none 0 0) := cell_of_row _ _ 1 _ _ _ rR2_.out
  have R_2_ : ((((W.alloc (.cells #[.int .i64 i0, v1, v2] 24)).alloc (.cells #[.int .i64 0, .slice none 0 0, .slice none 0 0] 26)).alloc (.cells #[.int .i64 i0, .slice none 0 0, .slice none 0 0] 26))).cell? ⟨W.heap.size + 1, 2, none⟩ = some (.slice none 0 0) := cell_of_row _ _ 2 _ _ _ rR2_.out
  have X_0_ : ((((W.alloc (.cells #[.int .i64 i0, v1, v2] 24)).alloc (.cells #[.int .i64 0, .slice none 0 0, .slice none 0 0] 26)).alloc (.cells #[.int .i64 i0, .slice none 0 0, .slice none 0 0] 26))).cell? ⟨W.heap.size + 1 + 1, 0, none⟩ = some (.int .i64 i0) := cell_of_row _ _ 0 _ _ _ rX3_.out
  have X_1_ : ((((W.alloc (.cells #[.int .i64 i0, v1, v2] 24)).alloc (.cells #[.int .i64 0, .slice none 0 0, .slice none 0 0] 26)).alloc (.cells #[.int .i64 i0, .slice none 0 0, .slice none 0 0] 26))).cell? ⟨W.heap.size + 1 + 1, 1, none⟩ = some (.slice none 0 0) := cell_of_row _ _ 1 _ _ _ rX3_.out
  have X_2_ : ((((W.alloc (.cells #[.int .i64 i0, v1, v2] 24)).alloc (.cells #[.int .i64 0, .slice none 0 0, .slice none 0 0] 26)).alloc (.cells #[.int .i64 i0, .slice none 0 0, .slice none 0 0] 26))).cell? ⟨W.heap.size + 1 + 1, 2, none⟩ = some (.slice none 0 0) := cell_of_row _ _ 2 _ _ _ rX3_.out
  have Xf0_ : ((((W.alloc (.cells #[.int .i64 i0, v1, v2] 24)).alloc (.cells #[.int .i64 0, .slice none 0 0, .slice none 0 0] 26)).alloc (.cells #[.int .i64 i0, .slice none 0 0, .slice none 0 0] 26))).frozen? ⟨W.heap.size + 1 + 1, 0, none⟩ = false := frozen_of_row _ _ 0 _ _ rX3_.out
  have Xf1_ : ((((W.alloc (.cells #[.int .i64 i0, v1, v2] 24)).alloc (.cells #[.int .i64 0, .slice none 0 0, .slice none 0 0] 26)).alloc (.cells #[.int .i64 i0, .slice none 0 0, .slice none 0 0] 26))).frozen? ⟨W.heap.size + 1 + 1, 1, none⟩ = false := frozen_of_row _ _ 1 _ _ rX3_.out
  have Xf2_ : ((((W.alloc (.cells #[.int .i64 i0, v1, v2] 24)).alloc (.cells #[.int .i64 0, .slice none 0 0, .slice none 0 0] 26)).alloc (.cells #[.int .i64 i0, .slice none 0 0, .slice none 0 0] 26))).frozen? ⟨W.heap.size + 1 + 1, 2, none⟩ = false := frozen_of_row _ _ 2 _ _ rX3_.out
  go_wp2_with fail
  go_at_call 62
  clear P_0_ P_1_ P_2_ R_0_ R_1_ R_2_ X_0_ X_1_ X_2_ Xf0_ Xf1_ Xf2_
  refine (toBoolS_d _ v1 xs1 (HI1.out.grow G4_.out) hl1).mono ?_
  rintro e w1 ⟨d1, rfl, o, g⟩
  have sz1 := g.size
  first | simp only [World.size_alloc] at sz1 | simp only [World.size_setCell] at sz1 | skip
  first | simp only [World.size_alloc] at o | simp only [World.size_setCell] at o | skip
  have rP5_ := Lib.hid (show (w1).heap[W.heap.size]? = some (.cells #[.int .i64 i0, v1, v2] 24 (0, 0)) from row_held g rP1_.out)
  clear rP1_
  have rR6_ := Lib.hid (show (w1).heap[W.heap.size + 1]? = some (.cells #[.int .i64 0, .slice none 0 0, .slice none 0 0] 26 (0, 0)) from row_held g rR2_.out)
  clear rR2_
  have rX7_ := Lib.hid (show (w1).heap[W.heap.size + 1 + 1]? = some (.cells #[.int .i64 i0, .slice none 0 0, .slice none 0 0] 26 (0, 0)) from row_held g rX3_.out)
  clear rX3_
  have G8_ := Lib.hid (show (W).grownBy (w1) none from gby_trans G4_.out g)
  clear g
  obtain ⟨p1_, n1_, c1_, hv1_⟩ := RdL.form (OwL.rd o)
  subst hv1_
  have o19_ := Lib.hid (show OwU (w1) (W.heap.size + 1 + 1 + 1) (w1.heap.size) [] [own shB (.slice p1_ n1_ c1_) xs1] from OwU.one o)
  clear o
  have P_0_ : (w1).cell? ⟨W.heap.size, 0, none⟩ = some (.int .i64 i0) := cell_of_row _ _ 0 _ _ _ rP5_.out
  have P_1_ : (w1).cell? ⟨W.heap.size, 1, none⟩ = some (v1) := cell_of_row _ _ 1 _ _ _ rP5_.out
  have P_2_ : (w1).cell? ⟨W.heap.size, 2, none⟩ = some (v2) := cell_of_row _ _ 2 _ _ _ rP5_.out
  have R_0_ : (w1).cell? ⟨W.heap.size + 1, 0, none⟩ = some (.int .i64 0) := cell_of_row _ _ 0 _ _ _ rR6_.out
  have R_1_ : (w1).cell? ⟨W.heap.size + 1, 1, none⟩ = some (.slice none 0 0) := cell_of_row _ _ 1 _ _ _ rR6_.out
  have R_2_ : (w1).cell? ⟨W.heap.size + 1, 2, none⟩ = some (.slice none 0 0) := cell_of_row _ _ 2 _ _ _ rR6_.out
  have X_0_ : (w1).cell? ⟨W.heap.size + 1 + 1, 0, none⟩ = some (.int .i64 i0) := cell_of_row _ _ 0 _ _ _ rX7_.out
  have X_1_ : (w1).cell? ⟨W.heap.size + 1 + 1, 1, none⟩ = some (.slice none 0 0) := cell_of_row _ _ 1 _ _ _ rX7_.out
  have X_2_ : (w1).cell? ⟨W.heap.size + 1 + 1, 2, none⟩ = some (.slice none 0 0) := cell_of_row _ _ 2 _ _ _ rX7_.out
  have Xf0_ : (w1).frozen? ⟨W.heap.size + 1 + 1, 0, none⟩ = false := frozen_of_row _ _ 0 _ _ rX7_.out
  have Xf1_ : (w1).frozen? ⟨W.heap.size + 1 + 1, 1, none⟩ = false := frozen_of_row _ _ 1 _ _ rX7_.out
  have Xf2_ : (w1).frozen? ⟨W.heap.size + 1 + 1, 2, none⟩ = false := frozen_of_row _ _ 2 _ _ rX7_.out
  go_wp2_with fail
  go_at_call 62
  clear P_0_ P_1_ P_2_ R_0_ R_1_ R_2_ X_0_ X_1_ X_2_ Xf0_ Xf1_ Xf2_
  have rP10_ := Lib.hid (show ((w1.setCell ⟨W.heap.size + 1 + 1, 1, none⟩ ((.slice p1_ n1_ c1_)))).heap[W.heap.size]? = some (.cells #[.int .i64 i0, v1, v2] 24 (0, 0)) from (set_far rP5_.out (by dsimp only; omega)))
  clear rP5_
  have rR11_ := Lib.hid (show ((w1.setCell ⟨W.heap.size + 1 + 1, 1, none⟩ ((.slice p1_ n1_ c1_)))).heap[W.heap.size + 1]? = some (.cells #[.int .i64 0, .slice none 0 0, .slice none 0 0] 26 (0, 0)) from (set_far rR6_.out (by dsimp only; omega)))
  clear rR6_
  have rX12_ := Lib.hid (show ((w1.setCell ⟨W.heap.size + 1 + 1, 1, none⟩ ((.slice p1_ n1_ c1_)))).heap[W.heap.size + 1 + 1]? = some (.cells #[.int .i64 i0, (.slice p1_ n1_ c1_), .slice none 0 0] 26 (0, 0)) from (heap_setCell_same _ _ 1 _ _ _ rX7_.out))
  clear rX7_
  have o113_ := Lib.hid (show OwU ((w1.setCell ⟨W.heap.size + 1 + 1, 1, none⟩ ((.slice p1_ n1_ c1_)))) (W.heap.size + 1 + 1 + 1) (w1.heap.size) [] [own shB (.slice p1_ n1_ c1_) xs1] from (OwU.keep (chg_one _ _ _ _) (by omega) o19_.out))
  clear o19_
  have G14_ := Lib.hid (show (W).grownBy ((w1.setCell ⟨W.heap.size + 1 + 1, 1, none⟩ ((.slice p1_ n1_ c1_)))) none from (gby_setnew G8_.out _ (by dsimp only; omega) _))
  refine (toBoolS_d _ v2 xs2 (HI2.out.grow G14_.out) hl2).mono ?_
  rintro e w2 ⟨d2, rfl, o, g⟩
  have sz2 := g.size
  first | simp only [World.size_alloc] at sz2 | simp only [World.size_setCell] at sz2 | skip
  first | simp only [World.size_alloc] at o | simp only [World.size_setCell] at o | skip
  have rP15_ := Lib.hid (show (w2).heap[W.heap.size]? = some (.cells #[.int .i64 i0, v1, v2] 24 (0, 0)) from row_held g rP10_.out)
  clear rP10_
  have rR16_ := Lib.hid (show (w2).heap[W.heap.size + 1]? = some (.cells #[.int .i64 0, .slice none 0 0, .slice none 0 0] 26 (0, 0)) from row_held g rR11_.out)
  clear rR11_
  have rX17_ := Lib.hid (show (w2).heap[W.heap.size + 1 + 1]? = some (.cells #[.int .i64 i0, (.slice p1_ n1_ c1_), .slice none 0 0] 26 (0, 0)) from row_held g rX12_.out)
  clear rX12_
  have o118_ := Lib.hid (show OwU (w2) (W.heap.size + 1 + 1 + 1) (w1.heap.size) [] [own shB (.slice p1_ n1_ c1_) xs1] from OwU.grow o113_.out g)
  clear o113_
  have G19_ := Lib.hid (show (W).grownBy (w2) none from gby_trans G14_.out g)
  clear g
  obtain ⟨p2_, n2_, c2_, hv2_⟩ := RdL.form (OwL.rd o)
  subst hv2_
  have o220_ := Lib.hid (show OwU (w2) (w1.heap.size) (w2.heap.size) [] [own shB (.slice p2_ n2_ c2_) xs2] from OwU.one o)
  clear o
  have P_0_ : (w2).cell? ⟨W.heap.size, 0, none⟩ = some (.int .i64 i0) := cell_of_row _ _ 0 _ _ _ rP15_.out
  have P_1_ : (w2).cell? ⟨W.heap.size, 1, none⟩ = some (v1) := cell_of_row _ _ 1 _ _ _ rP15_.out
  have P_2_ : (w2).cell? ⟨W.heap.size, 2, none⟩ = some (v2) := cell_of_row _ _ 2 _ _ _ rP15_.out
  have R_0_ : (w2).cell? ⟨W.heap.size + 1, 0, none⟩ = some (.int .i64 0) := cell_of_row _ _ 0 _ _ _ rR16_.out
  have R_1_ : (w2).cell? ⟨W.heap.size + 1, 1, none⟩ = some (.slice none 0 0) := cell_of_row _ _ 1 _ _ _ rR16_.out
  have R_2_ : (w2).cell? ⟨W.heap.size + 1, 2, none⟩ = some (.slice none 0 0) := cell_of_row _ _ 2 _ _ _ rR16_.out
  have Rf0_ : (w2).frozen? ⟨W.heap.size + 1, 0, none⟩ = false := frozen_of_row _ _ 0 _ _ rR16_.out
  have Rf1_ : (w2).frozen? ⟨W.heap.size + 1, 1, none⟩ = false := frozen_of_row _ _ 1 _ _ rR16_.out
  have Rf2_ : (w2).frozen? ⟨W.heap.size + 1, 2, none⟩ = false := frozen_of_row _ _ 2 _ _ rR16_.out
  have X_0_ : (w2).cell? ⟨W.heap.size + 1 + 1, 0, none⟩ = some (.int .i64 i0) := cell_of_row _ _ 0 _ _ _ rX17_.out
  have X_1_ : (w2).cell? ⟨W.heap.size + 1 + 1, 1, none⟩ = some ((.slice p1_ n1_ c1_)) := cell_of_row _ _ 1 _ _ _ rX17_.out
  have X_2_ : (w2).cell? ⟨W.heap.size + 1 + 1, 2, none⟩ = some (.slice none 0 0) := cell_of_row _ _ 2 _ _ _ rX17_.out
  have Xf0_ : (w2).frozen? ⟨W.heap.size + 1 + 1, 0, none⟩ = false := frozen_of_row _ _ 0 _ _ rX17_.out
  have Xf1_ : (w2).frozen? ⟨W.heap.size + 1 + 1, 1, none⟩ = false := frozen_of_row _ _ 1 _ _ rX17_.out
  have Xf2_ : (w2).frozen? ⟨W.heap.size + 1 + 1, 2, none⟩ = false := frozen_of_row _ _ 2 _ _ rX17_.out
  go_wp2
  refine bodyPost_ret (v := vVectors i0 (.slice p1_ n1_ c1_) (.slice p2_ n2_ c2_)) (by simp [results, go_sem, vVectors, R_0_, R_1_, R_2_]) rfl ⟨(.slice p1_ n1_ c1_), (.slice p2_ n2_ c2_), rfl, ?_, ?_⟩
  · refine OwU.wide (lo := W.heap.size + 1 + 1 + 1) (hi := w2.heap.size) (by omega) (by simp) (OwU.keep (w := w2) (lo' := W.heap.size) (hi' := W.heap.size + 3) ?_ (.inr (by omega)) ?_)
    · repeat (with_reducible refine chg_setp ?_ _ (by dsimp only; omega) (by dsimp only; omega) _)
      exact chg_gby (gby_refl _ _) _ _
    · exact OwU.app (by omega) (by omega) o118_.out (o220_.out)
  · repeat (with_reducible refine gby_setnew ?_ _ (by dsimp only; omega) _)
    exact G19_.out

set_option maxRecDepth 8000 in
set_option maxHeartbeats 2000000 in
theorem eqVectors_d (W : World) (i0 : Int) (v1 : Value) (v2 : Value) (v1' : Value) (v2' : Value) (xs1 : List Bool) (xs2 : List Bool) (H1 : RdL shB W v1 xs1) (K1 : RdL shB W v1' xs1) (hl1 : szL shB xs1 ≤ 1048576) (H2 : RdL shB W v2 xs2) (K2 : RdL shB W v2' xs2) (hl2 : szL shB xs2 ≤ 1048576) :
    Calls Try.prog 15 #[vVectors i0 v1 v2, vVectors i0 v1' v2'] W (AnsN (.bool true) W) := by
  have HI1 := Lib.hid H1
  have HJ1 := Lib.hid K1
  clear H1 K1
  have HI2 := Lib.hid H2
  have HJ2 := Lib.hid K2
  clear H2 K2
  have bk0 : (i0 != i0) = false := by simp
  unfold vVectors
  go_enter Try.func15, Try.ntmps15
  have rP1_ := Lib.hid (show (((W.alloc (.cells #[.int .i64 i0, v1, v2] 26)).alloc (.cells #[.int .i64 i0, v1', v2'] 26))).heap[W.heap.size]? = some (.cells #[.int .i64 i0, v1, v2] 26 (0, 0)) from by rw [heap_alloc_old _ _ (by simp only [World.size_alloc]; omega)]; exact heap_alloc_new _ _)
  have rQ2_ := Lib.hid (show (((W.alloc (.cells #[.int .i64 i0, v1, v2] 26)).alloc (.cells #[.int .i64 i0, v1', v2'] 26))).heap[W.heap.size + 1]? = some (.cells #[.int .i64 i0, v1', v2'] 26 (0, 0)) from by exact heap_pair _ _ _)
  have G3_ := Lib.hid (show (W).grownBy (((W.alloc (.cells #[.int .i64 i0, v1, v2] 26)).alloc (.cells #[.int .i64 i0, v1', v2'] 26))) none from (gby_alloc (gby_alloc (gby_refl _ _) _) _))
  have P_0_ : (((W.alloc (.cells #[.int .i64 i0, v1, v2] 26)).alloc (.cells #[.int .i64 i0, v1', v2'] 26))).cell? ⟨W.heap.size, 0, none⟩ = some (.int .i64 i0) := cell_of_row _ _ 0 _ _ _ rP1_.out
  have P_1_ : (((W.alloc (.cells #[.int .i64 i0, v1, v2] 26)).alloc (.cells #[.int .i64 i0, v1', v2'] 26))).cell? ⟨W.heap.size, 1, none⟩ = some (v1) := cell_of_row _ _ 1 _ _ _ rP1_.out
  have P_2_ : (((W.alloc (.cells #[.int .i64 i0, v1, v2] 26)).alloc (.cells #[.int .i64 i0, v1', v2'] 26))).cell? ⟨W.heap.size, 2, none⟩ = some (v2) := cell_of_row _ _ 2 _ _ _ rP1_.out
  have Q_0_ : (((W.alloc (.cells #[.int .i64 i0, v1, v2] 26)).alloc (.cells #[.int .i64 i0, v1', v2'] 26))).cell? ⟨W.heap.size + 1, 0, none⟩ = some (.int .i64 i0) := cell_of_row _ _ 0 _ _ _ rQ2_.out
  have Q_1_ : (((W.alloc (.cells #[.int .i64 i0, v1, v2] 26)).alloc (.cells #[.int .i64 i0, v1', v2'] 26))).cell? ⟨W.heap.size + 1, 1, none⟩ = some (v1') := cell_of_row _ _ 1 _ _ _ rQ2_.out
  have Q_2_ : (((W.alloc (.cells #[.int .i64 i0, v1, v2] 26)).alloc (.cells #[.int .i64 i0, v1', v2'] 26))).cell? ⟨W.heap.size + 1, 2, none⟩ = some (v2') := cell_of_row _ _ 2 _ _ _ rQ2_.out
  go_wp2_with fail
  go_at_call 66
  refine (eqBoolS_d _ v1 v1' xs1 (HI1.out.grow G3_.out) (HJ1.out.grow G3_.out) hl1).mono ?_
  rintro e w1 ⟨rfl, g⟩
  clear P_0_ P_1_ P_2_ Q_0_ Q_1_ Q_2_
  have rP4_ := Lib.hid (show (w1).heap[W.heap.size]? = some (.cells #[.int .i64 i0, v1, v2] 26 (0, 0)) from row_held g rP1_.out)
  clear rP1_
  have rQ5_ := Lib.hid (show (w1).heap[W.heap.size + 1]? = some (.cells #[.int .i64 i0, v1', v2'] 26 (0, 0)) from row_held g rQ2_.out)
  clear rQ2_
  have G6_ := Lib.hid (show (W).grownBy (w1) none from gby_trans G3_.out g)
  clear g
  have P_0_ : (w1).cell? ⟨W.heap.size, 0, none⟩ = some (.int .i64 i0) := cell_of_row _ _ 0 _ _ _ rP4_.out
  have P_1_ : (w1).cell? ⟨W.heap.size, 1, none⟩ = some (v1) := cell_of_row _ _ 1 _ _ _ rP4_.out
  have P_2_ : (w1).cell? ⟨W.heap.size, 2, none⟩ = some (v2) := cell_of_row _ _ 2 _ _ _ rP4_.out
  have Q_0_ : (w1).cell? ⟨W.heap.size + 1, 0, none⟩ = some (.int .i64 i0) := cell_of_row _ _ 0 _ _ _ rQ5_.out
  have Q_1_ : (w1).cell? ⟨W.heap.size + 1, 1, none⟩ = some (v1') := cell_of_row _ _ 1 _ _ _ rQ5_.out
  have Q_2_ : (w1).cell? ⟨W.heap.size + 1, 2, none⟩ = some (v2') := cell_of_row _ _ 2 _ _ _ rQ5_.out
  go_wp2_with fail
  go_at_call 66
  refine (eqBoolS_d _ v2 v2' xs2 (HI2.out.grow G6_.out) (HJ2.out.grow G6_.out) hl2).mono ?_
  rintro e w2 ⟨rfl, g⟩
  clear P_0_ P_1_ P_2_ Q_0_ Q_1_ Q_2_
  have rP7_ := Lib.hid (show (w2).heap[W.heap.size]? = some (.cells #[.int .i64 i0, v1, v2] 26 (0, 0)) from row_held g rP4_.out)
  clear rP4_
  have rQ8_ := Lib.hid (show (w2).heap[W.heap.size + 1]? = some (.cells #[.int .i64 i0, v1', v2'] 26 (0, 0)) from row_held g rQ5_.out)
  clear rQ5_
  have G9_ := Lib.hid (show (W).grownBy (w2) none from gby_trans G6_.out g)
  clear g
  have P_0_ : (w2).cell? ⟨W.heap.size, 0, none⟩ = some (.int .i64 i0) := cell_of_row _ _ 0 _ _ _ rP7_.out
  have P_1_ : (w2).cell? ⟨W.heap.size, 1, none⟩ = some (v1) := cell_of_row _ _ 1 _ _ _ rP7_.out
  have P_2_ : (w2).cell? ⟨W.heap.size, 2, none⟩ = some (v2) := cell_of_row _ _ 2 _ _ _ rP7_.out
  have Q_0_ : (w2).cell? ⟨W.heap.size + 1, 0, none⟩ = some (.int .i64 i0) := cell_of_row _ _ 0 _ _ _ rQ8_.out
  have Q_1_ : (w2).cell? ⟨W.heap.size + 1, 1, none⟩ = some (v1') := cell_of_row _ _ 1 _ _ _ rQ8_.out
  have Q_2_ : (w2).cell? ⟨W.heap.size + 1, 2, none⟩ = some (v2') := cell_of_row _ _ 2 _ _ _ rQ8_.out
  go_wp2
  go_ret
  exact ⟨rfl, G9_.out⟩

set_option maxRecDepth 8000 in
set_option maxHeartbeats 2000000 in
theorem markVectors_d (w : World) (lo hi m : Nat) (i0 : Int) (v1 : Value) (v2 : Value) (xs1 : List Bool) (xs2 : List Bool) (pre post : List Own) (h1 : OwU w lo hi [] (pre ++ own shB v1 xs1 :: own shB v2 xs2 :: post)) (hhi : hi ≤ w.heap.size) (hl1 : szL shB xs1 ≤ 1048576) (hl2 : szL shB xs2 ≤ 1048576) (hm2 : m + ecL shB xs1 + ecL shB xs2 ≤ 900000000) :
    Calls Try.prog 17 #[vVectors i0 v1 v2, .int .i64 (m : Int)] w (fun e w' => e = .returned (.int .i64 ((m + ecL shB xs1 + ecL shB xs2 : Nat) : Int)) ∧ OwU w' lo hi [] (pre ++ own shB v1 (emL shB (m) xs1) :: own shB v2 (emL shB (m + ecL shB xs1) xs2) :: post) ∧ Chg w w' lo hi) := by
  unfold vVectors
  go_enter Try.func17, Try.ntmps17
  have rP1_ := Lib.hid (show ((w.alloc (.cells #[.int .i64 i0, v1, v2] 26))).heap[w.heap.size]? = some (.cells #[.int .i64 i0, v1, v2] 26 (0, 0)) from by exact heap_alloc_new _ _)
  have G2_ := Lib.hid (show (w).grownBy ((w.alloc (.cells #[.int .i64 i0, v1, v2] 26))) none from (gby_alloc (gby_refl _ _) _))
  have U0 := Lib.hid (OwU.grow h1 (gby_alloc (gby_refl _ _) (.cells #[.int .i64 i0, v1, v2] 26)))
  have C0 := Lib.hid (chg_gby G2_.out lo hi)
  clear h1
  have P_0_ : ((w.alloc (.cells #[.int .i64 i0, v1, v2] 26))).cell? ⟨w.heap.size, 0, none⟩ = some (.int .i64 i0) := cell_of_row _ _ 0 _ _ _ rP1_.out
  have P_1_ : ((w.alloc (.cells #[.int .i64 i0, v1, v2] 26))).cell? ⟨w.heap.size, 1, none⟩ = some (v1) := cell_of_row _ _ 1 _ _ _ rP1_.out
  have P_2_ : ((w.alloc (.cells #[.int .i64 i0, v1, v2] 26))).cell? ⟨w.heap.size, 2, none⟩ = some (v2) := cell_of_row _ _ 2 _ _ _ rP1_.out
  obtain ⟨p1, q1, l1, u1, _, oo, ff⟩ := OwU.focus (pre := pre) (p := own shB v1 xs1) (post := own shB v2 xs2 :: post) (show OwU ((w.alloc (.cells #[.int .i64 i0, v1, v2] 26))) lo hi [] (pre ++ own shB v1 xs1 :: own shB v2 xs2 :: post) from by first | exact U0.out | (rw [List.append_assoc]; exact U0.out))
  have FF := Lib.hid ff
  clear ff
  go_wp2_with fail
  go_at_call 68
  refine (markBoolS_d _ p1 q1 m v1 xs1 oo hl1 (by omega)).mono ?_
  rintro e w1 ⟨rfl, o, c⟩
  clear P_0_ P_1_ P_2_
  have hrow := Chg.keep c rP1_.out (by omega)
  clear rP1_
  have hsz1 := c.size
  try simp only [World.size_alloc] at hsz1
  have rP3_ := Lib.hid (show (w1).heap[w.heap.size]? = some (.cells #[.int .i64 i0, v1, v2] 26 (0, 0)) from hrow)
  clear hrow
  have U1 := Lib.hid (show OwU (w1) lo hi [] (pre ++ own shB v1 (emL shB (m) xs1) :: own shB v2 xs2 :: post) from by first | exact (show OwU (w1) lo hi [] (pre ++ own shB v1 (emL shB (m) xs1) :: own shB v2 xs2 :: post) from FF.out _ (own shB v1 (emL shB (m) xs1)) c o) | (have q := (show OwU (w1) lo hi [] (pre ++ own shB v1 (emL shB (m) xs1) :: own shB v2 xs2 :: post) from FF.out _ (own shB v1 (emL shB (m) xs1)) c o); rw [List.append_assoc] at q; exact q))
  clear U0 o
  have C1 := Lib.hid (chg_trans C0.out (chg_wide c (lo' := lo) (hi' := hi) l1 u1))
  clear c C0
  try clear oo FF
  have P_0_ : (w1).cell? ⟨w.heap.size, 0, none⟩ = some (.int .i64 i0) := cell_of_row _ _ 0 _ _ _ rP3_.out
  have P_1_ : (w1).cell? ⟨w.heap.size, 1, none⟩ = some (v1) := cell_of_row _ _ 1 _ _ _ rP3_.out
  have P_2_ : (w1).cell? ⟨w.heap.size, 2, none⟩ = some (v2) := cell_of_row _ _ 2 _ _ _ rP3_.out
  obtain ⟨p2, q2, l2, u2, _, oo, ff⟩ := OwU.focus (pre := (pre ++ [own shB v1 (emL shB (m) xs1)])) (p := own shB v2 xs2) (post := post) (show OwU (w1) lo hi [] ((pre ++ [own shB v1 (emL shB (m) xs1)]) ++ own shB v2 xs2 :: post) from by first | exact U1.out | (rw [List.append_assoc]; exact U1.out))
  have FF := Lib.hid ff
  clear ff
  go_wp2_with fail
  go_at_call 68
  refine (markBoolS_d _ p2 q2 (m + ecL shB xs1) v2 xs2 oo hl2 (by omega)).mono ?_
  rintro e w2 ⟨rfl, o, c⟩
  clear P_0_ P_1_ P_2_
  have hrow := Chg.keep c rP3_.out (by omega)
  clear rP3_
  have hsz2 := c.size
  try simp only [World.size_alloc] at hsz2
  have rP4_ := Lib.hid (show (w2).heap[w.heap.size]? = some (.cells #[.int .i64 i0, v1, v2] 26 (0, 0)) from hrow)
  clear hrow
  have U2 := Lib.hid (show OwU (w2) lo hi [] (pre ++ own shB v1 (emL shB (m) xs1) :: own shB v2 (emL shB (m + ecL shB xs1) xs2) :: post) from by first | exact (show OwU (w2) lo hi [] ((pre ++ [own shB v1 (emL shB (m) xs1)]) ++ own shB v2 (emL shB (m + ecL shB xs1) xs2) :: post) from FF.out _ (own shB v2 (emL shB (m + ecL shB xs1) xs2)) c o) | (have q := (show OwU (w2) lo hi [] ((pre ++ [own shB v1 (emL shB (m) xs1)]) ++ own shB v2 (emL shB (m + ecL shB xs1) xs2) :: post) from FF.out _ (own shB v2 (emL shB (m + ecL shB xs1) xs2)) c o); rw [List.append_assoc] at q; exact q))
  clear U1 o
  have C2 := Lib.hid (chg_trans C1.out (chg_wide c (lo' := lo) (hi' := hi) l2 u2))
  clear c C1
  try clear oo FF
  have P_0_ : (w2).cell? ⟨w.heap.size, 0, none⟩ = some (.int .i64 i0) := cell_of_row _ _ 0 _ _ _ rP4_.out
  have P_1_ : (w2).cell? ⟨w.heap.size, 1, none⟩ = some (v1) := cell_of_row _ _ 1 _ _ _ rP4_.out
  have P_2_ : (w2).cell? ⟨w.heap.size, 2, none⟩ = some (v2) := cell_of_row _ _ 2 _ _ _ rP4_.out
  go_wp2
  go_ret
  exact ⟨by first | rfl | (congr 3; omega), by first | exact U2.out | simpa only [Nat.add_assoc] using U2.out, C2.out⟩

set_option maxRecDepth 8000 in
set_option maxHeartbeats 2000000 in
theorem heldVectors_d (w : World) (m : Nat) (i0 : Int) (v1 : Value) (v2 : Value) (xs1 : List Bool) (xs2 : List Bool) (H1 : RdL shB w v1 (emL shB (m) xs1)) (H2 : RdL shB w v2 (emL shB (m + ecL shB xs1) xs2)) (hl1 : szL shB xs1 ≤ 1048576) (hl2 : szL shB xs2 ≤ 1048576) (hm2 : m + ecL shB xs1 + ecL shB xs2 ≤ 900000000) :
    Calls Try.prog 19 #[vVectors i0 v1 v2, .int .i64 (m : Int)] w (AnsN (.int .i64 ((m + ecL shB xs1 + ecL shB xs2 : Nat) : Int)) w) := by
  unfold vVectors
  have HI1 := Lib.hid H1
  clear H1
  have HI2 := Lib.hid H2
  clear H2
  have ng1 : ¬ (((m + ecL shB xs1 : Nat) : Int) < 0) := by omega
  have ng2 : ¬ (((m + ecL shB xs1 + ecL shB xs2 : Nat) : Int) < 0) := by omega
  go_enter Try.func19, Try.ntmps19
  have rP1_ := Lib.hid (show ((w.alloc (.cells #[.int .i64 i0, v1, v2] 26))).heap[w.heap.size]? = some (.cells #[.int .i64 i0, v1, v2] 26 (0, 0)) from by exact heap_alloc_new _ _)
  have G2_ := Lib.hid (show (w).grownBy ((w.alloc (.cells #[.int .i64 i0, v1, v2] 26))) none from (gby_alloc (gby_refl _ _) _))
  have P_0_ : ((w.alloc (.cells #[.int .i64 i0, v1, v2] 26))).cell? ⟨w.heap.size, 0, none⟩ = some (.int .i64 i0) := cell_of_row _ _ 0 _ _ _ rP1_.out
  have P_1_ : ((w.alloc (.cells #[.int .i64 i0, v1, v2] 26))).cell? ⟨w.heap.size, 1, none⟩ = some (v1) := cell_of_row _ _ 1 _ _ _ rP1_.out
  have P_2_ : ((w.alloc (.cells #[.int .i64 i0, v1, v2] 26))).cell? ⟨w.heap.size, 2, none⟩ = some (v2) := cell_of_row _ _ 2 _ _ _ rP1_.out
  go_wp2_with fail
  go_at_call 70
  refine (heldBoolS_d _ m v1 xs1 (HI1.out.grow G2_.out) hl1 (by omega)).mono ?_
  rintro e w1 ⟨rfl, g⟩
  clear P_0_ P_1_ P_2_
  have rP3_ := Lib.hid (show (w1).heap[w.heap.size]? = some (.cells #[.int .i64 i0, v1, v2] 26 (0, 0)) from row_held g rP1_.out)
  clear rP1_
  have G4_ := Lib.hid (show (w).grownBy (w1) none from gby_trans G2_.out g)
  clear g
  have P_0_ : (w1).cell? ⟨w.heap.size, 0, none⟩ = some (.int .i64 i0) := cell_of_row _ _ 0 _ _ _ rP3_.out
  have P_1_ : (w1).cell? ⟨w.heap.size, 1, none⟩ = some (v1) := cell_of_row _ _ 1 _ _ _ rP3_.out
  have P_2_ : (w1).cell? ⟨w.heap.size, 2, none⟩ = some (v2) := cell_of_row _ _ 2 _ _ _ rP3_.out
  go_wp2_with fail
  go_at_call 70
  refine (heldBoolS_d _ (m + ecL shB xs1) v2 xs2 (HI2.out.grow G4_.out) hl2 (by omega)).mono ?_
  rintro e w2 ⟨rfl, g⟩
  clear P_0_ P_1_ P_2_
  have rP5_ := Lib.hid (show (w2).heap[w.heap.size]? = some (.cells #[.int .i64 i0, v1, v2] 26 (0, 0)) from row_held g rP3_.out)
  clear rP3_
  have G6_ := Lib.hid (show (w).grownBy (w2) none from gby_trans G4_.out g)
  clear g
  have P_0_ : (w2).cell? ⟨w.heap.size, 0, none⟩ = some (.int .i64 i0) := cell_of_row _ _ 0 _ _ _ rP5_.out
  have P_1_ : (w2).cell? ⟨w.heap.size, 1, none⟩ = some (v1) := cell_of_row _ _ 1 _ _ _ rP5_.out
  have P_2_ : (w2).cell? ⟨w.heap.size, 2, none⟩ = some (v2) := cell_of_row _ _ 2 _ _ _ rP5_.out
  go_wp2
  go_ret
  exact ⟨rfl, G6_.out⟩

end Go.Proofs.Ytomiicegkdogkaa
