/-
  Credits by value, on the law's side: measured, copied, compared, marked, held.
-/
import Derived.Test.YtnighnkkeiegnaaShpI
namespace Go.Proofs.Ytnighnkkeiegnaa
open Go Go.RowKit
set_option linter.unusedVariables false

/-- a value of Credits -/
def vCredits (v0 : Value) (v1 : Value) : Value := .agg #[v0, v1]

set_option maxRecDepth 8000 in
set_option maxHeartbeats 2000000 in
theorem szCredits_d (W : World) (n : Int) (v0 : Value) (v1 : Value) (xs0 : List Int) (xs1 : List Int) (H0 : RdL shI W v0 xs0) (H1 : RdL shI W v1 xs1) (hn : n ≤ 1048576) (h0 : 0 ≤ n) :
    Calls Try.prog 58 #[vCredits v0 v1, .int .i64 n] W (AnsN (.int .i64 (lessN n (szL shI xs0 + szL shI xs1))) W) := by
  obtain ⟨t0, ht0⟩ : ∃ t, t = szL shI xs0 := ⟨_, rfl⟩
  obtain ⟨t1, ht1⟩ : ∃ t, t = szL shI xs1 := ⟨_, rfl⟩
  rw [show (szL shI xs0 + szL shI xs1) = t0 + t1 by omega]
  have HT0 := Lib.hid ht0
  clear ht0
  have HT1 := Lib.hid ht1
  clear ht1
  have HI0 := Lib.hid H0
  clear H0
  have HI1 := Lib.hid H1
  clear H1
  unfold vCredits
  by_cases h0_ : n < (t0 : Int)
  · rw [show lessN n (t0 + t1) = -1 from if_pos (by omega)]
    go_enter Try.func58, Try.ntmps58
    have rA1_ := Lib.hid (show ((W.alloc (.cells #[v0, v1] 25))).heap[W.heap.size]? = some (.cells #[v0, v1] 25 (0, 0)) from by exact heap_alloc_new _ _)
    have G2_ := Lib.hid (show (W).grownBy ((W.alloc (.cells #[v0, v1] 25))) none from (gby_alloc (gby_refl _ _) _))
    have A_0_ : ((W.alloc (.cells #[v0, v1] 25))).cell? ⟨W.heap.size, 0, none⟩ = some (v0) := cell_of_row _ _ 0 _ _ _ rA1_.out
    have A_1_ : ((W.alloc (.cells #[v0, v1] 25))).cell? ⟨W.heap.size, 1, none⟩ = some (v1) := cell_of_row _ _ 1 _ _ _ rA1_.out
    go_wp2_with fail
    go_at_call 90
    refine (szIntS_d _ _ v0 xs0 (HI0.out.grow G2_.out) (by omega) (by omega)).mono ?_
    rintro e w1 ⟨he, g⟩
    rw [← HT0.out, show lessN _ t0 = -1 from if_pos (by omega)] at he
    subst he
    clear A_0_ A_1_
    have rA3_ := Lib.hid (show (w1).heap[W.heap.size]? = some (.cells #[v0, v1] 25 (0, 0)) from row_held g rA1_.out)
    clear rA1_
    have G4_ := Lib.hid (show (W).grownBy (w1) none from gby_trans G2_.out g)
    clear g
    have hm1 : (-1 : Int) < 0 := by omega
    go_wp2
    go_ret
    exact ⟨rfl, G4_.out⟩
  by_cases h1_ : n - (t0 : Int) < (t1 : Int)
  · rw [show lessN n (t0 + t1) = -1 from if_pos (by omega)]
    go_enter Try.func58, Try.ntmps58
    have rA1_ := Lib.hid (show ((W.alloc (.cells #[v0, v1] 25))).heap[W.heap.size]? = some (.cells #[v0, v1] 25 (0, 0)) from by exact heap_alloc_new _ _)
    have G2_ := Lib.hid (show (W).grownBy ((W.alloc (.cells #[v0, v1] 25))) none from (gby_alloc (gby_refl _ _) _))
    have A_0_ : ((W.alloc (.cells #[v0, v1] 25))).cell? ⟨W.heap.size, 0, none⟩ = some (v0) := cell_of_row _ _ 0 _ _ _ rA1_.out
    have A_1_ : ((W.alloc (.cells #[v0, v1] 25))).cell? ⟨W.heap.size, 1, none⟩ = some (v1) := cell_of_row _ _ 1 _ _ _ rA1_.out
    go_wp2_with fail
    go_at_call 90
    refine (szIntS_d _ _ v0 xs0 (HI0.out.grow G2_.out) (by omega) (by omega)).mono ?_
    rintro e w1 ⟨he, g⟩
    rw [← HT0.out, show lessN _ t0 = n - (t0 : Int) from (if_neg (by omega)).trans (by omega)] at he
    subst he
    clear A_0_ A_1_
    have rA3_ := Lib.hid (show (w1).heap[W.heap.size]? = some (.cells #[v0, v1] 25 (0, 0)) from row_held g rA1_.out)
    clear rA1_
    have G4_ := Lib.hid (show (W).grownBy (w1) none from gby_trans G2_.out g)
    clear g
    have A_0_ : (w1).cell? ⟨W.heap.size, 0, none⟩ = some (v0) := cell_of_row _ _ 0 _ _ _ rA3_.out
    have A_1_ : (w1).cell? ⟨W.heap.size, 1, none⟩ = some (v1) := cell_of_row _ _ 1 _ _ _ rA3_.out
    go_wp2_with fail
    go_at_call 90
    refine (szIntS_d _ _ v1 xs1 (HI1.out.grow G4_.out) (by omega) (by omega)).mono ?_
    rintro e w2 ⟨he, g⟩
    rw [← HT1.out, show lessN _ t1 = -1 from if_pos (by omega)] at he
    subst he
    clear A_0_ A_1_
    have rA5_ := Lib.hid (show (w2).heap[W.heap.size]? = some (.cells #[v0, v1] 25 (0, 0)) from row_held g rA3_.out)
    clear rA3_
    have G6_ := Lib.hid (show (W).grownBy (w2) none from gby_trans G4_.out g)
    clear g
    have hm1 : (-1 : Int) < 0 := by omega
    go_wp2
    go_ret
    exact ⟨rfl, G6_.out⟩
  rw [show lessN n (t0 + t1) = n - (t0 : Int) - (t1 : Int) from (if_neg (by omega)).trans (by omega)]
  go_enter Try.func58, Try.ntmps58
  have rA1_ := Lib.hid (show ((W.alloc (.cells #[v0, v1] 25))).heap[W.heap.size]? = some (.cells #[v0, v1] 25 (0, 0)) from by exact heap_alloc_new _ _)
  have G2_ := Lib.hid (show (W).grownBy ((W.alloc (.cells #[v0, v1] 25))) none from (gby_alloc (gby_refl _ _) _))
  have A_0_ : ((W.alloc (.cells #[v0, v1] 25))).cell? ⟨W.heap.size, 0, none⟩ = some (v0) := cell_of_row _ _ 0 _ _ _ rA1_.out
  have A_1_ : ((W.alloc (.cells #[v0, v1] 25))).cell? ⟨W.heap.size, 1, none⟩ = some (v1) := cell_of_row _ _ 1 _ _ _ rA1_.out
  go_wp2_with fail
  go_at_call 90
  refine (szIntS_d _ _ v0 xs0 (HI0.out.grow G2_.out) (by omega) (by omega)).mono ?_
  rintro e w1 ⟨he, g⟩
  rw [← HT0.out, show lessN _ t0 = n - (t0 : Int) from (if_neg (by omega)).trans (by omega)] at he
  subst he
  clear A_0_ A_1_
  have rA3_ := Lib.hid (show (w1).heap[W.heap.size]? = some (.cells #[v0, v1] 25 (0, 0)) from row_held g rA1_.out)
  clear rA1_
  have G4_ := Lib.hid (show (W).grownBy (w1) none from gby_trans G2_.out g)
  clear g
  have A_0_ : (w1).cell? ⟨W.heap.size, 0, none⟩ = some (v0) := cell_of_row _ _ 0 _ _ _ rA3_.out
  have A_1_ : (w1).cell? ⟨W.heap.size, 1, none⟩ = some (v1) := cell_of_row _ _ 1 _ _ _ rA3_.out
  go_wp2_with fail
  go_at_call 90
  refine (szIntS_d _ _ v1 xs1 (HI1.out.grow G4_.out) (by omega) (by omega)).mono ?_
  rintro e w2 ⟨he, g⟩
  rw [← HT1.out, show lessN _ t1 = n - (t0 : Int) - (t1 : Int) from (if_neg (by omega)).trans (by omega)] at he
  subst he
  clear A_0_ A_1_
  have rA5_ := Lib.hid (show (w2).heap[W.heap.size]? = some (.cells #[v0, v1] 25 (0, 0)) from row_held g rA3_.out)
  clear rA3_
  have G6_ := Lib.hid (show (W).grownBy (w2) none from gby_trans G4_.out g)
  clear g
  go_wp2
  go_ret
  exact ⟨rfl, G6_.out⟩

/-- a Credits in new memory -/
def NewCredits (xs0 : List Int) (xs1 : List Int) (W : World) (e : Ending) (w' : World) : Prop := ∃ v0, ∃ v1, e = .returned (vCredits v0 v1) ∧ OwU w' W.heap.size w'.heap.size [] [own shI v0 xs0, own shI v1 xs1] ∧ W.grownBy w' none

set_option maxRecDepth 8000 in
set_option maxHeartbeats 4000000 in
theorem toCredits_d (W : World) (v0 : Value) (v1 : Value) (xs0 : List Int) (xs1 : List Int) (H0 : RdL shI W v0 xs0) (hl0 : szL shI xs0 ≤ 1048576) (H1 : RdL shI W v1 xs1) (hl1 : szL shI xs1 ≤ 1048576) :
    Calls Try.prog 62 #[vCredits v0 v1] W (NewCredits xs0 xs1 W) := by
  have HI0 := Lib.hid H0
  clear H0
  have HI1 := Lib.hid H1
  clear H1
  unfold vCredits
  go_enter Try.func62, Try.ntmps62
  have rP1_ := Lib.hid (show ((((W.alloc (.cells #[v0, v1] 25)).alloc (.cells #[.slice none 0 0, .slice none 0 0] 31)).alloc (.cells #[.slice none 0 0, .slice none 0 0] 31))).heap[W.heap.size]? = some (.cells #[v0, v1] 25 (0, 0)) from by rw [heap_alloc_old _ _ (by simp only [World.size_alloc]; omega)]; rw [heap_alloc_old _ _ (by simp only [World.size_alloc]; omega)]; exact heap_alloc_new _ _)
  have rR2_ := Lib.hid (show ((((W.alloc (.cells #[v0, v1] 25)).alloc (.cells #[.slice none 0 0, .slice none 0 0] 31)).alloc (.cells #[.slice none 0 0, .slice none 0 0] 31))).heap[W.heap.size + 1]? = some (.cells #[.slice none 0 0, .slice none 0 0] 31 (0, 0)) from by rw [heap_alloc_old _ _ (by simp only [World.size_alloc]; omega)]; exact heap_pair _ _ _)
  have rX3_ := Lib.hid (show ((((W.alloc (.cells #[v0, v1] 25)).alloc (.cells #[.slice none 0 0, .slice none 0 0] 31)).alloc (.cells #[.slice none 0 0, .slice none 0 0] 31))).heap[W.heap.size + 1 + 1]? = some (.cells #[.slice none 0 0, .slice none 0 0] 31 (0, 0)) from by exact heap_trip _ _ _ _)
  have G4_ := Lib.hid (show (W).grownBy ((((W.alloc (.cells #[v0, v1] 25)).alloc (.cells #[.slice none 0 0, .slice none 0 0] 31)).alloc (.cells #[.slice none 0 0, .slice none 0 0] 31))) none from (gby_alloc (gby_alloc (gby_alloc (gby_refl _ _) _) _) _))
  have P_0_ : ((((W.alloc (.cells #[v0, v1] 25)).alloc (.cells #[.slice none 0 0, .slice none 0 0] 31)).alloc (.cells #[.slice none 0 0, .slice none 0 0] 31))).cell? ⟨W.heap.size, 0, none⟩ = some (v0) := cell_of_row _ _ 0 _ _ _ rP1_.out
  have P_1_ : ((((W.alloc (.cells #[v0, v1] 25)).alloc (.cells #[.slice none 0 0, .slice none 0 0] 31)).alloc (.cells #[.slice none 0 0, .slice none 0 0] 31))).cell? ⟨W.heap.size, 1, none⟩ = some (v1) := cell_of_row _ _ 1 _ _ _ rP1_.out
  have R_0_ : ((((W.alloc (.cells #[v0, v1] 25)).alloc (.cells #[.slice none 0 0, .slice none 0 0] 31)).alloc (.cells #[.slice none 0 0, .slice none 0 0] 31))).cell? ⟨W.heap.size + 1, 0, none⟩ = some (.slice none 0 0) := cell_of_row _ _ 0 _ _ _ rR2_.out
  have R_1_ : ((((W.alloc (.cells #[v0, v1] 25)).alloc (.cells #[.slice none 0 0, .slice none 0 0] 31)).alloc (.cells #[.slice none 0 0, .slice none 0 0] 31))).cell? ⟨W.heap.size + 1, 1, none⟩ = some (.slice none 0 0) := cell_of_row _ _ 1 _ _ _ rR2_.out
  have X_0_ : ((((W.alloc (.cells #[v0, v1] 25)).alloc (.cells #[.slice none 0 0, .slice none 0 0] 31)).alloc (.cells #[.slice none 0 0, .slice none 0 0] 31))).cell? ⟨W.heap.size + 1 + 1, 0, none⟩ = some (.slice none 0 0) := cell_of_row _ _ 0 _ _ _ rX3_.out
  have X_1_ : ((((W.alloc (.cells #[v0, v1] 25)).alloc (.cells #[.slice none 0 0, .slice none 0 0] 31)).alloc (.cells #[.slice none 0 0, .slice none 0 0] 31))).cell? ⟨W.heap.size + 1 + 1, 1, none⟩ = some (.slice none 0 0) := cell_of_row _ _ 1 _ _ _ rX3_.out
  have Xf0_ : ((((W.alloc (.cells #[v0, v1] 25)).alloc (.cells #[.slice none 0 0, .slice none 0 0] 31)).alloc (.cells #[.slice none 0 0, .slice none 0 0] 31))).frozen? ⟨W.heap.size + 1 + 1, 0, none⟩ = false := frozen_of_row _ _ 0 _ _ rX3_.out
  have Xf1_ : ((((W.alloc (.cells #[v0, v1] 25)).alloc (.cells #[.slice none 0 0, .slice none 0 0] 31)).alloc (.cells #[.slice none 0 0, .slice none 0 0] 31))).frozen? ⟨W.heap.size + 1 + 1, 1, none⟩ = false := frozen_of_row _ _ 1 _ _ rX3_.out
  go_wp2_with fail
  go_at_call 24
  clear P_0_ P_1_ R_0_ R_1_ X_0_ X_1_ Xf0_ Xf1_
  refine (toIntS_d _ v0 xs0 (HI0.out.grow G4_.out) hl0).mono ?_
  rintro e w1 ⟨d0, rfl, o, g⟩
  have sz0 := g.size
  first | simp only [World.size_alloc] at sz0 | simp only [World.size_setCell] at sz0 | skip
  first | simp only [World.size_alloc] at o | simp only [World.size_setCell] at o | skip
  have rP5_ := Lib.hid (show (w1).heap[W.heap.size]? = some (.cells #[v0, v1] 25 (0, 0)) from row_held g rP1_.out)
  clear rP1_
  have rR6_ := Lib.hid (show (w1).heap[W.heap.size + 1]? = some (.cells #[.slice none 0 0, .slice none 0 0] 31 (0, 0)) from row_held g rR2_.out)
  clear rR2_
  have rX7_ := Lib.hid (show (w1).heap[W.heap.size + 1 + 1]? = some (.cells #[.slice none 0 0, .slice none 0 0] 31 (0, 0)) from row_held g rX3_.out)
  clear rX3_
  have G8_ := Lib.hid (show (W).grownBy (w1) none from gby_trans G4_.out g)
  clear g
  obtain ⟨p0_, n0_, c0_, hv0_⟩ := RdL.form (OwL.rd o)
  subst hv0_
  have o09_ := Lib.hid (show OwU (w1) (W.heap.size + 1 + 1 + 1) (w1.heap.size) [] [own shI (.slice p0_ n0_ c0_) xs0] from OwU.one o)
  clear o
  have P_0_ : (w1).cell? ⟨W.heap.size, 0, none⟩ = some (v0) := cell_of_row _ _ 0 _ _ _ rP5_.out
  have P_1_ : (w1).cell? ⟨W.heap.size, 1, none⟩ = some (v1) := cell_of_row _ _ 1 _ _ _ rP5_.out
  have R_0_ : (w1).cell? ⟨W.heap.size + 1, 0, none⟩ = some (.slice none 0 0) := cell_of_row _ _ 0 _ _ _ rR6_.out
  have R_1_ : (w1).cell? ⟨W.heap.size + 1, 1, none⟩ = some (.slice none 0 0) := cell_of_row _ _ 1 _ _ _ rR6_.out
  have X_0_ : (w1).cell? ⟨W.heap.size + 1 + 1, 0, none⟩ = some (.slice none 0 0) := cell_of_row _ _ 0 _ _ _ rX7_.out
  have X_1_ : (w1).cell? ⟨W.heap.size + 1 + 1, 1, none⟩ = some (.slice none 0 0) := cell_of_row _ _ 1 _ _ _ rX7_.out
  have Xf0_ : (w1).frozen? ⟨W.heap.size + 1 + 1, 0, none⟩ = false := frozen_of_row _ _ 0 _ _ rX7_.out
  have Xf1_ : (w1).frozen? ⟨W.heap.size + 1 + 1, 1, none⟩ = false := frozen_of_row _ _ 1 _ _ rX7_.out
  go_wp2_with fail
  go_at_call 24
  clear P_0_ P_1_ R_0_ R_1_ X_0_ X_1_ Xf0_ Xf1_
  have rP10_ := Lib.hid (show ((w1.setCell ⟨W.heap.size + 1 + 1, 0, none⟩ ((.slice p0_ n0_ c0_)))).heap[W.heap.size]? = some (.cells #[v0, v1] 25 (0, 0)) from (set_far rP5_.out (by dsimp only; omega)))
  clear rP5_
  have rR11_ := Lib.hid (show ((w1.setCell ⟨W.heap.size + 1 + 1, 0, none⟩ ((.slice p0_ n0_ c0_)))).heap[W.heap.size + 1]? = some (.cells #[.slice none 0 0, .slice none 0 0] 31 (0, 0)) from (set_far rR6_.out (by dsimp only; omega)))
  clear rR6_
  have rX12_ := Lib.hid (show ((w1.setCell ⟨W.heap.size + 1 + 1, 0, none⟩ ((.slice p0_ n0_ c0_)))).heap[W.heap.size + 1 + 1]? = some (.cells #[(.slice p0_ n0_ c0_), .slice none 0 0] 31 (0, 0)) from (heap_setCell_same _ _ 0 _ _ _ rX7_.out))
  clear rX7_
  have o013_ := Lib.hid (show OwU ((w1.setCell ⟨W.heap.size + 1 + 1, 0, none⟩ ((.slice p0_ n0_ c0_)))) (W.heap.size + 1 + 1 + 1) (w1.heap.size) [] [own shI (.slice p0_ n0_ c0_) xs0] from (OwU.keep (chg_one _ _ _ _) (by omega) o09_.out))
  clear o09_
  have G14_ := Lib.hid (show (W).grownBy ((w1.setCell ⟨W.heap.size + 1 + 1, 0, none⟩ ((.slice p0_ n0_ c0_)))) none from (gby_setnew G8_.out _ (by dsimp only; omega) _))
  refine (toIntS_d _ v1 xs1 (HI1.out.grow G14_.out) hl1).mono ?_
  rintro e w2 ⟨d1, rfl, o, g⟩
  have sz1 := g.size
  first | simp only [World.size_alloc] at sz1 | simp only [World.size_setCell] at sz1 | skip
  first | simp only [World.size_alloc] at o | simp only [World.size_setCell] at o | skip
  have rP15_ := Lib.hid (show (w2).heap[W.heap.size]? = some (.cells #[v0, v1] 25 (0, 0)) from row_held g rP10_.out)
  clear rP10_
  have rR16_ := Lib.hid (show (w2).heap[W.heap.size + 1]? = some (.cells #[.slice none 0 0, .slice none 0 0] 31 (0, 0)) from row_held g rR11_.out)
  clear rR11_
  have rX17_ := Lib.hid (show (w2).heap[W.heap.size + 1 + 1]? = some (.cells #[(.slice p0_ n0_ c0_), .slice none 0 0] 31 (0, 0)) from row_held g rX12_.out)
  clear rX12_
  have o018_ := Lib.hid (show OwU (w2) (W.heap.size + 1 + 1 + 1) (w1.heap.size) [] [own shI (.slice p0_ n0_ c0_) xs0] from OwU.grow o013_.out g)
  clear o013_
  have G19_ := Lib.hid (show (W).grownBy (w2) none from gby_trans G14_.out g)
  clear g
  obtain ⟨p1_, n1_, c1_, hv1_⟩ := RdL.form (OwL.rd o)
  subst hv1_
  have o120_ := Lib.hid (show OwU (w2) (w1.heap.size) (w2.heap.size) [] [own shI (.slice p1_ n1_ c1_) xs1] from OwU.one o)
  clear o
  have P_0_ : (w2).cell? ⟨W.heap.size, 0, none⟩ = some (v0) := cell_of_row _ _ 0 _ _ _ rP15_.out
  have P_1_ : (w2).cell? ⟨W.heap.size, 1, none⟩ = some (v1) := cell_of_row _ _ 1 _ _ _ rP15_.out
  have R_0_ : (w2).cell? ⟨W.heap.size + 1, 0, none⟩ = some (.slice none 0 0) := cell_of_row _ _ 0 _ _ _ rR16_.out
  have R_1_ : (w2).cell? ⟨W.heap.size + 1, 1, none⟩ = some (.slice none 0 0) := cell_of_row _ _ 1 _ _ _ rR16_.out
  have Rf0_ : (w2).frozen? ⟨W.heap.size + 1, 0, none⟩ = false := frozen_of_row _ _ 0 _ _ rR16_.out
  have Rf1_ : (w2).frozen? ⟨W.heap.size + 1, 1, none⟩ = false := frozen_of_row _ _ 1 _ _ rR16_.out
  have X_0_ : (w2).cell? ⟨W.heap.size + 1 + 1, 0, none⟩ = some ((.slice p0_ n0_ c0_)) := cell_of_row _ _ 0 _ _ _ rX17_.out
  have X_1_ : (w2).cell? ⟨W.heap.size + 1 + 1, 1, none⟩ = some (.slice none 0 0) := cell_of_row _ _ 1 _ _ _ rX17_.out
  have Xf0_ : (w2).frozen? ⟨W.heap.size + 1 + 1, 0, none⟩ = false := frozen_of_row _ _ 0 _ _ rX17_.out
  have Xf1_ : (w2).frozen? ⟨W.heap.size + 1 + 1, 1, none⟩ = false := frozen_of_row _ _ 1 _ _ rX17_.out
  go_wp2
  refine bodyPost_ret (v := vCredits (.slice p0_ n0_ c0_) (.slice p1_ n1_ c1_)) (by simp [results, go_sem, vCredits, R_0_, R_1_]) rfl ⟨(.slice p0_ n0_ c0_), (.slice p1_ n1_ c1_), rfl, ?_, ?_⟩
  · refine OwU.wide (lo := W.heap.size + 1 + 1 + 1) (hi := w2.heap.size) (by omega) (by simp) (OwU.keep (w := w2) (lo' := W.heap.size) (hi' := W.heap.size + 3) ?_ (.inr (by omega)) ?_)
    · repeat (with_reducible refine chg_setp ?_ _ (by dsimp only; omega) (by dsimp only; omega) _)
      exact chg_gby (gby_refl _ _) _ _
    · exact OwU.app (by omega) (by omega) o018_.out (o120_.out)
  · repeat (with_reducible refine gby_setnew ?_ _ (by dsimp only; omega) _)
    exact G19_.out

set_option maxRecDepth 8000 in
set_option maxHeartbeats 2000000 in
theorem eqCredits_d (W : World) (v0 : Value) (v1 : Value) (v0' : Value) (v1' : Value) (xs0 : List Int) (xs1 : List Int) (H0 : RdL shI W v0 xs0) (K0 : RdL shI W v0' xs0) (hl0 : szL shI xs0 ≤ 1048576) (H1 : RdL shI W v1 xs1) (K1 : RdL shI W v1' xs1) (hl1 : szL shI xs1 ≤ 1048576) :
    Calls Try.prog 65 #[vCredits v0 v1, vCredits v0' v1'] W (AnsN (.bool true) W) := by
  have HI0 := Lib.hid H0
  have HJ0 := Lib.hid K0
  clear H0 K0
  have HI1 := Lib.hid H1
  have HJ1 := Lib.hid K1
  clear H1 K1
  unfold vCredits
  go_enter Try.func65, Try.ntmps65
  have rP1_ := Lib.hid (show (((W.alloc (.cells #[v0, v1] 31)).alloc (.cells #[v0', v1'] 31))).heap[W.heap.size]? = some (.cells #[v0, v1] 31 (0, 0)) from by rw [heap_alloc_old _ _ (by simp only [World.size_alloc]; omega)]; exact heap_alloc_new _ _)
  have rQ2_ := Lib.hid (show (((W.alloc (.cells #[v0, v1] 31)).alloc (.cells #[v0', v1'] 31))).heap[W.heap.size + 1]? = some (.cells #[v0', v1'] 31 (0, 0)) from by exact heap_pair _ _ _)
  have G3_ := Lib.hid (show (W).grownBy (((W.alloc (.cells #[v0, v1] 31)).alloc (.cells #[v0', v1'] 31))) none from (gby_alloc (gby_alloc (gby_refl _ _) _) _))
  have P_0_ : (((W.alloc (.cells #[v0, v1] 31)).alloc (.cells #[v0', v1'] 31))).cell? ⟨W.heap.size, 0, none⟩ = some (v0) := cell_of_row _ _ 0 _ _ _ rP1_.out
  have P_1_ : (((W.alloc (.cells #[v0, v1] 31)).alloc (.cells #[v0', v1'] 31))).cell? ⟨W.heap.size, 1, none⟩ = some (v1) := cell_of_row _ _ 1 _ _ _ rP1_.out
  have Q_0_ : (((W.alloc (.cells #[v0, v1] 31)).alloc (.cells #[v0', v1'] 31))).cell? ⟨W.heap.size + 1, 0, none⟩ = some (v0') := cell_of_row _ _ 0 _ _ _ rQ2_.out
  have Q_1_ : (((W.alloc (.cells #[v0, v1] 31)).alloc (.cells #[v0', v1'] 31))).cell? ⟨W.heap.size + 1, 1, none⟩ = some (v1') := cell_of_row _ _ 1 _ _ _ rQ2_.out
  go_wp2_with fail
  go_at_call 27
  refine (eqIntS_d _ v0 v0' xs0 (HI0.out.grow G3_.out) (HJ0.out.grow G3_.out) hl0).mono ?_
  rintro e w1 ⟨rfl, g⟩
  clear P_0_ P_1_ Q_0_ Q_1_
  have rP4_ := Lib.hid (show (w1).heap[W.heap.size]? = some (.cells #[v0, v1] 31 (0, 0)) from row_held g rP1_.out)
  clear rP1_
  have rQ5_ := Lib.hid (show (w1).heap[W.heap.size + 1]? = some (.cells #[v0', v1'] 31 (0, 0)) from row_held g rQ2_.out)
  clear rQ2_
  have G6_ := Lib.hid (show (W).grownBy (w1) none from gby_trans G3_.out g)
  clear g
  have P_0_ : (w1).cell? ⟨W.heap.size, 0, none⟩ = some (v0) := cell_of_row _ _ 0 _ _ _ rP4_.out
  have P_1_ : (w1).cell? ⟨W.heap.size, 1, none⟩ = some (v1) := cell_of_row _ _ 1 _ _ _ rP4_.out
  have Q_0_ : (w1).cell? ⟨W.heap.size + 1, 0, none⟩ = some (v0') := cell_of_row _ _ 0 _ _ _ rQ5_.out
  have Q_1_ : (w1).cell? ⟨W.heap.size + 1, 1, none⟩ = some (v1') := cell_of_row _ _ 1 _ _ _ rQ5_.out
  go_wp2_with fail
  go_at_call 27
  refine (eqIntS_d _ v1 v1' xs1 (HI1.out.grow G6_.out) (HJ1.out.grow G6_.out) hl1).mono ?_
  rintro e w2 ⟨rfl, g⟩
  clear P_0_ P_1_ Q_0_ Q_1_
  have rP7_ := Lib.hid (show (w2).heap[W.heap.size]? = some (.cells #[v0, v1] 31 (0, 0)) from row_held g rP4_.out)
  clear rP4_
  have rQ8_ := Lib.hid (show (w2).heap[W.heap.size + 1]? = some (.cells #[v0', v1'] 31 (0, 0)) from row_held g rQ5_.out)
  clear rQ5_
  have G9_ := Lib.hid (show (W).grownBy (w2) none from gby_trans G6_.out g)
  clear g
  have P_0_ : (w2).cell? ⟨W.heap.size, 0, none⟩ = some (v0) := cell_of_row _ _ 0 _ _ _ rP7_.out
  have P_1_ : (w2).cell? ⟨W.heap.size, 1, none⟩ = some (v1) := cell_of_row _ _ 1 _ _ _ rP7_.out
  have Q_0_ : (w2).cell? ⟨W.heap.size + 1, 0, none⟩ = some (v0') := cell_of_row _ _ 0 _ _ _ rQ8_.out
  have Q_1_ : (w2).cell? ⟨W.heap.size + 1, 1, none⟩ = some (v1') := cell_of_row _ _ 1 _ _ _ rQ8_.out
  go_wp2
  go_ret
  exact ⟨rfl, G9_.out⟩

set_option maxRecDepth 8000 in
set_option maxHeartbeats 2000000 in
theorem markCredits_d (w : World) (lo hi m : Nat) (v0 : Value) (v1 : Value) (xs0 : List Int) (xs1 : List Int) (pre post : List Own) (h1 : OwU w lo hi [] (pre ++ own shI v0 xs0 :: own shI v1 xs1 :: post)) (hhi : hi ≤ w.heap.size) (hl0 : szL shI xs0 ≤ 1048576) (hl1 : szL shI xs1 ≤ 1048576) (hm2 : m + ecL shI xs0 + ecL shI xs1 ≤ 900000000) :
    Calls Try.prog 88 #[vCredits v0 v1, .int .i64 (m : Int)] w (fun e w' => e = .returned (.int .i64 ((m + ecL shI xs0 + ecL shI xs1 : Nat) : Int)) ∧ OwU w' lo hi [] (pre ++ own shI v0 (emL shI (m) xs0) :: own shI v1 (emL shI (m + ecL shI xs0) xs1) :: post) ∧ Chg w w' lo hi) := by
  unfold vCredits
  go_enter Try.func88, Try.ntmps88
  have rP1_ := Lib.hid (show ((w.alloc (.cells #[v0, v1] 31))).heap[w.heap.size]? = some (.cells #[v0, v1] 31 (0, 0)) from by exact heap_alloc_new _ _)
  have G2_ := Lib.hid (show (w).grownBy ((w.alloc (.cells #[v0, v1] 31))) none from (gby_alloc (gby_refl _ _) _))
  have U0 := Lib.hid (OwU.grow h1 (gby_alloc (gby_refl _ _) (.cells #[v0, v1] 31)))
  have C0 := Lib.hid (chg_gby G2_.out lo hi)
  clear h1
  have P_0_ : ((w.alloc (.cells #[v0, v1] 31))).cell? ⟨w.heap.size, 0, none⟩ = some (v0) := cell_of_row _ _ 0 _ _ _ rP1_.out
  have P_1_ : ((w.alloc (.cells #[v0, v1] 31))).cell? ⟨w.heap.size, 1, none⟩ = some (v1) := cell_of_row _ _ 1 _ _ _ rP1_.out
  obtain ⟨p0, q0, l0, u0, _, oo, ff⟩ := OwU.focus (pre := pre) (p := own shI v0 xs0) (post := own shI v1 xs1 :: post) (show OwU ((w.alloc (.cells #[v0, v1] 31))) lo hi [] (pre ++ own shI v0 xs0 :: own shI v1 xs1 :: post) from by first | exact U0.out | (rw [List.append_assoc]; exact U0.out))
  have FF := Lib.hid ff
  clear ff
  go_wp2_with fail
  go_at_call 94
  refine (markIntS_d _ p0 q0 m v0 xs0 oo hl0 (by omega)).mono ?_
  rintro e w1 ⟨rfl, o, c⟩
  clear P_0_ P_1_
  have hrow := Chg.keep c rP1_.out (by omega)
  clear rP1_
  have hsz0 := c.size
  try simp only [World.size_alloc] at hsz0
  have rP3_ := Lib.hid (show (w1).heap[w.heap.size]? = some (.cells #[v0, v1] 31 (0, 0)) from hrow)
  clear hrow
  have U1 := Lib.hid (show OwU (w1) lo hi [] (pre ++ own shI v0 (emL shI (m) xs0) :: own shI v1 xs1 :: post) from by first | exact (show OwU (w1) lo hi [] (pre ++ own shI v0 (emL shI (m) xs0) :: own shI v1 xs1 :: post) from FF.out _ (own shI v0 (emL shI (m) xs0)) c o) | (have q := (show OwU (w1) lo hi [] (pre ++ own shI v0 (emL shI (m) xs0) :: own shI v1 xs1 :: post) from FF.out _ (own shI v0 (emL shI (m) xs0)) c o); rw [List.append_assoc] at q; exact q))
  clear U0 o
  have C1 := Lib.hid (chg_trans C0.out (chg_wide c (lo' := lo) (hi' := hi) l0 u0))
  clear c C0
  try clear oo FF
  have P_0_ : (w1).cell? ⟨w.heap.size, 0, none⟩ = some (v0) := cell_of_row _ _ 0 _ _ _ rP3_.out
  have P_1_ : (w1).cell? ⟨w.heap.size, 1, none⟩ = some (v1) := cell_of_row _ _ 1 _ _ _ rP3_.out
  obtain ⟨p1, q1, l1, u1, _, oo, ff⟩ := OwU.focus (pre := (pre ++ [own shI v0 (emL shI (m) xs0)])) (p := own shI v1 xs1) (post := post) (show OwU (w1) lo hi [] ((pre ++ [own shI v0 (emL shI (m) xs0)]) ++ own shI v1 xs1 :: post) from by first | exact U1.out | (rw [List.append_assoc]; exact U1.out))
  have FF := Lib.hid ff
  clear ff
  go_wp2_with fail
  go_at_call 94
  refine (markIntS_d _ p1 q1 (m + ecL shI xs0) v1 xs1 oo hl1 (by omega)).mono ?_
  rintro e w2 ⟨rfl, o, c⟩
  clear P_0_ P_1_
  have hrow := Chg.keep c rP3_.out (by omega)
  clear rP3_
  have hsz1 := c.size
  try simp only [World.size_alloc] at hsz1
  have rP4_ := Lib.hid (show (w2).heap[w.heap.size]? = some (.cells #[v0, v1] 31 (0, 0)) from hrow)
  clear hrow
  have U2 := Lib.hid (show OwU (w2) lo hi [] (pre ++ own shI v0 (emL shI (m) xs0) :: own shI v1 (emL shI (m + ecL shI xs0) xs1) :: post) from by first | exact (show OwU (w2) lo hi [] ((pre ++ [own shI v0 (emL shI (m) xs0)]) ++ own shI v1 (emL shI (m + ecL shI xs0) xs1) :: post) from FF.out _ (own shI v1 (emL shI (m + ecL shI xs0) xs1)) c o) | (have q := (show OwU (w2) lo hi [] ((pre ++ [own shI v0 (emL shI (m) xs0)]) ++ own shI v1 (emL shI (m + ecL shI xs0) xs1) :: post) from FF.out _ (own shI v1 (emL shI (m + ecL shI xs0) xs1)) c o); rw [List.append_assoc] at q; exact q))
  clear U1 o
  have C2 := Lib.hid (chg_trans C1.out (chg_wide c (lo' := lo) (hi' := hi) l1 u1))
  clear c C1
  try clear oo FF
  have P_0_ : (w2).cell? ⟨w.heap.size, 0, none⟩ = some (v0) := cell_of_row _ _ 0 _ _ _ rP4_.out
  have P_1_ : (w2).cell? ⟨w.heap.size, 1, none⟩ = some (v1) := cell_of_row _ _ 1 _ _ _ rP4_.out
  go_wp2
  go_ret
  exact ⟨by first | rfl | (congr 3; omega), by first | exact U2.out | simpa only [Nat.add_assoc] using U2.out, C2.out⟩

set_option maxRecDepth 8000 in
set_option maxHeartbeats 2000000 in
theorem heldCredits_d (w : World) (m : Nat) (v0 : Value) (v1 : Value) (xs0 : List Int) (xs1 : List Int) (H0 : RdL shI w v0 (emL shI (m) xs0)) (H1 : RdL shI w v1 (emL shI (m + ecL shI xs0) xs1)) (hl0 : szL shI xs0 ≤ 1048576) (hl1 : szL shI xs1 ≤ 1048576) (hm2 : m + ecL shI xs0 + ecL shI xs1 ≤ 900000000) :
    Calls Try.prog 89 #[vCredits v0 v1, .int .i64 (m : Int)] w (AnsN (.int .i64 ((m + ecL shI xs0 + ecL shI xs1 : Nat) : Int)) w) := by
  unfold vCredits
  have HI0 := Lib.hid H0
  clear H0
  have HI1 := Lib.hid H1
  clear H1
  have ng0 : ¬ (((m + ecL shI xs0 : Nat) : Int) < 0) := by omega
  have ng1 : ¬ (((m + ecL shI xs0 + ecL shI xs1 : Nat) : Int) < 0) := by omega
  go_enter Try.func89, Try.ntmps89
  have rP1_ := Lib.hid (show ((w.alloc (.cells #[v0, v1] 31))).heap[w.heap.size]? = some (.cells #[v0, v1] 31 (0, 0)) from by exact heap_alloc_new _ _)
  have G2_ := Lib.hid (show (w).grownBy ((w.alloc (.cells #[v0, v1] 31))) none from (gby_alloc (gby_refl _ _) _))
  have P_0_ : ((w.alloc (.cells #[v0, v1] 31))).cell? ⟨w.heap.size, 0, none⟩ = some (v0) := cell_of_row _ _ 0 _ _ _ rP1_.out
  have P_1_ : ((w.alloc (.cells #[v0, v1] 31))).cell? ⟨w.heap.size, 1, none⟩ = some (v1) := cell_of_row _ _ 1 _ _ _ rP1_.out
  go_wp2_with fail
  go_at_call 96
  refine (heldIntS_d _ m v0 xs0 (HI0.out.grow G2_.out) hl0 (by omega)).mono ?_
  rintro e w1 ⟨rfl, g⟩
  clear P_0_ P_1_
  have rP3_ := Lib.hid (show (w1).heap[w.heap.size]? = some (.cells #[v0, v1] 31 (0, 0)) from row_held g rP1_.out)
  clear rP1_
  have G4_ := Lib.hid (show (w).grownBy (w1) none from gby_trans G2_.out g)
  clear g
  have P_0_ : (w1).cell? ⟨w.heap.size, 0, none⟩ = some (v0) := cell_of_row _ _ 0 _ _ _ rP3_.out
  have P_1_ : (w1).cell? ⟨w.heap.size, 1, none⟩ = some (v1) := cell_of_row _ _ 1 _ _ _ rP3_.out
  go_wp2_with fail
  go_at_call 96
  refine (heldIntS_d _ (m + ecL shI xs0) v1 xs1 (HI1.out.grow G4_.out) hl1 (by omega)).mono ?_
  rintro e w2 ⟨rfl, g⟩
  clear P_0_ P_1_
  have rP5_ := Lib.hid (show (w2).heap[w.heap.size]? = some (.cells #[v0, v1] 31 (0, 0)) from row_held g rP3_.out)
  clear rP3_
  have G6_ := Lib.hid (show (w).grownBy (w2) none from gby_trans G4_.out g)
  clear g
  have P_0_ : (w2).cell? ⟨w.heap.size, 0, none⟩ = some (v0) := cell_of_row _ _ 0 _ _ _ rP5_.out
  have P_1_ : (w2).cell? ⟨w.heap.size, 1, none⟩ = some (v1) := cell_of_row _ _ 1 _ _ _ rP5_.out
  go_wp2
  go_ret
  exact ⟨rfl, G6_.out⟩

end Go.Proofs.Ytnighnkkeiegnaa
