/-
  Guard by value, on the law's side: measured, copied, compared, marked, held.
-/
import Derived.Test.YtnighnkkeiegnabShpI
import Derived.Test.YtnighnkkeiegnabQSBool
namespace Go.Proofs.Ytnighnkkeiegnab
open Go Go.RowKit
set_option linter.unusedVariables false

/-- a value of Guard -/
def vGuard (v0 : Value) : Value := .agg #[v0]

set_option maxRecDepth 8000 in
set_option maxHeartbeats 2000000 in
theorem szGuard_d (W : World) (n : Int) (v0 : Value) (xs0 : List Bool) (H0 : RdL shB W v0 xs0) (hn : n ≤ 1048576) (h0 : 0 ≤ n) :
    Calls Try.prog 47 #[vGuard v0, .int .i64 n] W (AnsN (.int .i64 (lessN n (szL shB xs0))) W) := by
  obtain ⟨t0, ht0⟩ : ∃ t, t = szL shB xs0 := ⟨_, rfl⟩
  rw [show (szL shB xs0) = t0 by omega]
  have HT0 := Lib.hid ht0
  clear ht0
  have HI0 := Lib.hid H0
  clear H0
  unfold vGuard
  by_cases h0_ : n < (t0 : Int)
  · rw [show lessN n (t0) = -1 from if_pos (by omega)]
    go_enter Try.func47, Try.ntmps47
    have rA1_ := Lib.hid (show ((W.alloc (.cells #[v0] 28))).heap[W.heap.size]? = some (.cells #[v0] 28 (0, 0)) from by exact heap_alloc_new _ _)
    have G2_ := Lib.hid (show (W).grownBy ((W.alloc (.cells #[v0] 28))) none from (gby_alloc (gby_refl _ _) _))
    have A_0_ : ((W.alloc (.cells #[v0] 28))).cell? ⟨W.heap.size, 0, none⟩ = some (v0) := cell_of_row _ _ 0 _ _ _ rA1_.out
    go_wp2_with fail
    go_at_call 88
    refine (szBoolS_d _ _ v0 xs0 (HI0.out.grow G2_.out) (by omega) (by omega)).mono ?_
    rintro e w1 ⟨he, g⟩
    rw [← HT0.out, show lessN _ t0 = -1 from if_pos (by omega)] at he
    subst he
    clear A_0_
    have rA3_ := Lib.hid (show (w1).heap[W.heap.size]? = some (.cells #[v0] 28 (0, 0)) from row_held g rA1_.out)
    clear rA1_
    have G4_ := Lib.hid (show (W).grownBy (w1) none from gby_trans G2_.out g)
    clear g
    have hm1 : (-1 : Int) < 0 := by omega
    go_wp2
    go_ret
    exact ⟨rfl, G4_.out⟩
  rw [show lessN n (t0) = n - (t0 : Int) from (if_neg (by omega)).trans (by omega)]
  go_enter Try.func47, Try.ntmps47
  have rA1_ := Lib.hid (show ((W.alloc (.cells #[v0] 28))).heap[W.heap.size]? = some (.cells #[v0] 28 (0, 0)) from by exact heap_alloc_new _ _)
  have G2_ := Lib.hid (show (W).grownBy ((W.alloc (.cells #[v0] 28))) none from (gby_alloc (gby_refl _ _) _))
  have A_0_ : ((W.alloc (.cells #[v0] 28))).cell? ⟨W.heap.size, 0, none⟩ = some (v0) := cell_of_row _ _ 0 _ _ _ rA1_.out
  go_wp2_with fail
  go_at_call 88
  refine (szBoolS_d _ _ v0 xs0 (HI0.out.grow G2_.out) (by omega) (by omega)).mono ?_
  rintro e w1 ⟨he, g⟩
  rw [← HT0.out, show lessN _ t0 = n - (t0 : Int) from (if_neg (by omega)).trans (by omega)] at he
  subst he
  clear A_0_
  have rA3_ := Lib.hid (show (w1).heap[W.heap.size]? = some (.cells #[v0] 28 (0, 0)) from row_held g rA1_.out)
  clear rA1_
  have G4_ := Lib.hid (show (W).grownBy (w1) none from gby_trans G2_.out g)
  clear g
  go_wp2
  go_ret
  exact ⟨rfl, G4_.out⟩

/-- a Guard in new memory -/
def NewGuard (xs0 : List Bool) (W : World) (e : Ending) (w' : World) : Prop := ∃ v0, e = .returned (vGuard v0) ∧ OwU w' W.heap.size w'.heap.size [] [own shB v0 xs0] ∧ W.grownBy w' none

set_option maxRecDepth 8000 in
set_option maxHeartbeats 4000000 in
theorem toGuard_d (W : World) (v0 : Value) (xs0 : List Bool) (H0 : RdL shB W v0 xs0) (hl0 : szL shB xs0 ≤ 1048576) :
    Calls Try.prog 52 #[vGuard v0] W (NewGuard xs0 W) := by
  have HI0 := Lib.hid H0
  clear H0
  unfold vGuard
  go_enter Try.func52, Try.ntmps52
  have rP1_ := Lib.hid (show ((((W.alloc (.cells #[v0] 28)).alloc (.cells #[.slice none 0 0] 35)).alloc (.cells #[.slice none 0 0] 35))).heap[W.heap.size]? = some (.cells #[v0] 28 (0, 0)) from by rw [heap_alloc_old _ _ (by simp only [World.size_alloc]; omega)]; rw [heap_alloc_old _ _ (by simp only [World.size_alloc]; omega)]; exact heap_alloc_new _ _)
  have rR2_ := Lib.hid (show ((((W.alloc (.cells #[v0] 28)).alloc (.cells #[.slice none 0 0] 35)).alloc (.cells #[.slice none 0 0] 35))).heap[W.heap.size + 1]? = some (.cells #[.slice none 0 0] 35 (0, 0)) from by rw [heap_alloc_old _ _ (by simp only [World.size_alloc]; omega)]; exact heap_pair _ _ _)
  have rX3_ := Lib.hid (show ((((W.alloc (.cells #[v0] 28)).alloc (.cells #[.slice none 0 0] 35)).alloc (.cells #[.slice none 0 0] 35))).heap[W.heap.size + 1 + 1]? = some (.cells #[.slice none 0 0] 35 (0, 0)) from by exact heap_trip _ _ _ _)
  have G4_ := Lib.hid (show (W).grownBy ((((W.alloc (.cells #[v0] 28)).alloc (.cells #[.slice none 0 0] 35)).alloc (.cells #[.slice none 0 0] 35))) none from (gby_alloc (gby_alloc (gby_alloc (gby_refl _ _) _) _) _))
  have P_0_ : ((((W.alloc (.cells #[v0] 28)).alloc (.cells #[.slice none 0 0] 35)).alloc (.cells #[.slice none 0 0] 35))).cell? ⟨W.heap.size, 0, none⟩ = some (v0) := cell_of_row _ _ 0 _ _ _ rP1_.out
  have R_0_ : ((((W.alloc (.cells #[v0] 28)).alloc (.cells #[.slice none 0 0] 35)).alloc (.cells #[.slice none 0 0] 35))).cell? ⟨W.heap.size + 1, 0, none⟩ = some (.slice none 0 0) := cell_of_row _ _ 0 _ _ _ rR2_.out
  have X_0_ : ((((W.alloc (.cells #[v0] 28)).alloc (.cells #[.slice none 0 0] 35)).alloc (.cells #[.slice none 0 0] 35))).cell? ⟨W.heap.size + 1 + 1, 0, none⟩ = some (.slice none 0 0) := cell_of_row _ _ 0 _ _ _ rX3_.out
  have Xf0_ : ((((W.alloc (.cells #[v0] 28)).alloc (.cells #[.slice none 0 0] 35)).alloc (.cells #[.slice none 0 0] 35))).frozen? ⟨W.heap.size + 1 + 1, 0, none⟩ = false := frozen_of_row _ _ 0 _ _ rX3_.out
  go_wp2_with fail
  go_at_call 91
  clear P_0_ R_0_ X_0_ Xf0_
  refine (toBoolS_d _ v0 xs0 (HI0.out.grow G4_.out) hl0).mono ?_
  rintro e w1 ⟨d0, rfl, o, g⟩
  have sz0 := g.size
  first | simp only [World.size_alloc] at sz0 | simp only [World.size_setCell] at sz0 | skip
  first | simp only [World.size_alloc] at o | simp only [World.size_setCell] at o | skip
  have rP5_ := Lib.hid (show (w1).heap[W.heap.size]? = some (.cells #[v0] 28 (0, 0)) from row_held g rP1_.out)
  clear rP1_
  have rR6_ := Lib.hid (show (w1).heap[W.heap.size + 1]? = some (.cells #[.slice none 0 0] 35 (0, 0)) from row_held g rR2_.out)
  clear rR2_
  have rX7_ := Lib.hid (show (w1).heap[W.heap.size + 1 + 1]? = some (.cells #[.slice none 0 0] 35 (0, 0)) from row_held g rX3_.out)
  clear rX3_
  have G8_ := Lib.hid (show (W).grownBy (w1) none from gby_trans G4_.out g)
  clear g
  obtain ⟨p0_, n0_, c0_, hv0_⟩ := RdL.form (OwL.rd o)
  subst hv0_
  have o09_ := Lib.hid (show OwU (w1) (W.heap.size + 1 + 1 + 1) (w1.heap.size) [] [own shB (.slice p0_ n0_ c0_) xs0] from OwU.one o)
  clear o
  have P_0_ : (w1).cell? ⟨W.heap.size, 0, none⟩ = some (v0) := cell_of_row _ _ 0 _ _ _ rP5_.out
  have R_0_ : (w1).cell? ⟨W.heap.size + 1, 0, none⟩ = some (.slice none 0 0) := cell_of_row _ _ 0 _ _ _ rR6_.out
  have Rf0_ : (w1).frozen? ⟨W.heap.size + 1, 0, none⟩ = false := frozen_of_row _ _ 0 _ _ rR6_.out
  have X_0_ : (w1).cell? ⟨W.heap.size + 1 + 1, 0, none⟩ = some (.slice none 0 0) := cell_of_row _ _ 0 _ _ _ rX7_.out
  have Xf0_ : (w1).frozen? ⟨W.heap.size + 1 + 1, 0, none⟩ = false := frozen_of_row _ _ 0 _ _ rX7_.out
  go_wp2
  refine bodyPost_ret (v := vGuard (.slice p0_ n0_ c0_)) (by simp [results, go_sem, vGuard, R_0_]) rfl ⟨(.slice p0_ n0_ c0_), rfl, ?_, ?_⟩
  · refine OwU.wide (lo := W.heap.size + 1 + 1 + 1) (hi := w1.heap.size) (by omega) (by simp) (OwU.keep (w := w1) (lo' := W.heap.size) (hi' := W.heap.size + 3) ?_ (.inr (by omega)) ?_)
    · repeat (with_reducible refine chg_setp ?_ _ (by dsimp only; omega) (by dsimp only; omega) _)
      exact chg_gby (gby_refl _ _) _ _
    · exact o09_.out
  · repeat (with_reducible refine gby_setnew ?_ _ (by dsimp only; omega) _)
    exact G8_.out

set_option maxRecDepth 8000 in
set_option maxHeartbeats 2000000 in
theorem eqGuard_d (W : World) (v0 : Value) (v0' : Value) (xs0 : List Bool) (H0 : RdL shB W v0 xs0) (K0 : RdL shB W v0' xs0) (hl0 : szL shB xs0 ≤ 1048576) :
    Calls Try.prog 60 #[vGuard v0, vGuard v0'] W (AnsN (.bool true) W) := by
  have HI0 := Lib.hid H0
  have HJ0 := Lib.hid K0
  clear H0 K0
  unfold vGuard
  go_enter Try.func60, Try.ntmps60
  have rP1_ := Lib.hid (show (((W.alloc (.cells #[v0] 35)).alloc (.cells #[v0'] 35))).heap[W.heap.size]? = some (.cells #[v0] 35 (0, 0)) from by rw [heap_alloc_old _ _ (by simp only [World.size_alloc]; omega)]; exact heap_alloc_new _ _)
  have rQ2_ := Lib.hid (show (((W.alloc (.cells #[v0] 35)).alloc (.cells #[v0'] 35))).heap[W.heap.size + 1]? = some (.cells #[v0'] 35 (0, 0)) from by exact heap_pair _ _ _)
  have G3_ := Lib.hid (show (W).grownBy (((W.alloc (.cells #[v0] 35)).alloc (.cells #[v0'] 35))) none from (gby_alloc (gby_alloc (gby_refl _ _) _) _))
  have P_0_ : (((W.alloc (.cells #[v0] 35)).alloc (.cells #[v0'] 35))).cell? ⟨W.heap.size, 0, none⟩ = some (v0) := cell_of_row _ _ 0 _ _ _ rP1_.out
  have Q_0_ : (((W.alloc (.cells #[v0] 35)).alloc (.cells #[v0'] 35))).cell? ⟨W.heap.size + 1, 0, none⟩ = some (v0') := cell_of_row _ _ 0 _ _ _ rQ2_.out
  go_wp2_with fail
  go_at_call 95
  refine (eqBoolS_d _ v0 v0' xs0 (HI0.out.grow G3_.out) (HJ0.out.grow G3_.out) hl0).mono ?_
  rintro e w1 ⟨rfl, g⟩
  clear P_0_ Q_0_
  have rP4_ := Lib.hid (show (w1).heap[W.heap.size]? = some (.cells #[v0] 35 (0, 0)) from row_held g rP1_.out)
  clear rP1_
  have rQ5_ := Lib.hid (show (w1).heap[W.heap.size + 1]? = some (.cells #[v0'] 35 (0, 0)) from row_held g rQ2_.out)
  clear rQ2_
  have G6_ := Lib.hid (show (W).grownBy (w1) none from gby_trans G3_.out g)
  clear g
  have P_0_ : (w1).cell? ⟨W.heap.size, 0, none⟩ = some (v0) := cell_of_row _ _ 0 _ _ _ rP4_.out
  have Q_0_ : (w1).cell? ⟨W.heap.size + 1, 0, none⟩ = some (v0') := cell_of_row _ _ 0 _ _ _ rQ5_.out
  go_wp2
  go_ret
  exact ⟨rfl, G6_.out⟩

end Go.Proofs.Ytnighnkkeiegnab
