/-
  RaiseVector and SetMask, on both sides.
-/
import Derived.Test.YtgagbhkidponnacRaiseM
import Derived.Test.YtgagbhkidponnacVecOk
import Derived.Test.YtgagbhkidponnacL30
import Derived.Test.YtgagbhkidponnacRRaiseVector
import Derived.Test.YtgagbhkidponnacRSetMask
import Derived.Deep.RegionWith
namespace Go.Proofs.Ytgagbhkidponnac
open Go Go.RowKit
set_option linter.unusedVariables false

theorem setB_false (ys : List Bool) (k : Nat) (h : ys.getD k false = false) : True := trivial
theorem getD_setB (ys : List Bool) (k j : Nat) (x : Bool) (hk : k < ys.length) : (ys.set k x).getD j false = if k = j then x else ys.getD j false := by
  rw [List.getD_eq_getElem?_getD, List.getElem?_set]
  by_cases e : k = j
  · subst e; rw [if_pos rfl, if_pos hk, if_pos rfl]; rfl
  · rw [if_neg e, if_neg e, ← List.getD_eq_getElem?_getD]
theorem far1 {w : World} {b j : Nat} {v : Value} {p : Addr} {x : Value} (h : w.cell? ⟨b, j, none⟩ = some v) (hp : b ≠ p.block) : (w.setCell p x).cell? ⟨b, j, none⟩ = some v := by
  rw [World.cell?_setCell_far _ _ _ _ (fun e => hp e.symm)]; exact h
theorem rdB_cell {w : World} {b off n c : Nat} {xs : List Bool} (h : RdL shB w (.slice (some ⟨b, off, none⟩) n c) xs) (k : Nat) (hk : k < xs.length) : w.cell? ⟨b, off + k, none⟩ = some (.bool (xs.getD k false)) := by
  obtain ⟨a1, c1, e, _, r1⟩ := rdB_in h
  injection e with e1 e2 e3
  subst e1
  obtain ⟨b2, o2, e4, hc⟩ := r1.resolve_left (by omega)
  injection e4 with e4
  injection e4 with e5 e6
  subst e5 e6
  exact hc k hk
theorem rdB_some {w : World} {p : Option Addr} {n c : Nat} {xs : List Bool} (h : RdL shB w (.slice p n c) xs) (k : Nat) (hk : k < xs.length) : n = xs.length ∧ ∃ b off, p = some ⟨b, off, none⟩ ∧ w.cell? ⟨b, off + k, none⟩ = some (.bool (xs.getD k false)) := by
  obtain ⟨a1, c1, e, _, r1⟩ := rdB_in h
  injection e with e1 e2 e3
  subst e1
  obtain ⟨b2, o2, e4, hc⟩ := r1.resolve_left (by omega)
  exact ⟨e2, b2, o2, e4, hc k hk⟩

set_option maxRecDepth 8000 in
set_option maxHeartbeats 4000000 in
theorem specRaise_bad (W : World) (i0 : Int) (v1 v2 : Value) (xs ys : List Bool) (H1 : RdL shB W v1 xs) (H2 : RdL shB W v2 ys) (hl1 : szL shB xs ≤ 1048576) (hl2 : szL shB ys ≤ 1048576) (id k : Int) (hb : ¬ VCall i0 xs ys id k) : Calls Try.prog 12 #[vVectors i0 v1 v2, .int .i64 id, .int .i64 k] W (ResIRaiseVector i0 xs ys 0 0 0 0 0 0 0 [] false W) := by
  have HOK := Lib.hid hb
  clear hb
  have H1_ := Lib.hid H1
  have H2_ := Lib.hid H2
  obtain ⟨a1, n1, c1, rfl⟩ := RdL.form H1
  obtain ⟨a2, n2, c2, rfl⟩ := RdL.form H2
  clear H1 H2
  unfold vVectors
  go_enter Try.func12, Try.ntmps12
  have rA1_ := Lib.hid (show ((((W.alloc (.cells #[.int .i64 i0, .slice a1 n1 c1, .slice a2 n2 c2] 26)).alloc (.cells #[.int .i64 0, .slice none 0 0, .slice none 0 0] 26)).alloc (.cells #[.int .i64 0, .int .i64 0, .int .i64 0, .int .i64 0, .int .i64 0, .int .i64 0, .int .i64 0, .slice none 0 0] 29))).heap[W.heap.size]? = some (.cells #[.int .i64 i0, .slice a1 n1 c1, .slice a2 n2 c2] 26 (0, 0)) from by rw [heap_alloc_old _ _ (by simp only [World.size_alloc]; omega)]; rw [heap_alloc_old _ _ (by simp only [World.size_alloc]; omega)]; exact heap_alloc_new _ _)
  have rR2_ := Lib.hid (show ((((W.alloc (.cells #[.int .i64 i0, .slice a1 n1 c1, .slice a2 n2 c2] 26)).alloc (.cells #[.int .i64 0, .slice none 0 0, .slice none 0 0] 26)).alloc (.cells #[.int .i64 0, .int .i64 0, .int .i64 0, .int .i64 0, .int .i64 0, .int .i64 0, .int .i64 0, .slice none 0 0] 29))).heap[W.heap.size + 1]? = some (.cells #[.int .i64 0, .slice none 0 0, .slice none 0 0] 26 (0, 0)) from by rw [heap_alloc_old _ _ (by simp only [World.size_alloc]; omega)]; exact heap_pair _ _ _)
  have rQ3_ := Lib.hid (show ((((W.alloc (.cells #[.int .i64 i0, .slice a1 n1 c1, .slice a2 n2 c2] 26)).alloc (.cells #[.int .i64 0, .slice none 0 0, .slice none 0 0] 26)).alloc (.cells #[.int .i64 0, .int .i64 0, .int .i64 0, .int .i64 0, .int .i64 0, .int .i64 0, .int .i64 0, .slice none 0 0] 29))).heap[W.heap.size + 1 + 1]? = some (.cells #[.int .i64 0, .int .i64 0, .int .i64 0, .int .i64 0, .int .i64 0, .int .i64 0, .int .i64 0, .slice none 0 0] 29 (0, 0)) from by exact heap_trip _ _ _ _)
  have G4_ := Lib.hid (show (W).grownBy ((((W.alloc (.cells #[.int .i64 i0, .slice a1 n1 c1, .slice a2 n2 c2] 26)).alloc (.cells #[.int .i64 0, .slice none 0 0, .slice none 0 0] 26)).alloc (.cells #[.int .i64 0, .int .i64 0, .int .i64 0, .int .i64 0, .int .i64 0, .int .i64 0, .int .i64 0, .slice none 0 0] 29))) none from (gby_alloc (gby_alloc (gby_alloc (gby_refl _ _) _) _) _))
  have A_0_ : ((((W.alloc (.cells #[.int .i64 i0, .slice a1 n1 c1, .slice a2 n2 c2] 26)).alloc (.cells #[.int .i64 0, .slice none 0 0, .slice none 0 0] 26)).alloc (.cells #[.int .i64 0, .int .i64 0, .int .i64 0, .int .i64 0, .int .i64 0, .int .i64 0, .int .i64 0, .slice none 0 0] 29))).cell? ⟨W.heap.size, 0, none⟩ = some (.int .i64 i0) := cell_of_row _ _ 0 _ _ _ rA1_.out
  have A_1_ : ((((W.alloc (.cells #[.int .i64 i0, .slice a1 n1 c1, .slice a2 n2 c2] 26)).alloc (.cells #[.int .i64 0, .slice none 0 0, .slice none 0 0] 26)).alloc (.cells #[.int .i64 0, .int .i64 0, .int .i64 0, .int .i64 0, .int .i64 0, .int .i64 0, .int .i64 0, .slice none 0 0] 29))).cell? ⟨W.heap.size, 1, none⟩ = some (.slice a1 n1 c1) := cell_of_row _ _ 1 _ _ _ rA1_.out
  have A_2_ : ((((W.alloc (.cells #[.int .i64 i0, .slice a1 n1 c1, .slice a2 n2 c2] 26)).alloc (.cells #[.int .i64 0, .slice none 0 0, .slice none 0 0] 26)).alloc (.cells #[.int .i64 0, .int .i64 0, .int .i64 0, .int .i64 0, .int .i64 0, .int .i64 0, .int .i64 0, .slice none 0 0] 29))).cell? ⟨W.heap.size, 2, none⟩ = some (.slice a2 n2 c2) := cell_of_row _ _ 2 _ _ _ rA1_.out
  have R_0_ : ((((W.alloc (.cells #[.int .i64 i0, .slice a1 n1 c1, .slice a2 n2 c2] 26)).alloc (.cells #[.int .i64 0, .slice none 0 0, .slice none 0 0] 26)).alloc (.cells #[.int .i64 0, .int .i64 0, .int .i64 0, .int .i64 0, .int .i64 0, .int .i64 0, .int .i64 0, .slice none 0 0] 29))).cell? ⟨W.heap.size + 1, 0, none⟩ = some (.int .i64 0) := cell_of_row _ _ 0 _ _ _ rR2_.out
  have R_1_ : ((((W.alloc (.cells #[.int .i64 i0, .slice a1 n1 c1, .slice a2 n2 c2] 26)).alloc (.cells #[.int .i64 0, .slice none 0 0, .slice none 0 0] 26)).alloc (.cells #[.int .i64 0, .int .i64 0, .int .i64 0, .int .i64 0, .int .i64 0, .int .i64 0, .int .i64 0, .slice none 0 0] 29))).cell? ⟨W.heap.size + 1, 1, none⟩ = some (.slice none 0 0) := cell_of_row _ _ 1 _ _ _ rR2_.out
  have R_2_ : ((((W.alloc (.cells #[.int .i64 i0, .slice a1 n1 c1, .slice a2 n2 c2] 26)).alloc (.cells #[.int .i64 0, .slice none 0 0, .slice none 0 0] 26)).alloc (.cells #[.int .i64 0, .int .i64 0, .int .i64 0, .int .i64 0, .int .i64 0, .int .i64 0, .int .i64 0, .slice none 0 0] 29))).cell? ⟨W.heap.size + 1, 2, none⟩ = some (.slice none 0 0) := cell_of_row _ _ 2 _ _ _ rR2_.out
  have Q_0_ : ((((W.alloc (.cells #[.int .i64 i0, .slice a1 n1 c1, .slice a2 n2 c2] 26)).alloc (.cells #[.int .i64 0, .slice none 0 0, .slice none 0 0] 26)).alloc (.cells #[.int .i64 0, .int .i64 0, .int .i64 0, .int .i64 0, .int .i64 0, .int .i64 0, .int .i64 0, .slice none 0 0] 29))).cell? ⟨W.heap.size + 1 + 1, 0, none⟩ = some (.int .i64 0) := cell_of_row _ _ 0 _ _ _ rQ3_.out
  have Q_1_ : ((((W.alloc (.cells #[.int .i64 i0, .slice a1 n1 c1, .slice a2 n2 c2] 26)).alloc (.cells #[.int .i64 0, .slice none 0 0, .slice none 0 0] 26)).alloc (.cells #[.int .i64 0, .int .i64 0, .int .i64 0, .int .i64 0, .int .i64 0, .int .i64 0, .int .i64 0, .slice none 0 0] 29))).cell? ⟨W.heap.size + 1 + 1, 1, none⟩ = some (.int .i64 0) := cell_of_row _ _ 1 _ _ _ rQ3_.out
  have Q_2_ : ((((W.alloc (.cells #[.int .i64 i0, .slice a1 n1 c1, .slice a2 n2 c2] 26)).alloc (.cells #[.int .i64 0, .slice none 0 0, .slice none 0 0] 26)).alloc (.cells #[.int .i64 0, .int .i64 0, .int .i64 0, .int .i64 0, .int .i64 0, .int .i64 0, .int .i64 0, .slice none 0 0] 29))).cell? ⟨W.heap.size + 1 + 1, 2, none⟩ = some (.int .i64 0) := cell_of_row _ _ 2 _ _ _ rQ3_.out
  have Q_3_ : ((((W.alloc (.cells #[.int .i64 i0, .slice a1 n1 c1, .slice a2 n2 c2] 26)).alloc (.cells #[.int .i64 0, .slice none 0 0, .slice none 0 0] 26)).alloc (.cells #[.int .i64 0, .int .i64 0, .int .i64 0, .int .i64 0, .int .i64 0, .int .i64 0, .int .i64 0, .slice none 0 0] 29))).cell? ⟨W.heap.size + 1 + 1, 3, none⟩ = some (.int .i64 0) := cell_of_row _ _ 3 _ _ _ rQ3_.out
  have Q_4_ : ((((W.alloc (.cells #[.int .i64 i0, .slice a1 n1 c1, .slice a2 n2 c2] 26)).alloc (.cells #[.int .i64 0, .slice none 0 0, .slice none 0 0] 26)).alloc (.cells #[.int .i64 0, .int .i64 0, .int .i64 0, .int .i64 0, .int .i64 0, .int .i64 0, .int .i64 0, .slice none 0 0] 29))).cell? ⟨W.heap.size + 1 + 1, 4, none⟩ = some (.int .i64 0) := cell_of_row _ _ 4 _ _ _ rQ3_.out
  have Q_5_ : ((((W.alloc (.cells #[.int .i64 i0, .slice a1 n1 c1, .slice a2 n2 c2] 26)).alloc (.cells #[.int .i64 0, .slice none 0 0, .slice none 0 0] 26)).alloc (.cells #[.int .i64 0, .int .i64 0, .int .i64 0, .int .i64 0, .int .i64 0, .int .i64 0, .int .i64 0, .slice none 0 0] 29))).cell? ⟨W.heap.size + 1 + 1, 5, none⟩ = some (.int .i64 0) := cell_of_row _ _ 5 _ _ _ rQ3_.out
  have Q_6_ : ((((W.alloc (.cells #[.int .i64 i0, .slice a1 n1 c1, .slice a2 n2 c2] 26)).alloc (.cells #[.int .i64 0, .slice none 0 0, .slice none 0 0] 26)).alloc (.cells #[.int .i64 0, .int .i64 0, .int .i64 0, .int .i64 0, .int .i64 0, .int .i64 0, .int .i64 0, .slice none 0 0] 29))).cell? ⟨W.heap.size + 1 + 1, 6, none⟩ = some (.int .i64 0) := cell_of_row _ _ 6 _ _ _ rQ3_.out
  have Q_7_ : ((((W.alloc (.cells #[.int .i64 i0, .slice a1 n1 c1, .slice a2 n2 c2] 26)).alloc (.cells #[.int .i64 0, .slice none 0 0, .slice none 0 0] 26)).alloc (.cells #[.int .i64 0, .int .i64 0, .int .i64 0, .int .i64 0, .int .i64 0, .int .i64 0, .int .i64 0, .slice none 0 0] 29))).cell? ⟨W.heap.size + 1 + 1, 7, none⟩ = some (.slice none 0 0) := cell_of_row _ _ 7 _ _ _ rQ3_.out
  go_wp2_with fail
  go_at_call 60
  refine (l30Copy_d _ i0 _ _ xs ys (H1_.out.grow G4_.out) (H2_.out.grow G4_.out) hl1 hl2).mono ?_
  rintro e w1 ⟨x1, x2, rfl, o, g⟩
  have sz_ := g.size
  try simp only [World.size_alloc] at sz_ o
  clear A_0_ A_1_ A_2_ R_0_ R_1_ R_2_ Q_0_ Q_1_ Q_2_ Q_3_ Q_4_ Q_5_ Q_6_ Q_7_
  have rA5_ := Lib.hid (show (w1).heap[W.heap.size]? = some (.cells #[.int .i64 i0, .slice a1 n1 c1, .slice a2 n2 c2] 26 (0, 0)) from row_held g rA1_.out)
  clear rA1_
  have rR6_ := Lib.hid (show (w1).heap[W.heap.size + 1]? = some (.cells #[.int .i64 0, .slice none 0 0, .slice none 0 0] 26 (0, 0)) from row_held g rR2_.out)
  clear rR2_
  have rQ7_ := Lib.hid (show (w1).heap[W.heap.size + 1 + 1]? = some (.cells #[.int .i64 0, .int .i64 0, .int .i64 0, .int .i64 0, .int .i64 0, .int .i64 0, .int .i64 0, .slice none 0 0] 29 (0, 0)) from row_held g rQ3_.out)
  clear rQ3_
  have G8_ := Lib.hid (show (W).grownBy (w1) none from gby_trans G4_.out g)
  clear g
  obtain ⟨d1, m1, k1, hv_⟩ := RdL.form (OwU.rd o)
  subst hv_
  obtain ⟨d2, m2, k2, hv_⟩ := RdL.form (OwU.rd (OwU.tail o))
  subst hv_
  unfold vVectors
  have oC9_ := Lib.hid (show OwU (w1) ((W.heap.size + 1 + 1 + 1)) (w1.heap.size) [] [own shB (.slice d1 m1 k1) xs, own shB (.slice d2 m2 k2) ys] from o)
  clear o
  have al_ : (w1).grownBy ((w1).alloc (.cells #[.int .i64 i0, .slice d1 m1 k1, .slice d2 m2 k2] 26)) none := gby_alloc (gby_refl _ _) _
  have rA10_ := Lib.hid (show ((w1.alloc (.cells #[.int .i64 i0, .slice d1 m1 k1, .slice d2 m2 k2] 26))).heap[W.heap.size]? = some (.cells #[.int .i64 i0, .slice a1 n1 c1, .slice a2 n2 c2] 26 (0, 0)) from row_held al_ rA5_.out)
  clear rA5_
  have rR11_ := Lib.hid (show ((w1.alloc (.cells #[.int .i64 i0, .slice d1 m1 k1, .slice d2 m2 k2] 26))).heap[W.heap.size + 1]? = some (.cells #[.int .i64 0, .slice none 0 0, .slice none 0 0] 26 (0, 0)) from row_held al_ rR6_.out)
  clear rR6_
  have rQ12_ := Lib.hid (show ((w1.alloc (.cells #[.int .i64 i0, .slice d1 m1 k1, .slice d2 m2 k2] 26))).heap[W.heap.size + 1 + 1]? = some (.cells #[.int .i64 0, .int .i64 0, .int .i64 0, .int .i64 0, .int .i64 0, .int .i64 0, .int .i64 0, .slice none 0 0] 29 (0, 0)) from row_held al_ rQ7_.out)
  clear rQ7_
  have oC13_ := Lib.hid (show OwU ((w1.alloc (.cells #[.int .i64 i0, .slice d1 m1 k1, .slice d2 m2 k2] 26))) ((W.heap.size + 1 + 1 + 1)) (w1.heap.size) [] [own shB (.slice d1 m1 k1) xs, own shB (.slice d2 m2 k2) ys] from OwU.grow oC9_.out al_)
  clear oC9_
  have G14_ := Lib.hid (show (W).grownBy ((w1.alloc (.cells #[.int .i64 i0, .slice d1 m1 k1, .slice d2 m2 k2] 26))) none from gby_trans G8_.out al_)
  have rX15_ := Lib.hid (show ((w1.alloc (.cells #[.int .i64 i0, .slice d1 m1 k1, .slice d2 m2 k2] 26))).heap[w1.heap.size]? = some (.cells #[.int .i64 i0, .slice d1 m1 k1, .slice d2 m2 k2] 26 (0, 0)) from by first | exact heap_alloc_new _ _ | exact heap_pair _ _ _ | exact heap_trip _ _ _ _)
  clear al_
  have A_0_ : ((w1.alloc (.cells #[.int .i64 i0, .slice d1 m1 k1, .slice d2 m2 k2] 26))).cell? ⟨W.heap.size, 0, none⟩ = some (.int .i64 i0) := cell_of_row _ _ 0 _ _ _ rA10_.out
  have A_1_ : ((w1.alloc (.cells #[.int .i64 i0, .slice d1 m1 k1, .slice d2 m2 k2] 26))).cell? ⟨W.heap.size, 1, none⟩ = some (.slice a1 n1 c1) := cell_of_row _ _ 1 _ _ _ rA10_.out
  have A_2_ : ((w1.alloc (.cells #[.int .i64 i0, .slice d1 m1 k1, .slice d2 m2 k2] 26))).cell? ⟨W.heap.size, 2, none⟩ = some (.slice a2 n2 c2) := cell_of_row _ _ 2 _ _ _ rA10_.out
  have R_0_ : ((w1.alloc (.cells #[.int .i64 i0, .slice d1 m1 k1, .slice d2 m2 k2] 26))).cell? ⟨W.heap.size + 1, 0, none⟩ = some (.int .i64 0) := cell_of_row _ _ 0 _ _ _ rR11_.out
  have R_1_ : ((w1.alloc (.cells #[.int .i64 i0, .slice d1 m1 k1, .slice d2 m2 k2] 26))).cell? ⟨W.heap.size + 1, 1, none⟩ = some (.slice none 0 0) := cell_of_row _ _ 1 _ _ _ rR11_.out
  have R_2_ : ((w1.alloc (.cells #[.int .i64 i0, .slice d1 m1 k1, .slice d2 m2 k2] 26))).cell? ⟨W.heap.size + 1, 2, none⟩ = some (.slice none 0 0) := cell_of_row _ _ 2 _ _ _ rR11_.out
  have Q_0_ : ((w1.alloc (.cells #[.int .i64 i0, .slice d1 m1 k1, .slice d2 m2 k2] 26))).cell? ⟨W.heap.size + 1 + 1, 0, none⟩ = some (.int .i64 0) := cell_of_row _ _ 0 _ _ _ rQ12_.out
  have Q_1_ : ((w1.alloc (.cells #[.int .i64 i0, .slice d1 m1 k1, .slice d2 m2 k2] 26))).cell? ⟨W.heap.size + 1 + 1, 1, none⟩ = some (.int .i64 0) := cell_of_row _ _ 1 _ _ _ rQ12_.out
  have Q_2_ : ((w1.alloc (.cells #[.int .i64 i0, .slice d1 m1 k1, .slice d2 m2 k2] 26))).cell? ⟨W.heap.size + 1 + 1, 2, none⟩ = some (.int .i64 0) := cell_of_row _ _ 2 _ _ _ rQ12_.out
  have Q_3_ : ((w1.alloc (.cells #[.int .i64 i0, .slice d1 m1 k1, .slice d2 m2 k2] 26))).cell? ⟨W.heap.size + 1 + 1, 3, none⟩ = some (.int .i64 0) := cell_of_row _ _ 3 _ _ _ rQ12_.out
  have Q_4_ : ((w1.alloc (.cells #[.int .i64 i0, .slice d1 m1 k1, .slice d2 m2 k2] 26))).cell? ⟨W.heap.size + 1 + 1, 4, none⟩ = some (.int .i64 0) := cell_of_row _ _ 4 _ _ _ rQ12_.out
  have Q_5_ : ((w1.alloc (.cells #[.int .i64 i0, .slice d1 m1 k1, .slice d2 m2 k2] 26))).cell? ⟨W.heap.size + 1 + 1, 5, none⟩ = some (.int .i64 0) := cell_of_row _ _ 5 _ _ _ rQ12_.out
  have Q_6_ : ((w1.alloc (.cells #[.int .i64 i0, .slice d1 m1 k1, .slice d2 m2 k2] 26))).cell? ⟨W.heap.size + 1 + 1, 6, none⟩ = some (.int .i64 0) := cell_of_row _ _ 6 _ _ _ rQ12_.out
  have Q_7_ : ((w1.alloc (.cells #[.int .i64 i0, .slice d1 m1 k1, .slice d2 m2 k2] 26))).cell? ⟨W.heap.size + 1 + 1, 7, none⟩ = some (.slice none 0 0) := cell_of_row _ _ 7 _ _ _ rQ12_.out
  have X_0_ : ((w1.alloc (.cells #[.int .i64 i0, .slice d1 m1 k1, .slice d2 m2 k2] 26))).cell? ⟨w1.heap.size, 0, none⟩ = some (.int .i64 i0) := cell_of_row _ _ 0 _ _ _ rX15_.out
  have X_1_ : ((w1.alloc (.cells #[.int .i64 i0, .slice d1 m1 k1, .slice d2 m2 k2] 26))).cell? ⟨w1.heap.size, 1, none⟩ = some (.slice d1 m1 k1) := cell_of_row _ _ 1 _ _ _ rX15_.out
  have X_2_ : ((w1.alloc (.cells #[.int .i64 i0, .slice d1 m1 k1, .slice d2 m2 k2] 26))).cell? ⟨w1.heap.size, 2, none⟩ = some (.slice d2 m2 k2) := cell_of_row _ _ 2 _ _ _ rX15_.out
  go_wp2_with fail
  go_at_call 61
  refine (((specVCall _ i0 _ _ xs ys id k (H1_.out.grow G14_.out) (H2_.out.grow G14_.out)).mono (bpost_no HOK.out))).mono ?_
  rintro e w2 ⟨rfl, g⟩
  have szw2 := g.size
  try simp only [World.size_alloc] at szw2
  try simp only [World.size_setCell] at szw2
  clear A_0_ A_1_ A_2_ R_0_ R_1_ R_2_ Q_0_ Q_1_ Q_2_ Q_3_ Q_4_ Q_5_ Q_6_ Q_7_ X_0_ X_1_ X_2_
  have rA16_ := Lib.hid (show (w2).heap[W.heap.size]? = some (.cells #[.int .i64 i0, .slice a1 n1 c1, .slice a2 n2 c2] 26 (0, 0)) from row_held g rA10_.out)
  clear rA10_
  have rR17_ := Lib.hid (show (w2).heap[W.heap.size + 1]? = some (.cells #[.int .i64 0, .slice none 0 0, .slice none 0 0] 26 (0, 0)) from row_held g rR11_.out)
  clear rR11_
  have rQ18_ := Lib.hid (show (w2).heap[W.heap.size + 1 + 1]? = some (.cells #[.int .i64 0, .int .i64 0, .int .i64 0, .int .i64 0, .int .i64 0, .int .i64 0, .int .i64 0, .slice none 0 0] 29 (0, 0)) from row_held g rQ12_.out)
  clear rQ12_
  have rX19_ := Lib.hid (show (w2).heap[w1.heap.size]? = some (.cells #[.int .i64 i0, .slice d1 m1 k1, .slice d2 m2 k2] 26 (0, 0)) from row_held g rX15_.out)
  clear rX15_
  have oC20_ := Lib.hid (show OwU (w2) ((W.heap.size + 1 + 1 + 1)) (w1.heap.size) [] [own shB (.slice d1 m1 k1) xs, own shB (.slice d2 m2 k2) ys] from OwU.grow oC13_.out g)
  clear oC13_
  have G21_ := Lib.hid (show (W).grownBy (w2) none from gby_trans G14_.out g)
  clear g
  have A_0_ : (w2).cell? ⟨W.heap.size, 0, none⟩ = some (.int .i64 i0) := cell_of_row _ _ 0 _ _ _ rA16_.out
  have A_1_ : (w2).cell? ⟨W.heap.size, 1, none⟩ = some (.slice a1 n1 c1) := cell_of_row _ _ 1 _ _ _ rA16_.out
  have A_2_ : (w2).cell? ⟨W.heap.size, 2, none⟩ = some (.slice a2 n2 c2) := cell_of_row _ _ 2 _ _ _ rA16_.out
  have R_0_ : (w2).cell? ⟨W.heap.size + 1, 0, none⟩ = some (.int .i64 0) := cell_of_row _ _ 0 _ _ _ rR17_.out
  have R_1_ : (w2).cell? ⟨W.heap.size + 1, 1, none⟩ = some (.slice none 0 0) := cell_of_row _ _ 1 _ _ _ rR17_.out
  have R_2_ : (w2).cell? ⟨W.heap.size + 1, 2, none⟩ = some (.slice none 0 0) := cell_of_row _ _ 2 _ _ _ rR17_.out
  have Q_0_ : (w2).cell? ⟨W.heap.size + 1 + 1, 0, none⟩ = some (.int .i64 0) := cell_of_row _ _ 0 _ _ _ rQ18_.out
  have Q_1_ : (w2).cell? ⟨W.heap.size + 1 + 1, 1, none⟩ = some (.int .i64 0) := cell_of_row _ _ 1 _ _ _ rQ18_.out
  have Q_2_ : (w2).cell? ⟨W.heap.size + 1 + 1, 2, none⟩ = some (.int .i64 0) := cell_of_row _ _ 2 _ _ _ rQ18_.out
  have Q_3_ : (w2).cell? ⟨W.heap.size + 1 + 1, 3, none⟩ = some (.int .i64 0) := cell_of_row _ _ 3 _ _ _ rQ18_.out
  have Q_4_ : (w2).cell? ⟨W.heap.size + 1 + 1, 4, none⟩ = some (.int .i64 0) := cell_of_row _ _ 4 _ _ _ rQ18_.out
  have Q_5_ : (w2).cell? ⟨W.heap.size + 1 + 1, 5, none⟩ = some (.int .i64 0) := cell_of_row _ _ 5 _ _ _ rQ18_.out
  have Q_6_ : (w2).cell? ⟨W.heap.size + 1 + 1, 6, none⟩ = some (.int .i64 0) := cell_of_row _ _ 6 _ _ _ rQ18_.out
  have Q_7_ : (w2).cell? ⟨W.heap.size + 1 + 1, 7, none⟩ = some (.slice none 0 0) := cell_of_row _ _ 7 _ _ _ rQ18_.out
  have X_0_ : (w2).cell? ⟨w1.heap.size, 0, none⟩ = some (.int .i64 i0) := cell_of_row _ _ 0 _ _ _ rX19_.out
  have X_1_ : (w2).cell? ⟨w1.heap.size, 1, none⟩ = some (.slice d1 m1 k1) := cell_of_row _ _ 1 _ _ _ rX19_.out
  have X_2_ : (w2).cell? ⟨w1.heap.size, 2, none⟩ = some (.slice d2 m2 k2) := cell_of_row _ _ 2 _ _ _ rX19_.out
  clear A_0_ A_1_ A_2_ R_0_ R_1_ R_2_ Q_0_ Q_1_ Q_2_ Q_3_ Q_4_ Q_5_ Q_6_ Q_7_ X_0_ X_1_ X_2_
  have A_0_ : (w2).cell? ⟨W.heap.size, 0, none⟩ = some (.int .i64 i0) := cell_of_row _ _ 0 _ _ _ rA16_.out
  have A_1_ : (w2).cell? ⟨W.heap.size, 1, none⟩ = some (.slice a1 n1 c1) := cell_of_row _ _ 1 _ _ _ rA16_.out
  have A_2_ : (w2).cell? ⟨W.heap.size, 2, none⟩ = some (.slice a2 n2 c2) := cell_of_row _ _ 2 _ _ _ rA16_.out
  have R_0_ : (w2).cell? ⟨W.heap.size + 1, 0, none⟩ = some (.int .i64 0) := cell_of_row _ _ 0 _ _ _ rR17_.out
  have R_1_ : (w2).cell? ⟨W.heap.size + 1, 1, none⟩ = some (.slice none 0 0) := cell_of_row _ _ 1 _ _ _ rR17_.out
  have R_2_ : (w2).cell? ⟨W.heap.size + 1, 2, none⟩ = some (.slice none 0 0) := cell_of_row _ _ 2 _ _ _ rR17_.out
  have Rf0_ : (w2).frozen? ⟨W.heap.size + 1, 0, none⟩ = false := frozen_of_row _ _ 0 _ _ rR17_.out
  have Rf1_ : (w2).frozen? ⟨W.heap.size + 1, 1, none⟩ = false := frozen_of_row _ _ 1 _ _ rR17_.out
  have Rf2_ : (w2).frozen? ⟨W.heap.size + 1, 2, none⟩ = false := frozen_of_row _ _ 2 _ _ rR17_.out
  have Q_0_ : (w2).cell? ⟨W.heap.size + 1 + 1, 0, none⟩ = some (.int .i64 0) := cell_of_row _ _ 0 _ _ _ rQ18_.out
  have Q_1_ : (w2).cell? ⟨W.heap.size + 1 + 1, 1, none⟩ = some (.int .i64 0) := cell_of_row _ _ 1 _ _ _ rQ18_.out
  have Q_2_ : (w2).cell? ⟨W.heap.size + 1 + 1, 2, none⟩ = some (.int .i64 0) := cell_of_row _ _ 2 _ _ _ rQ18_.out
  have Q_3_ : (w2).cell? ⟨W.heap.size + 1 + 1, 3, none⟩ = some (.int .i64 0) := cell_of_row _ _ 3 _ _ _ rQ18_.out
  have Q_4_ : (w2).cell? ⟨W.heap.size + 1 + 1, 4, none⟩ = some (.int .i64 0) := cell_of_row _ _ 4 _ _ _ rQ18_.out
  have Q_5_ : (w2).cell? ⟨W.heap.size + 1 + 1, 5, none⟩ = some (.int .i64 0) := cell_of_row _ _ 5 _ _ _ rQ18_.out
  have Q_6_ : (w2).cell? ⟨W.heap.size + 1 + 1, 6, none⟩ = some (.int .i64 0) := cell_of_row _ _ 6 _ _ _ rQ18_.out
  have Q_7_ : (w2).cell? ⟨W.heap.size + 1 + 1, 7, none⟩ = some (.slice none 0 0) := cell_of_row _ _ 7 _ _ _ rQ18_.out
  have Qf0_ : (w2).frozen? ⟨W.heap.size + 1 + 1, 0, none⟩ = false := frozen_of_row _ _ 0 _ _ rQ18_.out
  have Qf1_ : (w2).frozen? ⟨W.heap.size + 1 + 1, 1, none⟩ = false := frozen_of_row _ _ 1 _ _ rQ18_.out
  have Qf2_ : (w2).frozen? ⟨W.heap.size + 1 + 1, 2, none⟩ = false := frozen_of_row _ _ 2 _ _ rQ18_.out
  have Qf3_ : (w2).frozen? ⟨W.heap.size + 1 + 1, 3, none⟩ = false := frozen_of_row _ _ 3 _ _ rQ18_.out
  have Qf4_ : (w2).frozen? ⟨W.heap.size + 1 + 1, 4, none⟩ = false := frozen_of_row _ _ 4 _ _ rQ18_.out
  have Qf5_ : (w2).frozen? ⟨W.heap.size + 1 + 1, 5, none⟩ = false := frozen_of_row _ _ 5 _ _ rQ18_.out
  have Qf6_ : (w2).frozen? ⟨W.heap.size + 1 + 1, 6, none⟩ = false := frozen_of_row _ _ 6 _ _ rQ18_.out
  have Qf7_ : (w2).frozen? ⟨W.heap.size + 1 + 1, 7, none⟩ = false := frozen_of_row _ _ 7 _ _ rQ18_.out
  have X_0_ : (w2).cell? ⟨w1.heap.size, 0, none⟩ = some (.int .i64 i0) := cell_of_row _ _ 0 _ _ _ rX19_.out
  have X_1_ : (w2).cell? ⟨w1.heap.size, 1, none⟩ = some (.slice d1 m1 k1) := cell_of_row _ _ 1 _ _ _ rX19_.out
  have X_2_ : (w2).cell? ⟨w1.heap.size, 2, none⟩ = some (.slice d2 m2 k2) := cell_of_row _ _ 2 _ _ _ rX19_.out
  have yr_ := Lib.hid (show ((((((((((((w2.setCell ⟨W.heap.size + 1, 0, none⟩ (.int .i64 i0)).setCell ⟨W.heap.size + 1, 1, none⟩ (.slice d1 m1 k1)).setCell ⟨W.heap.size + 1, 2, none⟩ (.slice d2 m2 k2)).setCell ⟨W.heap.size + 1 + 1, 0, none⟩ (.int .i64 0)).setCell ⟨W.heap.size + 1 + 1, 1, none⟩ (.int .i64 0)).setCell ⟨W.heap.size + 1 + 1, 2, none⟩ (.int .i64 0)).setCell ⟨W.heap.size + 1 + 1, 3, none⟩ (.int .i64 0)).setCell ⟨W.heap.size + 1 + 1, 4, none⟩ (.int .i64 0)).setCell ⟨W.heap.size + 1 + 1, 5, none⟩ (.int .i64 0)).setCell ⟨W.heap.size + 1 + 1, 6, none⟩ (.int .i64 0)).setCell ⟨W.heap.size + 1 + 1, 7, none⟩ (.slice none 0 0))).heap[W.heap.size + 1]? = some (.cells #[.int .i64 i0, .slice d1 m1 k1, .slice d2 m2 k2] 26 (0, 0)) from (set_far (set_far (set_far (set_far (set_far (set_far (set_far (set_far (heap_setCell_same _ _ 2 _ _ _ (heap_setCell_same _ _ 1 _ _ _ (heap_setCell_same _ _ 0 _ _ _ rR17_.out))) (by dsimp only; omega)) (by dsimp only; omega)) (by dsimp only; omega)) (by dsimp only; omega)) (by dsimp only; omega)) (by dsimp only; omega)) (by dsimp only; omega)) (by dsimp only; omega)))
  have yq_ := Lib.hid (show ((((((((((((w2.setCell ⟨W.heap.size + 1, 0, none⟩ (.int .i64 i0)).setCell ⟨W.heap.size + 1, 1, none⟩ (.slice d1 m1 k1)).setCell ⟨W.heap.size + 1, 2, none⟩ (.slice d2 m2 k2)).setCell ⟨W.heap.size + 1 + 1, 0, none⟩ (.int .i64 0)).setCell ⟨W.heap.size + 1 + 1, 1, none⟩ (.int .i64 0)).setCell ⟨W.heap.size + 1 + 1, 2, none⟩ (.int .i64 0)).setCell ⟨W.heap.size + 1 + 1, 3, none⟩ (.int .i64 0)).setCell ⟨W.heap.size + 1 + 1, 4, none⟩ (.int .i64 0)).setCell ⟨W.heap.size + 1 + 1, 5, none⟩ (.int .i64 0)).setCell ⟨W.heap.size + 1 + 1, 6, none⟩ (.int .i64 0)).setCell ⟨W.heap.size + 1 + 1, 7, none⟩ (.slice none 0 0))).heap[W.heap.size + 1 + 1]? = some (.cells #[.int .i64 0, .int .i64 0, .int .i64 0, .int .i64 0, .int .i64 0, .int .i64 0, .int .i64 0, .slice none 0 0] 29 (0, 0)) from (heap_setCell_same _ _ 7 _ _ _ (heap_setCell_same _ _ 6 _ _ _ (heap_setCell_same _ _ 5 _ _ _ (heap_setCell_same _ _ 4 _ _ _ (heap_setCell_same _ _ 3 _ _ _ (heap_setCell_same _ _ 2 _ _ _ (heap_setCell_same _ _ 1 _ _ _ (heap_setCell_same _ _ 0 _ _ _ (set_far (set_far (set_far rQ18_.out (by dsimp only; omega)) (by dsimp only; omega)) (by dsimp only; omega)))))))))))
  have z0_ : ((((((((((((w2.setCell ⟨W.heap.size + 1, 0, none⟩ (.int .i64 i0)).setCell ⟨W.heap.size + 1, 1, none⟩ (.slice d1 m1 k1)).setCell ⟨W.heap.size + 1, 2, none⟩ (.slice d2 m2 k2)).setCell ⟨W.heap.size + 1 + 1, 0, none⟩ (.int .i64 0)).setCell ⟨W.heap.size + 1 + 1, 1, none⟩ (.int .i64 0)).setCell ⟨W.heap.size + 1 + 1, 2, none⟩ (.int .i64 0)).setCell ⟨W.heap.size + 1 + 1, 3, none⟩ (.int .i64 0)).setCell ⟨W.heap.size + 1 + 1, 4, none⟩ (.int .i64 0)).setCell ⟨W.heap.size + 1 + 1, 5, none⟩ (.int .i64 0)).setCell ⟨W.heap.size + 1 + 1, 6, none⟩ (.int .i64 0)).setCell ⟨W.heap.size + 1 + 1, 7, none⟩ (.slice none 0 0))).cell? ⟨W.heap.size + 1, 0, none⟩ = some (.int .i64 i0) := cell_of_row _ _ 0 _ _ _ yr_.out
  have z1_ : ((((((((((((w2.setCell ⟨W.heap.size + 1, 0, none⟩ (.int .i64 i0)).setCell ⟨W.heap.size + 1, 1, none⟩ (.slice d1 m1 k1)).setCell ⟨W.heap.size + 1, 2, none⟩ (.slice d2 m2 k2)).setCell ⟨W.heap.size + 1 + 1, 0, none⟩ (.int .i64 0)).setCell ⟨W.heap.size + 1 + 1, 1, none⟩ (.int .i64 0)).setCell ⟨W.heap.size + 1 + 1, 2, none⟩ (.int .i64 0)).setCell ⟨W.heap.size + 1 + 1, 3, none⟩ (.int .i64 0)).setCell ⟨W.heap.size + 1 + 1, 4, none⟩ (.int .i64 0)).setCell ⟨W.heap.size + 1 + 1, 5, none⟩ (.int .i64 0)).setCell ⟨W.heap.size + 1 + 1, 6, none⟩ (.int .i64 0)).setCell ⟨W.heap.size + 1 + 1, 7, none⟩ (.slice none 0 0))).cell? ⟨W.heap.size + 1, 1, none⟩ = some (.slice d1 m1 k1) := cell_of_row _ _ 1 _ _ _ yr_.out
  have z2_ : ((((((((((((w2.setCell ⟨W.heap.size + 1, 0, none⟩ (.int .i64 i0)).setCell ⟨W.heap.size + 1, 1, none⟩ (.slice d1 m1 k1)).setCell ⟨W.heap.size + 1, 2, none⟩ (.slice d2 m2 k2)).setCell ⟨W.heap.size + 1 + 1, 0, none⟩ (.int .i64 0)).setCell ⟨W.heap.size + 1 + 1, 1, none⟩ (.int .i64 0)).setCell ⟨W.heap.size + 1 + 1, 2, none⟩ (.int .i64 0)).setCell ⟨W.heap.size + 1 + 1, 3, none⟩ (.int .i64 0)).setCell ⟨W.heap.size + 1 + 1, 4, none⟩ (.int .i64 0)).setCell ⟨W.heap.size + 1 + 1, 5, none⟩ (.int .i64 0)).setCell ⟨W.heap.size + 1 + 1, 6, none⟩ (.int .i64 0)).setCell ⟨W.heap.size + 1 + 1, 7, none⟩ (.slice none 0 0))).cell? ⟨W.heap.size + 1, 2, none⟩ = some (.slice d2 m2 k2) := cell_of_row _ _ 2 _ _ _ yr_.out
  have y0_ : ((((((((((((w2.setCell ⟨W.heap.size + 1, 0, none⟩ (.int .i64 i0)).setCell ⟨W.heap.size + 1, 1, none⟩ (.slice d1 m1 k1)).setCell ⟨W.heap.size + 1, 2, none⟩ (.slice d2 m2 k2)).setCell ⟨W.heap.size + 1 + 1, 0, none⟩ (.int .i64 0)).setCell ⟨W.heap.size + 1 + 1, 1, none⟩ (.int .i64 0)).setCell ⟨W.heap.size + 1 + 1, 2, none⟩ (.int .i64 0)).setCell ⟨W.heap.size + 1 + 1, 3, none⟩ (.int .i64 0)).setCell ⟨W.heap.size + 1 + 1, 4, none⟩ (.int .i64 0)).setCell ⟨W.heap.size + 1 + 1, 5, none⟩ (.int .i64 0)).setCell ⟨W.heap.size + 1 + 1, 6, none⟩ (.int .i64 0)).setCell ⟨W.heap.size + 1 + 1, 7, none⟩ (.slice none 0 0))).cell? ⟨W.heap.size + 1 + 1, 0, none⟩ = some (.int .i64 0) := cell_of_row _ _ 0 _ _ _ yq_.out
  have y1_ : ((((((((((((w2.setCell ⟨W.heap.size + 1, 0, none⟩ (.int .i64 i0)).setCell ⟨W.heap.size + 1, 1, none⟩ (.slice d1 m1 k1)).setCell ⟨W.heap.size + 1, 2, none⟩ (.slice d2 m2 k2)).setCell ⟨W.heap.size + 1 + 1, 0, none⟩ (.int .i64 0)).setCell ⟨W.heap.size + 1 + 1, 1, none⟩ (.int .i64 0)).setCell ⟨W.heap.size + 1 + 1, 2, none⟩ (.int .i64 0)).setCell ⟨W.heap.size + 1 + 1, 3, none⟩ (.int .i64 0)).setCell ⟨W.heap.size + 1 + 1, 4, none⟩ (.int .i64 0)).setCell ⟨W.heap.size + 1 + 1, 5, none⟩ (.int .i64 0)).setCell ⟨W.heap.size + 1 + 1, 6, none⟩ (.int .i64 0)).setCell ⟨W.heap.size + 1 + 1, 7, none⟩ (.slice none 0 0))).cell? ⟨W.heap.size + 1 + 1, 1, none⟩ = some (.int .i64 0) := cell_of_row _ _ 1 _ _ _ yq_.out
  have y2_ : ((((((((((((w2.setCell ⟨W.heap.size + 1, 0, none⟩ (.int .i64 i0)).setCell ⟨W.heap.size + 1, 1, none⟩ (.slice d1 m1 k1)).setCell ⟨W.heap.size + 1, 2, none⟩ (.slice d2 m2 k2)).setCell ⟨W.heap.size + 1 + 1, 0, none⟩ (.int .i64 0)).setCell ⟨W.heap.size + 1 + 1, 1, none⟩ (.int .i64 0)).setCell ⟨W.heap.size + 1 + 1, 2, none⟩ (.int .i64 0)).setCell ⟨W.heap.size + 1 + 1, 3, none⟩ (.int .i64 0)).setCell ⟨W.heap.size + 1 + 1, 4, none⟩ (.int .i64 0)).setCell ⟨W.heap.size + 1 + 1, 5, none⟩ (.int .i64 0)).setCell ⟨W.heap.size + 1 + 1, 6, none⟩ (.int .i64 0)).setCell ⟨W.heap.size + 1 + 1, 7, none⟩ (.slice none 0 0))).cell? ⟨W.heap.size + 1 + 1, 2, none⟩ = some (.int .i64 0) := cell_of_row _ _ 2 _ _ _ yq_.out
  have y3_ : ((((((((((((w2.setCell ⟨W.heap.size + 1, 0, none⟩ (.int .i64 i0)).setCell ⟨W.heap.size + 1, 1, none⟩ (.slice d1 m1 k1)).setCell ⟨W.heap.size + 1, 2, none⟩ (.slice d2 m2 k2)).setCell ⟨W.heap.size + 1 + 1, 0, none⟩ (.int .i64 0)).setCell ⟨W.heap.size + 1 + 1, 1, none⟩ (.int .i64 0)).setCell ⟨W.heap.size + 1 + 1, 2, none⟩ (.int .i64 0)).setCell ⟨W.heap.size + 1 + 1, 3, none⟩ (.int .i64 0)).setCell ⟨W.heap.size + 1 + 1, 4, none⟩ (.int .i64 0)).setCell ⟨W.heap.size + 1 + 1, 5, none⟩ (.int .i64 0)).setCell ⟨W.heap.size + 1 + 1, 6, none⟩ (.int .i64 0)).setCell ⟨W.heap.size + 1 + 1, 7, none⟩ (.slice none 0 0))).cell? ⟨W.heap.size + 1 + 1, 3, none⟩ = some (.int .i64 0) := cell_of_row _ _ 3 _ _ _ yq_.out
  have y4_ : ((((((((((((w2.setCell ⟨W.heap.size + 1, 0, none⟩ (.int .i64 i0)).setCell ⟨W.heap.size + 1, 1, none⟩ (.slice d1 m1 k1)).setCell ⟨W.heap.size + 1, 2, none⟩ (.slice d2 m2 k2)).setCell ⟨W.heap.size + 1 + 1, 0, none⟩ (.int .i64 0)).setCell ⟨W.heap.size + 1 + 1, 1, none⟩ (.int .i64 0)).setCell ⟨W.heap.size + 1 + 1, 2, none⟩ (.int .i64 0)).setCell ⟨W.heap.size + 1 + 1, 3, none⟩ (.int .i64 0)).setCell ⟨W.heap.size + 1 + 1, 4, none⟩ (.int .i64 0)).setCell ⟨W.heap.size + 1 + 1, 5, none⟩ (.int .i64 0)).setCell ⟨W.heap.size + 1 + 1, 6, none⟩ (.int .i64 0)).setCell ⟨W.heap.size + 1 + 1, 7, none⟩ (.slice none 0 0))).cell? ⟨W.heap.size + 1 + 1, 4, none⟩ = some (.int .i64 0) := cell_of_row _ _ 4 _ _ _ yq_.out
  have y5_ : ((((((((((((w2.setCell ⟨W.heap.size + 1, 0, none⟩ (.int .i64 i0)).setCell ⟨W.heap.size + 1, 1, none⟩ (.slice d1 m1 k1)).setCell ⟨W.heap.size + 1, 2, none⟩ (.slice d2 m2 k2)).setCell ⟨W.heap.size + 1 + 1, 0, none⟩ (.int .i64 0)).setCell ⟨W.heap.size + 1 + 1, 1, none⟩ (.int .i64 0)).setCell ⟨W.heap.size + 1 + 1, 2, none⟩ (.int .i64 0)).setCell ⟨W.heap.size + 1 + 1, 3, none⟩ (.int .i64 0)).setCell ⟨W.heap.size + 1 + 1, 4, none⟩ (.int .i64 0)).setCell ⟨W.heap.size + 1 + 1, 5, none⟩ (.int .i64 0)).setCell ⟨W.heap.size + 1 + 1, 6, none⟩ (.int .i64 0)).setCell ⟨W.heap.size + 1 + 1, 7, none⟩ (.slice none 0 0))).cell? ⟨W.heap.size + 1 + 1, 5, none⟩ = some (.int .i64 0) := cell_of_row _ _ 5 _ _ _ yq_.out
  have y6_ : ((((((((((((w2.setCell ⟨W.heap.size + 1, 0, none⟩ (.int .i64 i0)).setCell ⟨W.heap.size + 1, 1, none⟩ (.slice d1 m1 k1)).setCell ⟨W.heap.size + 1, 2, none⟩ (.slice d2 m2 k2)).setCell ⟨W.heap.size + 1 + 1, 0, none⟩ (.int .i64 0)).setCell ⟨W.heap.size + 1 + 1, 1, none⟩ (.int .i64 0)).setCell ⟨W.heap.size + 1 + 1, 2, none⟩ (.int .i64 0)).setCell ⟨W.heap.size + 1 + 1, 3, none⟩ (.int .i64 0)).setCell ⟨W.heap.size + 1 + 1, 4, none⟩ (.int .i64 0)).setCell ⟨W.heap.size + 1 + 1, 5, none⟩ (.int .i64 0)).setCell ⟨W.heap.size + 1 + 1, 6, none⟩ (.int .i64 0)).setCell ⟨W.heap.size + 1 + 1, 7, none⟩ (.slice none 0 0))).cell? ⟨W.heap.size + 1 + 1, 6, none⟩ = some (.int .i64 0) := cell_of_row _ _ 6 _ _ _ yq_.out
  have y7_ : ((((((((((((w2.setCell ⟨W.heap.size + 1, 0, none⟩ (.int .i64 i0)).setCell ⟨W.heap.size + 1, 1, none⟩ (.slice d1 m1 k1)).setCell ⟨W.heap.size + 1, 2, none⟩ (.slice d2 m2 k2)).setCell ⟨W.heap.size + 1 + 1, 0, none⟩ (.int .i64 0)).setCell ⟨W.heap.size + 1 + 1, 1, none⟩ (.int .i64 0)).setCell ⟨W.heap.size + 1 + 1, 2, none⟩ (.int .i64 0)).setCell ⟨W.heap.size + 1 + 1, 3, none⟩ (.int .i64 0)).setCell ⟨W.heap.size + 1 + 1, 4, none⟩ (.int .i64 0)).setCell ⟨W.heap.size + 1 + 1, 5, none⟩ (.int .i64 0)).setCell ⟨W.heap.size + 1 + 1, 6, none⟩ (.int .i64 0)).setCell ⟨W.heap.size + 1 + 1, 7, none⟩ (.slice none 0 0))).cell? ⟨W.heap.size + 1 + 1, 7, none⟩ = some (.slice none 0 0) := cell_of_row _ _ 7 _ _ _ yq_.out
  go_wp2
  refine bodyPost_ret (v := .tuple #[.agg #[.int .i64 i0, .slice d1 m1 k1, .slice d2 m2 k2], .agg #[.int .i64 0, .int .i64 0, .int .i64 0, .int .i64 0, .int .i64 0, .int .i64 0, .int .i64 0, .slice none 0 0], .bool false]) (by simp [results, go_sem, z0_, z1_, z2_, y0_, y1_, y2_, y3_, y4_, y5_, y6_, y7_]) rfl ⟨_, _, _, rfl, ?_, ?_⟩
  · exact OwU.wide (lo := (W.heap.size + 1 + 1 + 1)) (by omega) (by simp only [World.size_setCell]; omega) (OwU.keep (chg_one _ _ _ _) (by omega) (OwU.keep (chg_one _ _ _ _) (by omega) (OwU.keep (chg_one _ _ _ _) (by omega) (OwU.keep (chg_one _ _ _ _) (by omega) (OwU.keep (chg_one _ _ _ _) (by omega) (OwU.keep (chg_one _ _ _ _) (by omega) (OwU.keep (chg_one _ _ _ _) (by omega) (OwU.keep (chg_one _ _ _ _) (by omega) (OwU.keep (chg_one _ _ _ _) (by omega) (OwU.keep (chg_one _ _ _ _) (by omega) (OwU.keep (chg_one _ _ _ _) (by omega) (OwU.app (ps := [own shB (.slice d1 m1 k1) xs, own shB (.slice d2 m2 k2) ys]) (qs := [own shI (.slice none 0 0) ([] : List Int)]) (m := w1.heap.size) (hi := w1.heap.size) (by omega) (Nat.le_refl _) oC20_.out (OwU.one owL_nil)))))))))))))
  · exact (gby_setnew (gby_setnew (gby_setnew (gby_setnew (gby_setnew (gby_setnew (gby_setnew (gby_setnew (gby_setnew (gby_setnew (gby_setnew G21_.out _ (by dsimp only; omega) _) _ (by dsimp only; omega) _) _ (by dsimp only; omega) _) _ (by dsimp only; omega) _) _ (by dsimp only; omega) _) _ (by dsimp only; omega) _) _ (by dsimp only; omega) _) _ (by dsimp only; omega) _) _ (by dsimp only; omega) _) _ (by dsimp only; omega) _) _ (by dsimp only; omega) _)

set_option maxRecDepth 8000 in
set_option maxHeartbeats 4000000 in
theorem specSetM_bad (W : World) (i0 : Int) (v1 v2 : Value) (xs ys : List Bool) (H1 : RdL shB W v1 xs) (H2 : RdL shB W v2 ys) (hl1 : szL shB xs ≤ 1048576) (hl2 : szL shB ys ≤ 1048576) (id k : Int) (mb : Bool) (hb : ¬ VCall i0 xs ys id k) : Calls Try.prog 21 #[vVectors i0 v1 v2, .int .i64 id, .int .i64 k, .bool mb] W (ResISetMask i0 xs ys 0 0 0 0 0 0 0 [] false W) := by
  have HOK := Lib.hid hb
  clear hb
  have H1_ := Lib.hid H1
  have H2_ := Lib.hid H2
  obtain ⟨a1, n1, c1, rfl⟩ := RdL.form H1
  obtain ⟨a2, n2, c2, rfl⟩ := RdL.form H2
  clear H1 H2
  unfold vVectors
  go_enter Try.func21, Try.ntmps21
  have rA1_ := Lib.hid (show ((((W.alloc (.cells #[.int .i64 i0, .slice a1 n1 c1, .slice a2 n2 c2] 26)).alloc (.cells #[.int .i64 0, .slice none 0 0, .slice none 0 0] 26)).alloc (.cells #[.int .i64 0, .int .i64 0, .int .i64 0, .int .i64 0, .int .i64 0, .int .i64 0, .int .i64 0, .slice none 0 0] 29))).heap[W.heap.size]? = some (.cells #[.int .i64 i0, .slice a1 n1 c1, .slice a2 n2 c2] 26 (0, 0)) from by rw [heap_alloc_old _ _ (by simp only [World.size_alloc]; omega)]; rw [heap_alloc_old _ _ (by simp only [World.size_alloc]; omega)]; exact heap_alloc_new _ _)
  have rR2_ := Lib.hid (show ((((W.alloc (.cells #[.int .i64 i0, .slice a1 n1 c1, .slice a2 n2 c2] 26)).alloc (.cells #[.int .i64 0, .slice none 0 0, .slice none 0 0] 26)).alloc (.cells #[.int .i64 0, .int .i64 0, .int .i64 0, .int .i64 0, .int .i64 0, .int .i64 0, .int .i64 0, .slice none 0 0] 29))).heap[W.heap.size + 1]? = some (.cells #[.int .i64 0, .slice none 0 0, .slice none 0 0] 26 (0, 0)) from by rw [heap_alloc_old _ _ (by simp only [World.size_alloc]; omega)]; exact heap_pair _ _ _)
  have rQ3_ := Lib.hid (show ((((W.alloc (.cells #[.int .i64 i0, .slice a1 n1 c1, .slice a2 n2 c2] 26)).alloc (.cells #[.int .i64 0, .slice none 0 0, .slice none 0 0] 26)).alloc (.cells #[.int .i64 0, .int .i64 0, .int .i64 0, .int .i64 0, .int .i64 0, .int .i64 0, .int .i64 0, .slice none 0 0] 29))).heap[W.heap.size + 1 + 1]? = some (.cells #[.int .i64 0, .int .i64 0, .int .i64 0, .int .i64 0, .int .i64 0, .int .i64 0, .int .i64 0, .slice none 0 0] 29 (0, 0)) from by exact heap_trip _ _ _ _)
  have G4_ := Lib.hid (show (W).grownBy ((((W.alloc (.cells #[.int .i64 i0, .slice a1 n1 c1, .slice a2 n2 c2] 26)).alloc (.cells #[.int .i64 0, .slice none 0 0, .slice none 0 0] 26)).alloc (.cells #[.int .i64 0, .int .i64 0, .int .i64 0, .int .i64 0, .int .i64 0, .int .i64 0, .int .i64 0, .slice none 0 0] 29))) none from (gby_alloc (gby_alloc (gby_alloc (gby_refl _ _) _) _) _))
  have A_0_ : ((((W.alloc (.cells #[.int .i64 i0, .slice a1 n1 c1, .slice a2 n2 c2] 26)).alloc (.cells #[.int .i64 0, .slice none 0 0, .slice none 0 0] 26)).alloc (.cells #[.int .i64 0, .int .i64 0, .int .i64 0, .int .i64 0, .int .i64 0, .int .i64 0, .int .i64 0, .slice none 0 0] 29))).cell? ⟨W.heap.size, 0, none⟩ = some (.int .i64 i0) := cell_of_row _ _ 0 _ _ _ rA1_.out
  have A_1_ : ((((W.alloc (.cells #[.int .i64 i0, .slice a1 n1 c1, .slice a2 n2 c2] 26)).alloc (.cells #[.int .i64 0, .slice none 0 0, .slice none 0 0] 26)).alloc (.cells #[.int .i64 0, .int .i64 0, .int .i64 0, .int .i64 0, .int .i64 0, .int .i64 0, .int .i64 0, .slice none 0 0] 29))).cell? ⟨W.heap.size, 1, none⟩ = some (.slice a1 n1 c1) := cell_of_row _ _ 1 _ _ _ rA1_.out
  have A_2_ : ((((W.alloc (.cells #[.int .i64 i0, .slice a1 n1 c1, .slice a2 n2 c2] 26)).alloc (.cells #[.int .i64 0, .slice none 0 0, .slice none 0 0] 26)).alloc (.cells #[.int .i64 0, .int .i64 0, .int .i64 0, .int .i64 0, .int .i64 0, .int .i64 0, .int .i64 0, .slice none 0 0] 29))).cell? ⟨W.heap.size, 2, none⟩ = some (.slice a2 n2 c2) := cell_of_row _ _ 2 _ _ _ rA1_.out
  have R_0_ : ((((W.alloc (.cells #[.int .i64 i0, .slice a1 n1 c1, .slice a2 n2 c2] 26)).alloc (.cells #[.int .i64 0, .slice none 0 0, .slice none 0 0] 26)).alloc (.cells #[.int .i64 0, .int .i64 0, .int .i64 0, .int .i64 0, .int .i64 0, .int .i64 0, .int .i64 0, .slice none 0 0] 29))).cell? ⟨W.heap.size + 1, 0, none⟩ = some (.int .i64 0) := cell_of_row _ _ 0 _ _ _ rR2_.out
  have R_1_ : ((((W.alloc (.cells #[.int .i64 i0, .slice a1 n1 c1, .slice a2 n2 c2] 26)).alloc (.cells #[.int .i64 0, .slice none 0 0, .slice none 0 0] 26)).alloc (.cells #[.int .i64 0, .int .i64 0, .int .i64 0, .int .i64 0, .int .i64 0, .int .i64 0, .int .i64 0, .slice none 0 0] 29))).cell? ⟨W.heap.size + 1, 1, none⟩ = some (.slice none 0 0) := cell_of_row _ _ 1 _ _ _ rR2_.out
  have R_2_ : ((((W.alloc (.cells #[.int .i64 i0, .slice a1 n1 c1, .slice a2 n2 c2] 26)).alloc (.cells #[.int .i64 0, .slice none 0 0, .slice none 0 0] 26)).alloc (.cells #[.int .i64 0, .int .i64 0, .int .i64 0, .int .i64 0, .int .i64 0, .int .i64 0, .int .i64 0, .slice none 0 0] 29))).cell? ⟨W.heap.size + 1, 2, none⟩ = some (.slice none 0 0) := cell_of_row _ _ 2 _ _ _ rR2_.out
  have Q_0_ : ((((W.alloc (.cells #[.int .i64 i0, .slice a1 n1 c1, .slice a2 n2 c2] 26)).alloc (.cells #[.int .i64 0, .slice none 0 0, .slice none 0 0] 26)).alloc (.cells #[.int .i64 0, .int .i64 0, .int .i64 0, .int .i64 0, .int .i64 0, .int .i64 0, .int .i64 0, .slice none 0 0] 29))).cell? ⟨W.heap.size + 1 + 1, 0, none⟩ = some (.int .i64 0) := cell_of_row _ _ 0 _ _ _ rQ3_.out
  have Q_1_ : ((((W.alloc (.cells #[.int .i64 i0, .slice a1 n1 c1, .slice a2 n2 c2] 26)).alloc (.cells #[.int .i64 0, .slice none 0 0, .slice none 0 0] 26)).alloc (.cells #[.int .i64 0, .int .i64 0, .int .i64 0, .int .i64 0, .int .i64 0, .int .i64 0, .int .i64 0, .slice none 0 0] 29))).cell? ⟨W.heap.size + 1 + 1, 1, none⟩ = some (.int .i64 0) := cell_of_row _ _ 1 _ _ _ rQ3_.out
  have Q_2_ : ((((W.alloc (.cells #[.int .i64 i0, .slice a1 n1 c1, .slice a2 n2 c2] 26)).alloc (.cells #[.int .i64 0, .slice none 0 0, .slice none 0 0] 26)).alloc (.cells #[.int .i64 0, .int .i64 0, .int .i64 0, .int .i64 0, .int .i64 0, .int .i64 0, .int .i64 0, .slice none 0 0] 29))).cell? ⟨W.heap.size + 1 + 1, 2, none⟩ = some (.int .i64 0) := cell_of_row _ _ 2 _ _ _ rQ3_.out
  have Q_3_ : ((((W.alloc (.cells #[.int .i64 i0, .slice a1 n1 c1, .slice a2 n2 c2] 26)).alloc (.cells #[.int .i64 0, .slice none 0 0, .slice none 0 0] 26)).alloc (.cells #[.int .i64 0, .int .i64 0, .int .i64 0, .int .i64 0, .int .i64 0, .int .i64 0, .int .i64 0, .slice none 0 0] 29))).cell? ⟨W.heap.size + 1 + 1, 3, none⟩ = some (.int .i64 0) := cell_of_row _ _ 3 _ _ _ rQ3_.out
  have Q_4_ : ((((W.alloc (.cells #[.int .i64 i0, .slice a1 n1 c1, .slice a2 n2 c2] 26)).alloc (.cells #[.int .i64 0, .slice none 0 0, .slice none 0 0] 26)).alloc (.cells #[.int .i64 0, .int .i64 0, .int .i64 0, .int .i64 0, .int .i64 0, .int .i64 0, .int .i64 0, .slice none 0 0] 29))).cell? ⟨W.heap.size + 1 + 1, 4, none⟩ = some (.int .i64 0) := cell_of_row _ _ 4 _ _ _ rQ3_.out
  have Q_5_ : ((((W.alloc (.cells #[.int .i64 i0, .slice a1 n1 c1, .slice a2 n2 c2] 26)).alloc (.cells #[.int .i64 0, .slice none 0 0, .slice none 0 0] 26)).alloc (.cells #[.int .i64 0, .int .i64 0, .int .i64 0, .int .i64 0, .int .i64 0, .int .i64 0, .int .i64 0, .slice none 0 0] 29))).cell? ⟨W.heap.size + 1 + 1, 5, none⟩ = some (.int .i64 0) := cell_of_row _ _ 5 _ _ _ rQ3_.out
  have Q_6_ : ((((W.alloc (.cells #[.int .i64 i0, .slice a1 n1 c1, .slice a2 n2 c2] 26)).alloc (.cells #[.int .i64 0, .slice none 0 0, .slice none 0 0] 26)).alloc (.cells #[.int .i64 0, .int .i64 0, .int .i64 0, .int .i64 0, .int .i64 0, .int .i64 0, .int .i64 0, .slice none 0 0] 29))).cell? ⟨W.heap.size + 1 + 1, 6, none⟩ = some (.int .i64 0) := cell_of_row _ _ 6 _ _ _ rQ3_.out
  have Q_7_ : ((((W.alloc (.cells #[.int .i64 i0, .slice a1 n1 c1, .slice a2 n2 c2] 26)).alloc (.cells #[.int .i64 0, .slice none 0 0, .slice none 0 0] 26)).alloc (.cells #[.int .i64 0, .int .i64 0, .int .i64 0, .int .i64 0, .int .i64 0, .int .i64 0, .int .i64 0, .slice none 0 0] 29))).cell? ⟨W.heap.size + 1 + 1, 7, none⟩ = some (.slice none 0 0) := cell_of_row _ _ 7 _ _ _ rQ3_.out
  go_wp2_with fail
  go_at_call 60
  refine (l30Copy_d _ i0 _ _ xs ys (H1_.out.grow G4_.out) (H2_.out.grow G4_.out) hl1 hl2).mono ?_
  rintro e w1 ⟨x1, x2, rfl, o, g⟩
  have sz_ := g.size
  try simp only [World.size_alloc] at sz_ o
  clear A_0_ A_1_ A_2_ R_0_ R_1_ R_2_ Q_0_ Q_1_ Q_2_ Q_3_ Q_4_ Q_5_ Q_6_ Q_7_
  have rA5_ := Lib.hid (show (w1).heap[W.heap.size]? = some (.cells #[.int .i64 i0, .slice a1 n1 c1, .slice a2 n2 c2] 26 (0, 0)) from row_held g rA1_.out)
  clear rA1_
  have rR6_ := Lib.hid (show (w1).heap[W.heap.size + 1]? = some (.cells #[.int .i64 0, .slice none 0 0, .slice none 0 0] 26 (0, 0)) from row_held g rR2_.out)
  clear rR2_
  have rQ7_ := Lib.hid (show (w1).heap[W.heap.size + 1 + 1]? = some (.cells #[.int .i64 0, .int .i64 0, .int .i64 0, .int .i64 0, .int .i64 0, .int .i64 0, .int .i64 0, .slice none 0 0] 29 (0, 0)) from row_held g rQ3_.out)
  clear rQ3_
  have G8_ := Lib.hid (show (W).grownBy (w1) none from gby_trans G4_.out g)
  clear g
  obtain ⟨d1, m1, k1, hv_⟩ := RdL.form (OwU.rd o)
  subst hv_
  obtain ⟨d2, m2, k2, hv_⟩ := RdL.form (OwU.rd (OwU.tail o))
  subst hv_
  unfold vVectors
  have oC9_ := Lib.hid (show OwU (w1) ((W.heap.size + 1 + 1 + 1)) (w1.heap.size) [] [own shB (.slice d1 m1 k1) xs, own shB (.slice d2 m2 k2) ys] from o)
  clear o
  have al_ : (w1).grownBy ((w1).alloc (.cells #[.int .i64 i0, .slice d1 m1 k1, .slice d2 m2 k2] 26)) none := gby_alloc (gby_refl _ _) _
  have rA10_ := Lib.hid (show ((w1.alloc (.cells #[.int .i64 i0, .slice d1 m1 k1, .slice d2 m2 k2] 26))).heap[W.heap.size]? = some (.cells #[.int .i64 i0, .slice a1 n1 c1, .slice a2 n2 c2] 26 (0, 0)) from row_held al_ rA5_.out)
  clear rA5_
  have rR11_ := Lib.hid (show ((w1.alloc (.cells #[.int .i64 i0, .slice d1 m1 k1, .slice d2 m2 k2] 26))).heap[W.heap.size + 1]? = some (.cells #[.int .i64 0, .slice none 0 0, .slice none 0 0] 26 (0, 0)) from row_held al_ rR6_.out)
  clear rR6_
  have rQ12_ := Lib.hid (show ((w1.alloc (.cells #[.int .i64 i0, .slice d1 m1 k1, .slice d2 m2 k2] 26))).heap[W.heap.size + 1 + 1]? = some (.cells #[.int .i64 0, .int .i64 0, .int .i64 0, .int .i64 0, .int .i64 0, .int .i64 0, .int .i64 0, .slice none 0 0] 29 (0, 0)) from row_held al_ rQ7_.out)
  clear rQ7_
  have oC13_ := Lib.hid (show OwU ((w1.alloc (.cells #[.int .i64 i0, .slice d1 m1 k1, .slice d2 m2 k2] 26))) ((W.heap.size + 1 + 1 + 1)) (w1.heap.size) [] [own shB (.slice d1 m1 k1) xs, own shB (.slice d2 m2 k2) ys] from OwU.grow oC9_.out al_)
  clear oC9_
  have G14_ := Lib.hid (show (W).grownBy ((w1.alloc (.cells #[.int .i64 i0, .slice d1 m1 k1, .slice d2 m2 k2] 26))) none from gby_trans G8_.out al_)
  have rX15_ := Lib.hid (show ((w1.alloc (.cells #[.int .i64 i0, .slice d1 m1 k1, .slice d2 m2 k2] 26))).heap[w1.heap.size]? = some (.cells #[.int .i64 i0, .slice d1 m1 k1, .slice d2 m2 k2] 26 (0, 0)) from by first | exact heap_alloc_new _ _ | exact heap_pair _ _ _ | exact heap_trip _ _ _ _)
  clear al_
  have A_0_ : ((w1.alloc (.cells #[.int .i64 i0, .slice d1 m1 k1, .slice d2 m2 k2] 26))).cell? ⟨W.heap.size, 0, none⟩ = some (.int .i64 i0) := cell_of_row _ _ 0 _ _ _ rA10_.out
  have A_1_ : ((w1.alloc (.cells #[.int .i64 i0, .slice d1 m1 k1, .slice d2 m2 k2] 26))).cell? ⟨W.heap.size, 1, none⟩ = some (.slice a1 n1 c1) := cell_of_row _ _ 1 _ _ _ rA10_.out
  have A_2_ : ((w1.alloc (.cells #[.int .i64 i0, .slice d1 m1 k1, .slice d2 m2 k2] 26))).cell? ⟨W.heap.size, 2, none⟩ = some (.slice a2 n2 c2) := cell_of_row _ _ 2 _ _ _ rA10_.out
  have R_0_ : ((w1.alloc (.cells #[.int .i64 i0, .slice d1 m1 k1, .slice d2 m2 k2] 26))).cell? ⟨W.heap.size + 1, 0, none⟩ = some (.int .i64 0) := cell_of_row _ _ 0 _ _ _ rR11_.out
  have R_1_ : ((w1.alloc (.cells #[.int .i64 i0, .slice d1 m1 k1, .slice d2 m2 k2] 26))).cell? ⟨W.heap.size + 1, 1, none⟩ = some (.slice none 0 0) := cell_of_row _ _ 1 _ _ _ rR11_.out
  have R_2_ : ((w1.alloc (.cells #[.int .i64 i0, .slice d1 m1 k1, .slice d2 m2 k2] 26))).cell? ⟨W.heap.size + 1, 2, none⟩ = some (.slice none 0 0) := cell_of_row _ _ 2 _ _ _ rR11_.out
  have Q_0_ : ((w1.alloc (.cells #[.int .i64 i0, .slice d1 m1 k1, .slice d2 m2 k2] 26))).cell? ⟨W.heap.size + 1 + 1, 0, none⟩ = some (.int .i64 0) := cell_of_row _ _ 0 _ _ _ rQ12_.out
  have Q_1_ : ((w1.alloc (.cells #[.int .i64 i0, .slice d1 m1 k1, .slice d2 m2 k2] 26))).cell? ⟨W.heap.size + 1 + 1, 1, none⟩ = some (.int .i64 0) := cell_of_row _ _ 1 _ _ _ rQ12_.out
  have Q_2_ : ((w1.alloc (.cells #[.int .i64 i0, .slice d1 m1 k1, .slice d2 m2 k2] 26))).cell? ⟨W.heap.size + 1 + 1, 2, none⟩ = some (.int .i64 0) := cell_of_row _ _ 2 _ _ _ rQ12_.out
  have Q_3_ : ((w1.alloc (.cells #[.int .i64 i0, .slice d1 m1 k1, .slice d2 m2 k2] 26))).cell? ⟨W.heap.size + 1 + 1, 3, none⟩ = some (.int .i64 0) := cell_of_row _ _ 3 _ _ _ rQ12_.out
  have Q_4_ : ((w1.alloc (.cells #[.int .i64 i0, .slice d1 m1 k1, .slice d2 m2 k2] 26))).cell? ⟨W.heap.size + 1 + 1, 4, none⟩ = some (.int .i64 0) := cell_of_row _ _ 4 _ _ _ rQ12_.out
  have Q_5_ : ((w1.alloc (.cells #[.int .i64 i0, .slice d1 m1 k1, .slice d2 m2 k2] 26))).cell? ⟨W.heap.size + 1 + 1, 5, none⟩ = some (.int .i64 0) := cell_of_row _ _ 5 _ _ _ rQ12_.out
  have Q_6_ : ((w1.alloc (.cells #[.int .i64 i0, .slice d1 m1 k1, .slice d2 m2 k2] 26))).cell? ⟨W.heap.size + 1 + 1, 6, none⟩ = some (.int .i64 0) := cell_of_row _ _ 6 _ _ _ rQ12_.out
  have Q_7_ : ((w1.alloc (.cells #[.int .i64 i0, .slice d1 m1 k1, .slice d2 m2 k2] 26))).cell? ⟨W.heap.size + 1 + 1, 7, none⟩ = some (.slice none 0 0) := cell_of_row _ _ 7 _ _ _ rQ12_.out
  have X_0_ : ((w1.alloc (.cells #[.int .i64 i0, .slice d1 m1 k1, .slice d2 m2 k2] 26))).cell? ⟨w1.heap.size, 0, none⟩ = some (.int .i64 i0) := cell_of_row _ _ 0 _ _ _ rX15_.out
  have X_1_ : ((w1.alloc (.cells #[.int .i64 i0, .slice d1 m1 k1, .slice d2 m2 k2] 26))).cell? ⟨w1.heap.size, 1, none⟩ = some (.slice d1 m1 k1) := cell_of_row _ _ 1 _ _ _ rX15_.out
  have X_2_ : ((w1.alloc (.cells #[.int .i64 i0, .slice d1 m1 k1, .slice d2 m2 k2] 26))).cell? ⟨w1.heap.size, 2, none⟩ = some (.slice d2 m2 k2) := cell_of_row _ _ 2 _ _ _ rX15_.out
  go_wp2_with fail
  go_at_call 61
  refine (((specVCall _ i0 _ _ xs ys id k (H1_.out.grow G14_.out) (H2_.out.grow G14_.out)).mono (bpost_no HOK.out))).mono ?_
  rintro e w2 ⟨rfl, g⟩
  have szw2 := g.size
  try simp only [World.size_alloc] at szw2
  try simp only [World.size_setCell] at szw2
  clear A_0_ A_1_ A_2_ R_0_ R_1_ R_2_ Q_0_ Q_1_ Q_2_ Q_3_ Q_4_ Q_5_ Q_6_ Q_7_ X_0_ X_1_ X_2_
  have rA16_ := Lib.hid (show (w2).heap[W.heap.size]? = some (.cells #[.int .i64 i0, .slice a1 n1 c1, .slice a2 n2 c2] 26 (0, 0)) from row_held g rA10_.out)
  clear rA10_
  have rR17_ := Lib.hid (show (w2).heap[W.heap.size + 1]? = some (.cells #[.int .i64 0, .slice none 0 0, .slice none 0 0] 26 (0, 0)) from row_held g rR11_.out)
  clear rR11_
  have rQ18_ := Lib.hid (show (w2).heap[W.heap.size + 1 + 1]? = some (.cells #[.int .i64 0, .int .i64 0, .int .i64 0, .int .i64 0, .int .i64 0, .int .i64 0, .int .i64 0, .slice none 0 0] 29 (0, 0)) from row_held g rQ12_.out)
  clear rQ12_
  have rX19_ := Lib.hid (show (w2).heap[w1.heap.size]? = some (.cells #[.int .i64 i0, .slice d1 m1 k1, .slice d2 m2 k2] 26 (0, 0)) from row_held g rX15_.out)
  clear rX15_
  have oC20_ := Lib.hid (show OwU (w2) ((W.heap.size + 1 + 1 + 1)) (w1.heap.size) [] [own shB (.slice d1 m1 k1) xs, own shB (.slice d2 m2 k2) ys] from OwU.grow oC13_.out g)
  clear oC13_
  have G21_ := Lib.hid (show (W).grownBy (w2) none from gby_trans G14_.out g)
  clear g
  have A_0_ : (w2).cell? ⟨W.heap.size, 0, none⟩ = some (.int .i64 i0) := cell_of_row _ _ 0 _ _ _ rA16_.out
  have A_1_ : (w2).cell? ⟨W.heap.size, 1, none⟩ = some (.slice a1 n1 c1) := cell_of_row _ _ 1 _ _ _ rA16_.out
  have A_2_ : (w2).cell? ⟨W.heap.size, 2, none⟩ = some (.slice a2 n2 c2) := cell_of_row _ _ 2 _ _ _ rA16_.out
  have R_0_ : (w2).cell? ⟨W.heap.size + 1, 0, none⟩ = some (.int .i64 0) := cell_of_row _ _ 0 _ _ _ rR17_.out
  have R_1_ : (w2).cell? ⟨W.heap.size + 1, 1, none⟩ = some (.slice none 0 0) := cell_of_row _ _ 1 _ _ _ rR17_.out
  have R_2_ : (w2).cell? ⟨W.heap.size + 1, 2, none⟩ = some (.slice none 0 0) := cell_of_row _ _ 2 _ _ _ rR17_.out
  have Q_0_ : (w2).cell? ⟨W.heap.size + 1 + 1, 0, none⟩ = some (.int .i64 0) := cell_of_row _ _ 0 _ _ _ rQ18_.out
  have Q_1_ : (w2).cell? ⟨W.heap.size + 1 + 1, 1, none⟩ = some (.int .i64 0) := cell_of_row _ _ 1 _ _ _ rQ18_.out
  have Q_2_ : (w2).cell? ⟨W.heap.size + 1 + 1, 2, none⟩ = some (.int .i64 0) := cell_of_row _ _ 2 _ _ _ rQ18_.out
  have Q_3_ : (w2).cell? ⟨W.heap.size + 1 + 1, 3, none⟩ = some (.int .i64 0) := cell_of_row _ _ 3 _ _ _ rQ18_.out
  have Q_4_ : (w2).cell? ⟨W.heap.size + 1 + 1, 4, none⟩ = some (.int .i64 0) := cell_of_row _ _ 4 _ _ _ rQ18_.out
  have Q_5_ : (w2).cell? ⟨W.heap.size + 1 + 1, 5, none⟩ = some (.int .i64 0) := cell_of_row _ _ 5 _ _ _ rQ18_.out
  have Q_6_ : (w2).cell? ⟨W.heap.size + 1 + 1, 6, none⟩ = some (.int .i64 0) := cell_of_row _ _ 6 _ _ _ rQ18_.out
  have Q_7_ : (w2).cell? ⟨W.heap.size + 1 + 1, 7, none⟩ = some (.slice none 0 0) := cell_of_row _ _ 7 _ _ _ rQ18_.out
  have X_0_ : (w2).cell? ⟨w1.heap.size, 0, none⟩ = some (.int .i64 i0) := cell_of_row _ _ 0 _ _ _ rX19_.out
  have X_1_ : (w2).cell? ⟨w1.heap.size, 1, none⟩ = some (.slice d1 m1 k1) := cell_of_row _ _ 1 _ _ _ rX19_.out
  have X_2_ : (w2).cell? ⟨w1.heap.size, 2, none⟩ = some (.slice d2 m2 k2) := cell_of_row _ _ 2 _ _ _ rX19_.out
  clear A_0_ A_1_ A_2_ R_0_ R_1_ R_2_ Q_0_ Q_1_ Q_2_ Q_3_ Q_4_ Q_5_ Q_6_ Q_7_ X_0_ X_1_ X_2_
  have A_0_ : (w2).cell? ⟨W.heap.size, 0, none⟩ = some (.int .i64 i0) := cell_of_row _ _ 0 _ _ _ rA16_.out
  have A_1_ : (w2).cell? ⟨W.heap.size, 1, none⟩ = some (.slice a1 n1 c1) := cell_of_row _ _ 1 _ _ _ rA16_.out
  have A_2_ : (w2).cell? ⟨W.heap.size, 2, none⟩ = some (.slice a2 n2 c2) := cell_of_row _ _ 2 _ _ _ rA16_.out
  have R_0_ : (w2).cell? ⟨W.heap.size + 1, 0, none⟩ = some (.int .i64 0) := cell_of_row _ _ 0 _ _ _ rR17_.out
  have R_1_ : (w2).cell? ⟨W.heap.size + 1, 1, none⟩ = some (.slice none 0 0) := cell_of_row _ _ 1 _ _ _ rR17_.out
  have R_2_ : (w2).cell? ⟨W.heap.size + 1, 2, none⟩ = some (.slice none 0 0) := cell_of_row _ _ 2 _ _ _ rR17_.out
  have Rf0_ : (w2).frozen? ⟨W.heap.size + 1, 0, none⟩ = false := frozen_of_row _ _ 0 _ _ rR17_.out
  have Rf1_ : (w2).frozen? ⟨W.heap.size + 1, 1, none⟩ = false := frozen_of_row _ _ 1 _ _ rR17_.out
  have Rf2_ : (w2).frozen? ⟨W.heap.size + 1, 2, none⟩ = false := frozen_of_row _ _ 2 _ _ rR17_.out
  have Q_0_ : (w2).cell? ⟨W.heap.size + 1 + 1, 0, none⟩ = some (.int .i64 0) := cell_of_row _ _ 0 _ _ _ rQ18_.out
  have Q_1_ : (w2).cell? ⟨W.heap.size + 1 + 1, 1, none⟩ = some (.int .i64 0) := cell_of_row _ _ 1 _ _ _ rQ18_.out
  have Q_2_ : (w2).cell? ⟨W.heap.size + 1 + 1, 2, none⟩ = some (.int .i64 0) := cell_of_row _ _ 2 _ _ _ rQ18_.out
  have Q_3_ : (w2).cell? ⟨W.heap.size + 1 + 1, 3, none⟩ = some (.int .i64 0) := cell_of_row _ _ 3 _ _ _ rQ18_.out
  have Q_4_ : (w2).cell? ⟨W.heap.size + 1 + 1, 4, none⟩ = some (.int .i64 0) := cell_of_row _ _ 4 _ _ _ rQ18_.out
  have Q_5_ : (w2).cell? ⟨W.heap.size + 1 + 1, 5, none⟩ = some (.int .i64 0) := cell_of_row _ _ 5 _ _ _ rQ18_.out
  have Q_6_ : (w2).cell? ⟨W.heap.size + 1 + 1, 6, none⟩ = some (.int .i64 0) := cell_of_row _ _ 6 _ _ _ rQ18_.out
  have Q_7_ : (w2).cell? ⟨W.heap.size + 1 + 1, 7, none⟩ = some (.slice none 0 0) := cell_of_row _ _ 7 _ _ _ rQ18_.out
  have Qf0_ : (w2).frozen? ⟨W.heap.size + 1 + 1, 0, none⟩ = false := frozen_of_row _ _ 0 _ _ rQ18_.out
  have Qf1_ : (w2).frozen? ⟨W.heap.size + 1 + 1, 1, none⟩ = false := frozen_of_row _ _ 1 _ _ rQ18_.out
  have Qf2_ : (w2).frozen? ⟨W.heap.size + 1 + 1, 2, none⟩ = false := frozen_of_row _ _ 2 _ _ rQ18_.out
  have Qf3_ : (w2).frozen? ⟨W.heap.size + 1 + 1, 3, none⟩ = false := frozen_of_row _ _ 3 _ _ rQ18_.out
  have Qf4_ : (w2).frozen? ⟨W.heap.size + 1 + 1, 4, none⟩ = false := frozen_of_row _ _ 4 _ _ rQ18_.out
  have Qf5_ : (w2).frozen? ⟨W.heap.size + 1 + 1, 5, none⟩ = false := frozen_of_row _ _ 5 _ _ rQ18_.out
  have Qf6_ : (w2).frozen? ⟨W.heap.size + 1 + 1, 6, none⟩ = false := frozen_of_row _ _ 6 _ _ rQ18_.out
  have Qf7_ : (w2).frozen? ⟨W.heap.size + 1 + 1, 7, none⟩ = false := frozen_of_row _ _ 7 _ _ rQ18_.out
  have X_0_ : (w2).cell? ⟨w1.heap.size, 0, none⟩ = some (.int .i64 i0) := cell_of_row _ _ 0 _ _ _ rX19_.out
  have X_1_ : (w2).cell? ⟨w1.heap.size, 1, none⟩ = some (.slice d1 m1 k1) := cell_of_row _ _ 1 _ _ _ rX19_.out
  have X_2_ : (w2).cell? ⟨w1.heap.size, 2, none⟩ = some (.slice d2 m2 k2) := cell_of_row _ _ 2 _ _ _ rX19_.out
  have yr_ := Lib.hid (show ((((((((((((w2.setCell ⟨W.heap.size + 1, 0, none⟩ (.int .i64 i0)).setCell ⟨W.heap.size + 1, 1, none⟩ (.slice d1 m1 k1)).setCell ⟨W.heap.size + 1, 2, none⟩ (.slice d2 m2 k2)).setCell ⟨W.heap.size + 1 + 1, 0, none⟩ (.int .i64 0)).setCell ⟨W.heap.size + 1 + 1, 1, none⟩ (.int .i64 0)).setCell ⟨W.heap.size + 1 + 1, 2, none⟩ (.int .i64 0)).setCell ⟨W.heap.size + 1 + 1, 3, none⟩ (.int .i64 0)).setCell ⟨W.heap.size + 1 + 1, 4, none⟩ (.int .i64 0)).setCell ⟨W.heap.size + 1 + 1, 5, none⟩ (.int .i64 0)).setCell ⟨W.heap.size + 1 + 1, 6, none⟩ (.int .i64 0)).setCell ⟨W.heap.size + 1 + 1, 7, none⟩ (.slice none 0 0))).heap[W.heap.size + 1]? = some (.cells #[.int .i64 i0, .slice d1 m1 k1, .slice d2 m2 k2] 26 (0, 0)) from (set_far (set_far (set_far (set_far (set_far (set_far (set_far (set_far (heap_setCell_same _ _ 2 _ _ _ (heap_setCell_same _ _ 1 _ _ _ (heap_setCell_same _ _ 0 _ _ _ rR17_.out))) (by dsimp only; omega)) (by dsimp only; omega)) (by dsimp only; omega)) (by dsimp only; omega)) (by dsimp only; omega)) (by dsimp only; omega)) (by dsimp only; omega)) (by dsimp only; omega)))
  have yq_ := Lib.hid (show ((((((((((((w2.setCell ⟨W.heap.size + 1, 0, none⟩ (.int .i64 i0)).setCell ⟨W.heap.size + 1, 1, none⟩ (.slice d1 m1 k1)).setCell ⟨W.heap.size + 1, 2, none⟩ (.slice d2 m2 k2)).setCell ⟨W.heap.size + 1 + 1, 0, none⟩ (.int .i64 0)).setCell ⟨W.heap.size + 1 + 1, 1, none⟩ (.int .i64 0)).setCell ⟨W.heap.size + 1 + 1, 2, none⟩ (.int .i64 0)).setCell ⟨W.heap.size + 1 + 1, 3, none⟩ (.int .i64 0)).setCell ⟨W.heap.size + 1 + 1, 4, none⟩ (.int .i64 0)).setCell ⟨W.heap.size + 1 + 1, 5, none⟩ (.int .i64 0)).setCell ⟨W.heap.size + 1 + 1, 6, none⟩ (.int .i64 0)).setCell ⟨W.heap.size + 1 + 1, 7, none⟩ (.slice none 0 0))).heap[W.heap.size + 1 + 1]? = some (.cells #[.int .i64 0, .int .i64 0, .int .i64 0, .int .i64 0, .int .i64 0, .int .i64 0, .int .i64 0, .slice none 0 0] 29 (0, 0)) from (heap_setCell_same _ _ 7 _ _ _ (heap_setCell_same _ _ 6 _ _ _ (heap_setCell_same _ _ 5 _ _ _ (heap_setCell_same _ _ 4 _ _ _ (heap_setCell_same _ _ 3 _ _ _ (heap_setCell_same _ _ 2 _ _ _ (heap_setCell_same _ _ 1 _ _ _ (heap_setCell_same _ _ 0 _ _ _ (set_far (set_far (set_far rQ18_.out (by dsimp only; omega)) (by dsimp only; omega)) (by dsimp only; omega)))))))))))
  have z0_ : ((((((((((((w2.setCell ⟨W.heap.size + 1, 0, none⟩ (.int .i64 i0)).setCell ⟨W.heap.size + 1, 1, none⟩ (.slice d1 m1 k1)).setCell ⟨W.heap.size + 1, 2, none⟩ (.slice d2 m2 k2)).setCell ⟨W.heap.size + 1 + 1, 0, none⟩ (.int .i64 0)).setCell ⟨W.heap.size + 1 + 1, 1, none⟩ (.int .i64 0)).setCell ⟨W.heap.size + 1 + 1, 2, none⟩ (.int .i64 0)).setCell ⟨W.heap.size + 1 + 1, 3, none⟩ (.int .i64 0)).setCell ⟨W.heap.size + 1 + 1, 4, none⟩ (.int .i64 0)).setCell ⟨W.heap.size + 1 + 1, 5, none⟩ (.int .i64 0)).setCell ⟨W.heap.size + 1 + 1, 6, none⟩ (.int .i64 0)).setCell ⟨W.heap.size + 1 + 1, 7, none⟩ (.slice none 0 0))).cell? ⟨W.heap.size + 1, 0, none⟩ = some (.int .i64 i0) := cell_of_row _ _ 0 _ _ _ yr_.out
  have z1_ : ((((((((((((w2.setCell ⟨W.heap.size + 1, 0, none⟩ (.int .i64 i0)).setCell ⟨W.heap.size + 1, 1, none⟩ (.slice d1 m1 k1)).setCell ⟨W.heap.size + 1, 2, none⟩ (.slice d2 m2 k2)).setCell ⟨W.heap.size + 1 + 1, 0, none⟩ (.int .i64 0)).setCell ⟨W.heap.size + 1 + 1, 1, none⟩ (.int .i64 0)).setCell ⟨W.heap.size + 1 + 1, 2, none⟩ (.int .i64 0)).setCell ⟨W.heap.size + 1 + 1, 3, none⟩ (.int .i64 0)).setCell ⟨W.heap.size + 1 + 1, 4, none⟩ (.int .i64 0)).setCell ⟨W.heap.size + 1 + 1, 5, none⟩ (.int .i64 0)).setCell ⟨W.heap.size + 1 + 1, 6, none⟩ (.int .i64 0)).setCell ⟨W.heap.size + 1 + 1, 7, none⟩ (.slice none 0 0))).cell? ⟨W.heap.size + 1, 1, none⟩ = some (.slice d1 m1 k1) := cell_of_row _ _ 1 _ _ _ yr_.out
  have z2_ : ((((((((((((w2.setCell ⟨W.heap.size + 1, 0, none⟩ (.int .i64 i0)).setCell ⟨W.heap.size + 1, 1, none⟩ (.slice d1 m1 k1)).setCell ⟨W.heap.size + 1, 2, none⟩ (.slice d2 m2 k2)).setCell ⟨W.heap.size + 1 + 1, 0, none⟩ (.int .i64 0)).setCell ⟨W.heap.size + 1 + 1, 1, none⟩ (.int .i64 0)).setCell ⟨W.heap.size + 1 + 1, 2, none⟩ (.int .i64 0)).setCell ⟨W.heap.size + 1 + 1, 3, none⟩ (.int .i64 0)).setCell ⟨W.heap.size + 1 + 1, 4, none⟩ (.int .i64 0)).setCell ⟨W.heap.size + 1 + 1, 5, none⟩ (.int .i64 0)).setCell ⟨W.heap.size + 1 + 1, 6, none⟩ (.int .i64 0)).setCell ⟨W.heap.size + 1 + 1, 7, none⟩ (.slice none 0 0))).cell? ⟨W.heap.size + 1, 2, none⟩ = some (.slice d2 m2 k2) := cell_of_row _ _ 2 _ _ _ yr_.out
  have y0_ : ((((((((((((w2.setCell ⟨W.heap.size + 1, 0, none⟩ (.int .i64 i0)).setCell ⟨W.heap.size + 1, 1, none⟩ (.slice d1 m1 k1)).setCell ⟨W.heap.size + 1, 2, none⟩ (.slice d2 m2 k2)).setCell ⟨W.heap.size + 1 + 1, 0, none⟩ (.int .i64 0)).setCell ⟨W.heap.size + 1 + 1, 1, none⟩ (.int .i64 0)).setCell ⟨W.heap.size + 1 + 1, 2, none⟩ (.int .i64 0)).setCell ⟨W.heap.size + 1 + 1, 3, none⟩ (.int .i64 0)).setCell ⟨W.heap.size + 1 + 1, 4, none⟩ (.int .i64 0)).setCell ⟨W.heap.size + 1 + 1, 5, none⟩ (.int .i64 0)).setCell ⟨W.heap.size + 1 + 1, 6, none⟩ (.int .i64 0)).setCell ⟨W.heap.size + 1 + 1, 7, none⟩ (.slice none 0 0))).cell? ⟨W.heap.size + 1 + 1, 0, none⟩ = some (.int .i64 0) := cell_of_row _ _ 0 _ _ _ yq_.out
  have y1_ : ((((((((((((w2.setCell ⟨W.heap.size + 1, 0, none⟩ (.int .i64 i0)).setCell ⟨W.heap.size + 1, 1, none⟩ (.slice d1 m1 k1)).setCell ⟨W.heap.size + 1, 2, none⟩ (.slice d2 m2 k2)).setCell ⟨W.heap.size + 1 + 1, 0, none⟩ (.int .i64 0)).setCell ⟨W.heap.size + 1 + 1, 1, none⟩ (.int .i64 0)).setCell ⟨W.heap.size + 1 + 1, 2, none⟩ (.int .i64 0)).setCell ⟨W.heap.size + 1 + 1, 3, none⟩ (.int .i64 0)).setCell ⟨W.heap.size + 1 + 1, 4, none⟩ (.int .i64 0)).setCell ⟨W.heap.size + 1 + 1, 5, none⟩ (.int .i64 0)).setCell ⟨W.heap.size + 1 + 1, 6, none⟩ (.int .i64 0)).setCell ⟨W.heap.size + 1 + 1, 7, none⟩ (.slice none 0 0))).cell? ⟨W.heap.size + 1 + 1, 1, none⟩ = some (.int .i64 0) := cell_of_row _ _ 1 _ _ _ yq_.out
  have y2_ : ((((((((((((w2.setCell ⟨W.heap.size + 1, 0, none⟩ (.int .i64 i0)).setCell ⟨W.heap.size + 1, 1, none⟩ (.slice d1 m1 k1)).setCell ⟨W.heap.size + 1, 2, none⟩ (.slice d2 m2 k2)).setCell ⟨W.heap.size + 1 + 1, 0, none⟩ (.int .i64 0)).setCell ⟨W.heap.size + 1 + 1, 1, none⟩ (.int .i64 0)).setCell ⟨W.heap.size + 1 + 1, 2, none⟩ (.int .i64 0)).setCell ⟨W.heap.size + 1 + 1, 3, none⟩ (.int .i64 0)).setCell ⟨W.heap.size + 1 + 1, 4, none⟩ (.int .i64 0)).setCell ⟨W.heap.size + 1 + 1, 5, none⟩ (.int .i64 0)).setCell ⟨W.heap.size + 1 + 1, 6, none⟩ (.int .i64 0)).setCell ⟨W.heap.size + 1 + 1, 7, none⟩ (.slice none 0 0))).cell? ⟨W.heap.size + 1 + 1, 2, none⟩ = some (.int .i64 0) := cell_of_row _ _ 2 _ _ _ yq_.out
  have y3_ : ((((((((((((w2.setCell ⟨W.heap.size + 1, 0, none⟩ (.int .i64 i0)).setCell ⟨W.heap.size + 1, 1, none⟩ (.slice d1 m1 k1)).setCell ⟨W.heap.size + 1, 2, none⟩ (.slice d2 m2 k2)).setCell ⟨W.heap.size + 1 + 1, 0, none⟩ (.int .i64 0)).setCell ⟨W.heap.size + 1 + 1, 1, none⟩ (.int .i64 0)).setCell ⟨W.heap.size + 1 + 1, 2, none⟩ (.int .i64 0)).setCell ⟨W.heap.size + 1 + 1, 3, none⟩ (.int .i64 0)).setCell ⟨W.heap.size + 1 + 1, 4, none⟩ (.int .i64 0)).setCell ⟨W.heap.size + 1 + 1, 5, none⟩ (.int .i64 0)).setCell ⟨W.heap.size + 1 + 1, 6, none⟩ (.int .i64 0)).setCell ⟨W.heap.size + 1 + 1, 7, none⟩ (.slice none 0 0))).cell? ⟨W.heap.size + 1 + 1, 3, none⟩ = some (.int .i64 0) := cell_of_row _ _ 3 _ _ _ yq_.out
  have y4_ : ((((((((((((w2.setCell ⟨W.heap.size + 1, 0, none⟩ (.int .i64 i0)).setCell ⟨W.heap.size + 1, 1, none⟩ (.slice d1 m1 k1)).setCell ⟨W.heap.size + 1, 2, none⟩ (.slice d2 m2 k2)).setCell ⟨W.heap.size + 1 + 1, 0, none⟩ (.int .i64 0)).setCell ⟨W.heap.size + 1 + 1, 1, none⟩ (.int .i64 0)).setCell ⟨W.heap.size + 1 + 1, 2, none⟩ (.int .i64 0)).setCell ⟨W.heap.size + 1 + 1, 3, none⟩ (.int .i64 0)).setCell ⟨W.heap.size + 1 + 1, 4, none⟩ (.int .i64 0)).setCell ⟨W.heap.size + 1 + 1, 5, none⟩ (.int .i64 0)).setCell ⟨W.heap.size + 1 + 1, 6, none⟩ (.int .i64 0)).setCell ⟨W.heap.size + 1 + 1, 7, none⟩ (.slice none 0 0))).cell? ⟨W.heap.size + 1 + 1, 4, none⟩ = some (.int .i64 0) := cell_of_row _ _ 4 _ _ _ yq_.out
  have y5_ : ((((((((((((w2.setCell ⟨W.heap.size + 1, 0, none⟩ (.int .i64 i0)).setCell ⟨W.heap.size + 1, 1, none⟩ (.slice d1 m1 k1)).setCell ⟨W.heap.size + 1, 2, none⟩ (.slice d2 m2 k2)).setCell ⟨W.heap.size + 1 + 1, 0, none⟩ (.int .i64 0)).setCell ⟨W.heap.size + 1 + 1, 1, none⟩ (.int .i64 0)).setCell ⟨W.heap.size + 1 + 1, 2, none⟩ (.int .i64 0)).setCell ⟨W.heap.size + 1 + 1, 3, none⟩ (.int .i64 0)).setCell ⟨W.heap.size + 1 + 1, 4, none⟩ (.int .i64 0)).setCell ⟨W.heap.size + 1 + 1, 5, none⟩ (.int .i64 0)).setCell ⟨W.heap.size + 1 + 1, 6, none⟩ (.int .i64 0)).setCell ⟨W.heap.size + 1 + 1, 7, none⟩ (.slice none 0 0))).cell? ⟨W.heap.size + 1 + 1, 5, none⟩ = some (.int .i64 0) := cell_of_row _ _ 5 _ _ _ yq_.out
  have y6_ : ((((((((((((w2.setCell ⟨W.heap.size + 1, 0, none⟩ (.int .i64 i0)).setCell ⟨W.heap.size + 1, 1, none⟩ (.slice d1 m1 k1)).setCell ⟨W.heap.size + 1, 2, none⟩ (.slice d2 m2 k2)).setCell ⟨W.heap.size + 1 + 1, 0, none⟩ (.int .i64 0)).setCell ⟨W.heap.size + 1 + 1, 1, none⟩ (.int .i64 0)).setCell ⟨W.heap.size + 1 + 1, 2, none⟩ (.int .i64 0)).setCell ⟨W.heap.size + 1 + 1, 3, none⟩ (.int .i64 0)).setCell ⟨W.heap.size + 1 + 1, 4, none⟩ (.int .i64 0)).setCell ⟨W.heap.size + 1 + 1, 5, none⟩ (.int .i64 0)).setCell ⟨W.heap.size + 1 + 1, 6, none⟩ (.int .i64 0)).setCell ⟨W.heap.size + 1 + 1, 7, none⟩ (.slice none 0 0))).cell? ⟨W.heap.size + 1 + 1, 6, none⟩ = some (.int .i64 0) := cell_of_row _ _ 6 _ _ _ yq_.out
  have y7_ : ((((((((((((w2.setCell ⟨W.heap.size + 1, 0, none⟩ (.int .i64 i0)).setCell ⟨W.heap.size + 1, 1, none⟩ (.slice d1 m1 k1)).setCell ⟨W.heap.size + 1, 2, none⟩ (.slice d2 m2 k2)).setCell ⟨W.heap.size + 1 + 1, 0, none⟩ (.int .i64 0)).setCell ⟨W.heap.size + 1 + 1, 1, none⟩ (.int .i64 0)).setCell ⟨W.heap.size + 1 + 1, 2, none⟩ (.int .i64 0)).setCell ⟨W.heap.size + 1 + 1, 3, none⟩ (.int .i64 0)).setCell ⟨W.heap.size + 1 + 1, 4, none⟩ (.int .i64 0)).setCell ⟨W.heap.size + 1 + 1, 5, none⟩ (.int .i64 0)).setCell ⟨W.heap.size + 1 + 1, 6, none⟩ (.int .i64 0)).setCell ⟨W.heap.size + 1 + 1, 7, none⟩ (.slice none 0 0))).cell? ⟨W.heap.size + 1 + 1, 7, none⟩ = some (.slice none 0 0) := cell_of_row _ _ 7 _ _ _ yq_.out
  go_wp2
  refine bodyPost_ret (v := .tuple #[.agg #[.int .i64 i0, .slice d1 m1 k1, .slice d2 m2 k2], .agg #[.int .i64 0, .int .i64 0, .int .i64 0, .int .i64 0, .int .i64 0, .int .i64 0, .int .i64 0, .slice none 0 0], .bool false]) (by simp [results, go_sem, z0_, z1_, z2_, y0_, y1_, y2_, y3_, y4_, y5_, y6_, y7_]) rfl ⟨_, _, _, rfl, ?_, ?_⟩
  · exact OwU.wide (lo := (W.heap.size + 1 + 1 + 1)) (by omega) (by simp only [World.size_setCell]; omega) (OwU.keep (chg_one _ _ _ _) (by omega) (OwU.keep (chg_one _ _ _ _) (by omega) (OwU.keep (chg_one _ _ _ _) (by omega) (OwU.keep (chg_one _ _ _ _) (by omega) (OwU.keep (chg_one _ _ _ _) (by omega) (OwU.keep (chg_one _ _ _ _) (by omega) (OwU.keep (chg_one _ _ _ _) (by omega) (OwU.keep (chg_one _ _ _ _) (by omega) (OwU.keep (chg_one _ _ _ _) (by omega) (OwU.keep (chg_one _ _ _ _) (by omega) (OwU.keep (chg_one _ _ _ _) (by omega) (OwU.app (ps := [own shB (.slice d1 m1 k1) xs, own shB (.slice d2 m2 k2) ys]) (qs := [own shI (.slice none 0 0) ([] : List Int)]) (m := w1.heap.size) (hi := w1.heap.size) (by omega) (Nat.le_refl _) oC20_.out (OwU.one owL_nil)))))))))))))
  · exact (gby_setnew (gby_setnew (gby_setnew (gby_setnew (gby_setnew (gby_setnew (gby_setnew (gby_setnew (gby_setnew (gby_setnew (gby_setnew G21_.out _ (by dsimp only; omega) _) _ (by dsimp only; omega) _) _ (by dsimp only; omega) _) _ (by dsimp only; omega) _) _ (by dsimp only; omega) _) _ (by dsimp only; omega) _) _ (by dsimp only; omega) _) _ (by dsimp only; omega) _) _ (by dsimp only; omega) _) _ (by dsimp only; omega) _) _ (by dsimp only; omega) _)

set_option maxRecDepth 8000 in
set_option maxHeartbeats 4000000 in
theorem implRaise_bad (W : World) (i0 : Int) (v1 v2 : Value) (xs ys : List Bool) (H1 : RdL shB W v1 xs) (H2 : RdL shB W v2 ys) (hl1 : szL shB xs ≤ 1048576) (hl2 : szL shB ys ≤ 1048576) (id k : Int) (hb : ¬ VCall i0 xs ys id k) : Calls Try.prog 14 #[vVectors i0 v1 v2, .int .i64 id, .int .i64 k] W (ResIRaiseVector i0 xs ys 0 0 0 0 0 0 0 [] false W) := by
  have HOK := Lib.hid hb
  clear hb
  have H1_ := Lib.hid H1
  have H2_ := Lib.hid H2
  obtain ⟨a1, n1, c1, rfl⟩ := RdL.form H1
  obtain ⟨a2, n2, c2, rfl⟩ := RdL.form H2
  clear H1 H2
  unfold vVectors
  go_enter Try.func14, Try.ntmps14
  have rA1_ := Lib.hid (show ((((W.alloc (.cells #[.int .i64 i0, .slice a1 n1 c1, .slice a2 n2 c2] 26)).alloc (.cells #[.int .i64 0, .slice none 0 0, .slice none 0 0] 26)).alloc (.cells #[.int .i64 0, .int .i64 0, .int .i64 0, .int .i64 0, .int .i64 0, .int .i64 0, .int .i64 0, .slice none 0 0] 29))).heap[W.heap.size]? = some (.cells #[.int .i64 i0, .slice a1 n1 c1, .slice a2 n2 c2] 26 (0, 0)) from by rw [heap_alloc_old _ _ (by simp only [World.size_alloc]; omega)]; rw [heap_alloc_old _ _ (by simp only [World.size_alloc]; omega)]; exact heap_alloc_new _ _)
  have rR2_ := Lib.hid (show ((((W.alloc (.cells #[.int .i64 i0, .slice a1 n1 c1, .slice a2 n2 c2] 26)).alloc (.cells #[.int .i64 0, .slice none 0 0, .slice none 0 0] 26)).alloc (.cells #[.int .i64 0, .int .i64 0, .int .i64 0, .int .i64 0, .int .i64 0, .int .i64 0, .int .i64 0, .slice none 0 0] 29))).heap[W.heap.size + 1]? = some (.cells #[.int .i64 0, .slice none 0 0, .slice none 0 0] 26 (0, 0)) from by rw [heap_alloc_old _ _ (by simp only [World.size_alloc]; omega)]; exact heap_pair _ _ _)
  have rQ3_ := Lib.hid (show ((((W.alloc (.cells #[.int .i64 i0, .slice a1 n1 c1, .slice a2 n2 c2] 26)).alloc (.cells #[.int .i64 0, .slice none 0 0, .slice none 0 0] 26)).alloc (.cells #[.int .i64 0, .int .i64 0, .int .i64 0, .int .i64 0, .int .i64 0, .int .i64 0, .int .i64 0, .slice none 0 0] 29))).heap[W.heap.size + 1 + 1]? = some (.cells #[.int .i64 0, .int .i64 0, .int .i64 0, .int .i64 0, .int .i64 0, .int .i64 0, .int .i64 0, .slice none 0 0] 29 (0, 0)) from by exact heap_trip _ _ _ _)
  have G4_ := Lib.hid (show (W).grownBy ((((W.alloc (.cells #[.int .i64 i0, .slice a1 n1 c1, .slice a2 n2 c2] 26)).alloc (.cells #[.int .i64 0, .slice none 0 0, .slice none 0 0] 26)).alloc (.cells #[.int .i64 0, .int .i64 0, .int .i64 0, .int .i64 0, .int .i64 0, .int .i64 0, .int .i64 0, .slice none 0 0] 29))) none from (gby_alloc (gby_alloc (gby_alloc (gby_refl _ _) _) _) _))
  have A_0_ : ((((W.alloc (.cells #[.int .i64 i0, .slice a1 n1 c1, .slice a2 n2 c2] 26)).alloc (.cells #[.int .i64 0, .slice none 0 0, .slice none 0 0] 26)).alloc (.cells #[.int .i64 0, .int .i64 0, .int .i64 0, .int .i64 0, .int .i64 0, .int .i64 0, .int .i64 0, .slice none 0 0] 29))).cell? ⟨W.heap.size, 0, none⟩ = some (.int .i64 i0) := cell_of_row _ _ 0 _ _ _ rA1_.out
  have A_1_ : ((((W.alloc (.cells #[.int .i64 i0, .slice a1 n1 c1, .slice a2 n2 c2] 26)).alloc (.cells #[.int .i64 0, .slice none 0 0, .slice none 0 0] 26)).alloc (.cells #[.int .i64 0, .int .i64 0, .int .i64 0, .int .i64 0, .int .i64 0, .int .i64 0, .int .i64 0, .slice none 0 0] 29))).cell? ⟨W.heap.size, 1, none⟩ = some (.slice a1 n1 c1) := cell_of_row _ _ 1 _ _ _ rA1_.out
  have A_2_ : ((((W.alloc (.cells #[.int .i64 i0, .slice a1 n1 c1, .slice a2 n2 c2] 26)).alloc (.cells #[.int .i64 0, .slice none 0 0, .slice none 0 0] 26)).alloc (.cells #[.int .i64 0, .int .i64 0, .int .i64 0, .int .i64 0, .int .i64 0, .int .i64 0, .int .i64 0, .slice none 0 0] 29))).cell? ⟨W.heap.size, 2, none⟩ = some (.slice a2 n2 c2) := cell_of_row _ _ 2 _ _ _ rA1_.out
  have R_0_ : ((((W.alloc (.cells #[.int .i64 i0, .slice a1 n1 c1, .slice a2 n2 c2] 26)).alloc (.cells #[.int .i64 0, .slice none 0 0, .slice none 0 0] 26)).alloc (.cells #[.int .i64 0, .int .i64 0, .int .i64 0, .int .i64 0, .int .i64 0, .int .i64 0, .int .i64 0, .slice none 0 0] 29))).cell? ⟨W.heap.size + 1, 0, none⟩ = some (.int .i64 0) := cell_of_row _ _ 0 _ _ _ rR2_.out
  have R_1_ : ((((W.alloc (.cells #[.int .i64 i0, .slice a1 n1 c1, .slice a2 n2 c2] 26)).alloc (.cells #[.int .i64 0, .slice none 0 0, .slice none 0 0] 26)).alloc (.cells #[.int .i64 0, .int .i64 0, .int .i64 0, .int .i64 0, .int .i64 0, .int .i64 0, .int .i64 0, .slice none 0 0] 29))).cell? ⟨W.heap.size + 1, 1, none⟩ = some (.slice none 0 0) := cell_of_row _ _ 1 _ _ _ rR2_.out
  have R_2_ : ((((W.alloc (.cells #[.int .i64 i0, .slice a1 n1 c1, .slice a2 n2 c2] 26)).alloc (.cells #[.int .i64 0, .slice none 0 0, .slice none 0 0] 26)).alloc (.cells #[.int .i64 0, .int .i64 0, .int .i64 0, .int .i64 0, .int .i64 0, .int .i64 0, .int .i64 0, .slice none 0 0] 29))).cell? ⟨W.heap.size + 1, 2, none⟩ = some (.slice none 0 0) := cell_of_row _ _ 2 _ _ _ rR2_.out
  have Q_0_ : ((((W.alloc (.cells #[.int .i64 i0, .slice a1 n1 c1, .slice a2 n2 c2] 26)).alloc (.cells #[.int .i64 0, .slice none 0 0, .slice none 0 0] 26)).alloc (.cells #[.int .i64 0, .int .i64 0, .int .i64 0, .int .i64 0, .int .i64 0, .int .i64 0, .int .i64 0, .slice none 0 0] 29))).cell? ⟨W.heap.size + 1 + 1, 0, none⟩ = some (.int .i64 0) := cell_of_row _ _ 0 _ _ _ rQ3_.out
  have Q_1_ : ((((W.alloc (.cells #[.int .i64 i0, .slice a1 n1 c1, .slice a2 n2 c2] 26)).alloc (.cells #[.int .i64 0, .slice none 0 0, .slice none 0 0] 26)).alloc (.cells #[.int .i64 0, .int .i64 0, .int .i64 0, .int .i64 0, .int .i64 0, .int .i64 0, .int .i64 0, .slice none 0 0] 29))).cell? ⟨W.heap.size + 1 + 1, 1, none⟩ = some (.int .i64 0) := cell_of_row _ _ 1 _ _ _ rQ3_.out
  have Q_2_ : ((((W.alloc (.cells #[.int .i64 i0, .slice a1 n1 c1, .slice a2 n2 c2] 26)).alloc (.cells #[.int .i64 0, .slice none 0 0, .slice none 0 0] 26)).alloc (.cells #[.int .i64 0, .int .i64 0, .int .i64 0, .int .i64 0, .int .i64 0, .int .i64 0, .int .i64 0, .slice none 0 0] 29))).cell? ⟨W.heap.size + 1 + 1, 2, none⟩ = some (.int .i64 0) := cell_of_row _ _ 2 _ _ _ rQ3_.out
  have Q_3_ : ((((W.alloc (.cells #[.int .i64 i0, .slice a1 n1 c1, .slice a2 n2 c2] 26)).alloc (.cells #[.int .i64 0, .slice none 0 0, .slice none 0 0] 26)).alloc (.cells #[.int .i64 0, .int .i64 0, .int .i64 0, .int .i64 0, .int .i64 0, .int .i64 0, .int .i64 0, .slice none 0 0] 29))).cell? ⟨W.heap.size + 1 + 1, 3, none⟩ = some (.int .i64 0) := cell_of_row _ _ 3 _ _ _ rQ3_.out
  have Q_4_ : ((((W.alloc (.cells #[.int .i64 i0, .slice a1 n1 c1, .slice a2 n2 c2] 26)).alloc (.cells #[.int .i64 0, .slice none 0 0, .slice none 0 0] 26)).alloc (.cells #[.int .i64 0, .int .i64 0, .int .i64 0, .int .i64 0, .int .i64 0, .int .i64 0, .int .i64 0, .slice none 0 0] 29))).cell? ⟨W.heap.size + 1 + 1, 4, none⟩ = some (.int .i64 0) := cell_of_row _ _ 4 _ _ _ rQ3_.out
  have Q_5_ : ((((W.alloc (.cells #[.int .i64 i0, .slice a1 n1 c1, .slice a2 n2 c2] 26)).alloc (.cells #[.int .i64 0, .slice none 0 0, .slice none 0 0] 26)).alloc (.cells #[.int .i64 0, .int .i64 0, .int .i64 0, .int .i64 0, .int .i64 0, .int .i64 0, .int .i64 0, .slice none 0 0] 29))).cell? ⟨W.heap.size + 1 + 1, 5, none⟩ = some (.int .i64 0) := cell_of_row _ _ 5 _ _ _ rQ3_.out
  have Q_6_ : ((((W.alloc (.cells #[.int .i64 i0, .slice a1 n1 c1, .slice a2 n2 c2] 26)).alloc (.cells #[.int .i64 0, .slice none 0 0, .slice none 0 0] 26)).alloc (.cells #[.int .i64 0, .int .i64 0, .int .i64 0, .int .i64 0, .int .i64 0, .int .i64 0, .int .i64 0, .slice none 0 0] 29))).cell? ⟨W.heap.size + 1 + 1, 6, none⟩ = some (.int .i64 0) := cell_of_row _ _ 6 _ _ _ rQ3_.out
  have Q_7_ : ((((W.alloc (.cells #[.int .i64 i0, .slice a1 n1 c1, .slice a2 n2 c2] 26)).alloc (.cells #[.int .i64 0, .slice none 0 0, .slice none 0 0] 26)).alloc (.cells #[.int .i64 0, .int .i64 0, .int .i64 0, .int .i64 0, .int .i64 0, .int .i64 0, .int .i64 0, .slice none 0 0] 29))).cell? ⟨W.heap.size + 1 + 1, 7, none⟩ = some (.slice none 0 0) := cell_of_row _ _ 7 _ _ _ rQ3_.out
  go_wp2_with fail
  go_at_call 63
  refine (copiedVec_d _ i0 _ _ xs ys (H1_.out.grow G4_.out) (H2_.out.grow G4_.out) hl1 hl2).mono ?_
  rintro e w1 ⟨x1, x2, rfl, o, g⟩
  have sz_ := g.size
  try simp only [World.size_alloc] at sz_ o
  clear A_0_ A_1_ A_2_ R_0_ R_1_ R_2_ Q_0_ Q_1_ Q_2_ Q_3_ Q_4_ Q_5_ Q_6_ Q_7_
  have rA5_ := Lib.hid (show (w1).heap[W.heap.size]? = some (.cells #[.int .i64 i0, .slice a1 n1 c1, .slice a2 n2 c2] 26 (0, 0)) from row_held g rA1_.out)
  clear rA1_
  have rR6_ := Lib.hid (show (w1).heap[W.heap.size + 1]? = some (.cells #[.int .i64 0, .slice none 0 0, .slice none 0 0] 26 (0, 0)) from row_held g rR2_.out)
  clear rR2_
  have rQ7_ := Lib.hid (show (w1).heap[W.heap.size + 1 + 1]? = some (.cells #[.int .i64 0, .int .i64 0, .int .i64 0, .int .i64 0, .int .i64 0, .int .i64 0, .int .i64 0, .slice none 0 0] 29 (0, 0)) from row_held g rQ3_.out)
  clear rQ3_
  have G8_ := Lib.hid (show (W).grownBy (w1) none from gby_trans G4_.out g)
  clear g
  obtain ⟨d1, m1, k1, hv_⟩ := RdL.form (OwU.rd o)
  subst hv_
  obtain ⟨d2, m2, k2, hv_⟩ := RdL.form (OwU.rd (OwU.tail o))
  subst hv_
  unfold vVectors
  have oC9_ := Lib.hid (show OwU (w1) ((W.heap.size + 1 + 1 + 1)) (w1.heap.size) [] [own shB (.slice d1 m1 k1) xs, own shB (.slice d2 m2 k2) ys] from o)
  clear o
  have al_ : (w1).grownBy ((w1).alloc (.cells #[.int .i32 0, .int .u32 0, .int .i64 i0, .slice d1 m1 k1, .slice d2 m2 k2] 92)) none := gby_alloc (gby_refl _ _) _
  have rA10_ := Lib.hid (show ((w1.alloc (.cells #[.int .i32 0, .int .u32 0, .int .i64 i0, .slice d1 m1 k1, .slice d2 m2 k2] 92))).heap[W.heap.size]? = some (.cells #[.int .i64 i0, .slice a1 n1 c1, .slice a2 n2 c2] 26 (0, 0)) from row_held al_ rA5_.out)
  clear rA5_
  have rR11_ := Lib.hid (show ((w1.alloc (.cells #[.int .i32 0, .int .u32 0, .int .i64 i0, .slice d1 m1 k1, .slice d2 m2 k2] 92))).heap[W.heap.size + 1]? = some (.cells #[.int .i64 0, .slice none 0 0, .slice none 0 0] 26 (0, 0)) from row_held al_ rR6_.out)
  clear rR6_
  have rQ12_ := Lib.hid (show ((w1.alloc (.cells #[.int .i32 0, .int .u32 0, .int .i64 i0, .slice d1 m1 k1, .slice d2 m2 k2] 92))).heap[W.heap.size + 1 + 1]? = some (.cells #[.int .i64 0, .int .i64 0, .int .i64 0, .int .i64 0, .int .i64 0, .int .i64 0, .int .i64 0, .slice none 0 0] 29 (0, 0)) from row_held al_ rQ7_.out)
  clear rQ7_
  have oC13_ := Lib.hid (show OwU ((w1.alloc (.cells #[.int .i32 0, .int .u32 0, .int .i64 i0, .slice d1 m1 k1, .slice d2 m2 k2] 92))) ((W.heap.size + 1 + 1 + 1)) (w1.heap.size) [] [own shB (.slice d1 m1 k1) xs, own shB (.slice d2 m2 k2) ys] from OwU.grow oC9_.out al_)
  clear oC9_
  have G14_ := Lib.hid (show (W).grownBy ((w1.alloc (.cells #[.int .i32 0, .int .u32 0, .int .i64 i0, .slice d1 m1 k1, .slice d2 m2 k2] 92))) none from gby_trans G8_.out al_)
  have rX15_ := Lib.hid (show ((w1.alloc (.cells #[.int .i32 0, .int .u32 0, .int .i64 i0, .slice d1 m1 k1, .slice d2 m2 k2] 92))).heap[w1.heap.size]? = some (.cells #[.int .i32 0, .int .u32 0, .int .i64 i0, .slice d1 m1 k1, .slice d2 m2 k2] 92 (0, 0)) from by first | exact heap_alloc_new _ _ | exact heap_pair _ _ _ | exact heap_trip _ _ _ _)
  clear al_
  have A_0_ : ((w1.alloc (.cells #[.int .i32 0, .int .u32 0, .int .i64 i0, .slice d1 m1 k1, .slice d2 m2 k2] 92))).cell? ⟨W.heap.size, 0, none⟩ = some (.int .i64 i0) := cell_of_row _ _ 0 _ _ _ rA10_.out
  have A_1_ : ((w1.alloc (.cells #[.int .i32 0, .int .u32 0, .int .i64 i0, .slice d1 m1 k1, .slice d2 m2 k2] 92))).cell? ⟨W.heap.size, 1, none⟩ = some (.slice a1 n1 c1) := cell_of_row _ _ 1 _ _ _ rA10_.out
  have A_2_ : ((w1.alloc (.cells #[.int .i32 0, .int .u32 0, .int .i64 i0, .slice d1 m1 k1, .slice d2 m2 k2] 92))).cell? ⟨W.heap.size, 2, none⟩ = some (.slice a2 n2 c2) := cell_of_row _ _ 2 _ _ _ rA10_.out
  have R_0_ : ((w1.alloc (.cells #[.int .i32 0, .int .u32 0, .int .i64 i0, .slice d1 m1 k1, .slice d2 m2 k2] 92))).cell? ⟨W.heap.size + 1, 0, none⟩ = some (.int .i64 0) := cell_of_row _ _ 0 _ _ _ rR11_.out
  have R_1_ : ((w1.alloc (.cells #[.int .i32 0, .int .u32 0, .int .i64 i0, .slice d1 m1 k1, .slice d2 m2 k2] 92))).cell? ⟨W.heap.size + 1, 1, none⟩ = some (.slice none 0 0) := cell_of_row _ _ 1 _ _ _ rR11_.out
  have R_2_ : ((w1.alloc (.cells #[.int .i32 0, .int .u32 0, .int .i64 i0, .slice d1 m1 k1, .slice d2 m2 k2] 92))).cell? ⟨W.heap.size + 1, 2, none⟩ = some (.slice none 0 0) := cell_of_row _ _ 2 _ _ _ rR11_.out
  have Q_0_ : ((w1.alloc (.cells #[.int .i32 0, .int .u32 0, .int .i64 i0, .slice d1 m1 k1, .slice d2 m2 k2] 92))).cell? ⟨W.heap.size + 1 + 1, 0, none⟩ = some (.int .i64 0) := cell_of_row _ _ 0 _ _ _ rQ12_.out
  have Q_1_ : ((w1.alloc (.cells #[.int .i32 0, .int .u32 0, .int .i64 i0, .slice d1 m1 k1, .slice d2 m2 k2] 92))).cell? ⟨W.heap.size + 1 + 1, 1, none⟩ = some (.int .i64 0) := cell_of_row _ _ 1 _ _ _ rQ12_.out
  have Q_2_ : ((w1.alloc (.cells #[.int .i32 0, .int .u32 0, .int .i64 i0, .slice d1 m1 k1, .slice d2 m2 k2] 92))).cell? ⟨W.heap.size + 1 + 1, 2, none⟩ = some (.int .i64 0) := cell_of_row _ _ 2 _ _ _ rQ12_.out
  have Q_3_ : ((w1.alloc (.cells #[.int .i32 0, .int .u32 0, .int .i64 i0, .slice d1 m1 k1, .slice d2 m2 k2] 92))).cell? ⟨W.heap.size + 1 + 1, 3, none⟩ = some (.int .i64 0) := cell_of_row _ _ 3 _ _ _ rQ12_.out
  have Q_4_ : ((w1.alloc (.cells #[.int .i32 0, .int .u32 0, .int .i64 i0, .slice d1 m1 k1, .slice d2 m2 k2] 92))).cell? ⟨W.heap.size + 1 + 1, 4, none⟩ = some (.int .i64 0) := cell_of_row _ _ 4 _ _ _ rQ12_.out
  have Q_5_ : ((w1.alloc (.cells #[.int .i32 0, .int .u32 0, .int .i64 i0, .slice d1 m1 k1, .slice d2 m2 k2] 92))).cell? ⟨W.heap.size + 1 + 1, 5, none⟩ = some (.int .i64 0) := cell_of_row _ _ 5 _ _ _ rQ12_.out
  have Q_6_ : ((w1.alloc (.cells #[.int .i32 0, .int .u32 0, .int .i64 i0, .slice d1 m1 k1, .slice d2 m2 k2] 92))).cell? ⟨W.heap.size + 1 + 1, 6, none⟩ = some (.int .i64 0) := cell_of_row _ _ 6 _ _ _ rQ12_.out
  have Q_7_ : ((w1.alloc (.cells #[.int .i32 0, .int .u32 0, .int .i64 i0, .slice d1 m1 k1, .slice d2 m2 k2] 92))).cell? ⟨W.heap.size + 1 + 1, 7, none⟩ = some (.slice none 0 0) := cell_of_row _ _ 7 _ _ _ rQ12_.out
  have X_0_ : ((w1.alloc (.cells #[.int .i32 0, .int .u32 0, .int .i64 i0, .slice d1 m1 k1, .slice d2 m2 k2] 92))).cell? ⟨w1.heap.size, 0, none⟩ = some (.int .i32 0) := cell_of_row _ _ 0 _ _ _ rX15_.out
  have X_1_ : ((w1.alloc (.cells #[.int .i32 0, .int .u32 0, .int .i64 i0, .slice d1 m1 k1, .slice d2 m2 k2] 92))).cell? ⟨w1.heap.size, 1, none⟩ = some (.int .u32 0) := cell_of_row _ _ 1 _ _ _ rX15_.out
  have X_2_ : ((w1.alloc (.cells #[.int .i32 0, .int .u32 0, .int .i64 i0, .slice d1 m1 k1, .slice d2 m2 k2] 92))).cell? ⟨w1.heap.size, 2, none⟩ = some (.int .i64 i0) := cell_of_row _ _ 2 _ _ _ rX15_.out
  have X_3_ : ((w1.alloc (.cells #[.int .i32 0, .int .u32 0, .int .i64 i0, .slice d1 m1 k1, .slice d2 m2 k2] 92))).cell? ⟨w1.heap.size, 3, none⟩ = some (.slice d1 m1 k1) := cell_of_row _ _ 3 _ _ _ rX15_.out
  have X_4_ : ((w1.alloc (.cells #[.int .i32 0, .int .u32 0, .int .i64 i0, .slice d1 m1 k1, .slice d2 m2 k2] 92))).cell? ⟨w1.heap.size, 4, none⟩ = some (.slice d2 m2 k2) := cell_of_row _ _ 4 _ _ _ rX15_.out
  go_wp2_with fail
  go_at_call 64
  refine (((implVCall _ i0 _ _ xs ys id k (H1_.out.grow G14_.out) (H2_.out.grow G14_.out)).mono (bpost_no HOK.out))).mono ?_
  rintro e w2 ⟨rfl, g⟩
  have szw2 := g.size
  try simp only [World.size_alloc] at szw2
  try simp only [World.size_setCell] at szw2
  clear A_0_ A_1_ A_2_ R_0_ R_1_ R_2_ Q_0_ Q_1_ Q_2_ Q_3_ Q_4_ Q_5_ Q_6_ Q_7_ X_0_ X_1_ X_2_ X_3_ X_4_
  have rA16_ := Lib.hid (show (w2).heap[W.heap.size]? = some (.cells #[.int .i64 i0, .slice a1 n1 c1, .slice a2 n2 c2] 26 (0, 0)) from row_held g rA10_.out)
  clear rA10_
  have rR17_ := Lib.hid (show (w2).heap[W.heap.size + 1]? = some (.cells #[.int .i64 0, .slice none 0 0, .slice none 0 0] 26 (0, 0)) from row_held g rR11_.out)
  clear rR11_
  have rQ18_ := Lib.hid (show (w2).heap[W.heap.size + 1 + 1]? = some (.cells #[.int .i64 0, .int .i64 0, .int .i64 0, .int .i64 0, .int .i64 0, .int .i64 0, .int .i64 0, .slice none 0 0] 29 (0, 0)) from row_held g rQ12_.out)
  clear rQ12_
  have rX19_ := Lib.hid (show (w2).heap[w1.heap.size]? = some (.cells #[.int .i32 0, .int .u32 0, .int .i64 i0, .slice d1 m1 k1, .slice d2 m2 k2] 92 (0, 0)) from row_held g rX15_.out)
  clear rX15_
  have oC20_ := Lib.hid (show OwU (w2) ((W.heap.size + 1 + 1 + 1)) (w1.heap.size) [] [own shB (.slice d1 m1 k1) xs, own shB (.slice d2 m2 k2) ys] from OwU.grow oC13_.out g)
  clear oC13_
  have G21_ := Lib.hid (show (W).grownBy (w2) none from gby_trans G14_.out g)
  clear g
  have A_0_ : (w2).cell? ⟨W.heap.size, 0, none⟩ = some (.int .i64 i0) := cell_of_row _ _ 0 _ _ _ rA16_.out
  have A_1_ : (w2).cell? ⟨W.heap.size, 1, none⟩ = some (.slice a1 n1 c1) := cell_of_row _ _ 1 _ _ _ rA16_.out
  have A_2_ : (w2).cell? ⟨W.heap.size, 2, none⟩ = some (.slice a2 n2 c2) := cell_of_row _ _ 2 _ _ _ rA16_.out
  have R_0_ : (w2).cell? ⟨W.heap.size + 1, 0, none⟩ = some (.int .i64 0) := cell_of_row _ _ 0 _ _ _ rR17_.out
  have R_1_ : (w2).cell? ⟨W.heap.size + 1, 1, none⟩ = some (.slice none 0 0) := cell_of_row _ _ 1 _ _ _ rR17_.out
  have R_2_ : (w2).cell? ⟨W.heap.size + 1, 2, none⟩ = some (.slice none 0 0) := cell_of_row _ _ 2 _ _ _ rR17_.out
  have Q_0_ : (w2).cell? ⟨W.heap.size + 1 + 1, 0, none⟩ = some (.int .i64 0) := cell_of_row _ _ 0 _ _ _ rQ18_.out
  have Q_1_ : (w2).cell? ⟨W.heap.size + 1 + 1, 1, none⟩ = some (.int .i64 0) := cell_of_row _ _ 1 _ _ _ rQ18_.out
  have Q_2_ : (w2).cell? ⟨W.heap.size + 1 + 1, 2, none⟩ = some (.int .i64 0) := cell_of_row _ _ 2 _ _ _ rQ18_.out
  have Q_3_ : (w2).cell? ⟨W.heap.size + 1 + 1, 3, none⟩ = some (.int .i64 0) := cell_of_row _ _ 3 _ _ _ rQ18_.out
  have Q_4_ : (w2).cell? ⟨W.heap.size + 1 + 1, 4, none⟩ = some (.int .i64 0) := cell_of_row _ _ 4 _ _ _ rQ18_.out
  have Q_5_ : (w2).cell? ⟨W.heap.size + 1 + 1, 5, none⟩ = some (.int .i64 0) := cell_of_row _ _ 5 _ _ _ rQ18_.out
  have Q_6_ : (w2).cell? ⟨W.heap.size + 1 + 1, 6, none⟩ = some (.int .i64 0) := cell_of_row _ _ 6 _ _ _ rQ18_.out
  have Q_7_ : (w2).cell? ⟨W.heap.size + 1 + 1, 7, none⟩ = some (.slice none 0 0) := cell_of_row _ _ 7 _ _ _ rQ18_.out
  have X_0_ : (w2).cell? ⟨w1.heap.size, 0, none⟩ = some (.int .i32 0) := cell_of_row _ _ 0 _ _ _ rX19_.out
  have X_1_ : (w2).cell? ⟨w1.heap.size, 1, none⟩ = some (.int .u32 0) := cell_of_row _ _ 1 _ _ _ rX19_.out
  have X_2_ : (w2).cell? ⟨w1.heap.size, 2, none⟩ = some (.int .i64 i0) := cell_of_row _ _ 2 _ _ _ rX19_.out
  have X_3_ : (w2).cell? ⟨w1.heap.size, 3, none⟩ = some (.slice d1 m1 k1) := cell_of_row _ _ 3 _ _ _ rX19_.out
  have X_4_ : (w2).cell? ⟨w1.heap.size, 4, none⟩ = some (.slice d2 m2 k2) := cell_of_row _ _ 4 _ _ _ rX19_.out
  clear A_0_ A_1_ A_2_ R_0_ R_1_ R_2_ Q_0_ Q_1_ Q_2_ Q_3_ Q_4_ Q_5_ Q_6_ Q_7_ X_0_ X_1_ X_2_ X_3_ X_4_
  have A_0_ : (w2).cell? ⟨W.heap.size, 0, none⟩ = some (.int .i64 i0) := cell_of_row _ _ 0 _ _ _ rA16_.out
  have A_1_ : (w2).cell? ⟨W.heap.size, 1, none⟩ = some (.slice a1 n1 c1) := cell_of_row _ _ 1 _ _ _ rA16_.out
  have A_2_ : (w2).cell? ⟨W.heap.size, 2, none⟩ = some (.slice a2 n2 c2) := cell_of_row _ _ 2 _ _ _ rA16_.out
  have R_0_ : (w2).cell? ⟨W.heap.size + 1, 0, none⟩ = some (.int .i64 0) := cell_of_row _ _ 0 _ _ _ rR17_.out
  have R_1_ : (w2).cell? ⟨W.heap.size + 1, 1, none⟩ = some (.slice none 0 0) := cell_of_row _ _ 1 _ _ _ rR17_.out
  have R_2_ : (w2).cell? ⟨W.heap.size + 1, 2, none⟩ = some (.slice none 0 0) := cell_of_row _ _ 2 _ _ _ rR17_.out
  have Rf0_ : (w2).frozen? ⟨W.heap.size + 1, 0, none⟩ = false := frozen_of_row _ _ 0 _ _ rR17_.out
  have Rf1_ : (w2).frozen? ⟨W.heap.size + 1, 1, none⟩ = false := frozen_of_row _ _ 1 _ _ rR17_.out
  have Rf2_ : (w2).frozen? ⟨W.heap.size + 1, 2, none⟩ = false := frozen_of_row _ _ 2 _ _ rR17_.out
  have Q_0_ : (w2).cell? ⟨W.heap.size + 1 + 1, 0, none⟩ = some (.int .i64 0) := cell_of_row _ _ 0 _ _ _ rQ18_.out
  have Q_1_ : (w2).cell? ⟨W.heap.size + 1 + 1, 1, none⟩ = some (.int .i64 0) := cell_of_row _ _ 1 _ _ _ rQ18_.out
  have Q_2_ : (w2).cell? ⟨W.heap.size + 1 + 1, 2, none⟩ = some (.int .i64 0) := cell_of_row _ _ 2 _ _ _ rQ18_.out
  have Q_3_ : (w2).cell? ⟨W.heap.size + 1 + 1, 3, none⟩ = some (.int .i64 0) := cell_of_row _ _ 3 _ _ _ rQ18_.out
  have Q_4_ : (w2).cell? ⟨W.heap.size + 1 + 1, 4, none⟩ = some (.int .i64 0) := cell_of_row _ _ 4 _ _ _ rQ18_.out
  have Q_5_ : (w2).cell? ⟨W.heap.size + 1 + 1, 5, none⟩ = some (.int .i64 0) := cell_of_row _ _ 5 _ _ _ rQ18_.out
  have Q_6_ : (w2).cell? ⟨W.heap.size + 1 + 1, 6, none⟩ = some (.int .i64 0) := cell_of_row _ _ 6 _ _ _ rQ18_.out
  have Q_7_ : (w2).cell? ⟨W.heap.size + 1 + 1, 7, none⟩ = some (.slice none 0 0) := cell_of_row _ _ 7 _ _ _ rQ18_.out
  have Qf0_ : (w2).frozen? ⟨W.heap.size + 1 + 1, 0, none⟩ = false := frozen_of_row _ _ 0 _ _ rQ18_.out
  have Qf1_ : (w2).frozen? ⟨W.heap.size + 1 + 1, 1, none⟩ = false := frozen_of_row _ _ 1 _ _ rQ18_.out
  have Qf2_ : (w2).frozen? ⟨W.heap.size + 1 + 1, 2, none⟩ = false := frozen_of_row _ _ 2 _ _ rQ18_.out
  have Qf3_ : (w2).frozen? ⟨W.heap.size + 1 + 1, 3, none⟩ = false := frozen_of_row _ _ 3 _ _ rQ18_.out
  have Qf4_ : (w2).frozen? ⟨W.heap.size + 1 + 1, 4, none⟩ = false := frozen_of_row _ _ 4 _ _ rQ18_.out
  have Qf5_ : (w2).frozen? ⟨W.heap.size + 1 + 1, 5, none⟩ = false := frozen_of_row _ _ 5 _ _ rQ18_.out
  have Qf6_ : (w2).frozen? ⟨W.heap.size + 1 + 1, 6, none⟩ = false := frozen_of_row _ _ 6 _ _ rQ18_.out
  have Qf7_ : (w2).frozen? ⟨W.heap.size + 1 + 1, 7, none⟩ = false := frozen_of_row _ _ 7 _ _ rQ18_.out
  have X_0_ : (w2).cell? ⟨w1.heap.size, 0, none⟩ = some (.int .i32 0) := cell_of_row _ _ 0 _ _ _ rX19_.out
  have X_1_ : (w2).cell? ⟨w1.heap.size, 1, none⟩ = some (.int .u32 0) := cell_of_row _ _ 1 _ _ _ rX19_.out
  have X_2_ : (w2).cell? ⟨w1.heap.size, 2, none⟩ = some (.int .i64 i0) := cell_of_row _ _ 2 _ _ _ rX19_.out
  have X_3_ : (w2).cell? ⟨w1.heap.size, 3, none⟩ = some (.slice d1 m1 k1) := cell_of_row _ _ 3 _ _ _ rX19_.out
  have X_4_ : (w2).cell? ⟨w1.heap.size, 4, none⟩ = some (.slice d2 m2 k2) := cell_of_row _ _ 4 _ _ _ rX19_.out
  have yr_ := Lib.hid (show ((((((((((((w2.setCell ⟨W.heap.size + 1, 0, none⟩ (.int .i64 i0)).setCell ⟨W.heap.size + 1, 1, none⟩ (.slice d1 m1 k1)).setCell ⟨W.heap.size + 1, 2, none⟩ (.slice d2 m2 k2)).setCell ⟨W.heap.size + 1 + 1, 0, none⟩ (.int .i64 0)).setCell ⟨W.heap.size + 1 + 1, 1, none⟩ (.int .i64 0)).setCell ⟨W.heap.size + 1 + 1, 2, none⟩ (.int .i64 0)).setCell ⟨W.heap.size + 1 + 1, 3, none⟩ (.int .i64 0)).setCell ⟨W.heap.size + 1 + 1, 4, none⟩ (.int .i64 0)).setCell ⟨W.heap.size + 1 + 1, 5, none⟩ (.int .i64 0)).setCell ⟨W.heap.size + 1 + 1, 6, none⟩ (.int .i64 0)).setCell ⟨W.heap.size + 1 + 1, 7, none⟩ (.slice none 0 0))).heap[W.heap.size + 1]? = some (.cells #[.int .i64 i0, .slice d1 m1 k1, .slice d2 m2 k2] 26 (0, 0)) from (set_far (set_far (set_far (set_far (set_far (set_far (set_far (set_far (heap_setCell_same _ _ 2 _ _ _ (heap_setCell_same _ _ 1 _ _ _ (heap_setCell_same _ _ 0 _ _ _ rR17_.out))) (by dsimp only; omega)) (by dsimp only; omega)) (by dsimp only; omega)) (by dsimp only; omega)) (by dsimp only; omega)) (by dsimp only; omega)) (by dsimp only; omega)) (by dsimp only; omega)))
  have yq_ := Lib.hid (show ((((((((((((w2.setCell ⟨W.heap.size + 1, 0, none⟩ (.int .i64 i0)).setCell ⟨W.heap.size + 1, 1, none⟩ (.slice d1 m1 k1)).setCell ⟨W.heap.size + 1, 2, none⟩ (.slice d2 m2 k2)).setCell ⟨W.heap.size + 1 + 1, 0, none⟩ (.int .i64 0)).setCell ⟨W.heap.size + 1 + 1, 1, none⟩ (.int .i64 0)).setCell ⟨W.heap.size + 1 + 1, 2, none⟩ (.int .i64 0)).setCell ⟨W.heap.size + 1 + 1, 3, none⟩ (.int .i64 0)).setCell ⟨W.heap.size + 1 + 1, 4, none⟩ (.int .i64 0)).setCell ⟨W.heap.size + 1 + 1, 5, none⟩ (.int .i64 0)).setCell ⟨W.heap.size + 1 + 1, 6, none⟩ (.int .i64 0)).setCell ⟨W.heap.size + 1 + 1, 7, none⟩ (.slice none 0 0))).heap[W.heap.size + 1 + 1]? = some (.cells #[.int .i64 0, .int .i64 0, .int .i64 0, .int .i64 0, .int .i64 0, .int .i64 0, .int .i64 0, .slice none 0 0] 29 (0, 0)) from (heap_setCell_same _ _ 7 _ _ _ (heap_setCell_same _ _ 6 _ _ _ (heap_setCell_same _ _ 5 _ _ _ (heap_setCell_same _ _ 4 _ _ _ (heap_setCell_same _ _ 3 _ _ _ (heap_setCell_same _ _ 2 _ _ _ (heap_setCell_same _ _ 1 _ _ _ (heap_setCell_same _ _ 0 _ _ _ (set_far (set_far (set_far rQ18_.out (by dsimp only; omega)) (by dsimp only; omega)) (by dsimp only; omega)))))))))))
  have z0_ : ((((((((((((w2.setCell ⟨W.heap.size + 1, 0, none⟩ (.int .i64 i0)).setCell ⟨W.heap.size + 1, 1, none⟩ (.slice d1 m1 k1)).setCell ⟨W.heap.size + 1, 2, none⟩ (.slice d2 m2 k2)).setCell ⟨W.heap.size + 1 + 1, 0, none⟩ (.int .i64 0)).setCell ⟨W.heap.size + 1 + 1, 1, none⟩ (.int .i64 0)).setCell ⟨W.heap.size + 1 + 1, 2, none⟩ (.int .i64 0)).setCell ⟨W.heap.size + 1 + 1, 3, none⟩ (.int .i64 0)).setCell ⟨W.heap.size + 1 + 1, 4, none⟩ (.int .i64 0)).setCell ⟨W.heap.size + 1 + 1, 5, none⟩ (.int .i64 0)).setCell ⟨W.heap.size + 1 + 1, 6, none⟩ (.int .i64 0)).setCell ⟨W.heap.size + 1 + 1, 7, none⟩ (.slice none 0 0))).cell? ⟨W.heap.size + 1, 0, none⟩ = some (.int .i64 i0) := cell_of_row _ _ 0 _ _ _ yr_.out
  have z1_ : ((((((((((((w2.setCell ⟨W.heap.size + 1, 0, none⟩ (.int .i64 i0)).setCell ⟨W.heap.size + 1, 1, none⟩ (.slice d1 m1 k1)).setCell ⟨W.heap.size + 1, 2, none⟩ (.slice d2 m2 k2)).setCell ⟨W.heap.size + 1 + 1, 0, none⟩ (.int .i64 0)).setCell ⟨W.heap.size + 1 + 1, 1, none⟩ (.int .i64 0)).setCell ⟨W.heap.size + 1 + 1, 2, none⟩ (.int .i64 0)).setCell ⟨W.heap.size + 1 + 1, 3, none⟩ (.int .i64 0)).setCell ⟨W.heap.size + 1 + 1, 4, none⟩ (.int .i64 0)).setCell ⟨W.heap.size + 1 + 1, 5, none⟩ (.int .i64 0)).setCell ⟨W.heap.size + 1 + 1, 6, none⟩ (.int .i64 0)).setCell ⟨W.heap.size + 1 + 1, 7, none⟩ (.slice none 0 0))).cell? ⟨W.heap.size + 1, 1, none⟩ = some (.slice d1 m1 k1) := cell_of_row _ _ 1 _ _ _ yr_.out
  have z2_ : ((((((((((((w2.setCell ⟨W.heap.size + 1, 0, none⟩ (.int .i64 i0)).setCell ⟨W.heap.size + 1, 1, none⟩ (.slice d1 m1 k1)).setCell ⟨W.heap.size + 1, 2, none⟩ (.slice d2 m2 k2)).setCell ⟨W.heap.size + 1 + 1, 0, none⟩ (.int .i64 0)).setCell ⟨W.heap.size + 1 + 1, 1, none⟩ (.int .i64 0)).setCell ⟨W.heap.size + 1 + 1, 2, none⟩ (.int .i64 0)).setCell ⟨W.heap.size + 1 + 1, 3, none⟩ (.int .i64 0)).setCell ⟨W.heap.size + 1 + 1, 4, none⟩ (.int .i64 0)).setCell ⟨W.heap.size + 1 + 1, 5, none⟩ (.int .i64 0)).setCell ⟨W.heap.size + 1 + 1, 6, none⟩ (.int .i64 0)).setCell ⟨W.heap.size + 1 + 1, 7, none⟩ (.slice none 0 0))).cell? ⟨W.heap.size + 1, 2, none⟩ = some (.slice d2 m2 k2) := cell_of_row _ _ 2 _ _ _ yr_.out
  have y0_ : ((((((((((((w2.setCell ⟨W.heap.size + 1, 0, none⟩ (.int .i64 i0)).setCell ⟨W.heap.size + 1, 1, none⟩ (.slice d1 m1 k1)).setCell ⟨W.heap.size + 1, 2, none⟩ (.slice d2 m2 k2)).setCell ⟨W.heap.size + 1 + 1, 0, none⟩ (.int .i64 0)).setCell ⟨W.heap.size + 1 + 1, 1, none⟩ (.int .i64 0)).setCell ⟨W.heap.size + 1 + 1, 2, none⟩ (.int .i64 0)).setCell ⟨W.heap.size + 1 + 1, 3, none⟩ (.int .i64 0)).setCell ⟨W.heap.size + 1 + 1, 4, none⟩ (.int .i64 0)).setCell ⟨W.heap.size + 1 + 1, 5, none⟩ (.int .i64 0)).setCell ⟨W.heap.size + 1 + 1, 6, none⟩ (.int .i64 0)).setCell ⟨W.heap.size + 1 + 1, 7, none⟩ (.slice none 0 0))).cell? ⟨W.heap.size + 1 + 1, 0, none⟩ = some (.int .i64 0) := cell_of_row _ _ 0 _ _ _ yq_.out
  have y1_ : ((((((((((((w2.setCell ⟨W.heap.size + 1, 0, none⟩ (.int .i64 i0)).setCell ⟨W.heap.size + 1, 1, none⟩ (.slice d1 m1 k1)).setCell ⟨W.heap.size + 1, 2, none⟩ (.slice d2 m2 k2)).setCell ⟨W.heap.size + 1 + 1, 0, none⟩ (.int .i64 0)).setCell ⟨W.heap.size + 1 + 1, 1, none⟩ (.int .i64 0)).setCell ⟨W.heap.size + 1 + 1, 2, none⟩ (.int .i64 0)).setCell ⟨W.heap.size + 1 + 1, 3, none⟩ (.int .i64 0)).setCell ⟨W.heap.size + 1 + 1, 4, none⟩ (.int .i64 0)).setCell ⟨W.heap.size + 1 + 1, 5, none⟩ (.int .i64 0)).setCell ⟨W.heap.size + 1 + 1, 6, none⟩ (.int .i64 0)).setCell ⟨W.heap.size + 1 + 1, 7, none⟩ (.slice none 0 0))).cell? ⟨W.heap.size + 1 + 1, 1, none⟩ = some (.int .i64 0) := cell_of_row _ _ 1 _ _ _ yq_.out
  have y2_ : ((((((((((((w2.setCell ⟨W.heap.size + 1, 0, none⟩ (.int .i64 i0)).setCell ⟨W.heap.size + 1, 1, none⟩ (.slice d1 m1 k1)).setCell ⟨W.heap.size + 1, 2, none⟩ (.slice d2 m2 k2)).setCell ⟨W.heap.size + 1 + 1, 0, none⟩ (.int .i64 0)).setCell ⟨W.heap.size + 1 + 1, 1, none⟩ (.int .i64 0)).setCell ⟨W.heap.size + 1 + 1, 2, none⟩ (.int .i64 0)).setCell ⟨W.heap.size + 1 + 1, 3, none⟩ (.int .i64 0)).setCell ⟨W.heap.size + 1 + 1, 4, none⟩ (.int .i64 0)).setCell ⟨W.heap.size + 1 + 1, 5, none⟩ (.int .i64 0)).setCell ⟨W.heap.size + 1 + 1, 6, none⟩ (.int .i64 0)).setCell ⟨W.heap.size + 1 + 1, 7, none⟩ (.slice none 0 0))).cell? ⟨W.heap.size + 1 + 1, 2, none⟩ = some (.int .i64 0) := cell_of_row _ _ 2 _ _ _ yq_.out
  have y3_ : ((((((((((((w2.setCell ⟨W.heap.size + 1, 0, none⟩ (.int .i64 i0)).setCell ⟨W.heap.size + 1, 1, none⟩ (.slice d1 m1 k1)).setCell ⟨W.heap.size + 1, 2, none⟩ (.slice d2 m2 k2)).setCell ⟨W.heap.size + 1 + 1, 0, none⟩ (.int .i64 0)).setCell ⟨W.heap.size + 1 + 1, 1, none⟩ (.int .i64 0)).setCell ⟨W.heap.size + 1 + 1, 2, none⟩ (.int .i64 0)).setCell ⟨W.heap.size + 1 + 1, 3, none⟩ (.int .i64 0)).setCell ⟨W.heap.size + 1 + 1, 4, none⟩ (.int .i64 0)).setCell ⟨W.heap.size + 1 + 1, 5, none⟩ (.int .i64 0)).setCell ⟨W.heap.size + 1 + 1, 6, none⟩ (.int .i64 0)).setCell ⟨W.heap.size + 1 + 1, 7, none⟩ (.slice none 0 0))).cell? ⟨W.heap.size + 1 + 1, 3, none⟩ = some (.int .i64 0) := cell_of_row _ _ 3 _ _ _ yq_.out
  have y4_ : ((((((((((((w2.setCell ⟨W.heap.size + 1, 0, none⟩ (.int .i64 i0)).setCell ⟨W.heap.size + 1, 1, none⟩ (.slice d1 m1 k1)).setCell ⟨W.heap.size + 1, 2, none⟩ (.slice d2 m2 k2)).setCell ⟨W.heap.size + 1 + 1, 0, none⟩ (.int .i64 0)).setCell ⟨W.heap.size + 1 + 1, 1, none⟩ (.int .i64 0)).setCell ⟨W.heap.size + 1 + 1, 2, none⟩ (.int .i64 0)).setCell ⟨W.heap.size + 1 + 1, 3, none⟩ (.int .i64 0)).setCell ⟨W.heap.size + 1 + 1, 4, none⟩ (.int .i64 0)).setCell ⟨W.heap.size + 1 + 1, 5, none⟩ (.int .i64 0)).setCell ⟨W.heap.size + 1 + 1, 6, none⟩ (.int .i64 0)).setCell ⟨W.heap.size + 1 + 1, 7, none⟩ (.slice none 0 0))).cell? ⟨W.heap.size + 1 + 1, 4, none⟩ = some (.int .i64 0) := cell_of_row _ _ 4 _ _ _ yq_.out
  have y5_ : ((((((((((((w2.setCell ⟨W.heap.size + 1, 0, none⟩ (.int .i64 i0)).setCell ⟨W.heap.size + 1, 1, none⟩ (.slice d1 m1 k1)).setCell ⟨W.heap.size + 1, 2, none⟩ (.slice d2 m2 k2)).setCell ⟨W.heap.size + 1 + 1, 0, none⟩ (.int .i64 0)).setCell ⟨W.heap.size + 1 + 1, 1, none⟩ (.int .i64 0)).setCell ⟨W.heap.size + 1 + 1, 2, none⟩ (.int .i64 0)).setCell ⟨W.heap.size + 1 + 1, 3, none⟩ (.int .i64 0)).setCell ⟨W.heap.size + 1 + 1, 4, none⟩ (.int .i64 0)).setCell ⟨W.heap.size + 1 + 1, 5, none⟩ (.int .i64 0)).setCell ⟨W.heap.size + 1 + 1, 6, none⟩ (.int .i64 0)).setCell ⟨W.heap.size + 1 + 1, 7, none⟩ (.slice none 0 0))).cell? ⟨W.heap.size + 1 + 1, 5, none⟩ = some (.int .i64 0) := cell_of_row _ _ 5 _ _ _ yq_.out
  have y6_ : ((((((((((((w2.setCell ⟨W.heap.size + 1, 0, none⟩ (.int .i64 i0)).setCell ⟨W.heap.size + 1, 1, none⟩ (.slice d1 m1 k1)).setCell ⟨W.heap.size + 1, 2, none⟩ (.slice d2 m2 k2)).setCell ⟨W.heap.size + 1 + 1, 0, none⟩ (.int .i64 0)).setCell ⟨W.heap.size + 1 + 1, 1, none⟩ (.int .i64 0)).setCell ⟨W.heap.size + 1 + 1, 2, none⟩ (.int .i64 0)).setCell ⟨W.heap.size + 1 + 1, 3, none⟩ (.int .i64 0)).setCell ⟨W.heap.size + 1 + 1, 4, none⟩ (.int .i64 0)).setCell ⟨W.heap.size + 1 + 1, 5, none⟩ (.int .i64 0)).setCell ⟨W.heap.size + 1 + 1, 6, none⟩ (.int .i64 0)).setCell ⟨W.heap.size + 1 + 1, 7, none⟩ (.slice none 0 0))).cell? ⟨W.heap.size + 1 + 1, 6, none⟩ = some (.int .i64 0) := cell_of_row _ _ 6 _ _ _ yq_.out
  have y7_ : ((((((((((((w2.setCell ⟨W.heap.size + 1, 0, none⟩ (.int .i64 i0)).setCell ⟨W.heap.size + 1, 1, none⟩ (.slice d1 m1 k1)).setCell ⟨W.heap.size + 1, 2, none⟩ (.slice d2 m2 k2)).setCell ⟨W.heap.size + 1 + 1, 0, none⟩ (.int .i64 0)).setCell ⟨W.heap.size + 1 + 1, 1, none⟩ (.int .i64 0)).setCell ⟨W.heap.size + 1 + 1, 2, none⟩ (.int .i64 0)).setCell ⟨W.heap.size + 1 + 1, 3, none⟩ (.int .i64 0)).setCell ⟨W.heap.size + 1 + 1, 4, none⟩ (.int .i64 0)).setCell ⟨W.heap.size + 1 + 1, 5, none⟩ (.int .i64 0)).setCell ⟨W.heap.size + 1 + 1, 6, none⟩ (.int .i64 0)).setCell ⟨W.heap.size + 1 + 1, 7, none⟩ (.slice none 0 0))).cell? ⟨W.heap.size + 1 + 1, 7, none⟩ = some (.slice none 0 0) := cell_of_row _ _ 7 _ _ _ yq_.out
  go_wp2
  refine bodyPost_ret (v := .tuple #[.agg #[.int .i64 i0, .slice d1 m1 k1, .slice d2 m2 k2], .agg #[.int .i64 0, .int .i64 0, .int .i64 0, .int .i64 0, .int .i64 0, .int .i64 0, .int .i64 0, .slice none 0 0], .bool false]) (by simp [results, go_sem, z0_, z1_, z2_, y0_, y1_, y2_, y3_, y4_, y5_, y6_, y7_]) rfl ⟨_, _, _, rfl, ?_, ?_⟩
  · exact OwU.wide (lo := (W.heap.size + 1 + 1 + 1)) (by omega) (by simp only [World.size_setCell]; omega) (OwU.keep (chg_one _ _ _ _) (by omega) (OwU.keep (chg_one _ _ _ _) (by omega) (OwU.keep (chg_one _ _ _ _) (by omega) (OwU.keep (chg_one _ _ _ _) (by omega) (OwU.keep (chg_one _ _ _ _) (by omega) (OwU.keep (chg_one _ _ _ _) (by omega) (OwU.keep (chg_one _ _ _ _) (by omega) (OwU.keep (chg_one _ _ _ _) (by omega) (OwU.keep (chg_one _ _ _ _) (by omega) (OwU.keep (chg_one _ _ _ _) (by omega) (OwU.keep (chg_one _ _ _ _) (by omega) (OwU.app (ps := [own shB (.slice d1 m1 k1) xs, own shB (.slice d2 m2 k2) ys]) (qs := [own shI (.slice none 0 0) ([] : List Int)]) (m := w1.heap.size) (hi := w1.heap.size) (by omega) (Nat.le_refl _) oC20_.out (OwU.one owL_nil)))))))))))))
  · exact (gby_setnew (gby_setnew (gby_setnew (gby_setnew (gby_setnew (gby_setnew (gby_setnew (gby_setnew (gby_setnew (gby_setnew (gby_setnew G21_.out _ (by dsimp only; omega) _) _ (by dsimp only; omega) _) _ (by dsimp only; omega) _) _ (by dsimp only; omega) _) _ (by dsimp only; omega) _) _ (by dsimp only; omega) _) _ (by dsimp only; omega) _) _ (by dsimp only; omega) _) _ (by dsimp only; omega) _) _ (by dsimp only; omega) _) _ (by dsimp only; omega) _)

set_option maxRecDepth 8000 in
set_option maxHeartbeats 4000000 in
theorem implSetM_bad (W : World) (i0 : Int) (v1 v2 : Value) (xs ys : List Bool) (H1 : RdL shB W v1 xs) (H2 : RdL shB W v2 ys) (hl1 : szL shB xs ≤ 1048576) (hl2 : szL shB ys ≤ 1048576) (id k : Int) (mb : Bool) (hb : ¬ VCall i0 xs ys id k) : Calls Try.prog 22 #[vVectors i0 v1 v2, .int .i64 id, .int .i64 k, .bool mb] W (ResISetMask i0 xs ys 0 0 0 0 0 0 0 [] false W) := by
  have HOK := Lib.hid hb
  clear hb
  have H1_ := Lib.hid H1
  have H2_ := Lib.hid H2
  obtain ⟨a1, n1, c1, rfl⟩ := RdL.form H1
  obtain ⟨a2, n2, c2, rfl⟩ := RdL.form H2
  clear H1 H2
  unfold vVectors
  go_enter Try.func22, Try.ntmps22
  have rA1_ := Lib.hid (show ((((W.alloc (.cells #[.int .i64 i0, .slice a1 n1 c1, .slice a2 n2 c2] 26)).alloc (.cells #[.int .i64 0, .slice none 0 0, .slice none 0 0] 26)).alloc (.cells #[.int .i64 0, .int .i64 0, .int .i64 0, .int .i64 0, .int .i64 0, .int .i64 0, .int .i64 0, .slice none 0 0] 29))).heap[W.heap.size]? = some (.cells #[.int .i64 i0, .slice a1 n1 c1, .slice a2 n2 c2] 26 (0, 0)) from by rw [heap_alloc_old _ _ (by simp only [World.size_alloc]; omega)]; rw [heap_alloc_old _ _ (by simp only [World.size_alloc]; omega)]; exact heap_alloc_new _ _)
  have rR2_ := Lib.hid (show ((((W.alloc (.cells #[.int .i64 i0, .slice a1 n1 c1, .slice a2 n2 c2] 26)).alloc (.cells #[.int .i64 0, .slice none 0 0, .slice none 0 0] 26)).alloc (.cells #[.int .i64 0, .int .i64 0, .int .i64 0, .int .i64 0, .int .i64 0, .int .i64 0, .int .i64 0, .slice none 0 0] 29))).heap[W.heap.size + 1]? = some (.cells #[.int .i64 0, .slice none 0 0, .slice none 0 0] 26 (0, 0)) from by rw [heap_alloc_old _ _ (by simp only [World.size_alloc]; omega)]; exact heap_pair _ _ _)
  have rQ3_ := Lib.hid (show ((((W.alloc (.cells #[.int .i64 i0, .slice a1 n1 c1, .slice a2 n2 c2] 26)).alloc (.cells #[.int .i64 0, .slice none 0 0, .slice none 0 0] 26)).alloc (.cells #[.int .i64 0, .int .i64 0, .int .i64 0, .int .i64 0, .int .i64 0, .int .i64 0, .int .i64 0, .slice none 0 0] 29))).heap[W.heap.size + 1 + 1]? = some (.cells #[.int .i64 0, .int .i64 0, .int .i64 0, .int .i64 0, .int .i64 0, .int .i64 0, .int .i64 0, .slice none 0 0] 29 (0, 0)) from by exact heap_trip _ _ _ _)
  have G4_ := Lib.hid (show (W).grownBy ((((W.alloc (.cells #[.int .i64 i0, .slice a1 n1 c1, .slice a2 n2 c2] 26)).alloc (.cells #[.int .i64 0, .slice none 0 0, .slice none 0 0] 26)).alloc (.cells #[.int .i64 0, .int .i64 0, .int .i64 0, .int .i64 0, .int .i64 0, .int .i64 0, .int .i64 0, .slice none 0 0] 29))) none from (gby_alloc (gby_alloc (gby_alloc (gby_refl _ _) _) _) _))
  have A_0_ : ((((W.alloc (.cells #[.int .i64 i0, .slice a1 n1 c1, .slice a2 n2 c2] 26)).alloc (.cells #[.int .i64 0, .slice none 0 0, .slice none 0 0] 26)).alloc (.cells #[.int .i64 0, .int .i64 0, .int .i64 0, .int .i64 0, .int .i64 0, .int .i64 0, .int .i64 0, .slice none 0 0] 29))).cell? ⟨W.heap.size, 0, none⟩ = some (.int .i64 i0) := cell_of_row _ _ 0 _ _ _ rA1_.out
  have A_1_ : ((((W.alloc (.cells #[.int .i64 i0, .slice a1 n1 c1, .slice a2 n2 c2] 26)).alloc (.cells #[.int .i64 0, .slice none 0 0, .slice none 0 0] 26)).alloc (.cells #[.int .i64 0, .int .i64 0, .int .i64 0, .int .i64 0, .int .i64 0, .int .i64 0, .int .i64 0, .slice none 0 0] 29))).cell? ⟨W.heap.size, 1, none⟩ = some (.slice a1 n1 c1) := cell_of_row _ _ 1 _ _ _ rA1_.out
  have A_2_ : ((((W.alloc (.cells #[.int .i64 i0, .slice a1 n1 c1, .slice a2 n2 c2] 26)).alloc (.cells #[.int .i64 0, .slice none 0 0, .slice none 0 0] 26)).alloc (.cells #[.int .i64 0, .int .i64 0, .int .i64 0, .int .i64 0, .int .i64 0, .int .i64 0, .int .i64 0, .slice none 0 0] 29))).cell? ⟨W.heap.size, 2, none⟩ = some (.slice a2 n2 c2) := cell_of_row _ _ 2 _ _ _ rA1_.out
  have R_0_ : ((((W.alloc (.cells #[.int .i64 i0, .slice a1 n1 c1, .slice a2 n2 c2] 26)).alloc (.cells #[.int .i64 0, .slice none 0 0, .slice none 0 0] 26)).alloc (.cells #[.int .i64 0, .int .i64 0, .int .i64 0, .int .i64 0, .int .i64 0, .int .i64 0, .int .i64 0, .slice none 0 0] 29))).cell? ⟨W.heap.size + 1, 0, none⟩ = some (.int .i64 0) := cell_of_row _ _ 0 _ _ _ rR2_.out
  have R_1_ : ((((W.alloc (.cells #[.int .i64 i0, .slice a1 n1 c1, .slice a2 n2 c2] 26)).alloc (.cells #[.int .i64 0, .slice none 0 0, .slice none 0 0] 26)).alloc (.cells #[.int .i64 0, .int .i64 0, .int .i64 0, .int .i64 0, .int .i64 0, .int .i64 0, .int .i64 0, .slice none 0 0] 29))).cell? ⟨W.heap.size + 1, 1, none⟩ = some (.slice none 0 0) := cell_of_row _ _ 1 _ _ _ rR2_.out
  have R_2_ : ((((W.alloc (.cells #[.int .i64 i0, .slice a1 n1 c1, .slice a2 n2 c2] 26)).alloc (.cells #[.int .i64 0, .slice none 0 0, .slice none 0 0] 26)).alloc (.cells #[.int .i64 0, .int .i64 0, .int .i64 0, .int .i64 0, .int .i64 0, .int .i64 0, .int .i64 0, .slice none 0 0] 29))).cell? ⟨W.heap.size + 1, 2, none⟩ = some (.slice none 0 0) := cell_of_row _ _ 2 _ _ _ rR2_.out
  have Q_0_ : ((((W.alloc (.cells #[.int .i64 i0, .slice a1 n1 c1, .slice a2 n2 c2] 26)).alloc (.cells #[.int .i64 0, .slice none 0 0, .slice none 0 0] 26)).alloc (.cells #[.int .i64 0, .int .i64 0, .int .i64 0, .int .i64 0, .int .i64 0, .int .i64 0, .int .i64 0, .slice none 0 0] 29))).cell? ⟨W.heap.size + 1 + 1, 0, none⟩ = some (.int .i64 0) := cell_of_row _ _ 0 _ _ _ rQ3_.out
  have Q_1_ : ((((W.alloc (.cells #[.int .i64 i0, .slice a1 n1 c1, .slice a2 n2 c2] 26)).alloc (.cells #[.int .i64 0, .slice none 0 0, .slice none 0 0] 26)).alloc (.cells #[.int .i64 0, .int .i64 0, .int .i64 0, .int .i64 0, .int .i64 0, .int .i64 0, .int .i64 0, .slice none 0 0] 29))).cell? ⟨W.heap.size + 1 + 1, 1, none⟩ = some (.int .i64 0) := cell_of_row _ _ 1 _ _ _ rQ3_.out
  have Q_2_ : ((((W.alloc (.cells #[.int .i64 i0, .slice a1 n1 c1, .slice a2 n2 c2] 26)).alloc (.cells #[.int .i64 0, .slice none 0 0, .slice none 0 0] 26)).alloc (.cells #[.int .i64 0, .int .i64 0, .int .i64 0, .int .i64 0, .int .i64 0, .int .i64 0, .int .i64 0, .slice none 0 0] 29))).cell? ⟨W.heap.size + 1 + 1, 2, none⟩ = some (.int .i64 0) := cell_of_row _ _ 2 _ _ _ rQ3_.out
  have Q_3_ : ((((W.alloc (.cells #[.int .i64 i0, .slice a1 n1 c1, .slice a2 n2 c2] 26)).alloc (.cells #[.int .i64 0, .slice none 0 0, .slice none 0 0] 26)).alloc (.cells #[.int .i64 0, .int .i64 0, .int .i64 0, .int .i64 0, .int .i64 0, .int .i64 0, .int .i64 0, .slice none 0 0] 29))).cell? ⟨W.heap.size + 1 + 1, 3, none⟩ = some (.int .i64 0) := cell_of_row _ _ 3 _ _ _ rQ3_.out
  have Q_4_ : ((((W.alloc (.cells #[.int .i64 i0, .slice a1 n1 c1, .slice a2 n2 c2] 26)).alloc (.cells #[.int .i64 0, .slice none 0 0, .slice none 0 0] 26)).alloc (.cells #[.int .i64 0, .int .i64 0, .int .i64 0, .int .i64 0, .int .i64 0, .int .i64 0, .int .i64 0, .slice none 0 0] 29))).cell? ⟨W.heap.size + 1 + 1, 4, none⟩ = some (.int .i64 0) := cell_of_row _ _ 4 _ _ _ rQ3_.out
  have Q_5_ : ((((W.alloc (.cells #[.int .i64 i0, .slice a1 n1 c1, .slice a2 n2 c2] 26)).alloc (.cells #[.int .i64 0, .slice none 0 0, .slice none 0 0] 26)).alloc (.cells #[.int .i64 0, .int .i64 0, .int .i64 0, .int .i64 0, .int .i64 0, .int .i64 0, .int .i64 0, .slice none 0 0] 29))).cell? ⟨W.heap.size + 1 + 1, 5, none⟩ = some (.int .i64 0) := cell_of_row _ _ 5 _ _ _ rQ3_.out
  have Q_6_ : ((((W.alloc (.cells #[.int .i64 i0, .slice a1 n1 c1, .slice a2 n2 c2] 26)).alloc (.cells #[.int .i64 0, .slice none 0 0, .slice none 0 0] 26)).alloc (.cells #[.int .i64 0, .int .i64 0, .int .i64 0, .int .i64 0, .int .i64 0, .int .i64 0, .int .i64 0, .slice none 0 0] 29))).cell? ⟨W.heap.size + 1 + 1, 6, none⟩ = some (.int .i64 0) := cell_of_row _ _ 6 _ _ _ rQ3_.out
  have Q_7_ : ((((W.alloc (.cells #[.int .i64 i0, .slice a1 n1 c1, .slice a2 n2 c2] 26)).alloc (.cells #[.int .i64 0, .slice none 0 0, .slice none 0 0] 26)).alloc (.cells #[.int .i64 0, .int .i64 0, .int .i64 0, .int .i64 0, .int .i64 0, .int .i64 0, .int .i64 0, .slice none 0 0] 29))).cell? ⟨W.heap.size + 1 + 1, 7, none⟩ = some (.slice none 0 0) := cell_of_row _ _ 7 _ _ _ rQ3_.out
  go_wp2_with fail
  go_at_call 63
  refine (copiedVec_d _ i0 _ _ xs ys (H1_.out.grow G4_.out) (H2_.out.grow G4_.out) hl1 hl2).mono ?_
  rintro e w1 ⟨x1, x2, rfl, o, g⟩
  have sz_ := g.size
  try simp only [World.size_alloc] at sz_ o
  clear A_0_ A_1_ A_2_ R_0_ R_1_ R_2_ Q_0_ Q_1_ Q_2_ Q_3_ Q_4_ Q_5_ Q_6_ Q_7_
  have rA5_ := Lib.hid (show (w1).heap[W.heap.size]? = some (.cells #[.int .i64 i0, .slice a1 n1 c1, .slice a2 n2 c2] 26 (0, 0)) from row_held g rA1_.out)
  clear rA1_
  have rR6_ := Lib.hid (show (w1).heap[W.heap.size + 1]? = some (.cells #[.int .i64 0, .slice none 0 0, .slice none 0 0] 26 (0, 0)) from row_held g rR2_.out)
  clear rR2_
  have rQ7_ := Lib.hid (show (w1).heap[W.heap.size + 1 + 1]? = some (.cells #[.int .i64 0, .int .i64 0, .int .i64 0, .int .i64 0, .int .i64 0, .int .i64 0, .int .i64 0, .slice none 0 0] 29 (0, 0)) from row_held g rQ3_.out)
  clear rQ3_
  have G8_ := Lib.hid (show (W).grownBy (w1) none from gby_trans G4_.out g)
  clear g
  obtain ⟨d1, m1, k1, hv_⟩ := RdL.form (OwU.rd o)
  subst hv_
  obtain ⟨d2, m2, k2, hv_⟩ := RdL.form (OwU.rd (OwU.tail o))
  subst hv_
  unfold vVectors
  have oC9_ := Lib.hid (show OwU (w1) ((W.heap.size + 1 + 1 + 1)) (w1.heap.size) [] [own shB (.slice d1 m1 k1) xs, own shB (.slice d2 m2 k2) ys] from o)
  clear o
  have al_ : (w1).grownBy ((w1).alloc (.cells #[.int .i32 0, .int .u32 0, .int .i64 i0, .slice d1 m1 k1, .slice d2 m2 k2] 92)) none := gby_alloc (gby_refl _ _) _
  have rA10_ := Lib.hid (show ((w1.alloc (.cells #[.int .i32 0, .int .u32 0, .int .i64 i0, .slice d1 m1 k1, .slice d2 m2 k2] 92))).heap[W.heap.size]? = some (.cells #[.int .i64 i0, .slice a1 n1 c1, .slice a2 n2 c2] 26 (0, 0)) from row_held al_ rA5_.out)
  clear rA5_
  have rR11_ := Lib.hid (show ((w1.alloc (.cells #[.int .i32 0, .int .u32 0, .int .i64 i0, .slice d1 m1 k1, .slice d2 m2 k2] 92))).heap[W.heap.size + 1]? = some (.cells #[.int .i64 0, .slice none 0 0, .slice none 0 0] 26 (0, 0)) from row_held al_ rR6_.out)
  clear rR6_
  have rQ12_ := Lib.hid (show ((w1.alloc (.cells #[.int .i32 0, .int .u32 0, .int .i64 i0, .slice d1 m1 k1, .slice d2 m2 k2] 92))).heap[W.heap.size + 1 + 1]? = some (.cells #[.int .i64 0, .int .i64 0, .int .i64 0, .int .i64 0, .int .i64 0, .int .i64 0, .int .i64 0, .slice none 0 0] 29 (0, 0)) from row_held al_ rQ7_.out)
  clear rQ7_
  have oC13_ := Lib.hid (show OwU ((w1.alloc (.cells #[.int .i32 0, .int .u32 0, .int .i64 i0, .slice d1 m1 k1, .slice d2 m2 k2] 92))) ((W.heap.size + 1 + 1 + 1)) (w1.heap.size) [] [own shB (.slice d1 m1 k1) xs, own shB (.slice d2 m2 k2) ys] from OwU.grow oC9_.out al_)
  clear oC9_
  have G14_ := Lib.hid (show (W).grownBy ((w1.alloc (.cells #[.int .i32 0, .int .u32 0, .int .i64 i0, .slice d1 m1 k1, .slice d2 m2 k2] 92))) none from gby_trans G8_.out al_)
  have rX15_ := Lib.hid (show ((w1.alloc (.cells #[.int .i32 0, .int .u32 0, .int .i64 i0, .slice d1 m1 k1, .slice d2 m2 k2] 92))).heap[w1.heap.size]? = some (.cells #[.int .i32 0, .int .u32 0, .int .i64 i0, .slice d1 m1 k1, .slice d2 m2 k2] 92 (0, 0)) from by first | exact heap_alloc_new _ _ | exact heap_pair _ _ _ | exact heap_trip _ _ _ _)
  clear al_
  have A_0_ : ((w1.alloc (.cells #[.int .i32 0, .int .u32 0, .int .i64 i0, .slice d1 m1 k1, .slice d2 m2 k2] 92))).cell? ⟨W.heap.size, 0, none⟩ = some (.int .i64 i0) := cell_of_row _ _ 0 _ _ _ rA10_.out
  have A_1_ : ((w1.alloc (.cells #[.int .i32 0, .int .u32 0, .int .i64 i0, .slice d1 m1 k1, .slice d2 m2 k2] 92))).cell? ⟨W.heap.size, 1, none⟩ = some (.slice a1 n1 c1) := cell_of_row _ _ 1 _ _ _ rA10_.out
  have A_2_ : ((w1.alloc (.cells #[.int .i32 0, .int .u32 0, .int .i64 i0, .slice d1 m1 k1, .slice d2 m2 k2] 92))).cell? ⟨W.heap.size, 2, none⟩ = some (.slice a2 n2 c2) := cell_of_row _ _ 2 _ _ _ rA10_.out
  have R_0_ : ((w1.alloc (.cells #[.int .i32 0, .int .u32 0, .int .i64 i0, .slice d1 m1 k1, .slice d2 m2 k2] 92))).cell? ⟨W.heap.size + 1, 0, none⟩ = some (.int .i64 0) := cell_of_row _ _ 0 _ _ _ rR11_.out
  have R_1_ : ((w1.alloc (.cells #[.int .i32 0, .int .u32 0, .int .i64 i0, .slice d1 m1 k1, .slice d2 m2 k2] 92))).cell? ⟨W.heap.size + 1, 1, none⟩ = some (.slice none 0 0) := cell_of_row _ _ 1 _ _ _ rR11_.out
  have R_2_ : ((w1.alloc (.cells #[.int .i32 0, .int .u32 0, .int .i64 i0, .slice d1 m1 k1, .slice d2 m2 k2] 92))).cell? ⟨W.heap.size + 1, 2, none⟩ = some (.slice none 0 0) := cell_of_row _ _ 2 _ _ _ rR11_.out
  have Q_0_ : ((w1.alloc (.cells #[.int .i32 0, .int .u32 0, .int .i64 i0, .slice d1 m1 k1, .slice d2 m2 k2] 92))).cell? ⟨W.heap.size + 1 + 1, 0, none⟩ = some (.int .i64 0) := cell_of_row _ _ 0 _ _ _ rQ12_.out
  have Q_1_ : ((w1.alloc (.cells #[.int .i32 0, .int .u32 0, .int .i64 i0, .slice d1 m1 k1, .slice d2 m2 k2] 92))).cell? ⟨W.heap.size + 1 + 1, 1, none⟩ = some (.int .i64 0) := cell_of_row _ _ 1 _ _ _ rQ12_.out
  have Q_2_ : ((w1.alloc (.cells #[.int .i32 0, .int .u32 0, .int .i64 i0, .slice d1 m1 k1, .slice d2 m2 k2] 92))).cell? ⟨W.heap.size + 1 + 1, 2, none⟩ = some (.int .i64 0) := cell_of_row _ _ 2 _ _ _ rQ12_.out
  have Q_3_ : ((w1.alloc (.cells #[.int .i32 0, .int .u32 0, .int .i64 i0, .slice d1 m1 k1, .slice d2 m2 k2] 92))).cell? ⟨W.heap.size + 1 + 1, 3, none⟩ = some (.int .i64 0) := cell_of_row _ _ 3 _ _ _ rQ12_.out
  have Q_4_ : ((w1.alloc (.cells #[.int .i32 0, .int .u32 0, .int .i64 i0, .slice d1 m1 k1, .slice d2 m2 k2] 92))).cell? ⟨W.heap.size + 1 + 1, 4, none⟩ = some (.int .i64 0) := cell_of_row _ _ 4 _ _ _ rQ12_.out
  have Q_5_ : ((w1.alloc (.cells #[.int .i32 0, .int .u32 0, .int .i64 i0, .slice d1 m1 k1, .slice d2 m2 k2] 92))).cell? ⟨W.heap.size + 1 + 1, 5, none⟩ = some (.int .i64 0) := cell_of_row _ _ 5 _ _ _ rQ12_.out
  have Q_6_ : ((w1.alloc (.cells #[.int .i32 0, .int .u32 0, .int .i64 i0, .slice d1 m1 k1, .slice d2 m2 k2] 92))).cell? ⟨W.heap.size + 1 + 1, 6, none⟩ = some (.int .i64 0) := cell_of_row _ _ 6 _ _ _ rQ12_.out
  have Q_7_ : ((w1.alloc (.cells #[.int .i32 0, .int .u32 0, .int .i64 i0, .slice d1 m1 k1, .slice d2 m2 k2] 92))).cell? ⟨W.heap.size + 1 + 1, 7, none⟩ = some (.slice none 0 0) := cell_of_row _ _ 7 _ _ _ rQ12_.out
  have X_0_ : ((w1.alloc (.cells #[.int .i32 0, .int .u32 0, .int .i64 i0, .slice d1 m1 k1, .slice d2 m2 k2] 92))).cell? ⟨w1.heap.size, 0, none⟩ = some (.int .i32 0) := cell_of_row _ _ 0 _ _ _ rX15_.out
  have X_1_ : ((w1.alloc (.cells #[.int .i32 0, .int .u32 0, .int .i64 i0, .slice d1 m1 k1, .slice d2 m2 k2] 92))).cell? ⟨w1.heap.size, 1, none⟩ = some (.int .u32 0) := cell_of_row _ _ 1 _ _ _ rX15_.out
  have X_2_ : ((w1.alloc (.cells #[.int .i32 0, .int .u32 0, .int .i64 i0, .slice d1 m1 k1, .slice d2 m2 k2] 92))).cell? ⟨w1.heap.size, 2, none⟩ = some (.int .i64 i0) := cell_of_row _ _ 2 _ _ _ rX15_.out
  have X_3_ : ((w1.alloc (.cells #[.int .i32 0, .int .u32 0, .int .i64 i0, .slice d1 m1 k1, .slice d2 m2 k2] 92))).cell? ⟨w1.heap.size, 3, none⟩ = some (.slice d1 m1 k1) := cell_of_row _ _ 3 _ _ _ rX15_.out
  have X_4_ : ((w1.alloc (.cells #[.int .i32 0, .int .u32 0, .int .i64 i0, .slice d1 m1 k1, .slice d2 m2 k2] 92))).cell? ⟨w1.heap.size, 4, none⟩ = some (.slice d2 m2 k2) := cell_of_row _ _ 4 _ _ _ rX15_.out
  go_wp2_with fail
  go_at_call 64
  refine (((implVCall _ i0 _ _ xs ys id k (H1_.out.grow G14_.out) (H2_.out.grow G14_.out)).mono (bpost_no HOK.out))).mono ?_
  rintro e w2 ⟨rfl, g⟩
  have szw2 := g.size
  try simp only [World.size_alloc] at szw2
  try simp only [World.size_setCell] at szw2
  clear A_0_ A_1_ A_2_ R_0_ R_1_ R_2_ Q_0_ Q_1_ Q_2_ Q_3_ Q_4_ Q_5_ Q_6_ Q_7_ X_0_ X_1_ X_2_ X_3_ X_4_
  have rA16_ := Lib.hid (show (w2).heap[W.heap.size]? = some (.cells #[.int .i64 i0, .slice a1 n1 c1, .slice a2 n2 c2] 26 (0, 0)) from row_held g rA10_.out)
  clear rA10_
  have rR17_ := Lib.hid (show (w2).heap[W.heap.size + 1]? = some (.cells #[.int .i64 0, .slice none 0 0, .slice none 0 0] 26 (0, 0)) from row_held g rR11_.out)
  clear rR11_
  have rQ18_ := Lib.hid (show (w2).heap[W.heap.size + 1 + 1]? = some (.cells #[.int .i64 0, .int .i64 0, .int .i64 0, .int .i64 0, .int .i64 0, .int .i64 0, .int .i64 0, .slice none 0 0] 29 (0, 0)) from row_held g rQ12_.out)
  clear rQ12_
  have rX19_ := Lib.hid (show (w2).heap[w1.heap.size]? = some (.cells #[.int .i32 0, .int .u32 0, .int .i64 i0, .slice d1 m1 k1, .slice d2 m2 k2] 92 (0, 0)) from row_held g rX15_.out)
  clear rX15_
  have oC20_ := Lib.hid (show OwU (w2) ((W.heap.size + 1 + 1 + 1)) (w1.heap.size) [] [own shB (.slice d1 m1 k1) xs, own shB (.slice d2 m2 k2) ys] from OwU.grow oC13_.out g)
  clear oC13_
  have G21_ := Lib.hid (show (W).grownBy (w2) none from gby_trans G14_.out g)
  clear g
  have A_0_ : (w2).cell? ⟨W.heap.size, 0, none⟩ = some (.int .i64 i0) := cell_of_row _ _ 0 _ _ _ rA16_.out
  have A_1_ : (w2).cell? ⟨W.heap.size, 1, none⟩ = some (.slice a1 n1 c1) := cell_of_row _ _ 1 _ _ _ rA16_.out
  have A_2_ : (w2).cell? ⟨W.heap.size, 2, none⟩ = some (.slice a2 n2 c2) := cell_of_row _ _ 2 _ _ _ rA16_.out
  have R_0_ : (w2).cell? ⟨W.heap.size + 1, 0, none⟩ = some (.int .i64 0) := cell_of_row _ _ 0 _ _ _ rR17_.out
  have R_1_ : (w2).cell? ⟨W.heap.size + 1, 1, none⟩ = some (.slice none 0 0) := cell_of_row _ _ 1 _ _ _ rR17_.out
  have R_2_ : (w2).cell? ⟨W.heap.size + 1, 2, none⟩ = some (.slice none 0 0) := cell_of_row _ _ 2 _ _ _ rR17_.out
  have Q_0_ : (w2).cell? ⟨W.heap.size + 1 + 1, 0, none⟩ = some (.int .i64 0) := cell_of_row _ _ 0 _ _ _ rQ18_.out
  have Q_1_ : (w2).cell? ⟨W.heap.size + 1 + 1, 1, none⟩ = some (.int .i64 0) := cell_of_row _ _ 1 _ _ _ rQ18_.out
  have Q_2_ : (w2).cell? ⟨W.heap.size + 1 + 1, 2, none⟩ = some (.int .i64 0) := cell_of_row _ _ 2 _ _ _ rQ18_.out
  have Q_3_ : (w2).cell? ⟨W.heap.size + 1 + 1, 3, none⟩ = some (.int .i64 0) := cell_of_row _ _ 3 _ _ _ rQ18_.out
  have Q_4_ : (w2).cell? ⟨W.heap.size + 1 + 1, 4, none⟩ = some (.int .i64 0) := cell_of_row _ _ 4 _ _ _ rQ18_.out
  have Q_5_ : (w2).cell? ⟨W.heap.size + 1 + 1, 5, none⟩ = some (.int .i64 0) := cell_of_row _ _ 5 _ _ _ rQ18_.out
  have Q_6_ : (w2).cell? ⟨W.heap.size + 1 + 1, 6, none⟩ = some (.int .i64 0) := cell_of_row _ _ 6 _ _ _ rQ18_.out
  have Q_7_ : (w2).cell? ⟨W.heap.size + 1 + 1, 7, none⟩ = some (.slice none 0 0) := cell_of_row _ _ 7 _ _ _ rQ18_.out
  have X_0_ : (w2).cell? ⟨w1.heap.size, 0, none⟩ = some (.int .i32 0) := cell_of_row _ _ 0 _ _ _ rX19_.out
  have X_1_ : (w2).cell? ⟨w1.heap.size, 1, none⟩ = some (.int .u32 0) := cell_of_row _ _ 1 _ _ _ rX19_.out
  have X_2_ : (w2).cell? ⟨w1.heap.size, 2, none⟩ = some (.int .i64 i0) := cell_of_row _ _ 2 _ _ _ rX19_.out
  have X_3_ : (w2).cell? ⟨w1.heap.size, 3, none⟩ = some (.slice d1 m1 k1) := cell_of_row _ _ 3 _ _ _ rX19_.out
  have X_4_ : (w2).cell? ⟨w1.heap.size, 4, none⟩ = some (.slice d2 m2 k2) := cell_of_row _ _ 4 _ _ _ rX19_.out
  clear A_0_ A_1_ A_2_ R_0_ R_1_ R_2_ Q_0_ Q_1_ Q_2_ Q_3_ Q_4_ Q_5_ Q_6_ Q_7_ X_0_ X_1_ X_2_ X_3_ X_4_
  have A_0_ : (w2).cell? ⟨W.heap.size, 0, none⟩ = some (.int .i64 i0) := cell_of_row _ _ 0 _ _ _ rA16_.out
  have A_1_ : (w2).cell? ⟨W.heap.size, 1, none⟩ = some (.slice a1 n1 c1) := cell_of_row _ _ 1 _ _ _ rA16_.out
  have A_2_ : (w2).cell? ⟨W.heap.size, 2, none⟩ = some (.slice a2 n2 c2) := cell_of_row _ _ 2 _ _ _ rA16_.out
  have R_0_ : (w2).cell? ⟨W.heap.size + 1, 0, none⟩ = some (.int .i64 0) := cell_of_row _ _ 0 _ _ _ rR17_.out
  have R_1_ : (w2).cell? ⟨W.heap.size + 1, 1, none⟩ = some (.slice none 0 0) := cell_of_row _ _ 1 _ _ _ rR17_.out
  have R_2_ : (w2).cell? ⟨W.heap.size + 1, 2, none⟩ = some (.slice none 0 0) := cell_of_row _ _ 2 _ _ _ rR17_.out
  have Rf0_ : (w2).frozen? ⟨W.heap.size + 1, 0, none⟩ = false := frozen_of_row _ _ 0 _ _ rR17_.out
  have Rf1_ : (w2).frozen? ⟨W.heap.size + 1, 1, none⟩ = false := frozen_of_row _ _ 1 _ _ rR17_.out
  have Rf2_ : (w2).frozen? ⟨W.heap.size + 1, 2, none⟩ = false := frozen_of_row _ _ 2 _ _ rR17_.out
  have Q_0_ : (w2).cell? ⟨W.heap.size + 1 + 1, 0, none⟩ = some (.int .i64 0) := cell_of_row _ _ 0 _ _ _ rQ18_.out
  have Q_1_ : (w2).cell? ⟨W.heap.size + 1 + 1, 1, none⟩ = some (.int .i64 0) := cell_of_row _ _ 1 _ _ _ rQ18_.out
  have Q_2_ : (w2).cell? ⟨W.heap.size + 1 + 1, 2, none⟩ = some (.int .i64 0) := cell_of_row _ _ 2 _ _ _ rQ18_.out
  have Q_3_ : (w2).cell? ⟨W.heap.size + 1 + 1, 3, none⟩ = some (.int .i64 0) := cell_of_row _ _ 3 _ _ _ rQ18_.out
  have Q_4_ : (w2).cell? ⟨W.heap.size + 1 + 1, 4, none⟩ = some (.int .i64 0) := cell_of_row _ _ 4 _ _ _ rQ18_.out
  have Q_5_ : (w2).cell? ⟨W.heap.size + 1 + 1, 5, none⟩ = some (.int .i64 0) := cell_of_row _ _ 5 _ _ _ rQ18_.out
  have Q_6_ : (w2).cell? ⟨W.heap.size + 1 + 1, 6, none⟩ = some (.int .i64 0) := cell_of_row _ _ 6 _ _ _ rQ18_.out
  have Q_7_ : (w2).cell? ⟨W.heap.size + 1 + 1, 7, none⟩ = some (.slice none 0 0) := cell_of_row _ _ 7 _ _ _ rQ18_.out
  have Qf0_ : (w2).frozen? ⟨W.heap.size + 1 + 1, 0, none⟩ = false := frozen_of_row _ _ 0 _ _ rQ18_.out
  have Qf1_ : (w2).frozen? ⟨W.heap.size + 1 + 1, 1, none⟩ = false := frozen_of_row _ _ 1 _ _ rQ18_.out
  have Qf2_ : (w2).frozen? ⟨W.heap.size + 1 + 1, 2, none⟩ = false := frozen_of_row _ _ 2 _ _ rQ18_.out
  have Qf3_ : (w2).frozen? ⟨W.heap.size + 1 + 1, 3, none⟩ = false := frozen_of_row _ _ 3 _ _ rQ18_.out
  have Qf4_ : (w2).frozen? ⟨W.heap.size + 1 + 1, 4, none⟩ = false := frozen_of_row _ _ 4 _ _ rQ18_.out
  have Qf5_ : (w2).frozen? ⟨W.heap.size + 1 + 1, 5, none⟩ = false := frozen_of_row _ _ 5 _ _ rQ18_.out
  have Qf6_ : (w2).frozen? ⟨W.heap.size + 1 + 1, 6, none⟩ = false := frozen_of_row _ _ 6 _ _ rQ18_.out
  have Qf7_ : (w2).frozen? ⟨W.heap.size + 1 + 1, 7, none⟩ = false := frozen_of_row _ _ 7 _ _ rQ18_.out
  have X_0_ : (w2).cell? ⟨w1.heap.size, 0, none⟩ = some (.int .i32 0) := cell_of_row _ _ 0 _ _ _ rX19_.out
  have X_1_ : (w2).cell? ⟨w1.heap.size, 1, none⟩ = some (.int .u32 0) := cell_of_row _ _ 1 _ _ _ rX19_.out
  have X_2_ : (w2).cell? ⟨w1.heap.size, 2, none⟩ = some (.int .i64 i0) := cell_of_row _ _ 2 _ _ _ rX19_.out
  have X_3_ : (w2).cell? ⟨w1.heap.size, 3, none⟩ = some (.slice d1 m1 k1) := cell_of_row _ _ 3 _ _ _ rX19_.out
  have X_4_ : (w2).cell? ⟨w1.heap.size, 4, none⟩ = some (.slice d2 m2 k2) := cell_of_row _ _ 4 _ _ _ rX19_.out
  have yr_ := Lib.hid (show ((((((((((((w2.setCell ⟨W.heap.size + 1, 0, none⟩ (.int .i64 i0)).setCell ⟨W.heap.size + 1, 1, none⟩ (.slice d1 m1 k1)).setCell ⟨W.heap.size + 1, 2, none⟩ (.slice d2 m2 k2)).setCell ⟨W.heap.size + 1 + 1, 0, none⟩ (.int .i64 0)).setCell ⟨W.heap.size + 1 + 1, 1, none⟩ (.int .i64 0)).setCell ⟨W.heap.size + 1 + 1, 2, none⟩ (.int .i64 0)).setCell ⟨W.heap.size + 1 + 1, 3, none⟩ (.int .i64 0)).setCell ⟨W.heap.size + 1 + 1, 4, none⟩ (.int .i64 0)).setCell ⟨W.heap.size + 1 + 1, 5, none⟩ (.int .i64 0)).setCell ⟨W.heap.size + 1 + 1, 6, none⟩ (.int .i64 0)).setCell ⟨W.heap.size + 1 + 1, 7, none⟩ (.slice none 0 0))).heap[W.heap.size + 1]? = some (.cells #[.int .i64 i0, .slice d1 m1 k1, .slice d2 m2 k2] 26 (0, 0)) from (set_far (set_far (set_far (set_far (set_far (set_far (set_far (set_far (heap_setCell_same _ _ 2 _ _ _ (heap_setCell_same _ _ 1 _ _ _ (heap_setCell_same _ _ 0 _ _ _ rR17_.out))) (by dsimp only; omega)) (by dsimp only; omega)) (by dsimp only; omega)) (by dsimp only; omega)) (by dsimp only; omega)) (by dsimp only; omega)) (by dsimp only; omega)) (by dsimp only; omega)))
  have yq_ := Lib.hid (show ((((((((((((w2.setCell ⟨W.heap.size + 1, 0, none⟩ (.int .i64 i0)).setCell ⟨W.heap.size + 1, 1, none⟩ (.slice d1 m1 k1)).setCell ⟨W.heap.size + 1, 2, none⟩ (.slice d2 m2 k2)).setCell ⟨W.heap.size + 1 + 1, 0, none⟩ (.int .i64 0)).setCell ⟨W.heap.size + 1 + 1, 1, none⟩ (.int .i64 0)).setCell ⟨W.heap.size + 1 + 1, 2, none⟩ (.int .i64 0)).setCell ⟨W.heap.size + 1 + 1, 3, none⟩ (.int .i64 0)).setCell ⟨W.heap.size + 1 + 1, 4, none⟩ (.int .i64 0)).setCell ⟨W.heap.size + 1 + 1, 5, none⟩ (.int .i64 0)).setCell ⟨W.heap.size + 1 + 1, 6, none⟩ (.int .i64 0)).setCell ⟨W.heap.size + 1 + 1, 7, none⟩ (.slice none 0 0))).heap[W.heap.size + 1 + 1]? = some (.cells #[.int .i64 0, .int .i64 0, .int .i64 0, .int .i64 0, .int .i64 0, .int .i64 0, .int .i64 0, .slice none 0 0] 29 (0, 0)) from (heap_setCell_same _ _ 7 _ _ _ (heap_setCell_same _ _ 6 _ _ _ (heap_setCell_same _ _ 5 _ _ _ (heap_setCell_same _ _ 4 _ _ _ (heap_setCell_same _ _ 3 _ _ _ (heap_setCell_same _ _ 2 _ _ _ (heap_setCell_same _ _ 1 _ _ _ (heap_setCell_same _ _ 0 _ _ _ (set_far (set_far (set_far rQ18_.out (by dsimp only; omega)) (by dsimp only; omega)) (by dsimp only; omega)))))))))))
  have z0_ : ((((((((((((w2.setCell ⟨W.heap.size + 1, 0, none⟩ (.int .i64 i0)).setCell ⟨W.heap.size + 1, 1, none⟩ (.slice d1 m1 k1)).setCell ⟨W.heap.size + 1, 2, none⟩ (.slice d2 m2 k2)).setCell ⟨W.heap.size + 1 + 1, 0, none⟩ (.int .i64 0)).setCell ⟨W.heap.size + 1 + 1, 1, none⟩ (.int .i64 0)).setCell ⟨W.heap.size + 1 + 1, 2, none⟩ (.int .i64 0)).setCell ⟨W.heap.size + 1 + 1, 3, none⟩ (.int .i64 0)).setCell ⟨W.heap.size + 1 + 1, 4, none⟩ (.int .i64 0)).setCell ⟨W.heap.size + 1 + 1, 5, none⟩ (.int .i64 0)).setCell ⟨W.heap.size + 1 + 1, 6, none⟩ (.int .i64 0)).setCell ⟨W.heap.size + 1 + 1, 7, none⟩ (.slice none 0 0))).cell? ⟨W.heap.size + 1, 0, none⟩ = some (.int .i64 i0) := cell_of_row _ _ 0 _ _ _ yr_.out
  have z1_ : ((((((((((((w2.setCell ⟨W.heap.size + 1, 0, none⟩ (.int .i64 i0)).setCell ⟨W.heap.size + 1, 1, none⟩ (.slice d1 m1 k1)).setCell ⟨W.heap.size + 1, 2, none⟩ (.slice d2 m2 k2)).setCell ⟨W.heap.size + 1 + 1, 0, none⟩ (.int .i64 0)).setCell ⟨W.heap.size + 1 + 1, 1, none⟩ (.int .i64 0)).setCell ⟨W.heap.size + 1 + 1, 2, none⟩ (.int .i64 0)).setCell ⟨W.heap.size + 1 + 1, 3, none⟩ (.int .i64 0)).setCell ⟨W.heap.size + 1 + 1, 4, none⟩ (.int .i64 0)).setCell ⟨W.heap.size + 1 + 1, 5, none⟩ (.int .i64 0)).setCell ⟨W.heap.size + 1 + 1, 6, none⟩ (.int .i64 0)).setCell ⟨W.heap.size + 1 + 1, 7, none⟩ (.slice none 0 0))).cell? ⟨W.heap.size + 1, 1, none⟩ = some (.slice d1 m1 k1) := cell_of_row _ _ 1 _ _ _ yr_.out
  have z2_ : ((((((((((((w2.setCell ⟨W.heap.size + 1, 0, none⟩ (.int .i64 i0)).setCell ⟨W.heap.size + 1, 1, none⟩ (.slice d1 m1 k1)).setCell ⟨W.heap.size + 1, 2, none⟩ (.slice d2 m2 k2)).setCell ⟨W.heap.size + 1 + 1, 0, none⟩ (.int .i64 0)).setCell ⟨W.heap.size + 1 + 1, 1, none⟩ (.int .i64 0)).setCell ⟨W.heap.size + 1 + 1, 2, none⟩ (.int .i64 0)).setCell ⟨W.heap.size + 1 + 1, 3, none⟩ (.int .i64 0)).setCell ⟨W.heap.size + 1 + 1, 4, none⟩ (.int .i64 0)).setCell ⟨W.heap.size + 1 + 1, 5, none⟩ (.int .i64 0)).setCell ⟨W.heap.size + 1 + 1, 6, none⟩ (.int .i64 0)).setCell ⟨W.heap.size + 1 + 1, 7, none⟩ (.slice none 0 0))).cell? ⟨W.heap.size + 1, 2, none⟩ = some (.slice d2 m2 k2) := cell_of_row _ _ 2 _ _ _ yr_.out
  have y0_ : ((((((((((((w2.setCell ⟨W.heap.size + 1, 0, none⟩ (.int .i64 i0)).setCell ⟨W.heap.size + 1, 1, none⟩ (.slice d1 m1 k1)).setCell ⟨W.heap.size + 1, 2, none⟩ (.slice d2 m2 k2)).setCell ⟨W.heap.size + 1 + 1, 0, none⟩ (.int .i64 0)).setCell ⟨W.heap.size + 1 + 1, 1, none⟩ (.int .i64 0)).setCell ⟨W.heap.size + 1 + 1, 2, none⟩ (.int .i64 0)).setCell ⟨W.heap.size + 1 + 1, 3, none⟩ (.int .i64 0)).setCell ⟨W.heap.size + 1 + 1, 4, none⟩ (.int .i64 0)).setCell ⟨W.heap.size + 1 + 1, 5, none⟩ (.int .i64 0)).setCell ⟨W.heap.size + 1 + 1, 6, none⟩ (.int .i64 0)).setCell ⟨W.heap.size + 1 + 1, 7, none⟩ (.slice none 0 0))).cell? ⟨W.heap.size + 1 + 1, 0, none⟩ = some (.int .i64 0) := cell_of_row _ _ 0 _ _ _ yq_.out
  have y1_ : ((((((((((((w2.setCell ⟨W.heap.size + 1, 0, none⟩ (.int .i64 i0)).setCell ⟨W.heap.size + 1, 1, none⟩ (.slice d1 m1 k1)).setCell ⟨W.heap.size + 1, 2, none⟩ (.slice d2 m2 k2)).setCell ⟨W.heap.size + 1 + 1, 0, none⟩ (.int .i64 0)).setCell ⟨W.heap.size + 1 + 1, 1, none⟩ (.int .i64 0)).setCell ⟨W.heap.size + 1 + 1, 2, none⟩ (.int .i64 0)).setCell ⟨W.heap.size + 1 + 1, 3, none⟩ (.int .i64 0)).setCell ⟨W.heap.size + 1 + 1, 4, none⟩ (.int .i64 0)).setCell ⟨W.heap.size + 1 + 1, 5, none⟩ (.int .i64 0)).setCell ⟨W.heap.size + 1 + 1, 6, none⟩ (.int .i64 0)).setCell ⟨W.heap.size + 1 + 1, 7, none⟩ (.slice none 0 0))).cell? ⟨W.heap.size + 1 + 1, 1, none⟩ = some (.int .i64 0) := cell_of_row _ _ 1 _ _ _ yq_.out
  have y2_ : ((((((((((((w2.setCell ⟨W.heap.size + 1, 0, none⟩ (.int .i64 i0)).setCell ⟨W.heap.size + 1, 1, none⟩ (.slice d1 m1 k1)).setCell ⟨W.heap.size + 1, 2, none⟩ (.slice d2 m2 k2)).setCell ⟨W.heap.size + 1 + 1, 0, none⟩ (.int .i64 0)).setCell ⟨W.heap.size + 1 + 1, 1, none⟩ (.int .i64 0)).setCell ⟨W.heap.size + 1 + 1, 2, none⟩ (.int .i64 0)).setCell ⟨W.heap.size + 1 + 1, 3, none⟩ (.int .i64 0)).setCell ⟨W.heap.size + 1 + 1, 4, none⟩ (.int .i64 0)).setCell ⟨W.heap.size + 1 + 1, 5, none⟩ (.int .i64 0)).setCell ⟨W.heap.size + 1 + 1, 6, none⟩ (.int .i64 0)).setCell ⟨W.heap.size + 1 + 1, 7, none⟩ (.slice none 0 0))).cell? ⟨W.heap.size + 1 + 1, 2, none⟩ = some (.int .i64 0) := cell_of_row _ _ 2 _ _ _ yq_.out
  have y3_ : ((((((((((((w2.setCell ⟨W.heap.size + 1, 0, none⟩ (.int .i64 i0)).setCell ⟨W.heap.size + 1, 1, none⟩ (.slice d1 m1 k1)).setCell ⟨W.heap.size + 1, 2, none⟩ (.slice d2 m2 k2)).setCell ⟨W.heap.size + 1 + 1, 0, none⟩ (.int .i64 0)).setCell ⟨W.heap.size + 1 + 1, 1, none⟩ (.int .i64 0)).setCell ⟨W.heap.size + 1 + 1, 2, none⟩ (.int .i64 0)).setCell ⟨W.heap.size + 1 + 1, 3, none⟩ (.int .i64 0)).setCell ⟨W.heap.size + 1 + 1, 4, none⟩ (.int .i64 0)).setCell ⟨W.heap.size + 1 + 1, 5, none⟩ (.int .i64 0)).setCell ⟨W.heap.size + 1 + 1, 6, none⟩ (.int .i64 0)).setCell ⟨W.heap.size + 1 + 1, 7, none⟩ (.slice none 0 0))).cell? ⟨W.heap.size + 1 + 1, 3, none⟩ = some (.int .i64 0) := cell_of_row _ _ 3 _ _ _ yq_.out
  have y4_ : ((((((((((((w2.setCell ⟨W.heap.size + 1, 0, none⟩ (.int .i64 i0)).setCell ⟨W.heap.size + 1, 1, none⟩ (.slice d1 m1 k1)).setCell ⟨W.heap.size + 1, 2, none⟩ (.slice d2 m2 k2)).setCell ⟨W.heap.size + 1 + 1, 0, none⟩ (.int .i64 0)).setCell ⟨W.heap.size + 1 + 1, 1, none⟩ (.int .i64 0)).setCell ⟨W.heap.size + 1 + 1, 2, none⟩ (.int .i64 0)).setCell ⟨W.heap.size + 1 + 1, 3, none⟩ (.int .i64 0)).setCell ⟨W.heap.size + 1 + 1, 4, none⟩ (.int .i64 0)).setCell ⟨W.heap.size + 1 + 1, 5, none⟩ (.int .i64 0)).setCell ⟨W.heap.size + 1 + 1, 6, none⟩ (.int .i64 0)).setCell ⟨W.heap.size + 1 + 1, 7, none⟩ (.slice none 0 0))).cell? ⟨W.heap.size + 1 + 1, 4, none⟩ = some (.int .i64 0) := cell_of_row _ _ 4 _ _ _ yq_.out
  have y5_ : ((((((((((((w2.setCell ⟨W.heap.size + 1, 0, none⟩ (.int .i64 i0)).setCell ⟨W.heap.size + 1, 1, none⟩ (.slice d1 m1 k1)).setCell ⟨W.heap.size + 1, 2, none⟩ (.slice d2 m2 k2)).setCell ⟨W.heap.size + 1 + 1, 0, none⟩ (.int .i64 0)).setCell ⟨W.heap.size + 1 + 1, 1, none⟩ (.int .i64 0)).setCell ⟨W.heap.size + 1 + 1, 2, none⟩ (.int .i64 0)).setCell ⟨W.heap.size + 1 + 1, 3, none⟩ (.int .i64 0)).setCell ⟨W.heap.size + 1 + 1, 4, none⟩ (.int .i64 0)).setCell ⟨W.heap.size + 1 + 1, 5, none⟩ (.int .i64 0)).setCell ⟨W.heap.size + 1 + 1, 6, none⟩ (.int .i64 0)).setCell ⟨W.heap.size + 1 + 1, 7, none⟩ (.slice none 0 0))).cell? ⟨W.heap.size + 1 + 1, 5, none⟩ = some (.int .i64 0) := cell_of_row _ _ 5 _ _ _ yq_.out
  have y6_ : ((((((((((((w2.setCell ⟨W.heap.size + 1, 0, none⟩ (.int .i64 i0)).setCell ⟨W.heap.size + 1, 1, none⟩ (.slice d1 m1 k1)).setCell ⟨W.heap.size + 1, 2, none⟩ (.slice d2 m2 k2)).setCell ⟨W.heap.size + 1 + 1, 0, none⟩ (.int .i64 0)).setCell ⟨W.heap.size + 1 + 1, 1, none⟩ (.int .i64 0)).setCell ⟨W.heap.size + 1 + 1, 2, none⟩ (.int .i64 0)).setCell ⟨W.heap.size + 1 + 1, 3, none⟩ (.int .i64 0)).setCell ⟨W.heap.size + 1 + 1, 4, none⟩ (.int .i64 0)).setCell ⟨W.heap.size + 1 + 1, 5, none⟩ (.int .i64 0)).setCell ⟨W.heap.size + 1 + 1, 6, none⟩ (.int .i64 0)).setCell ⟨W.heap.size + 1 + 1, 7, none⟩ (.slice none 0 0))).cell? ⟨W.heap.size + 1 + 1, 6, none⟩ = some (.int .i64 0) := cell_of_row _ _ 6 _ _ _ yq_.out
  have y7_ : ((((((((((((w2.setCell ⟨W.heap.size + 1, 0, none⟩ (.int .i64 i0)).setCell ⟨W.heap.size + 1, 1, none⟩ (.slice d1 m1 k1)).setCell ⟨W.heap.size + 1, 2, none⟩ (.slice d2 m2 k2)).setCell ⟨W.heap.size + 1 + 1, 0, none⟩ (.int .i64 0)).setCell ⟨W.heap.size + 1 + 1, 1, none⟩ (.int .i64 0)).setCell ⟨W.heap.size + 1 + 1, 2, none⟩ (.int .i64 0)).setCell ⟨W.heap.size + 1 + 1, 3, none⟩ (.int .i64 0)).setCell ⟨W.heap.size + 1 + 1, 4, none⟩ (.int .i64 0)).setCell ⟨W.heap.size + 1 + 1, 5, none⟩ (.int .i64 0)).setCell ⟨W.heap.size + 1 + 1, 6, none⟩ (.int .i64 0)).setCell ⟨W.heap.size + 1 + 1, 7, none⟩ (.slice none 0 0))).cell? ⟨W.heap.size + 1 + 1, 7, none⟩ = some (.slice none 0 0) := cell_of_row _ _ 7 _ _ _ yq_.out
  go_wp2
  refine bodyPost_ret (v := .tuple #[.agg #[.int .i64 i0, .slice d1 m1 k1, .slice d2 m2 k2], .agg #[.int .i64 0, .int .i64 0, .int .i64 0, .int .i64 0, .int .i64 0, .int .i64 0, .int .i64 0, .slice none 0 0], .bool false]) (by simp [results, go_sem, z0_, z1_, z2_, y0_, y1_, y2_, y3_, y4_, y5_, y6_, y7_]) rfl ⟨_, _, _, rfl, ?_, ?_⟩
  · exact OwU.wide (lo := (W.heap.size + 1 + 1 + 1)) (by omega) (by simp only [World.size_setCell]; omega) (OwU.keep (chg_one _ _ _ _) (by omega) (OwU.keep (chg_one _ _ _ _) (by omega) (OwU.keep (chg_one _ _ _ _) (by omega) (OwU.keep (chg_one _ _ _ _) (by omega) (OwU.keep (chg_one _ _ _ _) (by omega) (OwU.keep (chg_one _ _ _ _) (by omega) (OwU.keep (chg_one _ _ _ _) (by omega) (OwU.keep (chg_one _ _ _ _) (by omega) (OwU.keep (chg_one _ _ _ _) (by omega) (OwU.keep (chg_one _ _ _ _) (by omega) (OwU.keep (chg_one _ _ _ _) (by omega) (OwU.app (ps := [own shB (.slice d1 m1 k1) xs, own shB (.slice d2 m2 k2) ys]) (qs := [own shI (.slice none 0 0) ([] : List Int)]) (m := w1.heap.size) (hi := w1.heap.size) (by omega) (Nat.le_refl _) oC20_.out (OwU.one owL_nil)))))))))))))
  · exact (gby_setnew (gby_setnew (gby_setnew (gby_setnew (gby_setnew (gby_setnew (gby_setnew (gby_setnew (gby_setnew (gby_setnew (gby_setnew G21_.out _ (by dsimp only; omega) _) _ (by dsimp only; omega) _) _ (by dsimp only; omega) _) _ (by dsimp only; omega) _) _ (by dsimp only; omega) _) _ (by dsimp only; omega) _) _ (by dsimp only; omega) _) _ (by dsimp only; omega) _) _ (by dsimp only; omega) _) _ (by dsimp only; omega) _) _ (by dsimp only; omega) _)

end Go.Proofs.Ytgagbhkidponnac
