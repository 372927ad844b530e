/-
  SetMask of the model.
-/
import Derived.Test.YtgagbhkidponnacRaiseS
namespace Go.Proofs.Ytgagbhkidponnac
open Go Go.RowKit
set_option linter.unusedVariables false

theorem vcall_set {i0 : Int} {xs ys : List Bool} {id : Int} {kn : Nat} (hb : VCall i0 xs ys id (kn : Int)) (hk : kn < xs.length) : VCall i0 (xs.set kn false) (ys.set kn false) id (kn : Int) := by
  obtain ⟨⟨h1, h2, h3, h4⟩, h5, h6⟩ := hb
  refine ⟨⟨by rw [List.length_set]; exact h1, by rw [List.length_set, List.length_set]; exact h2, h3, fun j hj hp => ?_⟩, h5, by rw [List.length_set]; exact h6⟩
  rw [List.length_set] at hj
  rw [getD_setB _ _ _ _ (by omega)] at hp
  rw [getD_setB _ _ _ _ hk]
  by_cases e : kn = j
  · rw [if_pos e] at hp; cases hp
  · rw [if_neg e] at hp ⊢; exact h4 j hj hp

set_option maxRecDepth 8000 in
set_option maxHeartbeats 4000000 in
theorem specSetM_set (W : World) (i0 : Int) (v1 v2 : Value) (xs ys : List Bool) (H1 : RdL shB W v1 xs) (H2 : RdL shB W v2 ys) (hl1 : szL shB xs ≤ 1048576) (hl2 : szL shB ys ≤ 1048576) (id k : Int) (hb : VCall i0 xs ys id k) : Calls Try.prog 21 #[vVectors i0 v1 v2, .int .i64 id, .int .i64 k, .bool true] W (ResISetMask i0 (xs.set k.toNat true) ys 0 0 0 0 0 0 0 [] true W) := by
  have HOK := Lib.hid hb
  have hk_ := hb.2.2
  have h8_ := hb.1.1
  have hy_ := hb.1.2.1
  obtain ⟨kn, hkn⟩ : ∃ n : Nat, k = (n : Int) := ⟨k.toNat, by omega⟩
  subst hkn
  have hkx : kn < xs.length := by omega
  clear hb
  rw [Int.toNat_natCast]
  have H1_ := Lib.hid H1
  have H2_ := Lib.hid H2
  obtain ⟨a1, n1, c1, rfl⟩ := RdL.form H1
  obtain ⟨a2, n2, c2, rfl⟩ := RdL.form H2
  clear H1 H2
  unfold vVectors
  have hk0 : (0 : Int) ≤ (kn : Int) := by omega
  have htk : ((kn : Int)).toNat = kn := by omega
  go_enter Try.func21, Try.ntmps21
  have rA1_ := Lib.hid (show ((((W.alloc (.cells #[.int .i64 i0, .slice a1 n1 c1, .slice a2 n2 c2] 26)).alloc (.cells #[.int .i64 0, .slice none 0 0, .slice none 0 0] 26)).alloc (.cells #[.int .i64 0, .int .i64 0, .int .i64 0, .int .i64 0, .int .i64 0, .int .i64 0, .int .i64 0, .slice none 0 0] 29))).heap[W.heap.size]? = some (.cells #[.int .i64 i0, .slice a1 n1 c1, .slice a2 n2 c2] 26 (0, 0)) from by rw [heap_alloc_old _ _ (by simp only [World.size_alloc]; omega)]; rw [heap_alloc_old _ _ (by simp only [World.size_alloc]; omega)]; exact heap_alloc_new _ _)
  have rR2_ := Lib.hid (show ((((W.alloc (.cells #[.int .i64 i0, .slice a1 n1 c1, .slice a2 n2 c2] 26)).alloc (.cells #[.int .i64 0, .slice none 0 0, .slice none 0 0] 26)).alloc (.cells #[.int .i64 0, .int .i64 0, .int .i64 0, .int .i64 0, .int .i64 0, .int .i64 0, .int .i64 0, .slice none 0 0] 29))).heap[W.heap.size + 1]? = some (.cells #[.int .i64 0, .slice none 0 0, .slice none 0 0] 26 (0, 0)) from by rw [heap_alloc_old _ _ (by simp only [World.size_alloc]; omega)]; exact heap_pair _ _ _)
  have rQ3_ := Lib.hid (show ((((W.alloc (.cells #[.int .i64 i0, .slice a1 n1 c1, .slice a2 n2 c2] 26)).alloc (.cells #[.int .i64 0, .slice none 0 0, .slice none 0 0] 26)).alloc (.cells #[.int .i64 0, .int .i64 0, .int .i64 0, .int .i64 0, .int .i64 0, .int .i64 0, .int .i64 0, .slice none 0 0] 29))).heap[W.heap.size + 1 + 1]? = some (.cells #[.int .i64 0, .int .i64 0, .int .i64 0, .int .i64 0, .int .i64 0, .int .i64 0, .int .i64 0, .slice none 0 0] 29 (0, 0)) from by exact heap_trip _ _ _ _)
  have G4_ := Lib.hid (show (W).grownBy ((((W.alloc (.cells #[.int .i64 i0, .slice a1 n1 c1, .slice a2 n2 c2] 26)).alloc (.cells #[.int .i64 0, .slice none 0 0, .slice none 0 0] 26)).alloc (.cells #[.int .i64 0, .int .i64 0, .int .i64 0, .int .i64 0, .int .i64 0, .int .i64 0, .int .i64 0, .slice none 0 0] 29))) none from (gby_alloc (gby_alloc (gby_alloc (gby_refl _ _) _) _) _))
  have A_0_ : ((((W.alloc (.cells #[.int .i64 i0, .slice a1 n1 c1, .slice a2 n2 c2] 26)).alloc (.cells #[.int .i64 0, .slice none 0 0, .slice none 0 0] 26)).alloc (.cells #[.int .i64 0, .int .i64 0, .int .i64 0, .int .i64 0, .int .i64 0, .int .i64 0, .int .i64 0, .slice none 0 0] 29))).cell? ⟨W.heap.size, 0, none⟩ = some (.int .i64 i0) := cell_of_row _ _ 0 _ _ _ rA1_.out
  have A_1_ : ((((W.alloc (.cells #[.int .i64 i0, .slice a1 n1 c1, .slice a2 n2 c2] 26)).alloc (.cells #[.int .i64 0, .slice none 0 0, .slice none 0 0] 26)).alloc (.cells #[.int .i64 0, .int .i64 0, .int .i64 0, .int .i64 0, .int .i64 0, .int .i64 0, .int .i64 0, .slice none 0 0] 29))).cell? ⟨W.heap.size, 1, none⟩ = some (.slice a1 n1 c1) := cell_of_row _ _ 1 _ _ _ rA1_.out
  have A_2_ : ((((W.alloc (.cells #[.int .i64 i0, .slice a1 n1 c1, .slice a2 n2 c2] 26)).alloc (.cells #[.int .i64 0, .slice none 0 0, .slice none 0 0] 26)).alloc (.cells #[.int .i64 0, .int .i64 0, .int .i64 0, .int .i64 0, .int .i64 0, .int .i64 0, .int .i64 0, .slice none 0 0] 29))).cell? ⟨W.heap.size, 2, none⟩ = some (.slice a2 n2 c2) := cell_of_row _ _ 2 _ _ _ rA1_.out
  have R_0_ : ((((W.alloc (.cells #[.int .i64 i0, .slice a1 n1 c1, .slice a2 n2 c2] 26)).alloc (.cells #[.int .i64 0, .slice none 0 0, .slice none 0 0] 26)).alloc (.cells #[.int .i64 0, .int .i64 0, .int .i64 0, .int .i64 0, .int .i64 0, .int .i64 0, .int .i64 0, .slice none 0 0] 29))).cell? ⟨W.heap.size + 1, 0, none⟩ = some (.int .i64 0) := cell_of_row _ _ 0 _ _ _ rR2_.out
  have R_1_ : ((((W.alloc (.cells #[.int .i64 i0, .slice a1 n1 c1, .slice a2 n2 c2] 26)).alloc (.cells #[.int .i64 0, .slice none 0 0, .slice none 0 0] 26)).alloc (.cells #[.int .i64 0, .int .i64 0, .int .i64 0, .int .i64 0, .int .i64 0, .int .i64 0, .int .i64 0, .slice none 0 0] 29))).cell? ⟨W.heap.size + 1, 1, none⟩ = some (.slice none 0 0) := cell_of_row _ _ 1 _ _ _ rR2_.out
  have R_2_ : ((((W.alloc (.cells #[.int .i64 i0, .slice a1 n1 c1, .slice a2 n2 c2] 26)).alloc (.cells #[.int .i64 0, .slice none 0 0, .slice none 0 0] 26)).alloc (.cells #[.int .i64 0, .int .i64 0, .int .i64 0, .int .i64 0, .int .i64 0, .int .i64 0, .int .i64 0, .slice none 0 0] 29))).cell? ⟨W.heap.size + 1, 2, none⟩ = some (.slice none 0 0) := cell_of_row _ _ 2 _ _ _ rR2_.out
  have Q_0_ : ((((W.alloc (.cells #[.int .i64 i0, .slice a1 n1 c1, .slice a2 n2 c2] 26)).alloc (.cells #[.int .i64 0, .slice none 0 0, .slice none 0 0] 26)).alloc (.cells #[.int .i64 0, .int .i64 0, .int .i64 0, .int .i64 0, .int .i64 0, .int .i64 0, .int .i64 0, .slice none 0 0] 29))).cell? ⟨W.heap.size + 1 + 1, 0, none⟩ = some (.int .i64 0) := cell_of_row _ _ 0 _ _ _ rQ3_.out
  have Q_1_ : ((((W.alloc (.cells #[.int .i64 i0, .slice a1 n1 c1, .slice a2 n2 c2] 26)).alloc (.cells #[.int .i64 0, .slice none 0 0, .slice none 0 0] 26)).alloc (.cells #[.int .i64 0, .int .i64 0, .int .i64 0, .int .i64 0, .int .i64 0, .int .i64 0, .int .i64 0, .slice none 0 0] 29))).cell? ⟨W.heap.size + 1 + 1, 1, none⟩ = some (.int .i64 0) := cell_of_row _ _ 1 _ _ _ rQ3_.out
  have Q_2_ : ((((W.alloc (.cells #[.int .i64 i0, .slice a1 n1 c1, .slice a2 n2 c2] 26)).alloc (.cells #[.int .i64 0, .slice none 0 0, .slice none 0 0] 26)).alloc (.cells #[.int .i64 0, .int .i64 0, .int .i64 0, .int .i64 0, .int .i64 0, .int .i64 0, .int .i64 0, .slice none 0 0] 29))).cell? ⟨W.heap.size + 1 + 1, 2, none⟩ = some (.int .i64 0) := cell_of_row _ _ 2 _ _ _ rQ3_.out
  have Q_3_ : ((((W.alloc (.cells #[.int .i64 i0, .slice a1 n1 c1, .slice a2 n2 c2] 26)).alloc (.cells #[.int .i64 0, .slice none 0 0, .slice none 0 0] 26)).alloc (.cells #[.int .i64 0, .int .i64 0, .int .i64 0, .int .i64 0, .int .i64 0, .int .i64 0, .int .i64 0, .slice none 0 0] 29))).cell? ⟨W.heap.size + 1 + 1, 3, none⟩ = some (.int .i64 0) := cell_of_row _ _ 3 _ _ _ rQ3_.out
  have Q_4_ : ((((W.alloc (.cells #[.int .i64 i0, .slice a1 n1 c1, .slice a2 n2 c2] 26)).alloc (.cells #[.int .i64 0, .slice none 0 0, .slice none 0 0] 26)).alloc (.cells #[.int .i64 0, .int .i64 0, .int .i64 0, .int .i64 0, .int .i64 0, .int .i64 0, .int .i64 0, .slice none 0 0] 29))).cell? ⟨W.heap.size + 1 + 1, 4, none⟩ = some (.int .i64 0) := cell_of_row _ _ 4 _ _ _ rQ3_.out
  have Q_5_ : ((((W.alloc (.cells #[.int .i64 i0, .slice a1 n1 c1, .slice a2 n2 c2] 26)).alloc (.cells #[.int .i64 0, .slice none 0 0, .slice none 0 0] 26)).alloc (.cells #[.int .i64 0, .int .i64 0, .int .i64 0, .int .i64 0, .int .i64 0, .int .i64 0, .int .i64 0, .slice none 0 0] 29))).cell? ⟨W.heap.size + 1 + 1, 5, none⟩ = some (.int .i64 0) := cell_of_row _ _ 5 _ _ _ rQ3_.out
  have Q_6_ : ((((W.alloc (.cells #[.int .i64 i0, .slice a1 n1 c1, .slice a2 n2 c2] 26)).alloc (.cells #[.int .i64 0, .slice none 0 0, .slice none 0 0] 26)).alloc (.cells #[.int .i64 0, .int .i64 0, .int .i64 0, .int .i64 0, .int .i64 0, .int .i64 0, .int .i64 0, .slice none 0 0] 29))).cell? ⟨W.heap.size + 1 + 1, 6, none⟩ = some (.int .i64 0) := cell_of_row _ _ 6 _ _ _ rQ3_.out
  have Q_7_ : ((((W.alloc (.cells #[.int .i64 i0, .slice a1 n1 c1, .slice a2 n2 c2] 26)).alloc (.cells #[.int .i64 0, .slice none 0 0, .slice none 0 0] 26)).alloc (.cells #[.int .i64 0, .int .i64 0, .int .i64 0, .int .i64 0, .int .i64 0, .int .i64 0, .int .i64 0, .slice none 0 0] 29))).cell? ⟨W.heap.size + 1 + 1, 7, none⟩ = some (.slice none 0 0) := cell_of_row _ _ 7 _ _ _ rQ3_.out
  go_wp2_with fail
  go_at_call 60
  refine (l30Copy_d _ i0 _ _ xs ys (H1_.out.grow G4_.out) (H2_.out.grow G4_.out) hl1 hl2).mono ?_
  rintro e w1 ⟨x1, x2, rfl, o, g⟩
  have sz_ := g.size
  try simp only [World.size_alloc] at sz_ o
  clear A_0_ A_1_ A_2_ R_0_ R_1_ R_2_ Q_0_ Q_1_ Q_2_ Q_3_ Q_4_ Q_5_ Q_6_ Q_7_
  have rA5_ := Lib.hid (show (w1).heap[W.heap.size]? = some (.cells #[.int .i64 i0, .slice a1 n1 c1, .slice a2 n2 c2] 26 (0, 0)) from row_held g rA1_.out)
  clear rA1_
  have rR6_ := Lib.hid (show (w1).heap[W.heap.size + 1]? = some (.cells #[.int .i64 0, .slice none 0 0, .slice none 0 0] 26 (0, 0)) from row_held g rR2_.out)
  clear rR2_
  have rQ7_ := Lib.hid (show (w1).heap[W.heap.size + 1 + 1]? = some (.cells #[.int .i64 0, .int .i64 0, .int .i64 0, .int .i64 0, .int .i64 0, .int .i64 0, .int .i64 0, .slice none 0 0] 29 (0, 0)) from row_held g rQ3_.out)
  clear rQ3_
  have G8_ := Lib.hid (show (W).grownBy (w1) none from gby_trans G4_.out g)
  clear g
  obtain ⟨d1, m1, k1, hv_⟩ := RdL.form (OwU.rd o)
  subst hv_
  obtain ⟨d2, m2, k2, hv_⟩ := RdL.form (OwU.rd (OwU.tail o))
  subst hv_
  unfold vVectors
  have oC9_ := Lib.hid (show OwU (w1) ((W.heap.size + 1 + 1 + 1)) (w1.heap.size) [] [own shB (.slice d1 m1 k1) xs, own shB (.slice d2 m2 k2) ys] from o)
  clear o
  have al_ : (w1).grownBy ((w1).alloc (.cells #[.int .i64 i0, .slice d1 m1 k1, .slice d2 m2 k2] 26)) none := gby_alloc (gby_refl _ _) _
  have rA10_ := Lib.hid (show ((w1.alloc (.cells #[.int .i64 i0, .slice d1 m1 k1, .slice d2 m2 k2] 26))).heap[W.heap.size]? = some (.cells #[.int .i64 i0, .slice a1 n1 c1, .slice a2 n2 c2] 26 (0, 0)) from row_held al_ rA5_.out)
  clear rA5_
  have rR11_ := Lib.hid (show ((w1.alloc (.cells #[.int .i64 i0, .slice d1 m1 k1, .slice d2 m2 k2] 26))).heap[W.heap.size + 1]? = some (.cells #[.int .i64 0, .slice none 0 0, .slice none 0 0] 26 (0, 0)) from row_held al_ rR6_.out)
  clear rR6_
  have rQ12_ := Lib.hid (show ((w1.alloc (.cells #[.int .i64 i0, .slice d1 m1 k1, .slice d2 m2 k2] 26))).heap[W.heap.size + 1 + 1]? = some (.cells #[.int .i64 0, .int .i64 0, .int .i64 0, .int .i64 0, .int .i64 0, .int .i64 0, .int .i64 0, .slice none 0 0] 29 (0, 0)) from row_held al_ rQ7_.out)
  clear rQ7_
  have oC13_ := Lib.hid (show OwU ((w1.alloc (.cells #[.int .i64 i0, .slice d1 m1 k1, .slice d2 m2 k2] 26))) ((W.heap.size + 1 + 1 + 1)) (w1.heap.size) [] [own shB (.slice d1 m1 k1) xs, own shB (.slice d2 m2 k2) ys] from OwU.grow oC9_.out al_)
  clear oC9_
  have G14_ := Lib.hid (show (W).grownBy ((w1.alloc (.cells #[.int .i64 i0, .slice d1 m1 k1, .slice d2 m2 k2] 26))) none from gby_trans G8_.out al_)
  have rX15_ := Lib.hid (show ((w1.alloc (.cells #[.int .i64 i0, .slice d1 m1 k1, .slice d2 m2 k2] 26))).heap[w1.heap.size]? = some (.cells #[.int .i64 i0, .slice d1 m1 k1, .slice d2 m2 k2] 26 (0, 0)) from by first | exact heap_alloc_new _ _ | exact heap_pair _ _ _ | exact heap_trip _ _ _ _)
  clear al_
  have A_0_ : ((w1.alloc (.cells #[.int .i64 i0, .slice d1 m1 k1, .slice d2 m2 k2] 26))).cell? ⟨W.heap.size, 0, none⟩ = some (.int .i64 i0) := cell_of_row _ _ 0 _ _ _ rA10_.out
  have A_1_ : ((w1.alloc (.cells #[.int .i64 i0, .slice d1 m1 k1, .slice d2 m2 k2] 26))).cell? ⟨W.heap.size, 1, none⟩ = some (.slice a1 n1 c1) := cell_of_row _ _ 1 _ _ _ rA10_.out
  have A_2_ : ((w1.alloc (.cells #[.int .i64 i0, .slice d1 m1 k1, .slice d2 m2 k2] 26))).cell? ⟨W.heap.size, 2, none⟩ = some (.slice a2 n2 c2) := cell_of_row _ _ 2 _ _ _ rA10_.out
  have R_0_ : ((w1.alloc (.cells #[.int .i64 i0, .slice d1 m1 k1, .slice d2 m2 k2] 26))).cell? ⟨W.heap.size + 1, 0, none⟩ = some (.int .i64 0) := cell_of_row _ _ 0 _ _ _ rR11_.out
  have R_1_ : ((w1.alloc (.cells #[.int .i64 i0, .slice d1 m1 k1, .slice d2 m2 k2] 26))).cell? ⟨W.heap.size + 1, 1, none⟩ = some (.slice none 0 0) := cell_of_row _ _ 1 _ _ _ rR11_.out
  have R_2_ : ((w1.alloc (.cells #[.int .i64 i0, .slice d1 m1 k1, .slice d2 m2 k2] 26))).cell? ⟨W.heap.size + 1, 2, none⟩ = some (.slice none 0 0) := cell_of_row _ _ 2 _ _ _ rR11_.out
  have Q_0_ : ((w1.alloc (.cells #[.int .i64 i0, .slice d1 m1 k1, .slice d2 m2 k2] 26))).cell? ⟨W.heap.size + 1 + 1, 0, none⟩ = some (.int .i64 0) := cell_of_row _ _ 0 _ _ _ rQ12_.out
  have Q_1_ : ((w1.alloc (.cells #[.int .i64 i0, .slice d1 m1 k1, .slice d2 m2 k2] 26))).cell? ⟨W.heap.size + 1 + 1, 1, none⟩ = some (.int .i64 0) := cell_of_row _ _ 1 _ _ _ rQ12_.out
  have Q_2_ : ((w1.alloc (.cells #[.int .i64 i0, .slice d1 m1 k1, .slice d2 m2 k2] 26))).cell? ⟨W.heap.size + 1 + 1, 2, none⟩ = some (.int .i64 0) := cell_of_row _ _ 2 _ _ _ rQ12_.out
  have Q_3_ : ((w1.alloc (.cells #[.int .i64 i0, .slice d1 m1 k1, .slice d2 m2 k2] 26))).cell? ⟨W.heap.size + 1 + 1, 3, none⟩ = some (.int .i64 0) := cell_of_row _ _ 3 _ _ _ rQ12_.out
  have Q_4_ : ((w1.alloc (.cells #[.int .i64 i0, .slice d1 m1 k1, .slice d2 m2 k2] 26))).cell? ⟨W.heap.size + 1 + 1, 4, none⟩ = some (.int .i64 0) := cell_of_row _ _ 4 _ _ _ rQ12_.out
  have Q_5_ : ((w1.alloc (.cells #[.int .i64 i0, .slice d1 m1 k1, .slice d2 m2 k2] 26))).cell? ⟨W.heap.size + 1 + 1, 5, none⟩ = some (.int .i64 0) := cell_of_row _ _ 5 _ _ _ rQ12_.out
  have Q_6_ : ((w1.alloc (.cells #[.int .i64 i0, .slice d1 m1 k1, .slice d2 m2 k2] 26))).cell? ⟨W.heap.size + 1 + 1, 6, none⟩ = some (.int .i64 0) := cell_of_row _ _ 6 _ _ _ rQ12_.out
  have Q_7_ : ((w1.alloc (.cells #[.int .i64 i0, .slice d1 m1 k1, .slice d2 m2 k2] 26))).cell? ⟨W.heap.size + 1 + 1, 7, none⟩ = some (.slice none 0 0) := cell_of_row _ _ 7 _ _ _ rQ12_.out
  have X_0_ : ((w1.alloc (.cells #[.int .i64 i0, .slice d1 m1 k1, .slice d2 m2 k2] 26))).cell? ⟨w1.heap.size, 0, none⟩ = some (.int .i64 i0) := cell_of_row _ _ 0 _ _ _ rX15_.out
  have X_1_ : ((w1.alloc (.cells #[.int .i64 i0, .slice d1 m1 k1, .slice d2 m2 k2] 26))).cell? ⟨w1.heap.size, 1, none⟩ = some (.slice d1 m1 k1) := cell_of_row _ _ 1 _ _ _ rX15_.out
  have X_2_ : ((w1.alloc (.cells #[.int .i64 i0, .slice d1 m1 k1, .slice d2 m2 k2] 26))).cell? ⟨w1.heap.size, 2, none⟩ = some (.slice d2 m2 k2) := cell_of_row _ _ 2 _ _ _ rX15_.out
  go_wp2_with fail
  go_at_call 61
  refine (((specVCall _ i0 _ _ xs ys id (kn : Int) (H1_.out.grow G14_.out) (H2_.out.grow G14_.out)).mono (bpost_yes HOK.out))).mono ?_
  rintro e w2 ⟨rfl, g⟩
  have szw2 := g.size
  try simp only [World.size_alloc] at szw2
  try simp only [World.size_setCell] at szw2
  clear A_0_ A_1_ A_2_ R_0_ R_1_ R_2_ Q_0_ Q_1_ Q_2_ Q_3_ Q_4_ Q_5_ Q_6_ Q_7_ X_0_ X_1_ X_2_
  have rA16_ := Lib.hid (show (w2).heap[W.heap.size]? = some (.cells #[.int .i64 i0, .slice a1 n1 c1, .slice a2 n2 c2] 26 (0, 0)) from row_held g rA10_.out)
  clear rA10_
  have rR17_ := Lib.hid (show (w2).heap[W.heap.size + 1]? = some (.cells #[.int .i64 0, .slice none 0 0, .slice none 0 0] 26 (0, 0)) from row_held g rR11_.out)
  clear rR11_
  have rQ18_ := Lib.hid (show (w2).heap[W.heap.size + 1 + 1]? = some (.cells #[.int .i64 0, .int .i64 0, .int .i64 0, .int .i64 0, .int .i64 0, .int .i64 0, .int .i64 0, .slice none 0 0] 29 (0, 0)) from row_held g rQ12_.out)
  clear rQ12_
  have rX19_ := Lib.hid (show (w2).heap[w1.heap.size]? = some (.cells #[.int .i64 i0, .slice d1 m1 k1, .slice d2 m2 k2] 26 (0, 0)) from row_held g rX15_.out)
  clear rX15_
  have oC20_ := Lib.hid (show OwU (w2) ((W.heap.size + 1 + 1 + 1)) (w1.heap.size) [] [own shB (.slice d1 m1 k1) xs, own shB (.slice d2 m2 k2) ys] from OwU.grow oC13_.out g)
  clear oC13_
  have G21_ := Lib.hid (show (W).grownBy (w2) none from gby_trans G14_.out g)
  clear g
  have A_0_ : (w2).cell? ⟨W.heap.size, 0, none⟩ = some (.int .i64 i0) := cell_of_row _ _ 0 _ _ _ rA16_.out
  have A_1_ : (w2).cell? ⟨W.heap.size, 1, none⟩ = some (.slice a1 n1 c1) := cell_of_row _ _ 1 _ _ _ rA16_.out
  have A_2_ : (w2).cell? ⟨W.heap.size, 2, none⟩ = some (.slice a2 n2 c2) := cell_of_row _ _ 2 _ _ _ rA16_.out
  have R_0_ : (w2).cell? ⟨W.heap.size + 1, 0, none⟩ = some (.int .i64 0) := cell_of_row _ _ 0 _ _ _ rR17_.out
  have R_1_ : (w2).cell? ⟨W.heap.size + 1, 1, none⟩ = some (.slice none 0 0) := cell_of_row _ _ 1 _ _ _ rR17_.out
  have R_2_ : (w2).cell? ⟨W.heap.size + 1, 2, none⟩ = some (.slice none 0 0) := cell_of_row _ _ 2 _ _ _ rR17_.out
  have Q_0_ : (w2).cell? ⟨W.heap.size + 1 + 1, 0, none⟩ = some (.int .i64 0) := cell_of_row _ _ 0 _ _ _ rQ18_.out
  have Q_1_ : (w2).cell? ⟨W.heap.size + 1 + 1, 1, none⟩ = some (.int .i64 0) := cell_of_row _ _ 1 _ _ _ rQ18_.out
  have Q_2_ : (w2).cell? ⟨W.heap.size + 1 + 1, 2, none⟩ = some (.int .i64 0) := cell_of_row _ _ 2 _ _ _ rQ18_.out
  have Q_3_ : (w2).cell? ⟨W.heap.size + 1 + 1, 3, none⟩ = some (.int .i64 0) := cell_of_row _ _ 3 _ _ _ rQ18_.out
  have Q_4_ : (w2).cell? ⟨W.heap.size + 1 + 1, 4, none⟩ = some (.int .i64 0) := cell_of_row _ _ 4 _ _ _ rQ18_.out
  have Q_5_ : (w2).cell? ⟨W.heap.size + 1 + 1, 5, none⟩ = some (.int .i64 0) := cell_of_row _ _ 5 _ _ _ rQ18_.out
  have Q_6_ : (w2).cell? ⟨W.heap.size + 1 + 1, 6, none⟩ = some (.int .i64 0) := cell_of_row _ _ 6 _ _ _ rQ18_.out
  have Q_7_ : (w2).cell? ⟨W.heap.size + 1 + 1, 7, none⟩ = some (.slice none 0 0) := cell_of_row _ _ 7 _ _ _ rQ18_.out
  have X_0_ : (w2).cell? ⟨w1.heap.size, 0, none⟩ = some (.int .i64 i0) := cell_of_row _ _ 0 _ _ _ rX19_.out
  have X_1_ : (w2).cell? ⟨w1.heap.size, 1, none⟩ = some (.slice d1 m1 k1) := cell_of_row _ _ 1 _ _ _ rX19_.out
  have X_2_ : (w2).cell? ⟨w1.heap.size, 2, none⟩ = some (.slice d2 m2 k2) := cell_of_row _ _ 2 _ _ _ rX19_.out
  clear A_0_ A_1_ A_2_ R_0_ R_1_ R_2_ Q_0_ Q_1_ Q_2_ Q_3_ Q_4_ Q_5_ Q_6_ Q_7_ X_0_ X_1_ X_2_
  have A_0_ : (w2).cell? ⟨W.heap.size, 0, none⟩ = some (.int .i64 i0) := cell_of_row _ _ 0 _ _ _ rA16_.out
  have A_1_ : (w2).cell? ⟨W.heap.size, 1, none⟩ = some (.slice a1 n1 c1) := cell_of_row _ _ 1 _ _ _ rA16_.out
  have A_2_ : (w2).cell? ⟨W.heap.size, 2, none⟩ = some (.slice a2 n2 c2) := cell_of_row _ _ 2 _ _ _ rA16_.out
  have R_0_ : (w2).cell? ⟨W.heap.size + 1, 0, none⟩ = some (.int .i64 0) := cell_of_row _ _ 0 _ _ _ rR17_.out
  have R_1_ : (w2).cell? ⟨W.heap.size + 1, 1, none⟩ = some (.slice none 0 0) := cell_of_row _ _ 1 _ _ _ rR17_.out
  have R_2_ : (w2).cell? ⟨W.heap.size + 1, 2, none⟩ = some (.slice none 0 0) := cell_of_row _ _ 2 _ _ _ rR17_.out
  have Rf0_ : (w2).frozen? ⟨W.heap.size + 1, 0, none⟩ = false := frozen_of_row _ _ 0 _ _ rR17_.out
  have Rf1_ : (w2).frozen? ⟨W.heap.size + 1, 1, none⟩ = false := frozen_of_row _ _ 1 _ _ rR17_.out
  have Rf2_ : (w2).frozen? ⟨W.heap.size + 1, 2, none⟩ = false := frozen_of_row _ _ 2 _ _ rR17_.out
  have Q_0_ : (w2).cell? ⟨W.heap.size + 1 + 1, 0, none⟩ = some (.int .i64 0) := cell_of_row _ _ 0 _ _ _ rQ18_.out
  have Q_1_ : (w2).cell? ⟨W.heap.size + 1 + 1, 1, none⟩ = some (.int .i64 0) := cell_of_row _ _ 1 _ _ _ rQ18_.out
  have Q_2_ : (w2).cell? ⟨W.heap.size + 1 + 1, 2, none⟩ = some (.int .i64 0) := cell_of_row _ _ 2 _ _ _ rQ18_.out
  have Q_3_ : (w2).cell? ⟨W.heap.size + 1 + 1, 3, none⟩ = some (.int .i64 0) := cell_of_row _ _ 3 _ _ _ rQ18_.out
  have Q_4_ : (w2).cell? ⟨W.heap.size + 1 + 1, 4, none⟩ = some (.int .i64 0) := cell_of_row _ _ 4 _ _ _ rQ18_.out
  have Q_5_ : (w2).cell? ⟨W.heap.size + 1 + 1, 5, none⟩ = some (.int .i64 0) := cell_of_row _ _ 5 _ _ _ rQ18_.out
  have Q_6_ : (w2).cell? ⟨W.heap.size + 1 + 1, 6, none⟩ = some (.int .i64 0) := cell_of_row _ _ 6 _ _ _ rQ18_.out
  have Q_7_ : (w2).cell? ⟨W.heap.size + 1 + 1, 7, none⟩ = some (.slice none 0 0) := cell_of_row _ _ 7 _ _ _ rQ18_.out
  have Qf0_ : (w2).frozen? ⟨W.heap.size + 1 + 1, 0, none⟩ = false := frozen_of_row _ _ 0 _ _ rQ18_.out
  have Qf1_ : (w2).frozen? ⟨W.heap.size + 1 + 1, 1, none⟩ = false := frozen_of_row _ _ 1 _ _ rQ18_.out
  have Qf2_ : (w2).frozen? ⟨W.heap.size + 1 + 1, 2, none⟩ = false := frozen_of_row _ _ 2 _ _ rQ18_.out
  have Qf3_ : (w2).frozen? ⟨W.heap.size + 1 + 1, 3, none⟩ = false := frozen_of_row _ _ 3 _ _ rQ18_.out
  have Qf4_ : (w2).frozen? ⟨W.heap.size + 1 + 1, 4, none⟩ = false := frozen_of_row _ _ 4 _ _ rQ18_.out
  have Qf5_ : (w2).frozen? ⟨W.heap.size + 1 + 1, 5, none⟩ = false := frozen_of_row _ _ 5 _ _ rQ18_.out
  have Qf6_ : (w2).frozen? ⟨W.heap.size + 1 + 1, 6, none⟩ = false := frozen_of_row _ _ 6 _ _ rQ18_.out
  have Qf7_ : (w2).frozen? ⟨W.heap.size + 1 + 1, 7, none⟩ = false := frozen_of_row _ _ 7 _ _ rQ18_.out
  have X_0_ : (w2).cell? ⟨w1.heap.size, 0, none⟩ = some (.int .i64 i0) := cell_of_row _ _ 0 _ _ _ rX19_.out
  have X_1_ : (w2).cell? ⟨w1.heap.size, 1, none⟩ = some (.slice d1 m1 k1) := cell_of_row _ _ 1 _ _ _ rX19_.out
  have X_2_ : (w2).cell? ⟨w1.heap.size, 2, none⟩ = some (.slice d2 m2 k2) := cell_of_row _ _ 2 _ _ _ rX19_.out
  obtain ⟨mb, mo, c_22, hv22_, lo22_, hi22_, ck22_, cf22_, st22_⟩ := vset1 oC20_.out kn (by (try simp only [List.length_set]); omega)
  injection hv22_ with q1_ q2_ q3_
  have HL22 := Lib.hid q2_
  have HS22 := Lib.hid (st22_ true)
  clear q2_ q3_ st22_
  subst q1_
  have n220_ : ¬ mb = W.heap.size := by omega
  have m220_ : ¬ W.heap.size = mb := by omega
  have n221_ : ¬ mb = W.heap.size + 1 := by omega
  have m221_ : ¬ W.heap.size + 1 = mb := by omega
  have n222_ : ¬ mb = W.heap.size + 1 + 1 := by omega
  have m222_ : ¬ W.heap.size + 1 + 1 = mb := by omega
  have n223_ : ¬ mb = w1.heap.size := by omega
  have m223_ : ¬ w1.heap.size = mb := by omega
  have b22_ : (kn : Int) < (m1 : Int) := by have := HL22.out; (try simp only [List.length_set] at this); omega
  have G23_ := Lib.hid (show (W).grownBy ((w2.setCell ⟨mb, mo + kn, none⟩ (.bool true))) none from gby_setnew G21_.out _ (by dsimp only; omega) _)
  have rA24_ := Lib.hid (show ((w2.setCell ⟨mb, mo + kn, none⟩ (.bool true))).heap[W.heap.size]? = some (.cells #[.int .i64 i0, .slice a1 n1 c1, .slice a2 n2 c2] 26 (0, 0)) from set_far rA16_.out (by dsimp only; omega))
  have rR25_ := Lib.hid (show ((w2.setCell ⟨mb, mo + kn, none⟩ (.bool true))).heap[W.heap.size + 1]? = some (.cells #[.int .i64 0, .slice none 0 0, .slice none 0 0] 26 (0, 0)) from set_far rR17_.out (by dsimp only; omega))
  have rQ26_ := Lib.hid (show ((w2.setCell ⟨mb, mo + kn, none⟩ (.bool true))).heap[W.heap.size + 1 + 1]? = some (.cells #[.int .i64 0, .int .i64 0, .int .i64 0, .int .i64 0, .int .i64 0, .int .i64 0, .int .i64 0, .slice none 0 0] 29 (0, 0)) from set_far rQ18_.out (by dsimp only; omega))
  have rX27_ := Lib.hid (show ((w2.setCell ⟨mb, mo + kn, none⟩ (.bool true))).heap[w1.heap.size]? = some (.cells #[.int .i64 i0, .slice (some ⟨mb, mo, none⟩) m1 k1, .slice d2 m2 k2] 26 (0, 0)) from set_far rX19_.out (by dsimp only; omega))
  have oC28_ := Lib.hid (show OwU ((w2.setCell ⟨mb, mo + kn, none⟩ (.bool true))) ((W.heap.size + 1 + 1 + 1)) (w1.heap.size) [] [own shB (.slice (some ⟨mb, mo, none⟩) m1 k1) (xs.set kn true), own shB (.slice d2 m2 k2) ys] from HS22.out)
  have yr_ := Lib.hid (show (((((((((((((w2.setCell ⟨mb, mo + kn, none⟩ (.bool true)).setCell ⟨W.heap.size + 1, 0, none⟩ (.int .i64 i0)).setCell ⟨W.heap.size + 1, 1, none⟩ (.slice (some ⟨mb, mo, none⟩) m1 k1)).setCell ⟨W.heap.size + 1, 2, none⟩ (.slice d2 m2 k2)).setCell ⟨W.heap.size + 1 + 1, 0, none⟩ (.int .i64 0)).setCell ⟨W.heap.size + 1 + 1, 1, none⟩ (.int .i64 0)).setCell ⟨W.heap.size + 1 + 1, 2, none⟩ (.int .i64 0)).setCell ⟨W.heap.size + 1 + 1, 3, none⟩ (.int .i64 0)).setCell ⟨W.heap.size + 1 + 1, 4, none⟩ (.int .i64 0)).setCell ⟨W.heap.size + 1 + 1, 5, none⟩ (.int .i64 0)).setCell ⟨W.heap.size + 1 + 1, 6, none⟩ (.int .i64 0)).setCell ⟨W.heap.size + 1 + 1, 7, none⟩ (.slice none 0 0))).heap[W.heap.size + 1]? = some (.cells #[.int .i64 i0, .slice (some ⟨mb, mo, none⟩) m1 k1, .slice d2 m2 k2] 26 (0, 0)) from (set_far (set_far (set_far (set_far (set_far (set_far (set_far (set_far (heap_setCell_same _ _ 2 _ _ _ (heap_setCell_same _ _ 1 _ _ _ (heap_setCell_same _ _ 0 _ _ _ rR25_.out))) (by dsimp only; omega)) (by dsimp only; omega)) (by dsimp only; omega)) (by dsimp only; omega)) (by dsimp only; omega)) (by dsimp only; omega)) (by dsimp only; omega)) (by dsimp only; omega)))
  have yq_ := Lib.hid (show (((((((((((((w2.setCell ⟨mb, mo + kn, none⟩ (.bool true)).setCell ⟨W.heap.size + 1, 0, none⟩ (.int .i64 i0)).setCell ⟨W.heap.size + 1, 1, none⟩ (.slice (some ⟨mb, mo, none⟩) m1 k1)).setCell ⟨W.heap.size + 1, 2, none⟩ (.slice d2 m2 k2)).setCell ⟨W.heap.size + 1 + 1, 0, none⟩ (.int .i64 0)).setCell ⟨W.heap.size + 1 + 1, 1, none⟩ (.int .i64 0)).setCell ⟨W.heap.size + 1 + 1, 2, none⟩ (.int .i64 0)).setCell ⟨W.heap.size + 1 + 1, 3, none⟩ (.int .i64 0)).setCell ⟨W.heap.size + 1 + 1, 4, none⟩ (.int .i64 0)).setCell ⟨W.heap.size + 1 + 1, 5, none⟩ (.int .i64 0)).setCell ⟨W.heap.size + 1 + 1, 6, none⟩ (.int .i64 0)).setCell ⟨W.heap.size + 1 + 1, 7, none⟩ (.slice none 0 0))).heap[W.heap.size + 1 + 1]? = some (.cells #[.int .i64 0, .int .i64 0, .int .i64 0, .int .i64 0, .int .i64 0, .int .i64 0, .int .i64 0, .slice none 0 0] 29 (0, 0)) from (heap_setCell_same _ _ 7 _ _ _ (heap_setCell_same _ _ 6 _ _ _ (heap_setCell_same _ _ 5 _ _ _ (heap_setCell_same _ _ 4 _ _ _ (heap_setCell_same _ _ 3 _ _ _ (heap_setCell_same _ _ 2 _ _ _ (heap_setCell_same _ _ 1 _ _ _ (heap_setCell_same _ _ 0 _ _ _ (set_far (set_far (set_far rQ26_.out (by dsimp only; omega)) (by dsimp only; omega)) (by dsimp only; omega)))))))))))
  have z0_ : (((((((((((((w2.setCell ⟨mb, mo + kn, none⟩ (.bool true)).setCell ⟨W.heap.size + 1, 0, none⟩ (.int .i64 i0)).setCell ⟨W.heap.size + 1, 1, none⟩ (.slice (some ⟨mb, mo, none⟩) m1 k1)).setCell ⟨W.heap.size + 1, 2, none⟩ (.slice d2 m2 k2)).setCell ⟨W.heap.size + 1 + 1, 0, none⟩ (.int .i64 0)).setCell ⟨W.heap.size + 1 + 1, 1, none⟩ (.int .i64 0)).setCell ⟨W.heap.size + 1 + 1, 2, none⟩ (.int .i64 0)).setCell ⟨W.heap.size + 1 + 1, 3, none⟩ (.int .i64 0)).setCell ⟨W.heap.size + 1 + 1, 4, none⟩ (.int .i64 0)).setCell ⟨W.heap.size + 1 + 1, 5, none⟩ (.int .i64 0)).setCell ⟨W.heap.size + 1 + 1, 6, none⟩ (.int .i64 0)).setCell ⟨W.heap.size + 1 + 1, 7, none⟩ (.slice none 0 0))).cell? ⟨W.heap.size + 1, 0, none⟩ = some (.int .i64 i0) := cell_of_row _ _ 0 _ _ _ yr_.out
  have z1_ : (((((((((((((w2.setCell ⟨mb, mo + kn, none⟩ (.bool true)).setCell ⟨W.heap.size + 1, 0, none⟩ (.int .i64 i0)).setCell ⟨W.heap.size + 1, 1, none⟩ (.slice (some ⟨mb, mo, none⟩) m1 k1)).setCell ⟨W.heap.size + 1, 2, none⟩ (.slice d2 m2 k2)).setCell ⟨W.heap.size + 1 + 1, 0, none⟩ (.int .i64 0)).setCell ⟨W.heap.size + 1 + 1, 1, none⟩ (.int .i64 0)).setCell ⟨W.heap.size + 1 + 1, 2, none⟩ (.int .i64 0)).setCell ⟨W.heap.size + 1 + 1, 3, none⟩ (.int .i64 0)).setCell ⟨W.heap.size + 1 + 1, 4, none⟩ (.int .i64 0)).setCell ⟨W.heap.size + 1 + 1, 5, none⟩ (.int .i64 0)).setCell ⟨W.heap.size + 1 + 1, 6, none⟩ (.int .i64 0)).setCell ⟨W.heap.size + 1 + 1, 7, none⟩ (.slice none 0 0))).cell? ⟨W.heap.size + 1, 1, none⟩ = some (.slice (some ⟨mb, mo, none⟩) m1 k1) := cell_of_row _ _ 1 _ _ _ yr_.out
  have z2_ : (((((((((((((w2.setCell ⟨mb, mo + kn, none⟩ (.bool true)).setCell ⟨W.heap.size + 1, 0, none⟩ (.int .i64 i0)).setCell ⟨W.heap.size + 1, 1, none⟩ (.slice (some ⟨mb, mo, none⟩) m1 k1)).setCell ⟨W.heap.size + 1, 2, none⟩ (.slice d2 m2 k2)).setCell ⟨W.heap.size + 1 + 1, 0, none⟩ (.int .i64 0)).setCell ⟨W.heap.size + 1 + 1, 1, none⟩ (.int .i64 0)).setCell ⟨W.heap.size + 1 + 1, 2, none⟩ (.int .i64 0)).setCell ⟨W.heap.size + 1 + 1, 3, none⟩ (.int .i64 0)).setCell ⟨W.heap.size + 1 + 1, 4, none⟩ (.int .i64 0)).setCell ⟨W.heap.size + 1 + 1, 5, none⟩ (.int .i64 0)).setCell ⟨W.heap.size + 1 + 1, 6, none⟩ (.int .i64 0)).setCell ⟨W.heap.size + 1 + 1, 7, none⟩ (.slice none 0 0))).cell? ⟨W.heap.size + 1, 2, none⟩ = some (.slice d2 m2 k2) := cell_of_row _ _ 2 _ _ _ yr_.out
  have y0_ : (((((((((((((w2.setCell ⟨mb, mo + kn, none⟩ (.bool true)).setCell ⟨W.heap.size + 1, 0, none⟩ (.int .i64 i0)).setCell ⟨W.heap.size + 1, 1, none⟩ (.slice (some ⟨mb, mo, none⟩) m1 k1)).setCell ⟨W.heap.size + 1, 2, none⟩ (.slice d2 m2 k2)).setCell ⟨W.heap.size + 1 + 1, 0, none⟩ (.int .i64 0)).setCell ⟨W.heap.size + 1 + 1, 1, none⟩ (.int .i64 0)).setCell ⟨W.heap.size + 1 + 1, 2, none⟩ (.int .i64 0)).setCell ⟨W.heap.size + 1 + 1, 3, none⟩ (.int .i64 0)).setCell ⟨W.heap.size + 1 + 1, 4, none⟩ (.int .i64 0)).setCell ⟨W.heap.size + 1 + 1, 5, none⟩ (.int .i64 0)).setCell ⟨W.heap.size + 1 + 1, 6, none⟩ (.int .i64 0)).setCell ⟨W.heap.size + 1 + 1, 7, none⟩ (.slice none 0 0))).cell? ⟨W.heap.size + 1 + 1, 0, none⟩ = some (.int .i64 0) := cell_of_row _ _ 0 _ _ _ yq_.out
  have y1_ : (((((((((((((w2.setCell ⟨mb, mo + kn, none⟩ (.bool true)).setCell ⟨W.heap.size + 1, 0, none⟩ (.int .i64 i0)).setCell ⟨W.heap.size + 1, 1, none⟩ (.slice (some ⟨mb, mo, none⟩) m1 k1)).setCell ⟨W.heap.size + 1, 2, none⟩ (.slice d2 m2 k2)).setCell ⟨W.heap.size + 1 + 1, 0, none⟩ (.int .i64 0)).setCell ⟨W.heap.size + 1 + 1, 1, none⟩ (.int .i64 0)).setCell ⟨W.heap.size + 1 + 1, 2, none⟩ (.int .i64 0)).setCell ⟨W.heap.size + 1 + 1, 3, none⟩ (.int .i64 0)).setCell ⟨W.heap.size + 1 + 1, 4, none⟩ (.int .i64 0)).setCell ⟨W.heap.size + 1 + 1, 5, none⟩ (.int .i64 0)).setCell ⟨W.heap.size + 1 + 1, 6, none⟩ (.int .i64 0)).setCell ⟨W.heap.size + 1 + 1, 7, none⟩ (.slice none 0 0))).cell? ⟨W.heap.size + 1 + 1, 1, none⟩ = some (.int .i64 0) := cell_of_row _ _ 1 _ _ _ yq_.out
  have y2_ : (((((((((((((w2.setCell ⟨mb, mo + kn, none⟩ (.bool true)).setCell ⟨W.heap.size + 1, 0, none⟩ (.int .i64 i0)).setCell ⟨W.heap.size + 1, 1, none⟩ (.slice (some ⟨mb, mo, none⟩) m1 k1)).setCell ⟨W.heap.size + 1, 2, none⟩ (.slice d2 m2 k2)).setCell ⟨W.heap.size + 1 + 1, 0, none⟩ (.int .i64 0)).setCell ⟨W.heap.size + 1 + 1, 1, none⟩ (.int .i64 0)).setCell ⟨W.heap.size + 1 + 1, 2, none⟩ (.int .i64 0)).setCell ⟨W.heap.size + 1 + 1, 3, none⟩ (.int .i64 0)).setCell ⟨W.heap.size + 1 + 1, 4, none⟩ (.int .i64 0)).setCell ⟨W.heap.size + 1 + 1, 5, none⟩ (.int .i64 0)).setCell ⟨W.heap.size + 1 + 1, 6, none⟩ (.int .i64 0)).setCell ⟨W.heap.size + 1 + 1, 7, none⟩ (.slice none 0 0))).cell? ⟨W.heap.size + 1 + 1, 2, none⟩ = some (.int .i64 0) := cell_of_row _ _ 2 _ _ _ yq_.out
  have y3_ : (((((((((((((w2.setCell ⟨mb, mo + kn, none⟩ (.bool true)).setCell ⟨W.heap.size + 1, 0, none⟩ (.int .i64 i0)).setCell ⟨W.heap.size + 1, 1, none⟩ (.slice (some ⟨mb, mo, none⟩) m1 k1)).setCell ⟨W.heap.size + 1, 2, none⟩ (.slice d2 m2 k2)).setCell ⟨W.heap.size + 1 + 1, 0, none⟩ (.int .i64 0)).setCell ⟨W.heap.size + 1 + 1, 1, none⟩ (.int .i64 0)).setCell ⟨W.heap.size + 1 + 1, 2, none⟩ (.int .i64 0)).setCell ⟨W.heap.size + 1 + 1, 3, none⟩ (.int .i64 0)).setCell ⟨W.heap.size + 1 + 1, 4, none⟩ (.int .i64 0)).setCell ⟨W.heap.size + 1 + 1, 5, none⟩ (.int .i64 0)).setCell ⟨W.heap.size + 1 + 1, 6, none⟩ (.int .i64 0)).setCell ⟨W.heap.size + 1 + 1, 7, none⟩ (.slice none 0 0))).cell? ⟨W.heap.size + 1 + 1, 3, none⟩ = some (.int .i64 0) := cell_of_row _ _ 3 _ _ _ yq_.out
  have y4_ : (((((((((((((w2.setCell ⟨mb, mo + kn, none⟩ (.bool true)).setCell ⟨W.heap.size + 1, 0, none⟩ (.int .i64 i0)).setCell ⟨W.heap.size + 1, 1, none⟩ (.slice (some ⟨mb, mo, none⟩) m1 k1)).setCell ⟨W.heap.size + 1, 2, none⟩ (.slice d2 m2 k2)).setCell ⟨W.heap.size + 1 + 1, 0, none⟩ (.int .i64 0)).setCell ⟨W.heap.size + 1 + 1, 1, none⟩ (.int .i64 0)).setCell ⟨W.heap.size + 1 + 1, 2, none⟩ (.int .i64 0)).setCell ⟨W.heap.size + 1 + 1, 3, none⟩ (.int .i64 0)).setCell ⟨W.heap.size + 1 + 1, 4, none⟩ (.int .i64 0)).setCell ⟨W.heap.size + 1 + 1, 5, none⟩ (.int .i64 0)).setCell ⟨W.heap.size + 1 + 1, 6, none⟩ (.int .i64 0)).setCell ⟨W.heap.size + 1 + 1, 7, none⟩ (.slice none 0 0))).cell? ⟨W.heap.size + 1 + 1, 4, none⟩ = some (.int .i64 0) := cell_of_row _ _ 4 _ _ _ yq_.out
  have y5_ : (((((((((((((w2.setCell ⟨mb, mo + kn, none⟩ (.bool true)).setCell ⟨W.heap.size + 1, 0, none⟩ (.int .i64 i0)).setCell ⟨W.heap.size + 1, 1, none⟩ (.slice (some ⟨mb, mo, none⟩) m1 k1)).setCell ⟨W.heap.size + 1, 2, none⟩ (.slice d2 m2 k2)).setCell ⟨W.heap.size + 1 + 1, 0, none⟩ (.int .i64 0)).setCell ⟨W.heap.size + 1 + 1, 1, none⟩ (.int .i64 0)).setCell ⟨W.heap.size + 1 + 1, 2, none⟩ (.int .i64 0)).setCell ⟨W.heap.size + 1 + 1, 3, none⟩ (.int .i64 0)).setCell ⟨W.heap.size + 1 + 1, 4, none⟩ (.int .i64 0)).setCell ⟨W.heap.size + 1 + 1, 5, none⟩ (.int .i64 0)).setCell ⟨W.heap.size + 1 + 1, 6, none⟩ (.int .i64 0)).setCell ⟨W.heap.size + 1 + 1, 7, none⟩ (.slice none 0 0))).cell? ⟨W.heap.size + 1 + 1, 5, none⟩ = some (.int .i64 0) := cell_of_row _ _ 5 _ _ _ yq_.out
  have y6_ : (((((((((((((w2.setCell ⟨mb, mo + kn, none⟩ (.bool true)).setCell ⟨W.heap.size + 1, 0, none⟩ (.int .i64 i0)).setCell ⟨W.heap.size + 1, 1, none⟩ (.slice (some ⟨mb, mo, none⟩) m1 k1)).setCell ⟨W.heap.size + 1, 2, none⟩ (.slice d2 m2 k2)).setCell ⟨W.heap.size + 1 + 1, 0, none⟩ (.int .i64 0)).setCell ⟨W.heap.size + 1 + 1, 1, none⟩ (.int .i64 0)).setCell ⟨W.heap.size + 1 + 1, 2, none⟩ (.int .i64 0)).setCell ⟨W.heap.size + 1 + 1, 3, none⟩ (.int .i64 0)).setCell ⟨W.heap.size + 1 + 1, 4, none⟩ (.int .i64 0)).setCell ⟨W.heap.size + 1 + 1, 5, none⟩ (.int .i64 0)).setCell ⟨W.heap.size + 1 + 1, 6, none⟩ (.int .i64 0)).setCell ⟨W.heap.size + 1 + 1, 7, none⟩ (.slice none 0 0))).cell? ⟨W.heap.size + 1 + 1, 6, none⟩ = some (.int .i64 0) := cell_of_row _ _ 6 _ _ _ yq_.out
  have y7_ : (((((((((((((w2.setCell ⟨mb, mo + kn, none⟩ (.bool true)).setCell ⟨W.heap.size + 1, 0, none⟩ (.int .i64 i0)).setCell ⟨W.heap.size + 1, 1, none⟩ (.slice (some ⟨mb, mo, none⟩) m1 k1)).setCell ⟨W.heap.size + 1, 2, none⟩ (.slice d2 m2 k2)).setCell ⟨W.heap.size + 1 + 1, 0, none⟩ (.int .i64 0)).setCell ⟨W.heap.size + 1 + 1, 1, none⟩ (.int .i64 0)).setCell ⟨W.heap.size + 1 + 1, 2, none⟩ (.int .i64 0)).setCell ⟨W.heap.size + 1 + 1, 3, none⟩ (.int .i64 0)).setCell ⟨W.heap.size + 1 + 1, 4, none⟩ (.int .i64 0)).setCell ⟨W.heap.size + 1 + 1, 5, none⟩ (.int .i64 0)).setCell ⟨W.heap.size + 1 + 1, 6, none⟩ (.int .i64 0)).setCell ⟨W.heap.size + 1 + 1, 7, none⟩ (.slice none 0 0))).cell? ⟨W.heap.size + 1 + 1, 7, none⟩ = some (.slice none 0 0) := cell_of_row _ _ 7 _ _ _ yq_.out
  go_wp2
  refine bodyPost_ret (v := .tuple #[.agg #[.int .i64 i0, .slice (some ⟨mb, mo, none⟩) m1 k1, .slice d2 m2 k2], .agg #[.int .i64 0, .int .i64 0, .int .i64 0, .int .i64 0, .int .i64 0, .int .i64 0, .int .i64 0, .slice none 0 0], .bool true]) (by simp [results, go_sem, z0_, z1_, z2_, y0_, y1_, y2_, y3_, y4_, y5_, y6_, y7_]) rfl ⟨_, _, _, rfl, ?_, ?_⟩
  · exact OwU.wide (lo := (W.heap.size + 1 + 1 + 1)) (by omega) (by simp only [World.size_setCell]; omega) (OwU.keep (chg_one _ _ _ _) (by omega) (OwU.keep (chg_one _ _ _ _) (by omega) (OwU.keep (chg_one _ _ _ _) (by omega) (OwU.keep (chg_one _ _ _ _) (by omega) (OwU.keep (chg_one _ _ _ _) (by omega) (OwU.keep (chg_one _ _ _ _) (by omega) (OwU.keep (chg_one _ _ _ _) (by omega) (OwU.keep (chg_one _ _ _ _) (by omega) (OwU.keep (chg_one _ _ _ _) (by omega) (OwU.keep (chg_one _ _ _ _) (by omega) (OwU.keep (chg_one _ _ _ _) (by omega) (OwU.app (ps := [own shB (.slice (some ⟨mb, mo, none⟩) m1 k1) (xs.set kn true), own shB (.slice d2 m2 k2) ys]) (qs := [own shI (.slice none 0 0) ([] : List Int)]) (m := w1.heap.size) (hi := w1.heap.size) (by omega) (Nat.le_refl _) oC28_.out (OwU.one owL_nil)))))))))))))
  · exact (gby_setnew (gby_setnew (gby_setnew (gby_setnew (gby_setnew (gby_setnew (gby_setnew (gby_setnew (gby_setnew (gby_setnew (gby_setnew G23_.out _ (by dsimp only; omega) _) _ (by dsimp only; omega) _) _ (by dsimp only; omega) _) _ (by dsimp only; omega) _) _ (by dsimp only; omega) _) _ (by dsimp only; omega) _) _ (by dsimp only; omega) _) _ (by dsimp only; omega) _) _ (by dsimp only; omega) _) _ (by dsimp only; omega) _) _ (by dsimp only; omega) _)

set_option maxRecDepth 8000 in
set_option maxHeartbeats 4000000 in
theorem specSetM_quiet (W : World) (i0 : Int) (v1 v2 : Value) (xs ys : List Bool) (H1 : RdL shB W v1 xs) (H2 : RdL shB W v2 ys) (hl1 : szL shB xs ≤ 1048576) (hl2 : szL shB ys ≤ 1048576) (id k : Int) (hb : VCall i0 xs ys id k) (hm : ys.getD k.toNat false = false) : Calls Try.prog 21 #[vVectors i0 v1 v2, .int .i64 id, .int .i64 k, .bool false] W (ResISetMask i0 (xs.set k.toNat false) ys 0 0 0 0 0 0 0 [] true W) := by
  have HOK := Lib.hid hb
  have hk_ := hb.2.2
  have h8_ := hb.1.1
  have hy_ := hb.1.2.1
  obtain ⟨kn, hkn⟩ : ∃ n : Nat, k = (n : Int) := ⟨k.toNat, by omega⟩
  subst hkn
  have hkx : kn < xs.length := by omega
  clear hb
  have HM := Lib.hid (show ys.getD kn false = false from by simpa using hm)
  clear hm
  rw [Int.toNat_natCast]
  have H1_ := Lib.hid H1
  have H2_ := Lib.hid H2
  obtain ⟨a1, n1, c1, rfl⟩ := RdL.form H1
  obtain ⟨a2, n2, c2, rfl⟩ := RdL.form H2
  clear H1 H2
  unfold vVectors
  have hk0 : (0 : Int) ≤ (kn : Int) := by omega
  have htk : ((kn : Int)).toNat = kn := by omega
  obtain ⟨hn_, cb, co, ha_, pk0⟩ := rdB_some H2_.out kn (by omega)
  subst ha_
  have bn2_ : (kn : Int) < (n2 : Int) := by omega
  rw [HM.out] at pk0
  have hcb_ : cb < W.heap.size := World.block_lt_of_cell? _ _ pk0
  have PK := Lib.hid pk0
  clear hn_ pk0
  go_enter Try.func21, Try.ntmps21
  have rA1_ := Lib.hid (show ((((W.alloc (.cells #[.int .i64 i0, .slice a1 n1 c1, .slice (some ⟨cb, co, none⟩) n2 c2] 26)).alloc (.cells #[.int .i64 0, .slice none 0 0, .slice none 0 0] 26)).alloc (.cells #[.int .i64 0, .int .i64 0, .int .i64 0, .int .i64 0, .int .i64 0, .int .i64 0, .int .i64 0, .slice none 0 0] 29))).heap[W.heap.size]? = some (.cells #[.int .i64 i0, .slice a1 n1 c1, .slice (some ⟨cb, co, none⟩) n2 c2] 26 (0, 0)) from by rw [heap_alloc_old _ _ (by simp only [World.size_alloc]; omega)]; rw [heap_alloc_old _ _ (by simp only [World.size_alloc]; omega)]; exact heap_alloc_new _ _)
  have rR2_ := Lib.hid (show ((((W.alloc (.cells #[.int .i64 i0, .slice a1 n1 c1, .slice (some ⟨cb, co, none⟩) n2 c2] 26)).alloc (.cells #[.int .i64 0, .slice none 0 0, .slice none 0 0] 26)).alloc (.cells #[.int .i64 0, .int .i64 0, .int .i64 0, .int .i64 0, .int .i64 0, .int .i64 0, .int .i64 0, .slice none 0 0] 29))).heap[W.heap.size + 1]? = some (.cells #[.int .i64 0, .slice none 0 0, .slice none 0 0] 26 (0, 0)) from by rw [heap_alloc_old _ _ (by simp only [World.size_alloc]; omega)]; exact heap_pair _ _ _)
  have rQ3_ := Lib.hid (show ((((W.alloc (.cells #[.int .i64 i0, .slice a1 n1 c1, .slice (some ⟨cb, co, none⟩) n2 c2] 26)).alloc (.cells #[.int .i64 0, .slice none 0 0, .slice none 0 0] 26)).alloc (.cells #[.int .i64 0, .int .i64 0, .int .i64 0, .int .i64 0, .int .i64 0, .int .i64 0, .int .i64 0, .slice none 0 0] 29))).heap[W.heap.size + 1 + 1]? = some (.cells #[.int .i64 0, .int .i64 0, .int .i64 0, .int .i64 0, .int .i64 0, .int .i64 0, .int .i64 0, .slice none 0 0] 29 (0, 0)) from by exact heap_trip _ _ _ _)
  have G4_ := Lib.hid (show (W).grownBy ((((W.alloc (.cells #[.int .i64 i0, .slice a1 n1 c1, .slice (some ⟨cb, co, none⟩) n2 c2] 26)).alloc (.cells #[.int .i64 0, .slice none 0 0, .slice none 0 0] 26)).alloc (.cells #[.int .i64 0, .int .i64 0, .int .i64 0, .int .i64 0, .int .i64 0, .int .i64 0, .int .i64 0, .slice none 0 0] 29))) none from (gby_alloc (gby_alloc (gby_alloc (gby_refl _ _) _) _) _))
  have A_0_ : ((((W.alloc (.cells #[.int .i64 i0, .slice a1 n1 c1, .slice (some ⟨cb, co, none⟩) n2 c2] 26)).alloc (.cells #[.int .i64 0, .slice none 0 0, .slice none 0 0] 26)).alloc (.cells #[.int .i64 0, .int .i64 0, .int .i64 0, .int .i64 0, .int .i64 0, .int .i64 0, .int .i64 0, .slice none 0 0] 29))).cell? ⟨W.heap.size, 0, none⟩ = some (.int .i64 i0) := cell_of_row _ _ 0 _ _ _ rA1_.out
  have A_1_ : ((((W.alloc (.cells #[.int .i64 i0, .slice a1 n1 c1, .slice (some ⟨cb, co, none⟩) n2 c2] 26)).alloc (.cells #[.int .i64 0, .slice none 0 0, .slice none 0 0] 26)).alloc (.cells #[.int .i64 0, .int .i64 0, .int .i64 0, .int .i64 0, .int .i64 0, .int .i64 0, .int .i64 0, .slice none 0 0] 29))).cell? ⟨W.heap.size, 1, none⟩ = some (.slice a1 n1 c1) := cell_of_row _ _ 1 _ _ _ rA1_.out
  have A_2_ : ((((W.alloc (.cells #[.int .i64 i0, .slice a1 n1 c1, .slice (some ⟨cb, co, none⟩) n2 c2] 26)).alloc (.cells #[.int .i64 0, .slice none 0 0, .slice none 0 0] 26)).alloc (.cells #[.int .i64 0, .int .i64 0, .int .i64 0, .int .i64 0, .int .i64 0, .int .i64 0, .int .i64 0, .slice none 0 0] 29))).cell? ⟨W.heap.size, 2, none⟩ = some (.slice (some ⟨cb, co, none⟩) n2 c2) := cell_of_row _ _ 2 _ _ _ rA1_.out
  have R_0_ : ((((W.alloc (.cells #[.int .i64 i0, .slice a1 n1 c1, .slice (some ⟨cb, co, none⟩) n2 c2] 26)).alloc (.cells #[.int .i64 0, .slice none 0 0, .slice none 0 0] 26)).alloc (.cells #[.int .i64 0, .int .i64 0, .int .i64 0, .int .i64 0, .int .i64 0, .int .i64 0, .int .i64 0, .slice none 0 0] 29))).cell? ⟨W.heap.size + 1, 0, none⟩ = some (.int .i64 0) := cell_of_row _ _ 0 _ _ _ rR2_.out
  have R_1_ : ((((W.alloc (.cells #[.int .i64 i0, .slice a1 n1 c1, .slice (some ⟨cb, co, none⟩) n2 c2] 26)).alloc (.cells #[.int .i64 0, .slice none 0 0, .slice none 0 0] 26)).alloc (.cells #[.int .i64 0, .int .i64 0, .int .i64 0, .int .i64 0, .int .i64 0, .int .i64 0, .int .i64 0, .slice none 0 0] 29))).cell? ⟨W.heap.size + 1, 1, none⟩ = some (.slice none 0 0) := cell_of_row _ _ 1 _ _ _ rR2_.out
  have R_2_ : ((((W.alloc (.cells #[.int .i64 i0, .slice a1 n1 c1, .slice (some ⟨cb, co, none⟩) n2 c2] 26)).alloc (.cells #[.int .i64 0, .slice none 0 0, .slice none 0 0] 26)).alloc (.cells #[.int .i64 0, .int .i64 0, .int .i64 0, .int .i64 0, .int .i64 0, .int .i64 0, .int .i64 0, .slice none 0 0] 29))).cell? ⟨W.heap.size + 1, 2, none⟩ = some (.slice none 0 0) := cell_of_row _ _ 2 _ _ _ rR2_.out
  have Q_0_ : ((((W.alloc (.cells #[.int .i64 i0, .slice a1 n1 c1, .slice (some ⟨cb, co, none⟩) n2 c2] 26)).alloc (.cells #[.int .i64 0, .slice none 0 0, .slice none 0 0] 26)).alloc (.cells #[.int .i64 0, .int .i64 0, .int .i64 0, .int .i64 0, .int .i64 0, .int .i64 0, .int .i64 0, .slice none 0 0] 29))).cell? ⟨W.heap.size + 1 + 1, 0, none⟩ = some (.int .i64 0) := cell_of_row _ _ 0 _ _ _ rQ3_.out
  have Q_1_ : ((((W.alloc (.cells #[.int .i64 i0, .slice a1 n1 c1, .slice (some ⟨cb, co, none⟩) n2 c2] 26)).alloc (.cells #[.int .i64 0, .slice none 0 0, .slice none 0 0] 26)).alloc (.cells #[.int .i64 0, .int .i64 0, .int .i64 0, .int .i64 0, .int .i64 0, .int .i64 0, .int .i64 0, .slice none 0 0] 29))).cell? ⟨W.heap.size + 1 + 1, 1, none⟩ = some (.int .i64 0) := cell_of_row _ _ 1 _ _ _ rQ3_.out
  have Q_2_ : ((((W.alloc (.cells #[.int .i64 i0, .slice a1 n1 c1, .slice (some ⟨cb, co, none⟩) n2 c2] 26)).alloc (.cells #[.int .i64 0, .slice none 0 0, .slice none 0 0] 26)).alloc (.cells #[.int .i64 0, .int .i64 0, .int .i64 0, .int .i64 0, .int .i64 0, .int .i64 0, .int .i64 0, .slice none 0 0] 29))).cell? ⟨W.heap.size + 1 + 1, 2, none⟩ = some (.int .i64 0) := cell_of_row _ _ 2 _ _ _ rQ3_.out
  have Q_3_ : ((((W.alloc (.cells #[.int .i64 i0, .slice a1 n1 c1, .slice (some ⟨cb, co, none⟩) n2 c2] 26)).alloc (.cells #[.int .i64 0, .slice none 0 0, .slice none 0 0] 26)).alloc (.cells #[.int .i64 0, .int .i64 0, .int .i64 0, .int .i64 0, .int .i64 0, .int .i64 0, .int .i64 0, .slice none 0 0] 29))).cell? ⟨W.heap.size + 1 + 1, 3, none⟩ = some (.int .i64 0) := cell_of_row _ _ 3 _ _ _ rQ3_.out
  have Q_4_ : ((((W.alloc (.cells #[.int .i64 i0, .slice a1 n1 c1, .slice (some ⟨cb, co, none⟩) n2 c2] 26)).alloc (.cells #[.int .i64 0, .slice none 0 0, .slice none 0 0] 26)).alloc (.cells #[.int .i64 0, .int .i64 0, .int .i64 0, .int .i64 0, .int .i64 0, .int .i64 0, .int .i64 0, .slice none 0 0] 29))).cell? ⟨W.heap.size + 1 + 1, 4, none⟩ = some (.int .i64 0) := cell_of_row _ _ 4 _ _ _ rQ3_.out
  have Q_5_ : ((((W.alloc (.cells #[.int .i64 i0, .slice a1 n1 c1, .slice (some ⟨cb, co, none⟩) n2 c2] 26)).alloc (.cells #[.int .i64 0, .slice none 0 0, .slice none 0 0] 26)).alloc (.cells #[.int .i64 0, .int .i64 0, .int .i64 0, .int .i64 0, .int .i64 0, .int .i64 0, .int .i64 0, .slice none 0 0] 29))).cell? ⟨W.heap.size + 1 + 1, 5, none⟩ = some (.int .i64 0) := cell_of_row _ _ 5 _ _ _ rQ3_.out
  have Q_6_ : ((((W.alloc (.cells #[.int .i64 i0, .slice a1 n1 c1, .slice (some ⟨cb, co, none⟩) n2 c2] 26)).alloc (.cells #[.int .i64 0, .slice none 0 0, .slice none 0 0] 26)).alloc (.cells #[.int .i64 0, .int .i64 0, .int .i64 0, .int .i64 0, .int .i64 0, .int .i64 0, .int .i64 0, .slice none 0 0] 29))).cell? ⟨W.heap.size + 1 + 1, 6, none⟩ = some (.int .i64 0) := cell_of_row _ _ 6 _ _ _ rQ3_.out
  have Q_7_ : ((((W.alloc (.cells #[.int .i64 i0, .slice a1 n1 c1, .slice (some ⟨cb, co, none⟩) n2 c2] 26)).alloc (.cells #[.int .i64 0, .slice none 0 0, .slice none 0 0] 26)).alloc (.cells #[.int .i64 0, .int .i64 0, .int .i64 0, .int .i64 0, .int .i64 0, .int .i64 0, .int .i64 0, .slice none 0 0] 29))).cell? ⟨W.heap.size + 1 + 1, 7, none⟩ = some (.slice none 0 0) := cell_of_row _ _ 7 _ _ _ rQ3_.out
  go_wp2_with fail
  go_at_call 60
  refine (l30Copy_d _ i0 _ _ xs ys (H1_.out.grow G4_.out) (H2_.out.grow G4_.out) hl1 hl2).mono ?_
  rintro e w1 ⟨x1, x2, rfl, o, g⟩
  have sz_ := g.size
  try simp only [World.size_alloc] at sz_ o
  clear A_0_ A_1_ A_2_ R_0_ R_1_ R_2_ Q_0_ Q_1_ Q_2_ Q_3_ Q_4_ Q_5_ Q_6_ Q_7_
  have rA5_ := Lib.hid (show (w1).heap[W.heap.size]? = some (.cells #[.int .i64 i0, .slice a1 n1 c1, .slice (some ⟨cb, co, none⟩) n2 c2] 26 (0, 0)) from row_held g rA1_.out)
  clear rA1_
  have rR6_ := Lib.hid (show (w1).heap[W.heap.size + 1]? = some (.cells #[.int .i64 0, .slice none 0 0, .slice none 0 0] 26 (0, 0)) from row_held g rR2_.out)
  clear rR2_
  have rQ7_ := Lib.hid (show (w1).heap[W.heap.size + 1 + 1]? = some (.cells #[.int .i64 0, .int .i64 0, .int .i64 0, .int .i64 0, .int .i64 0, .int .i64 0, .int .i64 0, .slice none 0 0] 29 (0, 0)) from row_held g rQ3_.out)
  clear rQ3_
  have G8_ := Lib.hid (show (W).grownBy (w1) none from gby_trans G4_.out g)
  clear g
  obtain ⟨d1, m1, k1, hv_⟩ := RdL.form (OwU.rd o)
  subst hv_
  obtain ⟨d2, m2, k2, hv_⟩ := RdL.form (OwU.rd (OwU.tail o))
  subst hv_
  unfold vVectors
  have oC9_ := Lib.hid (show OwU (w1) ((W.heap.size + 1 + 1 + 1)) (w1.heap.size) [] [own shB (.slice d1 m1 k1) xs, own shB (.slice d2 m2 k2) ys] from o)
  clear o
  have al_ : (w1).grownBy ((w1).alloc (.cells #[.int .i64 i0, .slice d1 m1 k1, .slice d2 m2 k2] 26)) none := gby_alloc (gby_refl _ _) _
  have rA10_ := Lib.hid (show ((w1.alloc (.cells #[.int .i64 i0, .slice d1 m1 k1, .slice d2 m2 k2] 26))).heap[W.heap.size]? = some (.cells #[.int .i64 i0, .slice a1 n1 c1, .slice (some ⟨cb, co, none⟩) n2 c2] 26 (0, 0)) from row_held al_ rA5_.out)
  clear rA5_
  have rR11_ := Lib.hid (show ((w1.alloc (.cells #[.int .i64 i0, .slice d1 m1 k1, .slice d2 m2 k2] 26))).heap[W.heap.size + 1]? = some (.cells #[.int .i64 0, .slice none 0 0, .slice none 0 0] 26 (0, 0)) from row_held al_ rR6_.out)
  clear rR6_
  have rQ12_ := Lib.hid (show ((w1.alloc (.cells #[.int .i64 i0, .slice d1 m1 k1, .slice d2 m2 k2] 26))).heap[W.heap.size + 1 + 1]? = some (.cells #[.int .i64 0, .int .i64 0, .int .i64 0, .int .i64 0, .int .i64 0, .int .i64 0, .int .i64 0, .slice none 0 0] 29 (0, 0)) from row_held al_ rQ7_.out)
  clear rQ7_
  have oC13_ := Lib.hid (show OwU ((w1.alloc (.cells #[.int .i64 i0, .slice d1 m1 k1, .slice d2 m2 k2] 26))) ((W.heap.size + 1 + 1 + 1)) (w1.heap.size) [] [own shB (.slice d1 m1 k1) xs, own shB (.slice d2 m2 k2) ys] from OwU.grow oC9_.out al_)
  clear oC9_
  have G14_ := Lib.hid (show (W).grownBy ((w1.alloc (.cells #[.int .i64 i0, .slice d1 m1 k1, .slice d2 m2 k2] 26))) none from gby_trans G8_.out al_)
  have rX15_ := Lib.hid (show ((w1.alloc (.cells #[.int .i64 i0, .slice d1 m1 k1, .slice d2 m2 k2] 26))).heap[w1.heap.size]? = some (.cells #[.int .i64 i0, .slice d1 m1 k1, .slice d2 m2 k2] 26 (0, 0)) from by first | exact heap_alloc_new _ _ | exact heap_pair _ _ _ | exact heap_trip _ _ _ _)
  clear al_
  have A_0_ : ((w1.alloc (.cells #[.int .i64 i0, .slice d1 m1 k1, .slice d2 m2 k2] 26))).cell? ⟨W.heap.size, 0, none⟩ = some (.int .i64 i0) := cell_of_row _ _ 0 _ _ _ rA10_.out
  have A_1_ : ((w1.alloc (.cells #[.int .i64 i0, .slice d1 m1 k1, .slice d2 m2 k2] 26))).cell? ⟨W.heap.size, 1, none⟩ = some (.slice a1 n1 c1) := cell_of_row _ _ 1 _ _ _ rA10_.out
  have A_2_ : ((w1.alloc (.cells #[.int .i64 i0, .slice d1 m1 k1, .slice d2 m2 k2] 26))).cell? ⟨W.heap.size, 2, none⟩ = some (.slice (some ⟨cb, co, none⟩) n2 c2) := cell_of_row _ _ 2 _ _ _ rA10_.out
  have R_0_ : ((w1.alloc (.cells #[.int .i64 i0, .slice d1 m1 k1, .slice d2 m2 k2] 26))).cell? ⟨W.heap.size + 1, 0, none⟩ = some (.int .i64 0) := cell_of_row _ _ 0 _ _ _ rR11_.out
  have R_1_ : ((w1.alloc (.cells #[.int .i64 i0, .slice d1 m1 k1, .slice d2 m2 k2] 26))).cell? ⟨W.heap.size + 1, 1, none⟩ = some (.slice none 0 0) := cell_of_row _ _ 1 _ _ _ rR11_.out
  have R_2_ : ((w1.alloc (.cells #[.int .i64 i0, .slice d1 m1 k1, .slice d2 m2 k2] 26))).cell? ⟨W.heap.size + 1, 2, none⟩ = some (.slice none 0 0) := cell_of_row _ _ 2 _ _ _ rR11_.out
  have Q_0_ : ((w1.alloc (.cells #[.int .i64 i0, .slice d1 m1 k1, .slice d2 m2 k2] 26))).cell? ⟨W.heap.size + 1 + 1, 0, none⟩ = some (.int .i64 0) := cell_of_row _ _ 0 _ _ _ rQ12_.out
  have Q_1_ : ((w1.alloc (.cells #[.int .i64 i0, .slice d1 m1 k1, .slice d2 m2 k2] 26))).cell? ⟨W.heap.size + 1 + 1, 1, none⟩ = some (.int .i64 0) := cell_of_row _ _ 1 _ _ _ rQ12_.out
  have Q_2_ : ((w1.alloc (.cells #[.int .i64 i0, .slice d1 m1 k1, .slice d2 m2 k2] 26))).cell? ⟨W.heap.size + 1 + 1, 2, none⟩ = some (.int .i64 0) := cell_of_row _ _ 2 _ _ _ rQ12_.out
  have Q_3_ : ((w1.alloc (.cells #[.int .i64 i0, .slice d1 m1 k1, .slice d2 m2 k2] 26))).cell? ⟨W.heap.size + 1 + 1, 3, none⟩ = some (.int .i64 0) := cell_of_row _ _ 3 _ _ _ rQ12_.out
  have Q_4_ : ((w1.alloc (.cells #[.int .i64 i0, .slice d1 m1 k1, .slice d2 m2 k2] 26))).cell? ⟨W.heap.size + 1 + 1, 4, none⟩ = some (.int .i64 0) := cell_of_row _ _ 4 _ _ _ rQ12_.out
  have Q_5_ : ((w1.alloc (.cells #[.int .i64 i0, .slice d1 m1 k1, .slice d2 m2 k2] 26))).cell? ⟨W.heap.size + 1 + 1, 5, none⟩ = some (.int .i64 0) := cell_of_row _ _ 5 _ _ _ rQ12_.out
  have Q_6_ : ((w1.alloc (.cells #[.int .i64 i0, .slice d1 m1 k1, .slice d2 m2 k2] 26))).cell? ⟨W.heap.size + 1 + 1, 6, none⟩ = some (.int .i64 0) := cell_of_row _ _ 6 _ _ _ rQ12_.out
  have Q_7_ : ((w1.alloc (.cells #[.int .i64 i0, .slice d1 m1 k1, .slice d2 m2 k2] 26))).cell? ⟨W.heap.size + 1 + 1, 7, none⟩ = some (.slice none 0 0) := cell_of_row _ _ 7 _ _ _ rQ12_.out
  have X_0_ : ((w1.alloc (.cells #[.int .i64 i0, .slice d1 m1 k1, .slice d2 m2 k2] 26))).cell? ⟨w1.heap.size, 0, none⟩ = some (.int .i64 i0) := cell_of_row _ _ 0 _ _ _ rX15_.out
  have X_1_ : ((w1.alloc (.cells #[.int .i64 i0, .slice d1 m1 k1, .slice d2 m2 k2] 26))).cell? ⟨w1.heap.size, 1, none⟩ = some (.slice d1 m1 k1) := cell_of_row _ _ 1 _ _ _ rX15_.out
  have X_2_ : ((w1.alloc (.cells #[.int .i64 i0, .slice d1 m1 k1, .slice d2 m2 k2] 26))).cell? ⟨w1.heap.size, 2, none⟩ = some (.slice d2 m2 k2) := cell_of_row _ _ 2 _ _ _ rX15_.out
  go_wp2_with fail
  go_at_call 61
  refine (((specVCall _ i0 _ _ xs ys id (kn : Int) (H1_.out.grow G14_.out) (H2_.out.grow G14_.out)).mono (bpost_yes HOK.out))).mono ?_
  rintro e w2 ⟨rfl, g⟩
  have szw2 := g.size
  try simp only [World.size_alloc] at szw2
  try simp only [World.size_setCell] at szw2
  clear A_0_ A_1_ A_2_ R_0_ R_1_ R_2_ Q_0_ Q_1_ Q_2_ Q_3_ Q_4_ Q_5_ Q_6_ Q_7_ X_0_ X_1_ X_2_
  have rA16_ := Lib.hid (show (w2).heap[W.heap.size]? = some (.cells #[.int .i64 i0, .slice a1 n1 c1, .slice (some ⟨cb, co, none⟩) n2 c2] 26 (0, 0)) from row_held g rA10_.out)
  clear rA10_
  have rR17_ := Lib.hid (show (w2).heap[W.heap.size + 1]? = some (.cells #[.int .i64 0, .slice none 0 0, .slice none 0 0] 26 (0, 0)) from row_held g rR11_.out)
  clear rR11_
  have rQ18_ := Lib.hid (show (w2).heap[W.heap.size + 1 + 1]? = some (.cells #[.int .i64 0, .int .i64 0, .int .i64 0, .int .i64 0, .int .i64 0, .int .i64 0, .int .i64 0, .slice none 0 0] 29 (0, 0)) from row_held g rQ12_.out)
  clear rQ12_
  have rX19_ := Lib.hid (show (w2).heap[w1.heap.size]? = some (.cells #[.int .i64 i0, .slice d1 m1 k1, .slice d2 m2 k2] 26 (0, 0)) from row_held g rX15_.out)
  clear rX15_
  have oC20_ := Lib.hid (show OwU (w2) ((W.heap.size + 1 + 1 + 1)) (w1.heap.size) [] [own shB (.slice d1 m1 k1) xs, own shB (.slice d2 m2 k2) ys] from OwU.grow oC13_.out g)
  clear oC13_
  have G21_ := Lib.hid (show (W).grownBy (w2) none from gby_trans G14_.out g)
  clear g
  have A_0_ : (w2).cell? ⟨W.heap.size, 0, none⟩ = some (.int .i64 i0) := cell_of_row _ _ 0 _ _ _ rA16_.out
  have A_1_ : (w2).cell? ⟨W.heap.size, 1, none⟩ = some (.slice a1 n1 c1) := cell_of_row _ _ 1 _ _ _ rA16_.out
  have A_2_ : (w2).cell? ⟨W.heap.size, 2, none⟩ = some (.slice (some ⟨cb, co, none⟩) n2 c2) := cell_of_row _ _ 2 _ _ _ rA16_.out
  have R_0_ : (w2).cell? ⟨W.heap.size + 1, 0, none⟩ = some (.int .i64 0) := cell_of_row _ _ 0 _ _ _ rR17_.out
  have R_1_ : (w2).cell? ⟨W.heap.size + 1, 1, none⟩ = some (.slice none 0 0) := cell_of_row _ _ 1 _ _ _ rR17_.out
  have R_2_ : (w2).cell? ⟨W.heap.size + 1, 2, none⟩ = some (.slice none 0 0) := cell_of_row _ _ 2 _ _ _ rR17_.out
  have Q_0_ : (w2).cell? ⟨W.heap.size + 1 + 1, 0, none⟩ = some (.int .i64 0) := cell_of_row _ _ 0 _ _ _ rQ18_.out
  have Q_1_ : (w2).cell? ⟨W.heap.size + 1 + 1, 1, none⟩ = some (.int .i64 0) := cell_of_row _ _ 1 _ _ _ rQ18_.out
  have Q_2_ : (w2).cell? ⟨W.heap.size + 1 + 1, 2, none⟩ = some (.int .i64 0) := cell_of_row _ _ 2 _ _ _ rQ18_.out
  have Q_3_ : (w2).cell? ⟨W.heap.size + 1 + 1, 3, none⟩ = some (.int .i64 0) := cell_of_row _ _ 3 _ _ _ rQ18_.out
  have Q_4_ : (w2).cell? ⟨W.heap.size + 1 + 1, 4, none⟩ = some (.int .i64 0) := cell_of_row _ _ 4 _ _ _ rQ18_.out
  have Q_5_ : (w2).cell? ⟨W.heap.size + 1 + 1, 5, none⟩ = some (.int .i64 0) := cell_of_row _ _ 5 _ _ _ rQ18_.out
  have Q_6_ : (w2).cell? ⟨W.heap.size + 1 + 1, 6, none⟩ = some (.int .i64 0) := cell_of_row _ _ 6 _ _ _ rQ18_.out
  have Q_7_ : (w2).cell? ⟨W.heap.size + 1 + 1, 7, none⟩ = some (.slice none 0 0) := cell_of_row _ _ 7 _ _ _ rQ18_.out
  have X_0_ : (w2).cell? ⟨w1.heap.size, 0, none⟩ = some (.int .i64 i0) := cell_of_row _ _ 0 _ _ _ rX19_.out
  have X_1_ : (w2).cell? ⟨w1.heap.size, 1, none⟩ = some (.slice d1 m1 k1) := cell_of_row _ _ 1 _ _ _ rX19_.out
  have X_2_ : (w2).cell? ⟨w1.heap.size, 2, none⟩ = some (.slice d2 m2 k2) := cell_of_row _ _ 2 _ _ _ rX19_.out
  have pk_ := (G21_.out).cell PK.out (by simp)
  clear A_0_ A_1_ A_2_ R_0_ R_1_ R_2_ Q_0_ Q_1_ Q_2_ Q_3_ Q_4_ Q_5_ Q_6_ Q_7_ X_0_ X_1_ X_2_
  have A_0_ : (w2).cell? ⟨W.heap.size, 0, none⟩ = some (.int .i64 i0) := cell_of_row _ _ 0 _ _ _ rA16_.out
  have A_1_ : (w2).cell? ⟨W.heap.size, 1, none⟩ = some (.slice a1 n1 c1) := cell_of_row _ _ 1 _ _ _ rA16_.out
  have A_2_ : (w2).cell? ⟨W.heap.size, 2, none⟩ = some (.slice (some ⟨cb, co, none⟩) n2 c2) := cell_of_row _ _ 2 _ _ _ rA16_.out
  have R_0_ : (w2).cell? ⟨W.heap.size + 1, 0, none⟩ = some (.int .i64 0) := cell_of_row _ _ 0 _ _ _ rR17_.out
  have R_1_ : (w2).cell? ⟨W.heap.size + 1, 1, none⟩ = some (.slice none 0 0) := cell_of_row _ _ 1 _ _ _ rR17_.out
  have R_2_ : (w2).cell? ⟨W.heap.size + 1, 2, none⟩ = some (.slice none 0 0) := cell_of_row _ _ 2 _ _ _ rR17_.out
  have Rf0_ : (w2).frozen? ⟨W.heap.size + 1, 0, none⟩ = false := frozen_of_row _ _ 0 _ _ rR17_.out
  have Rf1_ : (w2).frozen? ⟨W.heap.size + 1, 1, none⟩ = false := frozen_of_row _ _ 1 _ _ rR17_.out
  have Rf2_ : (w2).frozen? ⟨W.heap.size + 1, 2, none⟩ = false := frozen_of_row _ _ 2 _ _ rR17_.out
  have Q_0_ : (w2).cell? ⟨W.heap.size + 1 + 1, 0, none⟩ = some (.int .i64 0) := cell_of_row _ _ 0 _ _ _ rQ18_.out
  have Q_1_ : (w2).cell? ⟨W.heap.size + 1 + 1, 1, none⟩ = some (.int .i64 0) := cell_of_row _ _ 1 _ _ _ rQ18_.out
  have Q_2_ : (w2).cell? ⟨W.heap.size + 1 + 1, 2, none⟩ = some (.int .i64 0) := cell_of_row _ _ 2 _ _ _ rQ18_.out
  have Q_3_ : (w2).cell? ⟨W.heap.size + 1 + 1, 3, none⟩ = some (.int .i64 0) := cell_of_row _ _ 3 _ _ _ rQ18_.out
  have Q_4_ : (w2).cell? ⟨W.heap.size + 1 + 1, 4, none⟩ = some (.int .i64 0) := cell_of_row _ _ 4 _ _ _ rQ18_.out
  have Q_5_ : (w2).cell? ⟨W.heap.size + 1 + 1, 5, none⟩ = some (.int .i64 0) := cell_of_row _ _ 5 _ _ _ rQ18_.out
  have Q_6_ : (w2).cell? ⟨W.heap.size + 1 + 1, 6, none⟩ = some (.int .i64 0) := cell_of_row _ _ 6 _ _ _ rQ18_.out
  have Q_7_ : (w2).cell? ⟨W.heap.size + 1 + 1, 7, none⟩ = some (.slice none 0 0) := cell_of_row _ _ 7 _ _ _ rQ18_.out
  have Qf0_ : (w2).frozen? ⟨W.heap.size + 1 + 1, 0, none⟩ = false := frozen_of_row _ _ 0 _ _ rQ18_.out
  have Qf1_ : (w2).frozen? ⟨W.heap.size + 1 + 1, 1, none⟩ = false := frozen_of_row _ _ 1 _ _ rQ18_.out
  have Qf2_ : (w2).frozen? ⟨W.heap.size + 1 + 1, 2, none⟩ = false := frozen_of_row _ _ 2 _ _ rQ18_.out
  have Qf3_ : (w2).frozen? ⟨W.heap.size + 1 + 1, 3, none⟩ = false := frozen_of_row _ _ 3 _ _ rQ18_.out
  have Qf4_ : (w2).frozen? ⟨W.heap.size + 1 + 1, 4, none⟩ = false := frozen_of_row _ _ 4 _ _ rQ18_.out
  have Qf5_ : (w2).frozen? ⟨W.heap.size + 1 + 1, 5, none⟩ = false := frozen_of_row _ _ 5 _ _ rQ18_.out
  have Qf6_ : (w2).frozen? ⟨W.heap.size + 1 + 1, 6, none⟩ = false := frozen_of_row _ _ 6 _ _ rQ18_.out
  have Qf7_ : (w2).frozen? ⟨W.heap.size + 1 + 1, 7, none⟩ = false := frozen_of_row _ _ 7 _ _ rQ18_.out
  have X_0_ : (w2).cell? ⟨w1.heap.size, 0, none⟩ = some (.int .i64 i0) := cell_of_row _ _ 0 _ _ _ rX19_.out
  have X_1_ : (w2).cell? ⟨w1.heap.size, 1, none⟩ = some (.slice d1 m1 k1) := cell_of_row _ _ 1 _ _ _ rX19_.out
  have X_2_ : (w2).cell? ⟨w1.heap.size, 2, none⟩ = some (.slice d2 m2 k2) := cell_of_row _ _ 2 _ _ _ rX19_.out
  obtain ⟨mb, mo, c_22, hv22_, lo22_, hi22_, ck22_, cf22_, st22_⟩ := vset1 oC20_.out kn (by (try simp only [List.length_set]); omega)
  injection hv22_ with q1_ q2_ q3_
  have HL22 := Lib.hid q2_
  have HS22 := Lib.hid (st22_ false)
  clear q2_ q3_ st22_
  subst q1_
  have n220_ : ¬ mb = W.heap.size := by omega
  have m220_ : ¬ W.heap.size = mb := by omega
  have n221_ : ¬ mb = W.heap.size + 1 := by omega
  have m221_ : ¬ W.heap.size + 1 = mb := by omega
  have n222_ : ¬ mb = W.heap.size + 1 + 1 := by omega
  have m222_ : ¬ W.heap.size + 1 + 1 = mb := by omega
  have n223_ : ¬ mb = w1.heap.size := by omega
  have m223_ : ¬ w1.heap.size = mb := by omega
  have b22_ : (kn : Int) < (m1 : Int) := by have := HL22.out; (try simp only [List.length_set] at this); omega
  have G23_ := Lib.hid (show (W).grownBy ((w2.setCell ⟨mb, mo + kn, none⟩ (.bool false))) none from gby_setnew G21_.out _ (by dsimp only; omega) _)
  have rA24_ := Lib.hid (show ((w2.setCell ⟨mb, mo + kn, none⟩ (.bool false))).heap[W.heap.size]? = some (.cells #[.int .i64 i0, .slice a1 n1 c1, .slice (some ⟨cb, co, none⟩) n2 c2] 26 (0, 0)) from set_far rA16_.out (by dsimp only; omega))
  have rR25_ := Lib.hid (show ((w2.setCell ⟨mb, mo + kn, none⟩ (.bool false))).heap[W.heap.size + 1]? = some (.cells #[.int .i64 0, .slice none 0 0, .slice none 0 0] 26 (0, 0)) from set_far rR17_.out (by dsimp only; omega))
  have rQ26_ := Lib.hid (show ((w2.setCell ⟨mb, mo + kn, none⟩ (.bool false))).heap[W.heap.size + 1 + 1]? = some (.cells #[.int .i64 0, .int .i64 0, .int .i64 0, .int .i64 0, .int .i64 0, .int .i64 0, .int .i64 0, .slice none 0 0] 29 (0, 0)) from set_far rQ18_.out (by dsimp only; omega))
  have rX27_ := Lib.hid (show ((w2.setCell ⟨mb, mo + kn, none⟩ (.bool false))).heap[w1.heap.size]? = some (.cells #[.int .i64 i0, .slice (some ⟨mb, mo, none⟩) m1 k1, .slice d2 m2 k2] 26 (0, 0)) from set_far rX19_.out (by dsimp only; omega))
  have oC28_ := Lib.hid (show OwU ((w2.setCell ⟨mb, mo + kn, none⟩ (.bool false))) ((W.heap.size + 1 + 1 + 1)) (w1.heap.size) [] [own shB (.slice (some ⟨mb, mo, none⟩) m1 k1) (xs.set kn false), own shB (.slice d2 m2 k2) ys] from HS22.out)
  have nmc_ : ¬ mb = cb := by omega
  have ncm_ : ¬ cb = mb := by omega
  have yr_ := Lib.hid (show (((((((((((((w2.setCell ⟨mb, mo + kn, none⟩ (.bool false)).setCell ⟨W.heap.size + 1, 0, none⟩ (.int .i64 i0)).setCell ⟨W.heap.size + 1, 1, none⟩ (.slice (some ⟨mb, mo, none⟩) m1 k1)).setCell ⟨W.heap.size + 1, 2, none⟩ (.slice d2 m2 k2)).setCell ⟨W.heap.size + 1 + 1, 0, none⟩ (.int .i64 0)).setCell ⟨W.heap.size + 1 + 1, 1, none⟩ (.int .i64 0)).setCell ⟨W.heap.size + 1 + 1, 2, none⟩ (.int .i64 0)).setCell ⟨W.heap.size + 1 + 1, 3, none⟩ (.int .i64 0)).setCell ⟨W.heap.size + 1 + 1, 4, none⟩ (.int .i64 0)).setCell ⟨W.heap.size + 1 + 1, 5, none⟩ (.int .i64 0)).setCell ⟨W.heap.size + 1 + 1, 6, none⟩ (.int .i64 0)).setCell ⟨W.heap.size + 1 + 1, 7, none⟩ (.slice none 0 0))).heap[W.heap.size + 1]? = some (.cells #[.int .i64 i0, .slice (some ⟨mb, mo, none⟩) m1 k1, .slice d2 m2 k2] 26 (0, 0)) from (set_far (set_far (set_far (set_far (set_far (set_far (set_far (set_far (heap_setCell_same _ _ 2 _ _ _ (heap_setCell_same _ _ 1 _ _ _ (heap_setCell_same _ _ 0 _ _ _ rR25_.out))) (by dsimp only; omega)) (by dsimp only; omega)) (by dsimp only; omega)) (by dsimp only; omega)) (by dsimp only; omega)) (by dsimp only; omega)) (by dsimp only; omega)) (by dsimp only; omega)))
  have yq_ := Lib.hid (show (((((((((((((w2.setCell ⟨mb, mo + kn, none⟩ (.bool false)).setCell ⟨W.heap.size + 1, 0, none⟩ (.int .i64 i0)).setCell ⟨W.heap.size + 1, 1, none⟩ (.slice (some ⟨mb, mo, none⟩) m1 k1)).setCell ⟨W.heap.size + 1, 2, none⟩ (.slice d2 m2 k2)).setCell ⟨W.heap.size + 1 + 1, 0, none⟩ (.int .i64 0)).setCell ⟨W.heap.size + 1 + 1, 1, none⟩ (.int .i64 0)).setCell ⟨W.heap.size + 1 + 1, 2, none⟩ (.int .i64 0)).setCell ⟨W.heap.size + 1 + 1, 3, none⟩ (.int .i64 0)).setCell ⟨W.heap.size + 1 + 1, 4, none⟩ (.int .i64 0)).setCell ⟨W.heap.size + 1 + 1, 5, none⟩ (.int .i64 0)).setCell ⟨W.heap.size + 1 + 1, 6, none⟩ (.int .i64 0)).setCell ⟨W.heap.size + 1 + 1, 7, none⟩ (.slice none 0 0))).heap[W.heap.size + 1 + 1]? = some (.cells #[.int .i64 0, .int .i64 0, .int .i64 0, .int .i64 0, .int .i64 0, .int .i64 0, .int .i64 0, .slice none 0 0] 29 (0, 0)) from (heap_setCell_same _ _ 7 _ _ _ (heap_setCell_same _ _ 6 _ _ _ (heap_setCell_same _ _ 5 _ _ _ (heap_setCell_same _ _ 4 _ _ _ (heap_setCell_same _ _ 3 _ _ _ (heap_setCell_same _ _ 2 _ _ _ (heap_setCell_same _ _ 1 _ _ _ (heap_setCell_same _ _ 0 _ _ _ (set_far (set_far (set_far rQ26_.out (by dsimp only; omega)) (by dsimp only; omega)) (by dsimp only; omega)))))))))))
  have z0_ : (((((((((((((w2.setCell ⟨mb, mo + kn, none⟩ (.bool false)).setCell ⟨W.heap.size + 1, 0, none⟩ (.int .i64 i0)).setCell ⟨W.heap.size + 1, 1, none⟩ (.slice (some ⟨mb, mo, none⟩) m1 k1)).setCell ⟨W.heap.size + 1, 2, none⟩ (.slice d2 m2 k2)).setCell ⟨W.heap.size + 1 + 1, 0, none⟩ (.int .i64 0)).setCell ⟨W.heap.size + 1 + 1, 1, none⟩ (.int .i64 0)).setCell ⟨W.heap.size + 1 + 1, 2, none⟩ (.int .i64 0)).setCell ⟨W.heap.size + 1 + 1, 3, none⟩ (.int .i64 0)).setCell ⟨W.heap.size + 1 + 1, 4, none⟩ (.int .i64 0)).setCell ⟨W.heap.size + 1 + 1, 5, none⟩ (.int .i64 0)).setCell ⟨W.heap.size + 1 + 1, 6, none⟩ (.int .i64 0)).setCell ⟨W.heap.size + 1 + 1, 7, none⟩ (.slice none 0 0))).cell? ⟨W.heap.size + 1, 0, none⟩ = some (.int .i64 i0) := cell_of_row _ _ 0 _ _ _ yr_.out
  have z1_ : (((((((((((((w2.setCell ⟨mb, mo + kn, none⟩ (.bool false)).setCell ⟨W.heap.size + 1, 0, none⟩ (.int .i64 i0)).setCell ⟨W.heap.size + 1, 1, none⟩ (.slice (some ⟨mb, mo, none⟩) m1 k1)).setCell ⟨W.heap.size + 1, 2, none⟩ (.slice d2 m2 k2)).setCell ⟨W.heap.size + 1 + 1, 0, none⟩ (.int .i64 0)).setCell ⟨W.heap.size + 1 + 1, 1, none⟩ (.int .i64 0)).setCell ⟨W.heap.size + 1 + 1, 2, none⟩ (.int .i64 0)).setCell ⟨W.heap.size + 1 + 1, 3, none⟩ (.int .i64 0)).setCell ⟨W.heap.size + 1 + 1, 4, none⟩ (.int .i64 0)).setCell ⟨W.heap.size + 1 + 1, 5, none⟩ (.int .i64 0)).setCell ⟨W.heap.size + 1 + 1, 6, none⟩ (.int .i64 0)).setCell ⟨W.heap.size + 1 + 1, 7, none⟩ (.slice none 0 0))).cell? ⟨W.heap.size + 1, 1, none⟩ = some (.slice (some ⟨mb, mo, none⟩) m1 k1) := cell_of_row _ _ 1 _ _ _ yr_.out
  have z2_ : (((((((((((((w2.setCell ⟨mb, mo + kn, none⟩ (.bool false)).setCell ⟨W.heap.size + 1, 0, none⟩ (.int .i64 i0)).setCell ⟨W.heap.size + 1, 1, none⟩ (.slice (some ⟨mb, mo, none⟩) m1 k1)).setCell ⟨W.heap.size + 1, 2, none⟩ (.slice d2 m2 k2)).setCell ⟨W.heap.size + 1 + 1, 0, none⟩ (.int .i64 0)).setCell ⟨W.heap.size + 1 + 1, 1, none⟩ (.int .i64 0)).setCell ⟨W.heap.size + 1 + 1, 2, none⟩ (.int .i64 0)).setCell ⟨W.heap.size + 1 + 1, 3, none⟩ (.int .i64 0)).setCell ⟨W.heap.size + 1 + 1, 4, none⟩ (.int .i64 0)).setCell ⟨W.heap.size + 1 + 1, 5, none⟩ (.int .i64 0)).setCell ⟨W.heap.size + 1 + 1, 6, none⟩ (.int .i64 0)).setCell ⟨W.heap.size + 1 + 1, 7, none⟩ (.slice none 0 0))).cell? ⟨W.heap.size + 1, 2, none⟩ = some (.slice d2 m2 k2) := cell_of_row _ _ 2 _ _ _ yr_.out
  have y0_ : (((((((((((((w2.setCell ⟨mb, mo + kn, none⟩ (.bool false)).setCell ⟨W.heap.size + 1, 0, none⟩ (.int .i64 i0)).setCell ⟨W.heap.size + 1, 1, none⟩ (.slice (some ⟨mb, mo, none⟩) m1 k1)).setCell ⟨W.heap.size + 1, 2, none⟩ (.slice d2 m2 k2)).setCell ⟨W.heap.size + 1 + 1, 0, none⟩ (.int .i64 0)).setCell ⟨W.heap.size + 1 + 1, 1, none⟩ (.int .i64 0)).setCell ⟨W.heap.size + 1 + 1, 2, none⟩ (.int .i64 0)).setCell ⟨W.heap.size + 1 + 1, 3, none⟩ (.int .i64 0)).setCell ⟨W.heap.size + 1 + 1, 4, none⟩ (.int .i64 0)).setCell ⟨W.heap.size + 1 + 1, 5, none⟩ (.int .i64 0)).setCell ⟨W.heap.size + 1 + 1, 6, none⟩ (.int .i64 0)).setCell ⟨W.heap.size + 1 + 1, 7, none⟩ (.slice none 0 0))).cell? ⟨W.heap.size + 1 + 1, 0, none⟩ = some (.int .i64 0) := cell_of_row _ _ 0 _ _ _ yq_.out
  have y1_ : (((((((((((((w2.setCell ⟨mb, mo + kn, none⟩ (.bool false)).setCell ⟨W.heap.size + 1, 0, none⟩ (.int .i64 i0)).setCell ⟨W.heap.size + 1, 1, none⟩ (.slice (some ⟨mb, mo, none⟩) m1 k1)).setCell ⟨W.heap.size + 1, 2, none⟩ (.slice d2 m2 k2)).setCell ⟨W.heap.size + 1 + 1, 0, none⟩ (.int .i64 0)).setCell ⟨W.heap.size + 1 + 1, 1, none⟩ (.int .i64 0)).setCell ⟨W.heap.size + 1 + 1, 2, none⟩ (.int .i64 0)).setCell ⟨W.heap.size + 1 + 1, 3, none⟩ (.int .i64 0)).setCell ⟨W.heap.size + 1 + 1, 4, none⟩ (.int .i64 0)).setCell ⟨W.heap.size + 1 + 1, 5, none⟩ (.int .i64 0)).setCell ⟨W.heap.size + 1 + 1, 6, none⟩ (.int .i64 0)).setCell ⟨W.heap.size + 1 + 1, 7, none⟩ (.slice none 0 0))).cell? ⟨W.heap.size + 1 + 1, 1, none⟩ = some (.int .i64 0) := cell_of_row _ _ 1 _ _ _ yq_.out
  have y2_ : (((((((((((((w2.setCell ⟨mb, mo + kn, none⟩ (.bool false)).setCell ⟨W.heap.size + 1, 0, none⟩ (.int .i64 i0)).setCell ⟨W.heap.size + 1, 1, none⟩ (.slice (some ⟨mb, mo, none⟩) m1 k1)).setCell ⟨W.heap.size + 1, 2, none⟩ (.slice d2 m2 k2)).setCell ⟨W.heap.size + 1 + 1, 0, none⟩ (.int .i64 0)).setCell ⟨W.heap.size + 1 + 1, 1, none⟩ (.int .i64 0)).setCell ⟨W.heap.size + 1 + 1, 2, none⟩ (.int .i64 0)).setCell ⟨W.heap.size + 1 + 1, 3, none⟩ (.int .i64 0)).setCell ⟨W.heap.size + 1 + 1, 4, none⟩ (.int .i64 0)).setCell ⟨W.heap.size + 1 + 1, 5, none⟩ (.int .i64 0)).setCell ⟨W.heap.size + 1 + 1, 6, none⟩ (.int .i64 0)).setCell ⟨W.heap.size + 1 + 1, 7, none⟩ (.slice none 0 0))).cell? ⟨W.heap.size + 1 + 1, 2, none⟩ = some (.int .i64 0) := cell_of_row _ _ 2 _ _ _ yq_.out
  have y3_ : (((((((((((((w2.setCell ⟨mb, mo + kn, none⟩ (.bool false)).setCell ⟨W.heap.size + 1, 0, none⟩ (.int .i64 i0)).setCell ⟨W.heap.size + 1, 1, none⟩ (.slice (some ⟨mb, mo, none⟩) m1 k1)).setCell ⟨W.heap.size + 1, 2, none⟩ (.slice d2 m2 k2)).setCell ⟨W.heap.size + 1 + 1, 0, none⟩ (.int .i64 0)).setCell ⟨W.heap.size + 1 + 1, 1, none⟩ (.int .i64 0)).setCell ⟨W.heap.size + 1 + 1, 2, none⟩ (.int .i64 0)).setCell ⟨W.heap.size + 1 + 1, 3, none⟩ (.int .i64 0)).setCell ⟨W.heap.size + 1 + 1, 4, none⟩ (.int .i64 0)).setCell ⟨W.heap.size + 1 + 1, 5, none⟩ (.int .i64 0)).setCell ⟨W.heap.size + 1 + 1, 6, none⟩ (.int .i64 0)).setCell ⟨W.heap.size + 1 + 1, 7, none⟩ (.slice none 0 0))).cell? ⟨W.heap.size + 1 + 1, 3, none⟩ = some (.int .i64 0) := cell_of_row _ _ 3 _ _ _ yq_.out
  have y4_ : (((((((((((((w2.setCell ⟨mb, mo + kn, none⟩ (.bool false)).setCell ⟨W.heap.size + 1, 0, none⟩ (.int .i64 i0)).setCell ⟨W.heap.size + 1, 1, none⟩ (.slice (some ⟨mb, mo, none⟩) m1 k1)).setCell ⟨W.heap.size + 1, 2, none⟩ (.slice d2 m2 k2)).setCell ⟨W.heap.size + 1 + 1, 0, none⟩ (.int .i64 0)).setCell ⟨W.heap.size + 1 + 1, 1, none⟩ (.int .i64 0)).setCell ⟨W.heap.size + 1 + 1, 2, none⟩ (.int .i64 0)).setCell ⟨W.heap.size + 1 + 1, 3, none⟩ (.int .i64 0)).setCell ⟨W.heap.size + 1 + 1, 4, none⟩ (.int .i64 0)).setCell ⟨W.heap.size + 1 + 1, 5, none⟩ (.int .i64 0)).setCell ⟨W.heap.size + 1 + 1, 6, none⟩ (.int .i64 0)).setCell ⟨W.heap.size + 1 + 1, 7, none⟩ (.slice none 0 0))).cell? ⟨W.heap.size + 1 + 1, 4, none⟩ = some (.int .i64 0) := cell_of_row _ _ 4 _ _ _ yq_.out
  have y5_ : (((((((((((((w2.setCell ⟨mb, mo + kn, none⟩ (.bool false)).setCell ⟨W.heap.size + 1, 0, none⟩ (.int .i64 i0)).setCell ⟨W.heap.size + 1, 1, none⟩ (.slice (some ⟨mb, mo, none⟩) m1 k1)).setCell ⟨W.heap.size + 1, 2, none⟩ (.slice d2 m2 k2)).setCell ⟨W.heap.size + 1 + 1, 0, none⟩ (.int .i64 0)).setCell ⟨W.heap.size + 1 + 1, 1, none⟩ (.int .i64 0)).setCell ⟨W.heap.size + 1 + 1, 2, none⟩ (.int .i64 0)).setCell ⟨W.heap.size + 1 + 1, 3, none⟩ (.int .i64 0)).setCell ⟨W.heap.size + 1 + 1, 4, none⟩ (.int .i64 0)).setCell ⟨W.heap.size + 1 + 1, 5, none⟩ (.int .i64 0)).setCell ⟨W.heap.size + 1 + 1, 6, none⟩ (.int .i64 0)).setCell ⟨W.heap.size + 1 + 1, 7, none⟩ (.slice none 0 0))).cell? ⟨W.heap.size + 1 + 1, 5, none⟩ = some (.int .i64 0) := cell_of_row _ _ 5 _ _ _ yq_.out
  have y6_ : (((((((((((((w2.setCell ⟨mb, mo + kn, none⟩ (.bool false)).setCell ⟨W.heap.size + 1, 0, none⟩ (.int .i64 i0)).setCell ⟨W.heap.size + 1, 1, none⟩ (.slice (some ⟨mb, mo, none⟩) m1 k1)).setCell ⟨W.heap.size + 1, 2, none⟩ (.slice d2 m2 k2)).setCell ⟨W.heap.size + 1 + 1, 0, none⟩ (.int .i64 0)).setCell ⟨W.heap.size + 1 + 1, 1, none⟩ (.int .i64 0)).setCell ⟨W.heap.size + 1 + 1, 2, none⟩ (.int .i64 0)).setCell ⟨W.heap.size + 1 + 1, 3, none⟩ (.int .i64 0)).setCell ⟨W.heap.size + 1 + 1, 4, none⟩ (.int .i64 0)).setCell ⟨W.heap.size + 1 + 1, 5, none⟩ (.int .i64 0)).setCell ⟨W.heap.size + 1 + 1, 6, none⟩ (.int .i64 0)).setCell ⟨W.heap.size + 1 + 1, 7, none⟩ (.slice none 0 0))).cell? ⟨W.heap.size + 1 + 1, 6, none⟩ = some (.int .i64 0) := cell_of_row _ _ 6 _ _ _ yq_.out
  have y7_ : (((((((((((((w2.setCell ⟨mb, mo + kn, none⟩ (.bool false)).setCell ⟨W.heap.size + 1, 0, none⟩ (.int .i64 i0)).setCell ⟨W.heap.size + 1, 1, none⟩ (.slice (some ⟨mb, mo, none⟩) m1 k1)).setCell ⟨W.heap.size + 1, 2, none⟩ (.slice d2 m2 k2)).setCell ⟨W.heap.size + 1 + 1, 0, none⟩ (.int .i64 0)).setCell ⟨W.heap.size + 1 + 1, 1, none⟩ (.int .i64 0)).setCell ⟨W.heap.size + 1 + 1, 2, none⟩ (.int .i64 0)).setCell ⟨W.heap.size + 1 + 1, 3, none⟩ (.int .i64 0)).setCell ⟨W.heap.size + 1 + 1, 4, none⟩ (.int .i64 0)).setCell ⟨W.heap.size + 1 + 1, 5, none⟩ (.int .i64 0)).setCell ⟨W.heap.size + 1 + 1, 6, none⟩ (.int .i64 0)).setCell ⟨W.heap.size + 1 + 1, 7, none⟩ (.slice none 0 0))).cell? ⟨W.heap.size + 1 + 1, 7, none⟩ = some (.slice none 0 0) := cell_of_row _ _ 7 _ _ _ yq_.out
  go_wp2
  refine bodyPost_ret (v := .tuple #[.agg #[.int .i64 i0, .slice (some ⟨mb, mo, none⟩) m1 k1, .slice d2 m2 k2], .agg #[.int .i64 0, .int .i64 0, .int .i64 0, .int .i64 0, .int .i64 0, .int .i64 0, .int .i64 0, .slice none 0 0], .bool true]) (by simp [results, go_sem, z0_, z1_, z2_, y0_, y1_, y2_, y3_, y4_, y5_, y6_, y7_]) rfl ⟨_, _, _, rfl, ?_, ?_⟩
  · exact OwU.wide (lo := (W.heap.size + 1 + 1 + 1)) (by omega) (by simp only [World.size_setCell]; omega) (OwU.keep (chg_one _ _ _ _) (by omega) (OwU.keep (chg_one _ _ _ _) (by omega) (OwU.keep (chg_one _ _ _ _) (by omega) (OwU.keep (chg_one _ _ _ _) (by omega) (OwU.keep (chg_one _ _ _ _) (by omega) (OwU.keep (chg_one _ _ _ _) (by omega) (OwU.keep (chg_one _ _ _ _) (by omega) (OwU.keep (chg_one _ _ _ _) (by omega) (OwU.keep (chg_one _ _ _ _) (by omega) (OwU.keep (chg_one _ _ _ _) (by omega) (OwU.keep (chg_one _ _ _ _) (by omega) (OwU.app (ps := [own shB (.slice (some ⟨mb, mo, none⟩) m1 k1) (xs.set kn false), own shB (.slice d2 m2 k2) ys]) (qs := [own shI (.slice none 0 0) ([] : List Int)]) (m := w1.heap.size) (hi := w1.heap.size) (by omega) (Nat.le_refl _) oC28_.out (OwU.one owL_nil)))))))))))))
  · exact (gby_setnew (gby_setnew (gby_setnew (gby_setnew (gby_setnew (gby_setnew (gby_setnew (gby_setnew (gby_setnew (gby_setnew (gby_setnew G23_.out _ (by dsimp only; omega) _) _ (by dsimp only; omega) _) _ (by dsimp only; omega) _) _ (by dsimp only; omega) _) _ (by dsimp only; omega) _) _ (by dsimp only; omega) _) _ (by dsimp only; omega) _) _ (by dsimp only; omega) _) _ (by dsimp only; omega) _) _ (by dsimp only; omega) _) _ (by dsimp only; omega) _)

set_option maxRecDepth 8000 in
set_option maxHeartbeats 4000000 in
theorem specSetM_call (W : World) (i0 : Int) (v1 v2 : Value) (xs ys : List Bool) (H1 : RdL shB W v1 xs) (H2 : RdL shB W v2 ys) (hl1 : szL shB xs ≤ 1048576) (hl2 : szL shB ys ≤ 1048576) (id k : Int) (hb : VCall i0 xs ys id k) (hm : ys.getD k.toNat false = true) : Calls Try.prog 21 #[vVectors i0 v1 v2, .int .i64 id, .int .i64 k, .bool false] W (ResISetMask i0 (xs.set k.toNat false) (ys.set k.toNat false) 1 id 0 i0 0 0 0 [k] true W) := by
  have HOK := Lib.hid hb
  have hk_ := hb.2.2
  have h8_ := hb.1.1
  have hy_ := hb.1.2.1
  obtain ⟨kn, hkn⟩ : ∃ n : Nat, k = (n : Int) := ⟨k.toNat, by omega⟩
  subst hkn
  have hkx : kn < xs.length := by omega
  clear hb
  have HM := Lib.hid (show ys.getD kn false = true from by simpa using hm)
  clear hm
  rw [Int.toNat_natCast]
  have hsl1 : xs.length ≤ 1048576 := by rw [szL_B] at hl1; exact hl1
  have hsl2 : ys.length ≤ 1048576 := by rw [szL_B] at hl2; exact hl2
  have H1_ := Lib.hid H1
  have H2_ := Lib.hid H2
  obtain ⟨a1, n1, c1, rfl⟩ := RdL.form H1
  obtain ⟨a2, n2, c2, rfl⟩ := RdL.form H2
  clear H1 H2
  unfold vVectors
  have hk0 : (0 : Int) ≤ (kn : Int) := by omega
  have htk : ((kn : Int)).toNat = kn := by omega
  obtain ⟨hn_, cb, co, ha_, pk0⟩ := rdB_some H2_.out kn (by omega)
  subst ha_
  have bn2_ : (kn : Int) < (n2 : Int) := by omega
  rw [HM.out] at pk0
  have hcb_ : cb < W.heap.size := World.block_lt_of_cell? _ _ pk0
  have PK := Lib.hid pk0
  clear hn_ pk0
  go_enter Try.func21, Try.ntmps21
  have rA1_ := Lib.hid (show ((((W.alloc (.cells #[.int .i64 i0, .slice a1 n1 c1, .slice (some ⟨cb, co, none⟩) n2 c2] 26)).alloc (.cells #[.int .i64 0, .slice none 0 0, .slice none 0 0] 26)).alloc (.cells #[.int .i64 0, .int .i64 0, .int .i64 0, .int .i64 0, .int .i64 0, .int .i64 0, .int .i64 0, .slice none 0 0] 29))).heap[W.heap.size]? = some (.cells #[.int .i64 i0, .slice a1 n1 c1, .slice (some ⟨cb, co, none⟩) n2 c2] 26 (0, 0)) from by rw [heap_alloc_old _ _ (by simp only [World.size_alloc]; omega)]; rw [heap_alloc_old _ _ (by simp only [World.size_alloc]; omega)]; exact heap_alloc_new _ _)
  have rR2_ := Lib.hid (show ((((W.alloc (.cells #[.int .i64 i0, .slice a1 n1 c1, .slice (some ⟨cb, co, none⟩) n2 c2] 26)).alloc (.cells #[.int .i64 0, .slice none 0 0, .slice none 0 0] 26)).alloc (.cells #[.int .i64 0, .int .i64 0, .int .i64 0, .int .i64 0, .int .i64 0, .int .i64 0, .int .i64 0, .slice none 0 0] 29))).heap[W.heap.size + 1]? = some (.cells #[.int .i64 0, .slice none 0 0, .slice none 0 0] 26 (0, 0)) from by rw [heap_alloc_old _ _ (by simp only [World.size_alloc]; omega)]; exact heap_pair _ _ _)
  have rQ3_ := Lib.hid (show ((((W.alloc (.cells #[.int .i64 i0, .slice a1 n1 c1, .slice (some ⟨cb, co, none⟩) n2 c2] 26)).alloc (.cells #[.int .i64 0, .slice none 0 0, .slice none 0 0] 26)).alloc (.cells #[.int .i64 0, .int .i64 0, .int .i64 0, .int .i64 0, .int .i64 0, .int .i64 0, .int .i64 0, .slice none 0 0] 29))).heap[W.heap.size + 1 + 1]? = some (.cells #[.int .i64 0, .int .i64 0, .int .i64 0, .int .i64 0, .int .i64 0, .int .i64 0, .int .i64 0, .slice none 0 0] 29 (0, 0)) from by exact heap_trip _ _ _ _)
  have G4_ := Lib.hid (show (W).grownBy ((((W.alloc (.cells #[.int .i64 i0, .slice a1 n1 c1, .slice (some ⟨cb, co, none⟩) n2 c2] 26)).alloc (.cells #[.int .i64 0, .slice none 0 0, .slice none 0 0] 26)).alloc (.cells #[.int .i64 0, .int .i64 0, .int .i64 0, .int .i64 0, .int .i64 0, .int .i64 0, .int .i64 0, .slice none 0 0] 29))) none from (gby_alloc (gby_alloc (gby_alloc (gby_refl _ _) _) _) _))
  have A_0_ : ((((W.alloc (.cells #[.int .i64 i0, .slice a1 n1 c1, .slice (some ⟨cb, co, none⟩) n2 c2] 26)).alloc (.cells #[.int .i64 0, .slice none 0 0, .slice none 0 0] 26)).alloc (.cells #[.int .i64 0, .int .i64 0, .int .i64 0, .int .i64 0, .int .i64 0, .int .i64 0, .int .i64 0, .slice none 0 0] 29))).cell? ⟨W.heap.size, 0, none⟩ = some (.int .i64 i0) := cell_of_row _ _ 0 _ _ _ rA1_.out
  have A_1_ : ((((W.alloc (.cells #[.int .i64 i0, .slice a1 n1 c1, .slice (some ⟨cb, co, none⟩) n2 c2] 26)).alloc (.cells #[.int .i64 0, .slice none 0 0, .slice none 0 0] 26)).alloc (.cells #[.int .i64 0, .int .i64 0, .int .i64 0, .int .i64 0, .int .i64 0, .int .i64 0, .int .i64 0, .slice none 0 0] 29))).cell? ⟨W.heap.size, 1, none⟩ = some (.slice a1 n1 c1) := cell_of_row _ _ 1 _ _ _ rA1_.out
  have A_2_ : ((((W.alloc (.cells #[.int .i64 i0, .slice a1 n1 c1, .slice (some ⟨cb, co, none⟩) n2 c2] 26)).alloc (.cells #[.int .i64 0, .slice none 0 0, .slice none 0 0] 26)).alloc (.cells #[.int .i64 0, .int .i64 0, .int .i64 0, .int .i64 0, .int .i64 0, .int .i64 0, .int .i64 0, .slice none 0 0] 29))).cell? ⟨W.heap.size, 2, none⟩ = some (.slice (some ⟨cb, co, none⟩) n2 c2) := cell_of_row _ _ 2 _ _ _ rA1_.out
  have R_0_ : ((((W.alloc (.cells #[.int .i64 i0, .slice a1 n1 c1, .slice (some ⟨cb, co, none⟩) n2 c2] 26)).alloc (.cells #[.int .i64 0, .slice none 0 0, .slice none 0 0] 26)).alloc (.cells #[.int .i64 0, .int .i64 0, .int .i64 0, .int .i64 0, .int .i64 0, .int .i64 0, .int .i64 0, .slice none 0 0] 29))).cell? ⟨W.heap.size + 1, 0, none⟩ = some (.int .i64 0) := cell_of_row _ _ 0 _ _ _ rR2_.out
  have R_1_ : ((((W.alloc (.cells #[.int .i64 i0, .slice a1 n1 c1, .slice (some ⟨cb, co, none⟩) n2 c2] 26)).alloc (.cells #[.int .i64 0, .slice none 0 0, .slice none 0 0] 26)).alloc (.cells #[.int .i64 0, .int .i64 0, .int .i64 0, .int .i64 0, .int .i64 0, .int .i64 0, .int .i64 0, .slice none 0 0] 29))).cell? ⟨W.heap.size + 1, 1, none⟩ = some (.slice none 0 0) := cell_of_row _ _ 1 _ _ _ rR2_.out
  have R_2_ : ((((W.alloc (.cells #[.int .i64 i0, .slice a1 n1 c1, .slice (some ⟨cb, co, none⟩) n2 c2] 26)).alloc (.cells #[.int .i64 0, .slice none 0 0, .slice none 0 0] 26)).alloc (.cells #[.int .i64 0, .int .i64 0, .int .i64 0, .int .i64 0, .int .i64 0, .int .i64 0, .int .i64 0, .slice none 0 0] 29))).cell? ⟨W.heap.size + 1, 2, none⟩ = some (.slice none 0 0) := cell_of_row _ _ 2 _ _ _ rR2_.out
  have Q_0_ : ((((W.alloc (.cells #[.int .i64 i0, .slice a1 n1 c1, .slice (some ⟨cb, co, none⟩) n2 c2] 26)).alloc (.cells #[.int .i64 0, .slice none 0 0, .slice none 0 0] 26)).alloc (.cells #[.int .i64 0, .int .i64 0, .int .i64 0, .int .i64 0, .int .i64 0, .int .i64 0, .int .i64 0, .slice none 0 0] 29))).cell? ⟨W.heap.size + 1 + 1, 0, none⟩ = some (.int .i64 0) := cell_of_row _ _ 0 _ _ _ rQ3_.out
  have Q_1_ : ((((W.alloc (.cells #[.int .i64 i0, .slice a1 n1 c1, .slice (some ⟨cb, co, none⟩) n2 c2] 26)).alloc (.cells #[.int .i64 0, .slice none 0 0, .slice none 0 0] 26)).alloc (.cells #[.int .i64 0, .int .i64 0, .int .i64 0, .int .i64 0, .int .i64 0, .int .i64 0, .int .i64 0, .slice none 0 0] 29))).cell? ⟨W.heap.size + 1 + 1, 1, none⟩ = some (.int .i64 0) := cell_of_row _ _ 1 _ _ _ rQ3_.out
  have Q_2_ : ((((W.alloc (.cells #[.int .i64 i0, .slice a1 n1 c1, .slice (some ⟨cb, co, none⟩) n2 c2] 26)).alloc (.cells #[.int .i64 0, .slice none 0 0, .slice none 0 0] 26)).alloc (.cells #[.int .i64 0, .int .i64 0, .int .i64 0, .int .i64 0, .int .i64 0, .int .i64 0, .int .i64 0, .slice none 0 0] 29))).cell? ⟨W.heap.size + 1 + 1, 2, none⟩ = some (.int .i64 0) := cell_of_row _ _ 2 _ _ _ rQ3_.out
  have Q_3_ : ((((W.alloc (.cells #[.int .i64 i0, .slice a1 n1 c1, .slice (some ⟨cb, co, none⟩) n2 c2] 26)).alloc (.cells #[.int .i64 0, .slice none 0 0, .slice none 0 0] 26)).alloc (.cells #[.int .i64 0, .int .i64 0, .int .i64 0, .int .i64 0, .int .i64 0, .int .i64 0, .int .i64 0, .slice none 0 0] 29))).cell? ⟨W.heap.size + 1 + 1, 3, none⟩ = some (.int .i64 0) := cell_of_row _ _ 3 _ _ _ rQ3_.out
  have Q_4_ : ((((W.alloc (.cells #[.int .i64 i0, .slice a1 n1 c1, .slice (some ⟨cb, co, none⟩) n2 c2] 26)).alloc (.cells #[.int .i64 0, .slice none 0 0, .slice none 0 0] 26)).alloc (.cells #[.int .i64 0, .int .i64 0, .int .i64 0, .int .i64 0, .int .i64 0, .int .i64 0, .int .i64 0, .slice none 0 0] 29))).cell? ⟨W.heap.size + 1 + 1, 4, none⟩ = some (.int .i64 0) := cell_of_row _ _ 4 _ _ _ rQ3_.out
  have Q_5_ : ((((W.alloc (.cells #[.int .i64 i0, .slice a1 n1 c1, .slice (some ⟨cb, co, none⟩) n2 c2] 26)).alloc (.cells #[.int .i64 0, .slice none 0 0, .slice none 0 0] 26)).alloc (.cells #[.int .i64 0, .int .i64 0, .int .i64 0, .int .i64 0, .int .i64 0, .int .i64 0, .int .i64 0, .slice none 0 0] 29))).cell? ⟨W.heap.size + 1 + 1, 5, none⟩ = some (.int .i64 0) := cell_of_row _ _ 5 _ _ _ rQ3_.out
  have Q_6_ : ((((W.alloc (.cells #[.int .i64 i0, .slice a1 n1 c1, .slice (some ⟨cb, co, none⟩) n2 c2] 26)).alloc (.cells #[.int .i64 0, .slice none 0 0, .slice none 0 0] 26)).alloc (.cells #[.int .i64 0, .int .i64 0, .int .i64 0, .int .i64 0, .int .i64 0, .int .i64 0, .int .i64 0, .slice none 0 0] 29))).cell? ⟨W.heap.size + 1 + 1, 6, none⟩ = some (.int .i64 0) := cell_of_row _ _ 6 _ _ _ rQ3_.out
  have Q_7_ : ((((W.alloc (.cells #[.int .i64 i0, .slice a1 n1 c1, .slice (some ⟨cb, co, none⟩) n2 c2] 26)).alloc (.cells #[.int .i64 0, .slice none 0 0, .slice none 0 0] 26)).alloc (.cells #[.int .i64 0, .int .i64 0, .int .i64 0, .int .i64 0, .int .i64 0, .int .i64 0, .int .i64 0, .slice none 0 0] 29))).cell? ⟨W.heap.size + 1 + 1, 7, none⟩ = some (.slice none 0 0) := cell_of_row _ _ 7 _ _ _ rQ3_.out
  go_wp2_with fail
  go_at_call 60
  refine (l30Copy_d _ i0 _ _ xs ys (H1_.out.grow G4_.out) (H2_.out.grow G4_.out) hl1 hl2).mono ?_
  rintro e w1 ⟨x1, x2, rfl, o, g⟩
  have sz_ := g.size
  try simp only [World.size_alloc] at sz_ o
  clear A_0_ A_1_ A_2_ R_0_ R_1_ R_2_ Q_0_ Q_1_ Q_2_ Q_3_ Q_4_ Q_5_ Q_6_ Q_7_
  have rA5_ := Lib.hid (show (w1).heap[W.heap.size]? = some (.cells #[.int .i64 i0, .slice a1 n1 c1, .slice (some ⟨cb, co, none⟩) n2 c2] 26 (0, 0)) from row_held g rA1_.out)
  clear rA1_
  have rR6_ := Lib.hid (show (w1).heap[W.heap.size + 1]? = some (.cells #[.int .i64 0, .slice none 0 0, .slice none 0 0] 26 (0, 0)) from row_held g rR2_.out)
  clear rR2_
  have rQ7_ := Lib.hid (show (w1).heap[W.heap.size + 1 + 1]? = some (.cells #[.int .i64 0, .int .i64 0, .int .i64 0, .int .i64 0, .int .i64 0, .int .i64 0, .int .i64 0, .slice none 0 0] 29 (0, 0)) from row_held g rQ3_.out)
  clear rQ3_
  have G8_ := Lib.hid (show (W).grownBy (w1) none from gby_trans G4_.out g)
  clear g
  obtain ⟨d1, m1, k1, hv_⟩ := RdL.form (OwU.rd o)
  subst hv_
  obtain ⟨d2, m2, k2, hv_⟩ := RdL.form (OwU.rd (OwU.tail o))
  subst hv_
  unfold vVectors
  have oC9_ := Lib.hid (show OwU (w1) ((W.heap.size + 1 + 1 + 1)) (w1.heap.size) [] [own shB (.slice d1 m1 k1) xs, own shB (.slice d2 m2 k2) ys] from o)
  clear o
  have al_ : (w1).grownBy ((w1).alloc (.cells #[.int .i64 i0, .slice d1 m1 k1, .slice d2 m2 k2] 26)) none := gby_alloc (gby_refl _ _) _
  have rA10_ := Lib.hid (show ((w1.alloc (.cells #[.int .i64 i0, .slice d1 m1 k1, .slice d2 m2 k2] 26))).heap[W.heap.size]? = some (.cells #[.int .i64 i0, .slice a1 n1 c1, .slice (some ⟨cb, co, none⟩) n2 c2] 26 (0, 0)) from row_held al_ rA5_.out)
  clear rA5_
  have rR11_ := Lib.hid (show ((w1.alloc (.cells #[.int .i64 i0, .slice d1 m1 k1, .slice d2 m2 k2] 26))).heap[W.heap.size + 1]? = some (.cells #[.int .i64 0, .slice none 0 0, .slice none 0 0] 26 (0, 0)) from row_held al_ rR6_.out)
  clear rR6_
  have rQ12_ := Lib.hid (show ((w1.alloc (.cells #[.int .i64 i0, .slice d1 m1 k1, .slice d2 m2 k2] 26))).heap[W.heap.size + 1 + 1]? = some (.cells #[.int .i64 0, .int .i64 0, .int .i64 0, .int .i64 0, .int .i64 0, .int .i64 0, .int .i64 0, .slice none 0 0] 29 (0, 0)) from row_held al_ rQ7_.out)
  clear rQ7_
  have oC13_ := Lib.hid (show OwU ((w1.alloc (.cells #[.int .i64 i0, .slice d1 m1 k1, .slice d2 m2 k2] 26))) ((W.heap.size + 1 + 1 + 1)) (w1.heap.size) [] [own shB (.slice d1 m1 k1) xs, own shB (.slice d2 m2 k2) ys] from OwU.grow oC9_.out al_)
  clear oC9_
  have G14_ := Lib.hid (show (W).grownBy ((w1.alloc (.cells #[.int .i64 i0, .slice d1 m1 k1, .slice d2 m2 k2] 26))) none from gby_trans G8_.out al_)
  have rX15_ := Lib.hid (show ((w1.alloc (.cells #[.int .i64 i0, .slice d1 m1 k1, .slice d2 m2 k2] 26))).heap[w1.heap.size]? = some (.cells #[.int .i64 i0, .slice d1 m1 k1, .slice d2 m2 k2] 26 (0, 0)) from by first | exact heap_alloc_new _ _ | exact heap_pair _ _ _ | exact heap_trip _ _ _ _)
  clear al_
  have A_0_ : ((w1.alloc (.cells #[.int .i64 i0, .slice d1 m1 k1, .slice d2 m2 k2] 26))).cell? ⟨W.heap.size, 0, none⟩ = some (.int .i64 i0) := cell_of_row _ _ 0 _ _ _ rA10_.out
  have A_1_ : ((w1.alloc (.cells #[.int .i64 i0, .slice d1 m1 k1, .slice d2 m2 k2] 26))).cell? ⟨W.heap.size, 1, none⟩ = some (.slice a1 n1 c1) := cell_of_row _ _ 1 _ _ _ rA10_.out
  have A_2_ : ((w1.alloc (.cells #[.int .i64 i0, .slice d1 m1 k1, .slice d2 m2 k2] 26))).cell? ⟨W.heap.size, 2, none⟩ = some (.slice (some ⟨cb, co, none⟩) n2 c2) := cell_of_row _ _ 2 _ _ _ rA10_.out
  have R_0_ : ((w1.alloc (.cells #[.int .i64 i0, .slice d1 m1 k1, .slice d2 m2 k2] 26))).cell? ⟨W.heap.size + 1, 0, none⟩ = some (.int .i64 0) := cell_of_row _ _ 0 _ _ _ rR11_.out
  have R_1_ : ((w1.alloc (.cells #[.int .i64 i0, .slice d1 m1 k1, .slice d2 m2 k2] 26))).cell? ⟨W.heap.size + 1, 1, none⟩ = some (.slice none 0 0) := cell_of_row _ _ 1 _ _ _ rR11_.out
  have R_2_ : ((w1.alloc (.cells #[.int .i64 i0, .slice d1 m1 k1, .slice d2 m2 k2] 26))).cell? ⟨W.heap.size + 1, 2, none⟩ = some (.slice none 0 0) := cell_of_row _ _ 2 _ _ _ rR11_.out
  have Q_0_ : ((w1.alloc (.cells #[.int .i64 i0, .slice d1 m1 k1, .slice d2 m2 k2] 26))).cell? ⟨W.heap.size + 1 + 1, 0, none⟩ = some (.int .i64 0) := cell_of_row _ _ 0 _ _ _ rQ12_.out
  have Q_1_ : ((w1.alloc (.cells #[.int .i64 i0, .slice d1 m1 k1, .slice d2 m2 k2] 26))).cell? ⟨W.heap.size + 1 + 1, 1, none⟩ = some (.int .i64 0) := cell_of_row _ _ 1 _ _ _ rQ12_.out
  have Q_2_ : ((w1.alloc (.cells #[.int .i64 i0, .slice d1 m1 k1, .slice d2 m2 k2] 26))).cell? ⟨W.heap.size + 1 + 1, 2, none⟩ = some (.int .i64 0) := cell_of_row _ _ 2 _ _ _ rQ12_.out
  have Q_3_ : ((w1.alloc (.cells #[.int .i64 i0, .slice d1 m1 k1, .slice d2 m2 k2] 26))).cell? ⟨W.heap.size + 1 + 1, 3, none⟩ = some (.int .i64 0) := cell_of_row _ _ 3 _ _ _ rQ12_.out
  have Q_4_ : ((w1.alloc (.cells #[.int .i64 i0, .slice d1 m1 k1, .slice d2 m2 k2] 26))).cell? ⟨W.heap.size + 1 + 1, 4, none⟩ = some (.int .i64 0) := cell_of_row _ _ 4 _ _ _ rQ12_.out
  have Q_5_ : ((w1.alloc (.cells #[.int .i64 i0, .slice d1 m1 k1, .slice d2 m2 k2] 26))).cell? ⟨W.heap.size + 1 + 1, 5, none⟩ = some (.int .i64 0) := cell_of_row _ _ 5 _ _ _ rQ12_.out
  have Q_6_ : ((w1.alloc (.cells #[.int .i64 i0, .slice d1 m1 k1, .slice d2 m2 k2] 26))).cell? ⟨W.heap.size + 1 + 1, 6, none⟩ = some (.int .i64 0) := cell_of_row _ _ 6 _ _ _ rQ12_.out
  have Q_7_ : ((w1.alloc (.cells #[.int .i64 i0, .slice d1 m1 k1, .slice d2 m2 k2] 26))).cell? ⟨W.heap.size + 1 + 1, 7, none⟩ = some (.slice none 0 0) := cell_of_row _ _ 7 _ _ _ rQ12_.out
  have X_0_ : ((w1.alloc (.cells #[.int .i64 i0, .slice d1 m1 k1, .slice d2 m2 k2] 26))).cell? ⟨w1.heap.size, 0, none⟩ = some (.int .i64 i0) := cell_of_row _ _ 0 _ _ _ rX15_.out
  have X_1_ : ((w1.alloc (.cells #[.int .i64 i0, .slice d1 m1 k1, .slice d2 m2 k2] 26))).cell? ⟨w1.heap.size, 1, none⟩ = some (.slice d1 m1 k1) := cell_of_row _ _ 1 _ _ _ rX15_.out
  have X_2_ : ((w1.alloc (.cells #[.int .i64 i0, .slice d1 m1 k1, .slice d2 m2 k2] 26))).cell? ⟨w1.heap.size, 2, none⟩ = some (.slice d2 m2 k2) := cell_of_row _ _ 2 _ _ _ rX15_.out
  go_wp2_with fail
  go_at_call 61
  refine (((specVCall _ i0 _ _ xs ys id (kn : Int) (H1_.out.grow G14_.out) (H2_.out.grow G14_.out)).mono (bpost_yes HOK.out))).mono ?_
  rintro e w2 ⟨rfl, g⟩
  have szw2 := g.size
  try simp only [World.size_alloc] at szw2
  try simp only [World.size_setCell] at szw2
  clear A_0_ A_1_ A_2_ R_0_ R_1_ R_2_ Q_0_ Q_1_ Q_2_ Q_3_ Q_4_ Q_5_ Q_6_ Q_7_ X_0_ X_1_ X_2_
  have rA16_ := Lib.hid (show (w2).heap[W.heap.size]? = some (.cells #[.int .i64 i0, .slice a1 n1 c1, .slice (some ⟨cb, co, none⟩) n2 c2] 26 (0, 0)) from row_held g rA10_.out)
  clear rA10_
  have rR17_ := Lib.hid (show (w2).heap[W.heap.size + 1]? = some (.cells #[.int .i64 0, .slice none 0 0, .slice none 0 0] 26 (0, 0)) from row_held g rR11_.out)
  clear rR11_
  have rQ18_ := Lib.hid (show (w2).heap[W.heap.size + 1 + 1]? = some (.cells #[.int .i64 0, .int .i64 0, .int .i64 0, .int .i64 0, .int .i64 0, .int .i64 0, .int .i64 0, .slice none 0 0] 29 (0, 0)) from row_held g rQ12_.out)
  clear rQ12_
  have rX19_ := Lib.hid (show (w2).heap[w1.heap.size]? = some (.cells #[.int .i64 i0, .slice d1 m1 k1, .slice d2 m2 k2] 26 (0, 0)) from row_held g rX15_.out)
  clear rX15_
  have oC20_ := Lib.hid (show OwU (w2) ((W.heap.size + 1 + 1 + 1)) (w1.heap.size) [] [own shB (.slice d1 m1 k1) xs, own shB (.slice d2 m2 k2) ys] from OwU.grow oC13_.out g)
  clear oC13_
  have G21_ := Lib.hid (show (W).grownBy (w2) none from gby_trans G14_.out g)
  clear g
  have A_0_ : (w2).cell? ⟨W.heap.size, 0, none⟩ = some (.int .i64 i0) := cell_of_row _ _ 0 _ _ _ rA16_.out
  have A_1_ : (w2).cell? ⟨W.heap.size, 1, none⟩ = some (.slice a1 n1 c1) := cell_of_row _ _ 1 _ _ _ rA16_.out
  have A_2_ : (w2).cell? ⟨W.heap.size, 2, none⟩ = some (.slice (some ⟨cb, co, none⟩) n2 c2) := cell_of_row _ _ 2 _ _ _ rA16_.out
  have R_0_ : (w2).cell? ⟨W.heap.size + 1, 0, none⟩ = some (.int .i64 0) := cell_of_row _ _ 0 _ _ _ rR17_.out
  have R_1_ : (w2).cell? ⟨W.heap.size + 1, 1, none⟩ = some (.slice none 0 0) := cell_of_row _ _ 1 _ _ _ rR17_.out
  have R_2_ : (w2).cell? ⟨W.heap.size + 1, 2, none⟩ = some (.slice none 0 0) := cell_of_row _ _ 2 _ _ _ rR17_.out
  have Q_0_ : (w2).cell? ⟨W.heap.size + 1 + 1, 0, none⟩ = some (.int .i64 0) := cell_of_row _ _ 0 _ _ _ rQ18_.out
  have Q_1_ : (w2).cell? ⟨W.heap.size + 1 + 1, 1, none⟩ = some (.int .i64 0) := cell_of_row _ _ 1 _ _ _ rQ18_.out
  have Q_2_ : (w2).cell? ⟨W.heap.size + 1 + 1, 2, none⟩ = some (.int .i64 0) := cell_of_row _ _ 2 _ _ _ rQ18_.out
  have Q_3_ : (w2).cell? ⟨W.heap.size + 1 + 1, 3, none⟩ = some (.int .i64 0) := cell_of_row _ _ 3 _ _ _ rQ18_.out
  have Q_4_ : (w2).cell? ⟨W.heap.size + 1 + 1, 4, none⟩ = some (.int .i64 0) := cell_of_row _ _ 4 _ _ _ rQ18_.out
  have Q_5_ : (w2).cell? ⟨W.heap.size + 1 + 1, 5, none⟩ = some (.int .i64 0) := cell_of_row _ _ 5 _ _ _ rQ18_.out
  have Q_6_ : (w2).cell? ⟨W.heap.size + 1 + 1, 6, none⟩ = some (.int .i64 0) := cell_of_row _ _ 6 _ _ _ rQ18_.out
  have Q_7_ : (w2).cell? ⟨W.heap.size + 1 + 1, 7, none⟩ = some (.slice none 0 0) := cell_of_row _ _ 7 _ _ _ rQ18_.out
  have X_0_ : (w2).cell? ⟨w1.heap.size, 0, none⟩ = some (.int .i64 i0) := cell_of_row _ _ 0 _ _ _ rX19_.out
  have X_1_ : (w2).cell? ⟨w1.heap.size, 1, none⟩ = some (.slice d1 m1 k1) := cell_of_row _ _ 1 _ _ _ rX19_.out
  have X_2_ : (w2).cell? ⟨w1.heap.size, 2, none⟩ = some (.slice d2 m2 k2) := cell_of_row _ _ 2 _ _ _ rX19_.out
  have pk_ := (G21_.out).cell PK.out (by simp)
  clear A_0_ A_1_ A_2_ R_0_ R_1_ R_2_ Q_0_ Q_1_ Q_2_ Q_3_ Q_4_ Q_5_ Q_6_ Q_7_ X_0_ X_1_ X_2_
  have A_0_ : (w2).cell? ⟨W.heap.size, 0, none⟩ = some (.int .i64 i0) := cell_of_row _ _ 0 _ _ _ rA16_.out
  have A_1_ : (w2).cell? ⟨W.heap.size, 1, none⟩ = some (.slice a1 n1 c1) := cell_of_row _ _ 1 _ _ _ rA16_.out
  have A_2_ : (w2).cell? ⟨W.heap.size, 2, none⟩ = some (.slice (some ⟨cb, co, none⟩) n2 c2) := cell_of_row _ _ 2 _ _ _ rA16_.out
  have R_0_ : (w2).cell? ⟨W.heap.size + 1, 0, none⟩ = some (.int .i64 0) := cell_of_row _ _ 0 _ _ _ rR17_.out
  have R_1_ : (w2).cell? ⟨W.heap.size + 1, 1, none⟩ = some (.slice none 0 0) := cell_of_row _ _ 1 _ _ _ rR17_.out
  have R_2_ : (w2).cell? ⟨W.heap.size + 1, 2, none⟩ = some (.slice none 0 0) := cell_of_row _ _ 2 _ _ _ rR17_.out
  have Q_0_ : (w2).cell? ⟨W.heap.size + 1 + 1, 0, none⟩ = some (.int .i64 0) := cell_of_row _ _ 0 _ _ _ rQ18_.out
  have Q_1_ : (w2).cell? ⟨W.heap.size + 1 + 1, 1, none⟩ = some (.int .i64 0) := cell_of_row _ _ 1 _ _ _ rQ18_.out
  have Q_2_ : (w2).cell? ⟨W.heap.size + 1 + 1, 2, none⟩ = some (.int .i64 0) := cell_of_row _ _ 2 _ _ _ rQ18_.out
  have Q_3_ : (w2).cell? ⟨W.heap.size + 1 + 1, 3, none⟩ = some (.int .i64 0) := cell_of_row _ _ 3 _ _ _ rQ18_.out
  have Q_4_ : (w2).cell? ⟨W.heap.size + 1 + 1, 4, none⟩ = some (.int .i64 0) := cell_of_row _ _ 4 _ _ _ rQ18_.out
  have Q_5_ : (w2).cell? ⟨W.heap.size + 1 + 1, 5, none⟩ = some (.int .i64 0) := cell_of_row _ _ 5 _ _ _ rQ18_.out
  have Q_6_ : (w2).cell? ⟨W.heap.size + 1 + 1, 6, none⟩ = some (.int .i64 0) := cell_of_row _ _ 6 _ _ _ rQ18_.out
  have Q_7_ : (w2).cell? ⟨W.heap.size + 1 + 1, 7, none⟩ = some (.slice none 0 0) := cell_of_row _ _ 7 _ _ _ rQ18_.out
  have X_0_ : (w2).cell? ⟨w1.heap.size, 0, none⟩ = some (.int .i64 i0) := cell_of_row _ _ 0 _ _ _ rX19_.out
  have X_1_ : (w2).cell? ⟨w1.heap.size, 1, none⟩ = some (.slice d1 m1 k1) := cell_of_row _ _ 1 _ _ _ rX19_.out
  have X_2_ : (w2).cell? ⟨w1.heap.size, 2, none⟩ = some (.slice d2 m2 k2) := cell_of_row _ _ 2 _ _ _ rX19_.out
  obtain ⟨mb, mo, c_22, hv22_, lo22_, hi22_, ck22_, cf22_, st22_⟩ := vset1 oC20_.out kn (by (try simp only [List.length_set]); omega)
  injection hv22_ with q1_ q2_ q3_
  have HL22 := Lib.hid q2_
  have HS22 := Lib.hid (st22_ false)
  clear q2_ q3_ st22_
  subst q1_
  have n220_ : ¬ mb = W.heap.size := by omega
  have m220_ : ¬ W.heap.size = mb := by omega
  have n221_ : ¬ mb = W.heap.size + 1 := by omega
  have m221_ : ¬ W.heap.size + 1 = mb := by omega
  have n222_ : ¬ mb = W.heap.size + 1 + 1 := by omega
  have m222_ : ¬ W.heap.size + 1 + 1 = mb := by omega
  have n223_ : ¬ mb = w1.heap.size := by omega
  have m223_ : ¬ w1.heap.size = mb := by omega
  have b22_ : (kn : Int) < (m1 : Int) := by have := HL22.out; (try simp only [List.length_set] at this); omega
  have G23_ := Lib.hid (show (W).grownBy ((w2.setCell ⟨mb, mo + kn, none⟩ (.bool false))) none from gby_setnew G21_.out _ (by dsimp only; omega) _)
  have rA24_ := Lib.hid (show ((w2.setCell ⟨mb, mo + kn, none⟩ (.bool false))).heap[W.heap.size]? = some (.cells #[.int .i64 i0, .slice a1 n1 c1, .slice (some ⟨cb, co, none⟩) n2 c2] 26 (0, 0)) from set_far rA16_.out (by dsimp only; omega))
  have rR25_ := Lib.hid (show ((w2.setCell ⟨mb, mo + kn, none⟩ (.bool false))).heap[W.heap.size + 1]? = some (.cells #[.int .i64 0, .slice none 0 0, .slice none 0 0] 26 (0, 0)) from set_far rR17_.out (by dsimp only; omega))
  have rQ26_ := Lib.hid (show ((w2.setCell ⟨mb, mo + kn, none⟩ (.bool false))).heap[W.heap.size + 1 + 1]? = some (.cells #[.int .i64 0, .int .i64 0, .int .i64 0, .int .i64 0, .int .i64 0, .int .i64 0, .int .i64 0, .slice none 0 0] 29 (0, 0)) from set_far rQ18_.out (by dsimp only; omega))
  have rX27_ := Lib.hid (show ((w2.setCell ⟨mb, mo + kn, none⟩ (.bool false))).heap[w1.heap.size]? = some (.cells #[.int .i64 i0, .slice (some ⟨mb, mo, none⟩) m1 k1, .slice d2 m2 k2] 26 (0, 0)) from set_far rX19_.out (by dsimp only; omega))
  have oC28_ := Lib.hid (show OwU ((w2.setCell ⟨mb, mo + kn, none⟩ (.bool false))) ((W.heap.size + 1 + 1 + 1)) (w1.heap.size) [] [own shB (.slice (some ⟨mb, mo, none⟩) m1 k1) (xs.set kn false), own shB (.slice d2 m2 k2) ys] from HS22.out)
  have nmc_ : ¬ mb = cb := by omega
  have ncm_ : ¬ cb = mb := by omega
  obtain ⟨pb, po, c_29, hv29_, lo29_, hi29_, ck29_, cf29_, st29_⟩ := vset2 oC28_.out kn (by (try simp only [List.length_set]); omega)
  injection hv29_ with q1_ q2_ q3_
  have HL29 := Lib.hid q2_
  have HS29 := Lib.hid (st29_ false)
  clear q2_ q3_ st29_
  subst q1_
  have n290_ : ¬ pb = W.heap.size := by omega
  have m290_ : ¬ W.heap.size = pb := by omega
  have n291_ : ¬ pb = W.heap.size + 1 := by omega
  have m291_ : ¬ W.heap.size + 1 = pb := by omega
  have n292_ : ¬ pb = W.heap.size + 1 + 1 := by omega
  have m292_ : ¬ W.heap.size + 1 + 1 = pb := by omega
  have n293_ : ¬ pb = w1.heap.size := by omega
  have m293_ : ¬ w1.heap.size = pb := by omega
  have b29_ : (kn : Int) < (m2 : Int) := by have := HL29.out; (try simp only [List.length_set] at this); omega
  have G30_ := Lib.hid (show (W).grownBy (((w2.setCell ⟨mb, mo + kn, none⟩ (.bool false)).setCell ⟨pb, po + kn, none⟩ (.bool false))) none from gby_setnew G23_.out _ (by dsimp only; omega) _)
  have rA31_ := Lib.hid (show (((w2.setCell ⟨mb, mo + kn, none⟩ (.bool false)).setCell ⟨pb, po + kn, none⟩ (.bool false))).heap[W.heap.size]? = some (.cells #[.int .i64 i0, .slice a1 n1 c1, .slice (some ⟨cb, co, none⟩) n2 c2] 26 (0, 0)) from set_far rA24_.out (by dsimp only; omega))
  have rR32_ := Lib.hid (show (((w2.setCell ⟨mb, mo + kn, none⟩ (.bool false)).setCell ⟨pb, po + kn, none⟩ (.bool false))).heap[W.heap.size + 1]? = some (.cells #[.int .i64 0, .slice none 0 0, .slice none 0 0] 26 (0, 0)) from set_far rR25_.out (by dsimp only; omega))
  have rQ33_ := Lib.hid (show (((w2.setCell ⟨mb, mo + kn, none⟩ (.bool false)).setCell ⟨pb, po + kn, none⟩ (.bool false))).heap[W.heap.size + 1 + 1]? = some (.cells #[.int .i64 0, .int .i64 0, .int .i64 0, .int .i64 0, .int .i64 0, .int .i64 0, .int .i64 0, .slice none 0 0] 29 (0, 0)) from set_far rQ26_.out (by dsimp only; omega))
  have rX34_ := Lib.hid (show (((w2.setCell ⟨mb, mo + kn, none⟩ (.bool false)).setCell ⟨pb, po + kn, none⟩ (.bool false))).heap[w1.heap.size]? = some (.cells #[.int .i64 i0, .slice (some ⟨mb, mo, none⟩) m1 k1, .slice (some ⟨pb, po, none⟩) m2 k2] 26 (0, 0)) from set_far rX27_.out (by dsimp only; omega))
  have oC35_ := Lib.hid (show OwU (((w2.setCell ⟨mb, mo + kn, none⟩ (.bool false)).setCell ⟨pb, po + kn, none⟩ (.bool false))) ((W.heap.size + 1 + 1 + 1)) (w1.heap.size) [] [own shB (.slice (some ⟨mb, mo, none⟩) m1 k1) (xs.set kn false), own shB (.slice (some ⟨pb, po, none⟩) m2 k2) (ys.set kn false)] from HS29.out)
  have HB2 := Lib.hid (vcall_set HOK.out hkx)
  have HL1 : Hid (szL shB (xs.set kn false) ≤ 1048576) := Lib.hid (by rw [szL_B, List.length_set]; omega)
  have HL2 : Hid (szL shB (ys.set kn false) ≤ 1048576) := Lib.hid (by rw [szL_B, List.length_set]; omega)
  have HF2 := Lib.hid (show (xs.set kn false).getD ((kn : Int)).toNat false = false from by rw [Int.toNat_natCast, getD_setB _ _ _ _ hkx, if_pos rfl])
  have HRA := Lib.hid (OwU.rd oC35_.out)
  have HRB := Lib.hid (OwU.rd (OwU.tail oC35_.out))
  go_wp2_with fail
  go_at_call 12
  refine (specRaise_no _ i0 _ _ (xs.set kn false) (ys.set kn false) HRA.out HRB.out HL1.out HL2.out id (kn : Int) HB2.out HF2.out).mono ?_
  rintro e w3 ⟨x5, x6, x7, rfl, o, g⟩
  have sz5_ := g.size
  try simp only [World.size_setCell, World.size_alloc] at sz5_
  clear A_0_ A_1_ A_2_ R_0_ R_1_ R_2_ Q_0_ Q_1_ Q_2_ Q_3_ Q_4_ Q_5_ Q_6_ Q_7_ X_0_ X_1_ X_2_
  have rA36_ := Lib.hid (show (w3).heap[W.heap.size]? = some (.cells #[.int .i64 i0, .slice a1 n1 c1, .slice (some ⟨cb, co, none⟩) n2 c2] 26 (0, 0)) from row_held g rA31_.out)
  clear rA31_
  have rR37_ := Lib.hid (show (w3).heap[W.heap.size + 1]? = some (.cells #[.int .i64 0, .slice none 0 0, .slice none 0 0] 26 (0, 0)) from row_held g rR32_.out)
  clear rR32_
  have rQ38_ := Lib.hid (show (w3).heap[W.heap.size + 1 + 1]? = some (.cells #[.int .i64 0, .int .i64 0, .int .i64 0, .int .i64 0, .int .i64 0, .int .i64 0, .int .i64 0, .slice none 0 0] 29 (0, 0)) from row_held g rQ33_.out)
  clear rQ33_
  have rX39_ := Lib.hid (show (w3).heap[w1.heap.size]? = some (.cells #[.int .i64 i0, .slice (some ⟨mb, mo, none⟩) m1 k1, .slice (some ⟨pb, po, none⟩) m2 k2] 26 (0, 0)) from row_held g rX34_.out)
  clear rX34_
  have oC40_ := Lib.hid (show OwU (w3) ((W.heap.size + 1 + 1 + 1)) (w1.heap.size) [] [own shB (.slice (some ⟨mb, mo, none⟩) m1 k1) (xs.set kn false), own shB (.slice (some ⟨pb, po, none⟩) m2 k2) (ys.set kn false)] from OwU.grow oC35_.out g)
  clear oC35_
  have G41_ := Lib.hid (show (W).grownBy (w3) none from gby_trans G30_.out g)
  obtain ⟨e1, e2, e3, hv_⟩ := RdL.form (OwU.rd o)
  subst hv_
  obtain ⟨f1, f2, f3, hv_⟩ := RdL.form (OwU.rd (OwU.tail o))
  subst hv_
  obtain ⟨j1, j2, j3, hv_⟩ := RdL.form (OwU.rd (OwU.tail (OwU.tail o)))
  subst hv_
  have HOF := Lib.hid o
  clear o g
  have A_0_ : (w3).cell? ⟨W.heap.size, 0, none⟩ = some (.int .i64 i0) := cell_of_row _ _ 0 _ _ _ rA36_.out
  have A_1_ : (w3).cell? ⟨W.heap.size, 1, none⟩ = some (.slice a1 n1 c1) := cell_of_row _ _ 1 _ _ _ rA36_.out
  have A_2_ : (w3).cell? ⟨W.heap.size, 2, none⟩ = some (.slice (some ⟨cb, co, none⟩) n2 c2) := cell_of_row _ _ 2 _ _ _ rA36_.out
  have R_0_ : (w3).cell? ⟨W.heap.size + 1, 0, none⟩ = some (.int .i64 0) := cell_of_row _ _ 0 _ _ _ rR37_.out
  have R_1_ : (w3).cell? ⟨W.heap.size + 1, 1, none⟩ = some (.slice none 0 0) := cell_of_row _ _ 1 _ _ _ rR37_.out
  have R_2_ : (w3).cell? ⟨W.heap.size + 1, 2, none⟩ = some (.slice none 0 0) := cell_of_row _ _ 2 _ _ _ rR37_.out
  have Rf0_ : (w3).frozen? ⟨W.heap.size + 1, 0, none⟩ = false := frozen_of_row _ _ 0 _ _ rR37_.out
  have Rf1_ : (w3).frozen? ⟨W.heap.size + 1, 1, none⟩ = false := frozen_of_row _ _ 1 _ _ rR37_.out
  have Rf2_ : (w3).frozen? ⟨W.heap.size + 1, 2, none⟩ = false := frozen_of_row _ _ 2 _ _ rR37_.out
  have Q_0_ : (w3).cell? ⟨W.heap.size + 1 + 1, 0, none⟩ = some (.int .i64 0) := cell_of_row _ _ 0 _ _ _ rQ38_.out
  have Q_1_ : (w3).cell? ⟨W.heap.size + 1 + 1, 1, none⟩ = some (.int .i64 0) := cell_of_row _ _ 1 _ _ _ rQ38_.out
  have Q_2_ : (w3).cell? ⟨W.heap.size + 1 + 1, 2, none⟩ = some (.int .i64 0) := cell_of_row _ _ 2 _ _ _ rQ38_.out
  have Q_3_ : (w3).cell? ⟨W.heap.size + 1 + 1, 3, none⟩ = some (.int .i64 0) := cell_of_row _ _ 3 _ _ _ rQ38_.out
  have Q_4_ : (w3).cell? ⟨W.heap.size + 1 + 1, 4, none⟩ = some (.int .i64 0) := cell_of_row _ _ 4 _ _ _ rQ38_.out
  have Q_5_ : (w3).cell? ⟨W.heap.size + 1 + 1, 5, none⟩ = some (.int .i64 0) := cell_of_row _ _ 5 _ _ _ rQ38_.out
  have Q_6_ : (w3).cell? ⟨W.heap.size + 1 + 1, 6, none⟩ = some (.int .i64 0) := cell_of_row _ _ 6 _ _ _ rQ38_.out
  have Q_7_ : (w3).cell? ⟨W.heap.size + 1 + 1, 7, none⟩ = some (.slice none 0 0) := cell_of_row _ _ 7 _ _ _ rQ38_.out
  have Qf0_ : (w3).frozen? ⟨W.heap.size + 1 + 1, 0, none⟩ = false := frozen_of_row _ _ 0 _ _ rQ38_.out
  have Qf1_ : (w3).frozen? ⟨W.heap.size + 1 + 1, 1, none⟩ = false := frozen_of_row _ _ 1 _ _ rQ38_.out
  have Qf2_ : (w3).frozen? ⟨W.heap.size + 1 + 1, 2, none⟩ = false := frozen_of_row _ _ 2 _ _ rQ38_.out
  have Qf3_ : (w3).frozen? ⟨W.heap.size + 1 + 1, 3, none⟩ = false := frozen_of_row _ _ 3 _ _ rQ38_.out
  have Qf4_ : (w3).frozen? ⟨W.heap.size + 1 + 1, 4, none⟩ = false := frozen_of_row _ _ 4 _ _ rQ38_.out
  have Qf5_ : (w3).frozen? ⟨W.heap.size + 1 + 1, 5, none⟩ = false := frozen_of_row _ _ 5 _ _ rQ38_.out
  have Qf6_ : (w3).frozen? ⟨W.heap.size + 1 + 1, 6, none⟩ = false := frozen_of_row _ _ 6 _ _ rQ38_.out
  have Qf7_ : (w3).frozen? ⟨W.heap.size + 1 + 1, 7, none⟩ = false := frozen_of_row _ _ 7 _ _ rQ38_.out
  have X_0_ : (w3).cell? ⟨w1.heap.size, 0, none⟩ = some (.int .i64 i0) := cell_of_row _ _ 0 _ _ _ rX39_.out
  have X_1_ : (w3).cell? ⟨w1.heap.size, 1, none⟩ = some (.slice (some ⟨mb, mo, none⟩) m1 k1) := cell_of_row _ _ 1 _ _ _ rX39_.out
  have X_2_ : (w3).cell? ⟨w1.heap.size, 2, none⟩ = some (.slice (some ⟨pb, po, none⟩) m2 k2) := cell_of_row _ _ 2 _ _ _ rX39_.out
  have yr_ := Lib.hid (show ((((((((((((w3.setCell ⟨W.heap.size + 1, 0, none⟩ (.int .i64 i0)).setCell ⟨W.heap.size + 1, 1, none⟩ (.slice e1 e2 e3)).setCell ⟨W.heap.size + 1, 2, none⟩ (.slice f1 f2 f3)).setCell ⟨W.heap.size + 1 + 1, 0, none⟩ (.int .i64 1)).setCell ⟨W.heap.size + 1 + 1, 1, none⟩ (.int .i64 id)).setCell ⟨W.heap.size + 1 + 1, 2, none⟩ (.int .i64 0)).setCell ⟨W.heap.size + 1 + 1, 3, none⟩ (.int .i64 i0)).setCell ⟨W.heap.size + 1 + 1, 4, none⟩ (.int .i64 0)).setCell ⟨W.heap.size + 1 + 1, 5, none⟩ (.int .i64 0)).setCell ⟨W.heap.size + 1 + 1, 6, none⟩ (.int .i64 0)).setCell ⟨W.heap.size + 1 + 1, 7, none⟩ (.slice j1 j2 j3))).heap[W.heap.size + 1]? = some (.cells #[.int .i64 i0, .slice e1 e2 e3, .slice f1 f2 f3] 26 (0, 0)) from (set_far (set_far (set_far (set_far (set_far (set_far (set_far (set_far (heap_setCell_same _ _ 2 _ _ _ (heap_setCell_same _ _ 1 _ _ _ (heap_setCell_same _ _ 0 _ _ _ rR37_.out))) (by dsimp only; omega)) (by dsimp only; omega)) (by dsimp only; omega)) (by dsimp only; omega)) (by dsimp only; omega)) (by dsimp only; omega)) (by dsimp only; omega)) (by dsimp only; omega)))
  have yq_ := Lib.hid (show ((((((((((((w3.setCell ⟨W.heap.size + 1, 0, none⟩ (.int .i64 i0)).setCell ⟨W.heap.size + 1, 1, none⟩ (.slice e1 e2 e3)).setCell ⟨W.heap.size + 1, 2, none⟩ (.slice f1 f2 f3)).setCell ⟨W.heap.size + 1 + 1, 0, none⟩ (.int .i64 1)).setCell ⟨W.heap.size + 1 + 1, 1, none⟩ (.int .i64 id)).setCell ⟨W.heap.size + 1 + 1, 2, none⟩ (.int .i64 0)).setCell ⟨W.heap.size + 1 + 1, 3, none⟩ (.int .i64 i0)).setCell ⟨W.heap.size + 1 + 1, 4, none⟩ (.int .i64 0)).setCell ⟨W.heap.size + 1 + 1, 5, none⟩ (.int .i64 0)).setCell ⟨W.heap.size + 1 + 1, 6, none⟩ (.int .i64 0)).setCell ⟨W.heap.size + 1 + 1, 7, none⟩ (.slice j1 j2 j3))).heap[W.heap.size + 1 + 1]? = some (.cells #[.int .i64 1, .int .i64 id, .int .i64 0, .int .i64 i0, .int .i64 0, .int .i64 0, .int .i64 0, .slice j1 j2 j3] 29 (0, 0)) from (heap_setCell_same _ _ 7 _ _ _ (heap_setCell_same _ _ 6 _ _ _ (heap_setCell_same _ _ 5 _ _ _ (heap_setCell_same _ _ 4 _ _ _ (heap_setCell_same _ _ 3 _ _ _ (heap_setCell_same _ _ 2 _ _ _ (heap_setCell_same _ _ 1 _ _ _ (heap_setCell_same _ _ 0 _ _ _ (set_far (set_far (set_far rQ38_.out (by dsimp only; omega)) (by dsimp only; omega)) (by dsimp only; omega)))))))))))
  have z0_ : ((((((((((((w3.setCell ⟨W.heap.size + 1, 0, none⟩ (.int .i64 i0)).setCell ⟨W.heap.size + 1, 1, none⟩ (.slice e1 e2 e3)).setCell ⟨W.heap.size + 1, 2, none⟩ (.slice f1 f2 f3)).setCell ⟨W.heap.size + 1 + 1, 0, none⟩ (.int .i64 1)).setCell ⟨W.heap.size + 1 + 1, 1, none⟩ (.int .i64 id)).setCell ⟨W.heap.size + 1 + 1, 2, none⟩ (.int .i64 0)).setCell ⟨W.heap.size + 1 + 1, 3, none⟩ (.int .i64 i0)).setCell ⟨W.heap.size + 1 + 1, 4, none⟩ (.int .i64 0)).setCell ⟨W.heap.size + 1 + 1, 5, none⟩ (.int .i64 0)).setCell ⟨W.heap.size + 1 + 1, 6, none⟩ (.int .i64 0)).setCell ⟨W.heap.size + 1 + 1, 7, none⟩ (.slice j1 j2 j3))).cell? ⟨W.heap.size + 1, 0, none⟩ = some (.int .i64 i0) := cell_of_row _ _ 0 _ _ _ yr_.out
  have z1_ : ((((((((((((w3.setCell ⟨W.heap.size + 1, 0, none⟩ (.int .i64 i0)).setCell ⟨W.heap.size + 1, 1, none⟩ (.slice e1 e2 e3)).setCell ⟨W.heap.size + 1, 2, none⟩ (.slice f1 f2 f3)).setCell ⟨W.heap.size + 1 + 1, 0, none⟩ (.int .i64 1)).setCell ⟨W.heap.size + 1 + 1, 1, none⟩ (.int .i64 id)).setCell ⟨W.heap.size + 1 + 1, 2, none⟩ (.int .i64 0)).setCell ⟨W.heap.size + 1 + 1, 3, none⟩ (.int .i64 i0)).setCell ⟨W.heap.size + 1 + 1, 4, none⟩ (.int .i64 0)).setCell ⟨W.heap.size + 1 + 1, 5, none⟩ (.int .i64 0)).setCell ⟨W.heap.size + 1 + 1, 6, none⟩ (.int .i64 0)).setCell ⟨W.heap.size + 1 + 1, 7, none⟩ (.slice j1 j2 j3))).cell? ⟨W.heap.size + 1, 1, none⟩ = some (.slice e1 e2 e3) := cell_of_row _ _ 1 _ _ _ yr_.out
  have z2_ : ((((((((((((w3.setCell ⟨W.heap.size + 1, 0, none⟩ (.int .i64 i0)).setCell ⟨W.heap.size + 1, 1, none⟩ (.slice e1 e2 e3)).setCell ⟨W.heap.size + 1, 2, none⟩ (.slice f1 f2 f3)).setCell ⟨W.heap.size + 1 + 1, 0, none⟩ (.int .i64 1)).setCell ⟨W.heap.size + 1 + 1, 1, none⟩ (.int .i64 id)).setCell ⟨W.heap.size + 1 + 1, 2, none⟩ (.int .i64 0)).setCell ⟨W.heap.size + 1 + 1, 3, none⟩ (.int .i64 i0)).setCell ⟨W.heap.size + 1 + 1, 4, none⟩ (.int .i64 0)).setCell ⟨W.heap.size + 1 + 1, 5, none⟩ (.int .i64 0)).setCell ⟨W.heap.size + 1 + 1, 6, none⟩ (.int .i64 0)).setCell ⟨W.heap.size + 1 + 1, 7, none⟩ (.slice j1 j2 j3))).cell? ⟨W.heap.size + 1, 2, none⟩ = some (.slice f1 f2 f3) := cell_of_row _ _ 2 _ _ _ yr_.out
  have y0_ : ((((((((((((w3.setCell ⟨W.heap.size + 1, 0, none⟩ (.int .i64 i0)).setCell ⟨W.heap.size + 1, 1, none⟩ (.slice e1 e2 e3)).setCell ⟨W.heap.size + 1, 2, none⟩ (.slice f1 f2 f3)).setCell ⟨W.heap.size + 1 + 1, 0, none⟩ (.int .i64 1)).setCell ⟨W.heap.size + 1 + 1, 1, none⟩ (.int .i64 id)).setCell ⟨W.heap.size + 1 + 1, 2, none⟩ (.int .i64 0)).setCell ⟨W.heap.size + 1 + 1, 3, none⟩ (.int .i64 i0)).setCell ⟨W.heap.size + 1 + 1, 4, none⟩ (.int .i64 0)).setCell ⟨W.heap.size + 1 + 1, 5, none⟩ (.int .i64 0)).setCell ⟨W.heap.size + 1 + 1, 6, none⟩ (.int .i64 0)).setCell ⟨W.heap.size + 1 + 1, 7, none⟩ (.slice j1 j2 j3))).cell? ⟨W.heap.size + 1 + 1, 0, none⟩ = some (.int .i64 1) := cell_of_row _ _ 0 _ _ _ yq_.out
  have y1_ : ((((((((((((w3.setCell ⟨W.heap.size + 1, 0, none⟩ (.int .i64 i0)).setCell ⟨W.heap.size + 1, 1, none⟩ (.slice e1 e2 e3)).setCell ⟨W.heap.size + 1, 2, none⟩ (.slice f1 f2 f3)).setCell ⟨W.heap.size + 1 + 1, 0, none⟩ (.int .i64 1)).setCell ⟨W.heap.size + 1 + 1, 1, none⟩ (.int .i64 id)).setCell ⟨W.heap.size + 1 + 1, 2, none⟩ (.int .i64 0)).setCell ⟨W.heap.size + 1 + 1, 3, none⟩ (.int .i64 i0)).setCell ⟨W.heap.size + 1 + 1, 4, none⟩ (.int .i64 0)).setCell ⟨W.heap.size + 1 + 1, 5, none⟩ (.int .i64 0)).setCell ⟨W.heap.size + 1 + 1, 6, none⟩ (.int .i64 0)).setCell ⟨W.heap.size + 1 + 1, 7, none⟩ (.slice j1 j2 j3))).cell? ⟨W.heap.size + 1 + 1, 1, none⟩ = some (.int .i64 id) := cell_of_row _ _ 1 _ _ _ yq_.out
  have y2_ : ((((((((((((w3.setCell ⟨W.heap.size + 1, 0, none⟩ (.int .i64 i0)).setCell ⟨W.heap.size + 1, 1, none⟩ (.slice e1 e2 e3)).setCell ⟨W.heap.size + 1, 2, none⟩ (.slice f1 f2 f3)).setCell ⟨W.heap.size + 1 + 1, 0, none⟩ (.int .i64 1)).setCell ⟨W.heap.size + 1 + 1, 1, none⟩ (.int .i64 id)).setCell ⟨W.heap.size + 1 + 1, 2, none⟩ (.int .i64 0)).setCell ⟨W.heap.size + 1 + 1, 3, none⟩ (.int .i64 i0)).setCell ⟨W.heap.size + 1 + 1, 4, none⟩ (.int .i64 0)).setCell ⟨W.heap.size + 1 + 1, 5, none⟩ (.int .i64 0)).setCell ⟨W.heap.size + 1 + 1, 6, none⟩ (.int .i64 0)).setCell ⟨W.heap.size + 1 + 1, 7, none⟩ (.slice j1 j2 j3))).cell? ⟨W.heap.size + 1 + 1, 2, none⟩ = some (.int .i64 0) := cell_of_row _ _ 2 _ _ _ yq_.out
  have y3_ : ((((((((((((w3.setCell ⟨W.heap.size + 1, 0, none⟩ (.int .i64 i0)).setCell ⟨W.heap.size + 1, 1, none⟩ (.slice e1 e2 e3)).setCell ⟨W.heap.size + 1, 2, none⟩ (.slice f1 f2 f3)).setCell ⟨W.heap.size + 1 + 1, 0, none⟩ (.int .i64 1)).setCell ⟨W.heap.size + 1 + 1, 1, none⟩ (.int .i64 id)).setCell ⟨W.heap.size + 1 + 1, 2, none⟩ (.int .i64 0)).setCell ⟨W.heap.size + 1 + 1, 3, none⟩ (.int .i64 i0)).setCell ⟨W.heap.size + 1 + 1, 4, none⟩ (.int .i64 0)).setCell ⟨W.heap.size + 1 + 1, 5, none⟩ (.int .i64 0)).setCell ⟨W.heap.size + 1 + 1, 6, none⟩ (.int .i64 0)).setCell ⟨W.heap.size + 1 + 1, 7, none⟩ (.slice j1 j2 j3))).cell? ⟨W.heap.size + 1 + 1, 3, none⟩ = some (.int .i64 i0) := cell_of_row _ _ 3 _ _ _ yq_.out
  have y4_ : ((((((((((((w3.setCell ⟨W.heap.size + 1, 0, none⟩ (.int .i64 i0)).setCell ⟨W.heap.size + 1, 1, none⟩ (.slice e1 e2 e3)).setCell ⟨W.heap.size + 1, 2, none⟩ (.slice f1 f2 f3)).setCell ⟨W.heap.size + 1 + 1, 0, none⟩ (.int .i64 1)).setCell ⟨W.heap.size + 1 + 1, 1, none⟩ (.int .i64 id)).setCell ⟨W.heap.size + 1 + 1, 2, none⟩ (.int .i64 0)).setCell ⟨W.heap.size + 1 + 1, 3, none⟩ (.int .i64 i0)).setCell ⟨W.heap.size + 1 + 1, 4, none⟩ (.int .i64 0)).setCell ⟨W.heap.size + 1 + 1, 5, none⟩ (.int .i64 0)).setCell ⟨W.heap.size + 1 + 1, 6, none⟩ (.int .i64 0)).setCell ⟨W.heap.size + 1 + 1, 7, none⟩ (.slice j1 j2 j3))).cell? ⟨W.heap.size + 1 + 1, 4, none⟩ = some (.int .i64 0) := cell_of_row _ _ 4 _ _ _ yq_.out
  have y5_ : ((((((((((((w3.setCell ⟨W.heap.size + 1, 0, none⟩ (.int .i64 i0)).setCell ⟨W.heap.size + 1, 1, none⟩ (.slice e1 e2 e3)).setCell ⟨W.heap.size + 1, 2, none⟩ (.slice f1 f2 f3)).setCell ⟨W.heap.size + 1 + 1, 0, none⟩ (.int .i64 1)).setCell ⟨W.heap.size + 1 + 1, 1, none⟩ (.int .i64 id)).setCell ⟨W.heap.size + 1 + 1, 2, none⟩ (.int .i64 0)).setCell ⟨W.heap.size + 1 + 1, 3, none⟩ (.int .i64 i0)).setCell ⟨W.heap.size + 1 + 1, 4, none⟩ (.int .i64 0)).setCell ⟨W.heap.size + 1 + 1, 5, none⟩ (.int .i64 0)).setCell ⟨W.heap.size + 1 + 1, 6, none⟩ (.int .i64 0)).setCell ⟨W.heap.size + 1 + 1, 7, none⟩ (.slice j1 j2 j3))).cell? ⟨W.heap.size + 1 + 1, 5, none⟩ = some (.int .i64 0) := cell_of_row _ _ 5 _ _ _ yq_.out
  have y6_ : ((((((((((((w3.setCell ⟨W.heap.size + 1, 0, none⟩ (.int .i64 i0)).setCell ⟨W.heap.size + 1, 1, none⟩ (.slice e1 e2 e3)).setCell ⟨W.heap.size + 1, 2, none⟩ (.slice f1 f2 f3)).setCell ⟨W.heap.size + 1 + 1, 0, none⟩ (.int .i64 1)).setCell ⟨W.heap.size + 1 + 1, 1, none⟩ (.int .i64 id)).setCell ⟨W.heap.size + 1 + 1, 2, none⟩ (.int .i64 0)).setCell ⟨W.heap.size + 1 + 1, 3, none⟩ (.int .i64 i0)).setCell ⟨W.heap.size + 1 + 1, 4, none⟩ (.int .i64 0)).setCell ⟨W.heap.size + 1 + 1, 5, none⟩ (.int .i64 0)).setCell ⟨W.heap.size + 1 + 1, 6, none⟩ (.int .i64 0)).setCell ⟨W.heap.size + 1 + 1, 7, none⟩ (.slice j1 j2 j3))).cell? ⟨W.heap.size + 1 + 1, 6, none⟩ = some (.int .i64 0) := cell_of_row _ _ 6 _ _ _ yq_.out
  have y7_ : ((((((((((((w3.setCell ⟨W.heap.size + 1, 0, none⟩ (.int .i64 i0)).setCell ⟨W.heap.size + 1, 1, none⟩ (.slice e1 e2 e3)).setCell ⟨W.heap.size + 1, 2, none⟩ (.slice f1 f2 f3)).setCell ⟨W.heap.size + 1 + 1, 0, none⟩ (.int .i64 1)).setCell ⟨W.heap.size + 1 + 1, 1, none⟩ (.int .i64 id)).setCell ⟨W.heap.size + 1 + 1, 2, none⟩ (.int .i64 0)).setCell ⟨W.heap.size + 1 + 1, 3, none⟩ (.int .i64 i0)).setCell ⟨W.heap.size + 1 + 1, 4, none⟩ (.int .i64 0)).setCell ⟨W.heap.size + 1 + 1, 5, none⟩ (.int .i64 0)).setCell ⟨W.heap.size + 1 + 1, 6, none⟩ (.int .i64 0)).setCell ⟨W.heap.size + 1 + 1, 7, none⟩ (.slice j1 j2 j3))).cell? ⟨W.heap.size + 1 + 1, 7, none⟩ = some (.slice j1 j2 j3) := cell_of_row _ _ 7 _ _ _ yq_.out
  have HOF2 := Lib.hid (show OwU w3 (W.heap.size + 1 + 1 + 1) w3.heap.size [] [own shB (.slice e1 e2 e3) (xs.set kn false), own shB (.slice f1 f2 f3) (ys.set kn false), own shI (.slice j1 j2 j3) [(kn : Int)]] from OwU.wide (by (try simp only [World.size_setCell]); omega) (Nat.le_refl _) HOF.out)
  go_wp2
  refine bodyPost_ret (v := .tuple #[.agg #[.int .i64 i0, .slice e1 e2 e3, .slice f1 f2 f3], .agg #[.int .i64 1, .int .i64 id, .int .i64 0, .int .i64 i0, .int .i64 0, .int .i64 0, .int .i64 0, .slice j1 j2 j3], .bool true]) (by simp [results, go_sem, z0_, z1_, z2_, y0_, y1_, y2_, y3_, y4_, y5_, y6_, y7_]) rfl ⟨_, _, _, rfl, ?_, ?_⟩
  · exact OwU.wide (lo := (W.heap.size + 1 + 1 + 1)) (by omega) (by simp only [World.size_setCell]; omega) (OwU.keep (chg_one _ _ _ _) (by omega) (OwU.keep (chg_one _ _ _ _) (by omega) (OwU.keep (chg_one _ _ _ _) (by omega) (OwU.keep (chg_one _ _ _ _) (by omega) (OwU.keep (chg_one _ _ _ _) (by omega) (OwU.keep (chg_one _ _ _ _) (by omega) (OwU.keep (chg_one _ _ _ _) (by omega) (OwU.keep (chg_one _ _ _ _) (by omega) (OwU.keep (chg_one _ _ _ _) (by omega) (OwU.keep (chg_one _ _ _ _) (by omega) (OwU.keep (chg_one _ _ _ _) (by omega) HOF2.out)))))))))))
  · exact (gby_setnew (gby_setnew (gby_setnew (gby_setnew (gby_setnew (gby_setnew (gby_setnew (gby_setnew (gby_setnew (gby_setnew (gby_setnew G41_.out _ (by dsimp only; omega) _) _ (by dsimp only; omega) _) _ (by dsimp only; omega) _) _ (by dsimp only; omega) _) _ (by dsimp only; omega) _) _ (by dsimp only; omega) _) _ (by dsimp only; omega) _) _ (by dsimp only; omega) _) _ (by dsimp only; omega) _) _ (by dsimp only; omega) _) _ (by dsimp only; omega) _)

end Go.Proofs.Ytgagbhkidponnac
