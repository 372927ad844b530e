/-
  RaiseVector and SetMask of the program, at vectors that may call.
-/
import Derived.Test.YtomiicegkdogkaaRaiseB
namespace Go.Proofs.Ytomiicegkdogkaa
open Go Go.RowKit
set_option linter.unusedVariables false

set_option maxRecDepth 8000 in
set_option maxHeartbeats 4000000 in
theorem implRaise_yes (W : World) (i0 : Int) (v1 v2 : Value) (xs ys : List Bool) (H1 : RdL shB W v1 xs) (H2 : RdL shB W v2 ys) (hl1 : szL shB xs ≤ 1048576) (hl2 : szL shB ys ≤ 1048576) (id k : Int) (hb : VCall i0 xs ys id k) (hm : xs.getD k.toNat false = true) : Calls Try.prog 14 #[vVectors i0 v1 v2, .int .i64 id, .int .i64 k] W (ResIRaiseVector i0 xs (ys.set k.toNat true) 0 0 0 0 0 0 0 [] true W) := by
  have HOK := Lib.hid hb
  have hk_ := hb.2.2
  have h8_ := hb.1.1
  have hy_ := hb.1.2.1
  obtain ⟨kn, hkn⟩ : ∃ n : Nat, k = (n : Int) := ⟨k.toNat, by omega⟩
  subst hkn
  have hkx : kn < xs.length := by omega
  clear hb
  have HM := Lib.hid (show xs.getD kn false = true from by simpa using hm)
  clear hm
  rw [Int.toNat_natCast]
  have H1_ := Lib.hid H1
  have H2_ := Lib.hid H2
  obtain ⟨a1, n1, c1, rfl⟩ := RdL.form H1
  obtain ⟨a2, n2, c2, rfl⟩ := RdL.form H2
  clear H1 H2
  unfold vVectors
  go_enter Try.func14, Try.ntmps14
  have rA1_ := Lib.hid (show ((((W.alloc (.cells #[.int .i64 i0, .slice a1 n1 c1, .slice a2 n2 c2] 26)).alloc (.cells #[.int .i64 0, .slice none 0 0, .slice none 0 0] 26)).alloc (.cells #[.int .i64 0, .int .i64 0, .int .i64 0, .int .i64 0, .int .i64 0, .int .i64 0, .int .i64 0, .slice none 0 0] 29))).heap[W.heap.size]? = some (.cells #[.int .i64 i0, .slice a1 n1 c1, .slice a2 n2 c2] 26 (0, 0)) from by rw [heap_alloc_old _ _ (by simp only [World.size_alloc]; omega)]; rw [heap_alloc_old _ _ (by simp only [World.size_alloc]; omega)]; exact heap_alloc_new _ _)
  have rR2_ := Lib.hid (show ((((W.alloc (.cells #[.int .i64 i0, .slice a1 n1 c1, .slice a2 n2 c2] 26)).alloc (.cells #[.int .i64 0, .slice none 0 0, .slice none 0 0] 26)).alloc (.cells #[.int .i64 0, .int .i64 0, .int .i64 0, .int .i64 0, .int .i64 0, .int .i64 0, .int .i64 0, .slice none 0 0] 29))).heap[W.heap.size + 1]? = some (.cells #[.int .i64 0, .slice none 0 0, .slice none 0 0] 26 (0, 0)) from by rw [heap_alloc_old _ _ (by simp only [World.size_alloc]; omega)]; exact heap_pair _ _ _)
  have rQ3_ := Lib.hid (show ((((W.alloc (.cells #[.int .i64 i0, .slice a1 n1 c1, .slice a2 n2 c2] 26)).alloc (.cells #[.int .i64 0, .slice none 0 0, .slice none 0 0] 26)).alloc (.cells #[.int .i64 0, .int .i64 0, .int .i64 0, .int .i64 0, .int .i64 0, .int .i64 0, .int .i64 0, .slice none 0 0] 29))).heap[W.heap.size + 1 + 1]? = some (.cells #[.int .i64 0, .int .i64 0, .int .i64 0, .int .i64 0, .int .i64 0, .int .i64 0, .int .i64 0, .slice none 0 0] 29 (0, 0)) from by exact heap_trip _ _ _ _)
  have G4_ := Lib.hid (show (W).grownBy ((((W.alloc (.cells #[.int .i64 i0, .slice a1 n1 c1, .slice a2 n2 c2] 26)).alloc (.cells #[.int .i64 0, .slice none 0 0, .slice none 0 0] 26)).alloc (.cells #[.int .i64 0, .int .i64 0, .int .i64 0, .int .i64 0, .int .i64 0, .int .i64 0, .int .i64 0, .slice none 0 0] 29))) none from (gby_alloc (gby_alloc (gby_alloc (gby_refl _ _) _) _) _))
  have A_0_ : ((((W.alloc (.cells #[.int .i64 i0, .slice a1 n1 c1, .slice a2 n2 c2] 26)).alloc (.cells #[.int .i64 0, .slice none 0 0, .slice none 0 0] 26)).alloc (.cells #[.int .i64 0, .int .i64 0, .int .i64 0, .int .i64 0, .int .i64 0, .int .i64 0, .int .i64 0, .slice none 0 0] 29))).cell? ⟨W.heap.size, 0, none⟩ = some (.int .i64 i0) := cell_of_row _ _ 0 _ _ _ rA1_.out
  have A_1_ : ((((W.alloc (.cells #[.int .i64 i0, .slice a1 n1 c1, .slice a2 n2 c2] 26)).alloc (.cells #[.int .i64 0, .slice none 0 0, .slice none 0 0] 26)).alloc (.cells #[.int .i64 0, .int .i64 0, .int .i64 0, .int .i64 0, .int .i64 0, .int .i64 0, .int .i64 0, .slice none 0 0] 29))).cell? ⟨W.heap.size, 1, none⟩ = some (.slice a1 n1 c1) := cell_of_row _ _ 1 _ _ _ rA1_.out
  have A_2_ : ((((W.alloc (.cells #[.int .i64 i0, .slice a1 n1 c1, .slice a2 n2 c2] 26)).alloc (.cells #[.int .i64 0, .slice none 0 0, .slice none 0 0] 26)).alloc (.cells #[.int .i64 0, .int .i64 0, .int .i64 0, .int .i64 0, .int .i64 0, .int .i64 0, .int .i64 0, .slice none 0 0] 29))).cell? ⟨W.heap.size, 2, none⟩ = some (.slice a2 n2 c2) := cell_of_row _ _ 2 _ _ _ rA1_.out
  have R_0_ : ((((W.alloc (.cells #[.int .i64 i0, .slice a1 n1 c1, .slice a2 n2 c2] 26)).alloc (.cells #[.int .i64 0, .slice none 0 0, .slice none 0 0] 26)).alloc (.cells #[.int .i64 0, .int .i64 0, .int .i64 0, .int .i64 0, .int .i64 0, .int .i64 0, .int .i64 0, .slice none 0 0] 29))).cell? ⟨W.heap.size + 1, 0, none⟩ = some (.int .i64 0) := cell_of_row _ _ 0 _ _ _ rR2_.out
  have R_1_ : ((((W.alloc (.cells #[.int .i64 i0, .slice a1 n1 c1, .slice a2 n2 c2] 26)).alloc (.cells #[.int .i64 0, .slice none 0 0, .slice none 0 0] 26)).alloc (.cells #[.int .i64 0, .int .i64 0, .int .i64 0, .int .i64 0, .int .i64 0, .int .i64 0, .int .i64 0, .slice none 0 0] 29))).cell? ⟨W.heap.size + 1, 1, none⟩ = some (.slice none 0 0) := cell_of_row _ _ 1 _ _ _ rR2_.out
  have R_2_ : ((((W.alloc (.cells #[.int .i64 i0, .slice a1 n1 c1, .slice a2 n2 c2] 26)).alloc (.cells #[.int .i64 0, .slice none 0 0, .slice none 0 0] 26)).alloc (.cells #[.int .i64 0, .int .i64 0, .int .i64 0, .int .i64 0, .int .i64 0, .int .i64 0, .int .i64 0, .slice none 0 0] 29))).cell? ⟨W.heap.size + 1, 2, none⟩ = some (.slice none 0 0) := cell_of_row _ _ 2 _ _ _ rR2_.out
  have Q_0_ : ((((W.alloc (.cells #[.int .i64 i0, .slice a1 n1 c1, .slice a2 n2 c2] 26)).alloc (.cells #[.int .i64 0, .slice none 0 0, .slice none 0 0] 26)).alloc (.cells #[.int .i64 0, .int .i64 0, .int .i64 0, .int .i64 0, .int .i64 0, .int .i64 0, .int .i64 0, .slice none 0 0] 29))).cell? ⟨W.heap.size + 1 + 1, 0, none⟩ = some (.int .i64 0) := cell_of_row _ _ 0 _ _ _ rQ3_.out
  have Q_1_ : ((((W.alloc (.cells #[.int .i64 i0, .slice a1 n1 c1, .slice a2 n2 c2] 26)).alloc (.cells #[.int .i64 0, .slice none 0 0, .slice none 0 0] 26)).alloc (.cells #[.int .i64 0, .int .i64 0, .int .i64 0, .int .i64 0, .int .i64 0, .int .i64 0, .int .i64 0, .slice none 0 0] 29))).cell? ⟨W.heap.size + 1 + 1, 1, none⟩ = some (.int .i64 0) := cell_of_row _ _ 1 _ _ _ rQ3_.out
  have Q_2_ : ((((W.alloc (.cells #[.int .i64 i0, .slice a1 n1 c1, .slice a2 n2 c2] 26)).alloc (.cells #[.int .i64 0, .slice none 0 0, .slice none 0 0] 26)).alloc (.cells #[.int .i64 0, .int .i64 0, .int .i64 0, .int .i64 0, .int .i64 0, .int .i64 0, .int .i64 0, .slice none 0 0] 29))).cell? ⟨W.heap.size + 1 + 1, 2, none⟩ = some (.int .i64 0) := cell_of_row _ _ 2 _ _ _ rQ3_.out
  have Q_3_ : ((((W.alloc (.cells #[.int .i64 i0, .slice a1 n1 c1, .slice a2 n2 c2] 26)).alloc (.cells #[.int .i64 0, .slice none 0 0, .slice none 0 0] 26)).alloc (.cells #[.int .i64 0, .int .i64 0, .int .i64 0, .int .i64 0, .int .i64 0, .int .i64 0, .int .i64 0, .slice none 0 0] 29))).cell? ⟨W.heap.size + 1 + 1, 3, none⟩ = some (.int .i64 0) := cell_of_row _ _ 3 _ _ _ rQ3_.out
  have Q_4_ : ((((W.alloc (.cells #[.int .i64 i0, .slice a1 n1 c1, .slice a2 n2 c2] 26)).alloc (.cells #[.int .i64 0, .slice none 0 0, .slice none 0 0] 26)).alloc (.cells #[.int .i64 0, .int .i64 0, .int .i64 0, .int .i64 0, .int .i64 0, .int .i64 0, .int .i64 0, .slice none 0 0] 29))).cell? ⟨W.heap.size + 1 + 1, 4, none⟩ = some (.int .i64 0) := cell_of_row _ _ 4 _ _ _ rQ3_.out
  have Q_5_ : ((((W.alloc (.cells #[.int .i64 i0, .slice a1 n1 c1, .slice a2 n2 c2] 26)).alloc (.cells #[.int .i64 0, .slice none 0 0, .slice none 0 0] 26)).alloc (.cells #[.int .i64 0, .int .i64 0, .int .i64 0, .int .i64 0, .int .i64 0, .int .i64 0, .int .i64 0, .slice none 0 0] 29))).cell? ⟨W.heap.size + 1 + 1, 5, none⟩ = some (.int .i64 0) := cell_of_row _ _ 5 _ _ _ rQ3_.out
  have Q_6_ : ((((W.alloc (.cells #[.int .i64 i0, .slice a1 n1 c1, .slice a2 n2 c2] 26)).alloc (.cells #[.int .i64 0, .slice none 0 0, .slice none 0 0] 26)).alloc (.cells #[.int .i64 0, .int .i64 0, .int .i64 0, .int .i64 0, .int .i64 0, .int .i64 0, .int .i64 0, .slice none 0 0] 29))).cell? ⟨W.heap.size + 1 + 1, 6, none⟩ = some (.int .i64 0) := cell_of_row _ _ 6 _ _ _ rQ3_.out
  have Q_7_ : ((((W.alloc (.cells #[.int .i64 i0, .slice a1 n1 c1, .slice a2 n2 c2] 26)).alloc (.cells #[.int .i64 0, .slice none 0 0, .slice none 0 0] 26)).alloc (.cells #[.int .i64 0, .int .i64 0, .int .i64 0, .int .i64 0, .int .i64 0, .int .i64 0, .int .i64 0, .slice none 0 0] 29))).cell? ⟨W.heap.size + 1 + 1, 7, none⟩ = some (.slice none 0 0) := cell_of_row _ _ 7 _ _ _ rQ3_.out
  go_wp2_with fail
  go_at_call 63
  refine (copiedVec_d _ i0 _ _ xs ys (H1_.out.grow G4_.out) (H2_.out.grow G4_.out) hl1 hl2).mono ?_
  rintro e w1 ⟨x1, x2, rfl, o, g⟩
  have sz_ := g.size
  try simp only [World.size_alloc] at sz_ o
  clear A_0_ A_1_ A_2_ R_0_ R_1_ R_2_ Q_0_ Q_1_ Q_2_ Q_3_ Q_4_ Q_5_ Q_6_ Q_7_
  have rA5_ := Lib.hid (show (w1).heap[W.heap.size]? = some (.cells #[.int .i64 i0, .slice a1 n1 c1, .slice a2 n2 c2] 26 (0, 0)) from row_held g rA1_.out)
  clear rA1_
  have rR6_ := Lib.hid (show (w1).heap[W.heap.size + 1]? = some (.cells #[.int .i64 0, .slice none 0 0, .slice none 0 0] 26 (0, 0)) from row_held g rR2_.out)
  clear rR2_
  have rQ7_ := Lib.hid (show (w1).heap[W.heap.size + 1 + 1]? = some (.cells #[.int .i64 0, .int .i64 0, .int .i64 0, .int .i64 0, .int .i64 0, .int .i64 0, .int .i64 0, .slice none 0 0] 29 (0, 0)) from row_held g rQ3_.out)
  clear rQ3_
  have G8_ := Lib.hid (show (W).grownBy (w1) none from gby_trans G4_.out g)
  clear g
  obtain ⟨d1, m1, k1, hv_⟩ := RdL.form (OwU.rd o)
  subst hv_
  obtain ⟨d2, m2, k2, hv_⟩ := RdL.form (OwU.rd (OwU.tail o))
  subst hv_
  unfold vVectors
  have oC9_ := Lib.hid (show OwU (w1) ((W.heap.size + 1 + 1 + 1)) (w1.heap.size) [] [own shB (.slice d1 m1 k1) xs, own shB (.slice d2 m2 k2) ys] from o)
  clear o
  have al_ : (w1).grownBy ((w1).alloc (.cells #[.int .i32 0, .int .u32 0, .int .i64 i0, .slice d1 m1 k1, .slice d2 m2 k2] 92)) none := gby_alloc (gby_refl _ _) _
  have rA10_ := Lib.hid (show ((w1.alloc (.cells #[.int .i32 0, .int .u32 0, .int .i64 i0, .slice d1 m1 k1, .slice d2 m2 k2] 92))).heap[W.heap.size]? = some (.cells #[.int .i64 i0, .slice a1 n1 c1, .slice a2 n2 c2] 26 (0, 0)) from row_held al_ rA5_.out)
  clear rA5_
  have rR11_ := Lib.hid (show ((w1.alloc (.cells #[.int .i32 0, .int .u32 0, .int .i64 i0, .slice d1 m1 k1, .slice d2 m2 k2] 92))).heap[W.heap.size + 1]? = some (.cells #[.int .i64 0, .slice none 0 0, .slice none 0 0] 26 (0, 0)) from row_held al_ rR6_.out)
  clear rR6_
  have rQ12_ := Lib.hid (show ((w1.alloc (.cells #[.int .i32 0, .int .u32 0, .int .i64 i0, .slice d1 m1 k1, .slice d2 m2 k2] 92))).heap[W.heap.size + 1 + 1]? = some (.cells #[.int .i64 0, .int .i64 0, .int .i64 0, .int .i64 0, .int .i64 0, .int .i64 0, .int .i64 0, .slice none 0 0] 29 (0, 0)) from row_held al_ rQ7_.out)
  clear rQ7_
  have oC13_ := Lib.hid (show OwU ((w1.alloc (.cells #[.int .i32 0, .int .u32 0, .int .i64 i0, .slice d1 m1 k1, .slice d2 m2 k2] 92))) ((W.heap.size + 1 + 1 + 1)) (w1.heap.size) [] [own shB (.slice d1 m1 k1) xs, own shB (.slice d2 m2 k2) ys] from OwU.grow oC9_.out al_)
  clear oC9_
  have G14_ := Lib.hid (show (W).grownBy ((w1.alloc (.cells #[.int .i32 0, .int .u32 0, .int .i64 i0, .slice d1 m1 k1, .slice d2 m2 k2] 92))) none from gby_trans G8_.out al_)
  have rX15_ := Lib.hid (show ((w1.alloc (.cells #[.int .i32 0, .int .u32 0, .int .i64 i0, .slice d1 m1 k1, .slice d2 m2 k2] 92))).heap[w1.heap.size]? = some (.cells #[.int .i32 0, .int .u32 0, .int .i64 i0, .slice d1 m1 k1, .slice d2 m2 k2] 92 (0, 0)) from by first | exact heap_alloc_new _ _ | exact heap_pair _ _ _ | exact heap_trip _ _ _ _)
  clear al_
  have A_0_ : ((w1.alloc (.cells #[.int .i32 0, .int .u32 0, .int .i64 i0, .slice d1 m1 k1, .slice d2 m2 k2] 92))).cell? ⟨W.heap.size, 0, none⟩ = some (.int .i64 i0) := cell_of_row _ _ 0 _ _ _ rA10_.out
  have A_1_ : ((w1.alloc (.cells #[.int .i32 0, .int .u32 0, .int .i64 i0, .slice d1 m1 k1, .slice d2 m2 k2] 92))).cell? ⟨W.heap.size, 1, none⟩ = some (.slice a1 n1 c1) := cell_of_row _ _ 1 _ _ _ rA10_.out
  have A_2_ : ((w1.alloc (.cells #[.int .i32 0, .int .u32 0, .int .i64 i0, .slice d1 m1 k1, .slice d2 m2 k2] 92))).cell? ⟨W.heap.size, 2, none⟩ = some (.slice a2 n2 c2) := cell_of_row _ _ 2 _ _ _ rA10_.out
  have R_0_ : ((w1.alloc (.cells #[.int .i32 0, .int .u32 0, .int .i64 i0, .slice d1 m1 k1, .slice d2 m2 k2] 92))).cell? ⟨W.heap.size + 1, 0, none⟩ = some (.int .i64 0) := cell_of_row _ _ 0 _ _ _ rR11_.out
  have R_1_ : ((w1.alloc (.cells #[.int .i32 0, .int .u32 0, .int .i64 i0, .slice d1 m1 k1, .slice d2 m2 k2] 92))).cell? ⟨W.heap.size + 1, 1, none⟩ = some (.slice none 0 0) := cell_of_row _ _ 1 _ _ _ rR11_.out
  have R_2_ : ((w1.alloc (.cells #[.int .i32 0, .int .u32 0, .int .i64 i0, .slice d1 m1 k1, .slice d2 m2 k2] 92))).cell? ⟨W.heap.size + 1, 2, none⟩ = some (.slice none 0 0) := cell_of_row _ _ 2 _ _ _ rR11_.out
  have Q_0_ : ((w1.alloc (.cells #[.int .i32 0, .int .u32 0, .int .i64 i0, .slice d1 m1 k1, .slice d2 m2 k2] 92))).cell? ⟨W.heap.size + 1 + 1, 0, none⟩ = some (.int .i64 0) := cell_of_row _ _ 0 _ _ _ rQ12_.out
  have Q_1_ : ((w1.alloc (.cells #[.int .i32 0, .int .u32 0, .int .i64 i0, .slice d1 m1 k1, .slice d2 m2 k2] 92))).cell? ⟨W.heap.size + 1 + 1, 1, none⟩ = some (.int .i64 0) := cell_of_row _ _ 1 _ _ _ rQ12_.out
  have Q_2_ : ((w1.alloc (.cells #[.int .i32 0, .int .u32 0, .int .i64 i0, .slice d1 m1 k1, .slice d2 m2 k2] 92))).cell? ⟨W.heap.size + 1 + 1, 2, none⟩ = some (.int .i64 0) := cell_of_row _ _ 2 _ _ _ rQ12_.out
  have Q_3_ : ((w1.alloc (.cells #[.int .i32 0, .int .u32 0, .int .i64 i0, .slice d1 m1 k1, .slice d2 m2 k2] 92))).cell? ⟨W.heap.size + 1 + 1, 3, none⟩ = some (.int .i64 0) := cell_of_row _ _ 3 _ _ _ rQ12_.out
  have Q_4_ : ((w1.alloc (.cells #[.int .i32 0, .int .u32 0, .int .i64 i0, .slice d1 m1 k1, .slice d2 m2 k2] 92))).cell? ⟨W.heap.size + 1 + 1, 4, none⟩ = some (.int .i64 0) := cell_of_row _ _ 4 _ _ _ rQ12_.out
  have Q_5_ : ((w1.alloc (.cells #[.int .i32 0, .int .u32 0, .int .i64 i0, .slice d1 m1 k1, .slice d2 m2 k2] 92))).cell? ⟨W.heap.size + 1 + 1, 5, none⟩ = some (.int .i64 0) := cell_of_row _ _ 5 _ _ _ rQ12_.out
  have Q_6_ : ((w1.alloc (.cells #[.int .i32 0, .int .u32 0, .int .i64 i0, .slice d1 m1 k1, .slice d2 m2 k2] 92))).cell? ⟨W.heap.size + 1 + 1, 6, none⟩ = some (.int .i64 0) := cell_of_row _ _ 6 _ _ _ rQ12_.out
  have Q_7_ : ((w1.alloc (.cells #[.int .i32 0, .int .u32 0, .int .i64 i0, .slice d1 m1 k1, .slice d2 m2 k2] 92))).cell? ⟨W.heap.size + 1 + 1, 7, none⟩ = some (.slice none 0 0) := cell_of_row _ _ 7 _ _ _ rQ12_.out
  have X_0_ : ((w1.alloc (.cells #[.int .i32 0, .int .u32 0, .int .i64 i0, .slice d1 m1 k1, .slice d2 m2 k2] 92))).cell? ⟨w1.heap.size, 0, none⟩ = some (.int .i32 0) := cell_of_row _ _ 0 _ _ _ rX15_.out
  have X_1_ : ((w1.alloc (.cells #[.int .i32 0, .int .u32 0, .int .i64 i0, .slice d1 m1 k1, .slice d2 m2 k2] 92))).cell? ⟨w1.heap.size, 1, none⟩ = some (.int .u32 0) := cell_of_row _ _ 1 _ _ _ rX15_.out
  have X_2_ : ((w1.alloc (.cells #[.int .i32 0, .int .u32 0, .int .i64 i0, .slice d1 m1 k1, .slice d2 m2 k2] 92))).cell? ⟨w1.heap.size, 2, none⟩ = some (.int .i64 i0) := cell_of_row _ _ 2 _ _ _ rX15_.out
  have X_3_ : ((w1.alloc (.cells #[.int .i32 0, .int .u32 0, .int .i64 i0, .slice d1 m1 k1, .slice d2 m2 k2] 92))).cell? ⟨w1.heap.size, 3, none⟩ = some (.slice d1 m1 k1) := cell_of_row _ _ 3 _ _ _ rX15_.out
  have X_4_ : ((w1.alloc (.cells #[.int .i32 0, .int .u32 0, .int .i64 i0, .slice d1 m1 k1, .slice d2 m2 k2] 92))).cell? ⟨w1.heap.size, 4, none⟩ = some (.slice d2 m2 k2) := cell_of_row _ _ 4 _ _ _ rX15_.out
  go_wp2_with fail
  go_at_call 64
  refine (((implVCall _ i0 _ _ xs ys id (kn : Int) (H1_.out.grow G14_.out) (H2_.out.grow G14_.out)).mono (bpost_yes HOK.out))).mono ?_
  rintro e w2 ⟨rfl, g⟩
  have szw2 := g.size
  try simp only [World.size_alloc] at szw2
  try simp only [World.size_setCell] at szw2
  clear A_0_ A_1_ A_2_ R_0_ R_1_ R_2_ Q_0_ Q_1_ Q_2_ Q_3_ Q_4_ Q_5_ Q_6_ Q_7_ X_0_ X_1_ X_2_ X_3_ X_4_
  have rA16_ := Lib.hid (show (w2).heap[W.heap.size]? = some (.cells #[.int .i64 i0, .slice a1 n1 c1, .slice a2 n2 c2] 26 (0, 0)) from row_held g rA10_.out)
  clear rA10_
  have rR17_ := Lib.hid (show (w2).heap[W.heap.size + 1]? = some (.cells #[.int .i64 0, .slice none 0 0, .slice none 0 0] 26 (0, 0)) from row_held g rR11_.out)
  clear rR11_
  have rQ18_ := Lib.hid (show (w2).heap[W.heap.size + 1 + 1]? = some (.cells #[.int .i64 0, .int .i64 0, .int .i64 0, .int .i64 0, .int .i64 0, .int .i64 0, .int .i64 0, .slice none 0 0] 29 (0, 0)) from row_held g rQ12_.out)
  clear rQ12_
  have rX19_ := Lib.hid (show (w2).heap[w1.heap.size]? = some (.cells #[.int .i32 0, .int .u32 0, .int .i64 i0, .slice d1 m1 k1, .slice d2 m2 k2] 92 (0, 0)) from row_held g rX15_.out)
  clear rX15_
  have oC20_ := Lib.hid (show OwU (w2) ((W.heap.size + 1 + 1 + 1)) (w1.heap.size) [] [own shB (.slice d1 m1 k1) xs, own shB (.slice d2 m2 k2) ys] from OwU.grow oC13_.out g)
  clear oC13_
  have G21_ := Lib.hid (show (W).grownBy (w2) none from gby_trans G14_.out g)
  clear g
  have A_0_ : (w2).cell? ⟨W.heap.size, 0, none⟩ = some (.int .i64 i0) := cell_of_row _ _ 0 _ _ _ rA16_.out
  have A_1_ : (w2).cell? ⟨W.heap.size, 1, none⟩ = some (.slice a1 n1 c1) := cell_of_row _ _ 1 _ _ _ rA16_.out
  have A_2_ : (w2).cell? ⟨W.heap.size, 2, none⟩ = some (.slice a2 n2 c2) := cell_of_row _ _ 2 _ _ _ rA16_.out
  have R_0_ : (w2).cell? ⟨W.heap.size + 1, 0, none⟩ = some (.int .i64 0) := cell_of_row _ _ 0 _ _ _ rR17_.out
  have R_1_ : (w2).cell? ⟨W.heap.size + 1, 1, none⟩ = some (.slice none 0 0) := cell_of_row _ _ 1 _ _ _ rR17_.out
  have R_2_ : (w2).cell? ⟨W.heap.size + 1, 2, none⟩ = some (.slice none 0 0) := cell_of_row _ _ 2 _ _ _ rR17_.out
  have Q_0_ : (w2).cell? ⟨W.heap.size + 1 + 1, 0, none⟩ = some (.int .i64 0) := cell_of_row _ _ 0 _ _ _ rQ18_.out
  have Q_1_ : (w2).cell? ⟨W.heap.size + 1 + 1, 1, none⟩ = some (.int .i64 0) := cell_of_row _ _ 1 _ _ _ rQ18_.out
  have Q_2_ : (w2).cell? ⟨W.heap.size + 1 + 1, 2, none⟩ = some (.int .i64 0) := cell_of_row _ _ 2 _ _ _ rQ18_.out
  have Q_3_ : (w2).cell? ⟨W.heap.size + 1 + 1, 3, none⟩ = some (.int .i64 0) := cell_of_row _ _ 3 _ _ _ rQ18_.out
  have Q_4_ : (w2).cell? ⟨W.heap.size + 1 + 1, 4, none⟩ = some (.int .i64 0) := cell_of_row _ _ 4 _ _ _ rQ18_.out
  have Q_5_ : (w2).cell? ⟨W.heap.size + 1 + 1, 5, none⟩ = some (.int .i64 0) := cell_of_row _ _ 5 _ _ _ rQ18_.out
  have Q_6_ : (w2).cell? ⟨W.heap.size + 1 + 1, 6, none⟩ = some (.int .i64 0) := cell_of_row _ _ 6 _ _ _ rQ18_.out
  have Q_7_ : (w2).cell? ⟨W.heap.size + 1 + 1, 7, none⟩ = some (.slice none 0 0) := cell_of_row _ _ 7 _ _ _ rQ18_.out
  have X_0_ : (w2).cell? ⟨w1.heap.size, 0, none⟩ = some (.int .i32 0) := cell_of_row _ _ 0 _ _ _ rX19_.out
  have X_1_ : (w2).cell? ⟨w1.heap.size, 1, none⟩ = some (.int .u32 0) := cell_of_row _ _ 1 _ _ _ rX19_.out
  have X_2_ : (w2).cell? ⟨w1.heap.size, 2, none⟩ = some (.int .i64 i0) := cell_of_row _ _ 2 _ _ _ rX19_.out
  have X_3_ : (w2).cell? ⟨w1.heap.size, 3, none⟩ = some (.slice d1 m1 k1) := cell_of_row _ _ 3 _ _ _ rX19_.out
  have X_4_ : (w2).cell? ⟨w1.heap.size, 4, none⟩ = some (.slice d2 m2 k2) := cell_of_row _ _ 4 _ _ _ rX19_.out
  clear A_0_ A_1_ A_2_ R_0_ R_1_ R_2_ Q_0_ Q_1_ Q_2_ Q_3_ Q_4_ Q_5_ Q_6_ Q_7_ X_0_ X_1_ X_2_ X_3_ X_4_
  go_wp2_with fail
  go_at_call 65
  refine (raise_yes _ w1.heap.size (W.heap.size + 1 + 1 + 1) kn i0 id _ _ xs ys rX19_.out (OwU.wide (Nat.le_refl _) (by omega) oC20_.out) hkx (by omega) hy_ HM.out).mono ?_
  rintro e w3 ⟨x3, rfl, o, hrow, o3, gc⟩
  have gg_ : (w2).heap.size ≤ w3.heap.size := gc.size
  try simp only [World.size_alloc] at gg_
  obtain ⟨e1, e2, e3, hv_⟩ := RdL.form (OwU.rd o3)
  subst hv_
  unfold vPacket
  have NA_ := Lib.hid (show w3.heap[W.heap.size]? = some (.cells #[.int .i64 i0, .slice a1 n1 c1, .slice a2 n2 c2] 26 (0, 0)) from Chg.keep gc rA16_.out (by omega))
  have NR_ := Lib.hid (show w3.heap[W.heap.size + 1]? = some (.cells #[.int .i64 0, .slice none 0 0, .slice none 0 0] 26 (0, 0)) from Chg.keep gc rR17_.out (by omega))
  have NQ_ := Lib.hid (show w3.heap[W.heap.size + 1 + 1]? = some (.cells #[.int .i64 0, .int .i64 0, .int .i64 0, .int .i64 0, .int .i64 0, .int .i64 0, .int .i64 0, .slice none 0 0] 29 (0, 0)) from Chg.keep gc rQ18_.out (by omega))
  have NX_ := Lib.hid hrow
  have NO_ := Lib.hid (show OwU w3 (W.heap.size + 1 + 1 + 1) w3.heap.size [] [own shB (.slice d1 m1 k1) xs, own shB (.slice d2 m2 k2) (ys.set kn true), own shI (.slice e1 e2 e3) []] from OwU.app (ps := [own shB (.slice d1 m1 k1) xs, own shB (.slice d2 m2 k2) (ys.set kn true)]) (qs := [own shI (.slice e1 e2 e3) []]) (by omega) (by omega) o (OwU.wide (lo := (w2).heap.size) (by (try simp only [World.size_alloc]); omega) (Nat.le_refl _) o3))
  have NG_ := Lib.hid (show W.grownBy w3 none from gby_chg G21_.out gc (by omega))
  have hgl_ : w1.heap.size < w3.heap.size := lt_of_block hrow
  clear hrow o o3 gc
  clear rA16_
  clear rR17_
  clear rQ18_
  clear rX19_
  clear oC20_
  have G22_ := Lib.hid (show (W).grownBy (w3) none from NG_.out)
  have rA23_ := Lib.hid (show (w3).heap[W.heap.size]? = some (.cells #[.int .i64 i0, .slice a1 n1 c1, .slice a2 n2 c2] 26 (0, 0)) from NA_.out)
  have rR24_ := Lib.hid (show (w3).heap[W.heap.size + 1]? = some (.cells #[.int .i64 0, .slice none 0 0, .slice none 0 0] 26 (0, 0)) from NR_.out)
  have rQ25_ := Lib.hid (show (w3).heap[W.heap.size + 1 + 1]? = some (.cells #[.int .i64 0, .int .i64 0, .int .i64 0, .int .i64 0, .int .i64 0, .int .i64 0, .int .i64 0, .slice none 0 0] 29 (0, 0)) from NQ_.out)
  have rX26_ := Lib.hid (show (w3).heap[w1.heap.size]? = some (.cells #[.int .i32 0, .int .u32 0, .int .i64 i0, .slice d1 m1 k1, .slice d2 m2 k2] 92 (0, 0)) from NX_.out)
  have oC27_ := Lib.hid (show OwU (w3) ((W.heap.size + 1 + 1 + 1)) (w3.heap.size) [] [own shB (.slice d1 m1 k1) xs, own shB (.slice d2 m2 k2) (ys.set kn true), own shI (.slice e1 e2 e3) []] from NO_.out)
  have A_0_ : (w3).cell? ⟨W.heap.size, 0, none⟩ = some (.int .i64 i0) := cell_of_row _ _ 0 _ _ _ rA23_.out
  have A_1_ : (w3).cell? ⟨W.heap.size, 1, none⟩ = some (.slice a1 n1 c1) := cell_of_row _ _ 1 _ _ _ rA23_.out
  have A_2_ : (w3).cell? ⟨W.heap.size, 2, none⟩ = some (.slice a2 n2 c2) := cell_of_row _ _ 2 _ _ _ rA23_.out
  have R_0_ : (w3).cell? ⟨W.heap.size + 1, 0, none⟩ = some (.int .i64 0) := cell_of_row _ _ 0 _ _ _ rR24_.out
  have R_1_ : (w3).cell? ⟨W.heap.size + 1, 1, none⟩ = some (.slice none 0 0) := cell_of_row _ _ 1 _ _ _ rR24_.out
  have R_2_ : (w3).cell? ⟨W.heap.size + 1, 2, none⟩ = some (.slice none 0 0) := cell_of_row _ _ 2 _ _ _ rR24_.out
  have Q_0_ : (w3).cell? ⟨W.heap.size + 1 + 1, 0, none⟩ = some (.int .i64 0) := cell_of_row _ _ 0 _ _ _ rQ25_.out
  have Q_1_ : (w3).cell? ⟨W.heap.size + 1 + 1, 1, none⟩ = some (.int .i64 0) := cell_of_row _ _ 1 _ _ _ rQ25_.out
  have Q_2_ : (w3).cell? ⟨W.heap.size + 1 + 1, 2, none⟩ = some (.int .i64 0) := cell_of_row _ _ 2 _ _ _ rQ25_.out
  have Q_3_ : (w3).cell? ⟨W.heap.size + 1 + 1, 3, none⟩ = some (.int .i64 0) := cell_of_row _ _ 3 _ _ _ rQ25_.out
  have Q_4_ : (w3).cell? ⟨W.heap.size + 1 + 1, 4, none⟩ = some (.int .i64 0) := cell_of_row _ _ 4 _ _ _ rQ25_.out
  have Q_5_ : (w3).cell? ⟨W.heap.size + 1 + 1, 5, none⟩ = some (.int .i64 0) := cell_of_row _ _ 5 _ _ _ rQ25_.out
  have Q_6_ : (w3).cell? ⟨W.heap.size + 1 + 1, 6, none⟩ = some (.int .i64 0) := cell_of_row _ _ 6 _ _ _ rQ25_.out
  have Q_7_ : (w3).cell? ⟨W.heap.size + 1 + 1, 7, none⟩ = some (.slice none 0 0) := cell_of_row _ _ 7 _ _ _ rQ25_.out
  have X_0_ : (w3).cell? ⟨w1.heap.size, 0, none⟩ = some (.int .i32 0) := cell_of_row _ _ 0 _ _ _ rX26_.out
  have X_1_ : (w3).cell? ⟨w1.heap.size, 1, none⟩ = some (.int .u32 0) := cell_of_row _ _ 1 _ _ _ rX26_.out
  have X_2_ : (w3).cell? ⟨w1.heap.size, 2, none⟩ = some (.int .i64 i0) := cell_of_row _ _ 2 _ _ _ rX26_.out
  have X_3_ : (w3).cell? ⟨w1.heap.size, 3, none⟩ = some (.slice d1 m1 k1) := cell_of_row _ _ 3 _ _ _ rX26_.out
  have X_4_ : (w3).cell? ⟨w1.heap.size, 4, none⟩ = some (.slice d2 m2 k2) := cell_of_row _ _ 4 _ _ _ rX26_.out
  clear A_0_ A_1_ A_2_ R_0_ R_1_ R_2_ Q_0_ Q_1_ Q_2_ Q_3_ Q_4_ Q_5_ Q_6_ Q_7_ X_0_ X_1_ X_2_ X_3_ X_4_
  have al_ : (w3).grownBy ((w3).alloc (.cells #[.int .i64 0, .int .i64 0, .int .i64 0, .int .i64 0, .int .i64 0, .int .i64 0, .int .i64 0, .slice e1 e2 e3] 29)) none := gby_alloc (gby_refl _ _) _
  have rA28_ := Lib.hid (show ((w3.alloc (.cells #[.int .i64 0, .int .i64 0, .int .i64 0, .int .i64 0, .int .i64 0, .int .i64 0, .int .i64 0, .slice e1 e2 e3] 29))).heap[W.heap.size]? = some (.cells #[.int .i64 i0, .slice a1 n1 c1, .slice a2 n2 c2] 26 (0, 0)) from row_held al_ rA23_.out)
  clear rA23_
  have rR29_ := Lib.hid (show ((w3.alloc (.cells #[.int .i64 0, .int .i64 0, .int .i64 0, .int .i64 0, .int .i64 0, .int .i64 0, .int .i64 0, .slice e1 e2 e3] 29))).heap[W.heap.size + 1]? = some (.cells #[.int .i64 0, .slice none 0 0, .slice none 0 0] 26 (0, 0)) from row_held al_ rR24_.out)
  clear rR24_
  have rQ30_ := Lib.hid (show ((w3.alloc (.cells #[.int .i64 0, .int .i64 0, .int .i64 0, .int .i64 0, .int .i64 0, .int .i64 0, .int .i64 0, .slice e1 e2 e3] 29))).heap[W.heap.size + 1 + 1]? = some (.cells #[.int .i64 0, .int .i64 0, .int .i64 0, .int .i64 0, .int .i64 0, .int .i64 0, .int .i64 0, .slice none 0 0] 29 (0, 0)) from row_held al_ rQ25_.out)
  clear rQ25_
  have rX31_ := Lib.hid (show ((w3.alloc (.cells #[.int .i64 0, .int .i64 0, .int .i64 0, .int .i64 0, .int .i64 0, .int .i64 0, .int .i64 0, .slice e1 e2 e3] 29))).heap[w1.heap.size]? = some (.cells #[.int .i32 0, .int .u32 0, .int .i64 i0, .slice d1 m1 k1, .slice d2 m2 k2] 92 (0, 0)) from row_held al_ rX26_.out)
  clear rX26_
  have oC32_ := Lib.hid (show OwU ((w3.alloc (.cells #[.int .i64 0, .int .i64 0, .int .i64 0, .int .i64 0, .int .i64 0, .int .i64 0, .int .i64 0, .slice e1 e2 e3] 29))) ((W.heap.size + 1 + 1 + 1)) (w3.heap.size) [] [own shB (.slice d1 m1 k1) xs, own shB (.slice d2 m2 k2) (ys.set kn true), own shI (.slice e1 e2 e3) []] from OwU.grow oC27_.out al_)
  clear oC27_
  have G33_ := Lib.hid (show (W).grownBy ((w3.alloc (.cells #[.int .i64 0, .int .i64 0, .int .i64 0, .int .i64 0, .int .i64 0, .int .i64 0, .int .i64 0, .slice e1 e2 e3] 29))) none from gby_trans G22_.out al_)
  have rK34_ := Lib.hid (show ((w3.alloc (.cells #[.int .i64 0, .int .i64 0, .int .i64 0, .int .i64 0, .int .i64 0, .int .i64 0, .int .i64 0, .slice e1 e2 e3] 29))).heap[w3.heap.size]? = some (.cells #[.int .i64 0, .int .i64 0, .int .i64 0, .int .i64 0, .int .i64 0, .int .i64 0, .int .i64 0, .slice e1 e2 e3] 29 (0, 0)) from by first | exact heap_alloc_new _ _ | exact heap_pair _ _ _ | exact heap_trip _ _ _ _)
  clear al_
  have A_0_ : ((w3.alloc (.cells #[.int .i64 0, .int .i64 0, .int .i64 0, .int .i64 0, .int .i64 0, .int .i64 0, .int .i64 0, .slice e1 e2 e3] 29))).cell? ⟨W.heap.size, 0, none⟩ = some (.int .i64 i0) := cell_of_row _ _ 0 _ _ _ rA28_.out
  have A_1_ : ((w3.alloc (.cells #[.int .i64 0, .int .i64 0, .int .i64 0, .int .i64 0, .int .i64 0, .int .i64 0, .int .i64 0, .slice e1 e2 e3] 29))).cell? ⟨W.heap.size, 1, none⟩ = some (.slice a1 n1 c1) := cell_of_row _ _ 1 _ _ _ rA28_.out
  have A_2_ : ((w3.alloc (.cells #[.int .i64 0, .int .i64 0, .int .i64 0, .int .i64 0, .int .i64 0, .int .i64 0, .int .i64 0, .slice e1 e2 e3] 29))).cell? ⟨W.heap.size, 2, none⟩ = some (.slice a2 n2 c2) := cell_of_row _ _ 2 _ _ _ rA28_.out
  have R_0_ : ((w3.alloc (.cells #[.int .i64 0, .int .i64 0, .int .i64 0, .int .i64 0, .int .i64 0, .int .i64 0, .int .i64 0, .slice e1 e2 e3] 29))).cell? ⟨W.heap.size + 1, 0, none⟩ = some (.int .i64 0) := cell_of_row _ _ 0 _ _ _ rR29_.out
  have R_1_ : ((w3.alloc (.cells #[.int .i64 0, .int .i64 0, .int .i64 0, .int .i64 0, .int .i64 0, .int .i64 0, .int .i64 0, .slice e1 e2 e3] 29))).cell? ⟨W.heap.size + 1, 1, none⟩ = some (.slice none 0 0) := cell_of_row _ _ 1 _ _ _ rR29_.out
  have R_2_ : ((w3.alloc (.cells #[.int .i64 0, .int .i64 0, .int .i64 0, .int .i64 0, .int .i64 0, .int .i64 0, .int .i64 0, .slice e1 e2 e3] 29))).cell? ⟨W.heap.size + 1, 2, none⟩ = some (.slice none 0 0) := cell_of_row _ _ 2 _ _ _ rR29_.out
  have Q_0_ : ((w3.alloc (.cells #[.int .i64 0, .int .i64 0, .int .i64 0, .int .i64 0, .int .i64 0, .int .i64 0, .int .i64 0, .slice e1 e2 e3] 29))).cell? ⟨W.heap.size + 1 + 1, 0, none⟩ = some (.int .i64 0) := cell_of_row _ _ 0 _ _ _ rQ30_.out
  have Q_1_ : ((w3.alloc (.cells #[.int .i64 0, .int .i64 0, .int .i64 0, .int .i64 0, .int .i64 0, .int .i64 0, .int .i64 0, .slice e1 e2 e3] 29))).cell? ⟨W.heap.size + 1 + 1, 1, none⟩ = some (.int .i64 0) := cell_of_row _ _ 1 _ _ _ rQ30_.out
  have Q_2_ : ((w3.alloc (.cells #[.int .i64 0, .int .i64 0, .int .i64 0, .int .i64 0, .int .i64 0, .int .i64 0, .int .i64 0, .slice e1 e2 e3] 29))).cell? ⟨W.heap.size + 1 + 1, 2, none⟩ = some (.int .i64 0) := cell_of_row _ _ 2 _ _ _ rQ30_.out
  have Q_3_ : ((w3.alloc (.cells #[.int .i64 0, .int .i64 0, .int .i64 0, .int .i64 0, .int .i64 0, .int .i64 0, .int .i64 0, .slice e1 e2 e3] 29))).cell? ⟨W.heap.size + 1 + 1, 3, none⟩ = some (.int .i64 0) := cell_of_row _ _ 3 _ _ _ rQ30_.out
  have Q_4_ : ((w3.alloc (.cells #[.int .i64 0, .int .i64 0, .int .i64 0, .int .i64 0, .int .i64 0, .int .i64 0, .int .i64 0, .slice e1 e2 e3] 29))).cell? ⟨W.heap.size + 1 + 1, 4, none⟩ = some (.int .i64 0) := cell_of_row _ _ 4 _ _ _ rQ30_.out
  have Q_5_ : ((w3.alloc (.cells #[.int .i64 0, .int .i64 0, .int .i64 0, .int .i64 0, .int .i64 0, .int .i64 0, .int .i64 0, .slice e1 e2 e3] 29))).cell? ⟨W.heap.size + 1 + 1, 5, none⟩ = some (.int .i64 0) := cell_of_row _ _ 5 _ _ _ rQ30_.out
  have Q_6_ : ((w3.alloc (.cells #[.int .i64 0, .int .i64 0, .int .i64 0, .int .i64 0, .int .i64 0, .int .i64 0, .int .i64 0, .slice e1 e2 e3] 29))).cell? ⟨W.heap.size + 1 + 1, 6, none⟩ = some (.int .i64 0) := cell_of_row _ _ 6 _ _ _ rQ30_.out
  have Q_7_ : ((w3.alloc (.cells #[.int .i64 0, .int .i64 0, .int .i64 0, .int .i64 0, .int .i64 0, .int .i64 0, .int .i64 0, .slice e1 e2 e3] 29))).cell? ⟨W.heap.size + 1 + 1, 7, none⟩ = some (.slice none 0 0) := cell_of_row _ _ 7 _ _ _ rQ30_.out
  have X_0_ : ((w3.alloc (.cells #[.int .i64 0, .int .i64 0, .int .i64 0, .int .i64 0, .int .i64 0, .int .i64 0, .int .i64 0, .slice e1 e2 e3] 29))).cell? ⟨w1.heap.size, 0, none⟩ = some (.int .i32 0) := cell_of_row _ _ 0 _ _ _ rX31_.out
  have X_1_ : ((w3.alloc (.cells #[.int .i64 0, .int .i64 0, .int .i64 0, .int .i64 0, .int .i64 0, .int .i64 0, .int .i64 0, .slice e1 e2 e3] 29))).cell? ⟨w1.heap.size, 1, none⟩ = some (.int .u32 0) := cell_of_row _ _ 1 _ _ _ rX31_.out
  have X_2_ : ((w3.alloc (.cells #[.int .i64 0, .int .i64 0, .int .i64 0, .int .i64 0, .int .i64 0, .int .i64 0, .int .i64 0, .slice e1 e2 e3] 29))).cell? ⟨w1.heap.size, 2, none⟩ = some (.int .i64 i0) := cell_of_row _ _ 2 _ _ _ rX31_.out
  have X_3_ : ((w3.alloc (.cells #[.int .i64 0, .int .i64 0, .int .i64 0, .int .i64 0, .int .i64 0, .int .i64 0, .int .i64 0, .slice e1 e2 e3] 29))).cell? ⟨w1.heap.size, 3, none⟩ = some (.slice d1 m1 k1) := cell_of_row _ _ 3 _ _ _ rX31_.out
  have X_4_ : ((w3.alloc (.cells #[.int .i64 0, .int .i64 0, .int .i64 0, .int .i64 0, .int .i64 0, .int .i64 0, .int .i64 0, .slice e1 e2 e3] 29))).cell? ⟨w1.heap.size, 4, none⟩ = some (.slice d2 m2 k2) := cell_of_row _ _ 4 _ _ _ rX31_.out
  have K_0_ : ((w3.alloc (.cells #[.int .i64 0, .int .i64 0, .int .i64 0, .int .i64 0, .int .i64 0, .int .i64 0, .int .i64 0, .slice e1 e2 e3] 29))).cell? ⟨w3.heap.size, 0, none⟩ = some (.int .i64 0) := cell_of_row _ _ 0 _ _ _ rK34_.out
  have K_1_ : ((w3.alloc (.cells #[.int .i64 0, .int .i64 0, .int .i64 0, .int .i64 0, .int .i64 0, .int .i64 0, .int .i64 0, .slice e1 e2 e3] 29))).cell? ⟨w3.heap.size, 1, none⟩ = some (.int .i64 0) := cell_of_row _ _ 1 _ _ _ rK34_.out
  have K_2_ : ((w3.alloc (.cells #[.int .i64 0, .int .i64 0, .int .i64 0, .int .i64 0, .int .i64 0, .int .i64 0, .int .i64 0, .slice e1 e2 e3] 29))).cell? ⟨w3.heap.size, 2, none⟩ = some (.int .i64 0) := cell_of_row _ _ 2 _ _ _ rK34_.out
  have K_3_ : ((w3.alloc (.cells #[.int .i64 0, .int .i64 0, .int .i64 0, .int .i64 0, .int .i64 0, .int .i64 0, .int .i64 0, .slice e1 e2 e3] 29))).cell? ⟨w3.heap.size, 3, none⟩ = some (.int .i64 0) := cell_of_row _ _ 3 _ _ _ rK34_.out
  have K_4_ : ((w3.alloc (.cells #[.int .i64 0, .int .i64 0, .int .i64 0, .int .i64 0, .int .i64 0, .int .i64 0, .int .i64 0, .slice e1 e2 e3] 29))).cell? ⟨w3.heap.size, 4, none⟩ = some (.int .i64 0) := cell_of_row _ _ 4 _ _ _ rK34_.out
  have K_5_ : ((w3.alloc (.cells #[.int .i64 0, .int .i64 0, .int .i64 0, .int .i64 0, .int .i64 0, .int .i64 0, .int .i64 0, .slice e1 e2 e3] 29))).cell? ⟨w3.heap.size, 5, none⟩ = some (.int .i64 0) := cell_of_row _ _ 5 _ _ _ rK34_.out
  have K_6_ : ((w3.alloc (.cells #[.int .i64 0, .int .i64 0, .int .i64 0, .int .i64 0, .int .i64 0, .int .i64 0, .int .i64 0, .slice e1 e2 e3] 29))).cell? ⟨w3.heap.size, 6, none⟩ = some (.int .i64 0) := cell_of_row _ _ 6 _ _ _ rK34_.out
  have K_7_ : ((w3.alloc (.cells #[.int .i64 0, .int .i64 0, .int .i64 0, .int .i64 0, .int .i64 0, .int .i64 0, .int .i64 0, .slice e1 e2 e3] 29))).cell? ⟨w3.heap.size, 7, none⟩ = some (.slice e1 e2 e3) := cell_of_row _ _ 7 _ _ _ rK34_.out
  have nb0_ : ¬ w1.heap.size = W.heap.size + 1 := by omega
  have nb1_ : ¬ W.heap.size + 1 = w1.heap.size := by omega
  have nb2_ : ¬ w1.heap.size = W.heap.size + 1 + 1 := by omega
  have nb3_ : ¬ W.heap.size + 1 + 1 = w1.heap.size := by omega
  have nb4_ : ¬ w3.heap.size = W.heap.size + 1 := by omega
  have nb5_ : ¬ W.heap.size + 1 = w3.heap.size := by omega
  have nb6_ : ¬ w3.heap.size = W.heap.size + 1 + 1 := by omega
  have nb7_ : ¬ W.heap.size + 1 + 1 = w3.heap.size := by omega
  clear A_0_ A_1_ A_2_ R_0_ R_1_ R_2_ Q_0_ Q_1_ Q_2_ Q_3_ Q_4_ Q_5_ Q_6_ Q_7_ X_0_ X_1_ X_2_ X_3_ X_4_ K_0_ K_1_ K_2_ K_3_ K_4_ K_5_ K_6_ K_7_
  have A_0_ : ((w3.alloc (.cells #[.int .i64 0, .int .i64 0, .int .i64 0, .int .i64 0, .int .i64 0, .int .i64 0, .int .i64 0, .slice e1 e2 e3] 29))).cell? ⟨W.heap.size, 0, none⟩ = some (.int .i64 i0) := cell_of_row _ _ 0 _ _ _ rA28_.out
  have A_1_ : ((w3.alloc (.cells #[.int .i64 0, .int .i64 0, .int .i64 0, .int .i64 0, .int .i64 0, .int .i64 0, .int .i64 0, .slice e1 e2 e3] 29))).cell? ⟨W.heap.size, 1, none⟩ = some (.slice a1 n1 c1) := cell_of_row _ _ 1 _ _ _ rA28_.out
  have A_2_ : ((w3.alloc (.cells #[.int .i64 0, .int .i64 0, .int .i64 0, .int .i64 0, .int .i64 0, .int .i64 0, .int .i64 0, .slice e1 e2 e3] 29))).cell? ⟨W.heap.size, 2, none⟩ = some (.slice a2 n2 c2) := cell_of_row _ _ 2 _ _ _ rA28_.out
  have R_0_ : ((w3.alloc (.cells #[.int .i64 0, .int .i64 0, .int .i64 0, .int .i64 0, .int .i64 0, .int .i64 0, .int .i64 0, .slice e1 e2 e3] 29))).cell? ⟨W.heap.size + 1, 0, none⟩ = some (.int .i64 0) := cell_of_row _ _ 0 _ _ _ rR29_.out
  have R_1_ : ((w3.alloc (.cells #[.int .i64 0, .int .i64 0, .int .i64 0, .int .i64 0, .int .i64 0, .int .i64 0, .int .i64 0, .slice e1 e2 e3] 29))).cell? ⟨W.heap.size + 1, 1, none⟩ = some (.slice none 0 0) := cell_of_row _ _ 1 _ _ _ rR29_.out
  have R_2_ : ((w3.alloc (.cells #[.int .i64 0, .int .i64 0, .int .i64 0, .int .i64 0, .int .i64 0, .int .i64 0, .int .i64 0, .slice e1 e2 e3] 29))).cell? ⟨W.heap.size + 1, 2, none⟩ = some (.slice none 0 0) := cell_of_row _ _ 2 _ _ _ rR29_.out
  have Rf0_ : ((w3.alloc (.cells #[.int .i64 0, .int .i64 0, .int .i64 0, .int .i64 0, .int .i64 0, .int .i64 0, .int .i64 0, .slice e1 e2 e3] 29))).frozen? ⟨W.heap.size + 1, 0, none⟩ = false := frozen_of_row _ _ 0 _ _ rR29_.out
  have Rf1_ : ((w3.alloc (.cells #[.int .i64 0, .int .i64 0, .int .i64 0, .int .i64 0, .int .i64 0, .int .i64 0, .int .i64 0, .slice e1 e2 e3] 29))).frozen? ⟨W.heap.size + 1, 1, none⟩ = false := frozen_of_row _ _ 1 _ _ rR29_.out
  have Rf2_ : ((w3.alloc (.cells #[.int .i64 0, .int .i64 0, .int .i64 0, .int .i64 0, .int .i64 0, .int .i64 0, .int .i64 0, .slice e1 e2 e3] 29))).frozen? ⟨W.heap.size + 1, 2, none⟩ = false := frozen_of_row _ _ 2 _ _ rR29_.out
  have Q_0_ : ((w3.alloc (.cells #[.int .i64 0, .int .i64 0, .int .i64 0, .int .i64 0, .int .i64 0, .int .i64 0, .int .i64 0, .slice e1 e2 e3] 29))).cell? ⟨W.heap.size + 1 + 1, 0, none⟩ = some (.int .i64 0) := cell_of_row _ _ 0 _ _ _ rQ30_.out
  have Q_1_ : ((w3.alloc (.cells #[.int .i64 0, .int .i64 0, .int .i64 0, .int .i64 0, .int .i64 0, .int .i64 0, .int .i64 0, .slice e1 e2 e3] 29))).cell? ⟨W.heap.size + 1 + 1, 1, none⟩ = some (.int .i64 0) := cell_of_row _ _ 1 _ _ _ rQ30_.out
  have Q_2_ : ((w3.alloc (.cells #[.int .i64 0, .int .i64 0, .int .i64 0, .int .i64 0, .int .i64 0, .int .i64 0, .int .i64 0, .slice e1 e2 e3] 29))).cell? ⟨W.heap.size + 1 + 1, 2, none⟩ = some (.int .i64 0) := cell_of_row _ _ 2 _ _ _ rQ30_.out
  have Q_3_ : ((w3.alloc (.cells #[.int .i64 0, .int .i64 0, .int .i64 0, .int .i64 0, .int .i64 0, .int .i64 0, .int .i64 0, .slice e1 e2 e3] 29))).cell? ⟨W.heap.size + 1 + 1, 3, none⟩ = some (.int .i64 0) := cell_of_row _ _ 3 _ _ _ rQ30_.out
  have Q_4_ : ((w3.alloc (.cells #[.int .i64 0, .int .i64 0, .int .i64 0, .int .i64 0, .int .i64 0, .int .i64 0, .int .i64 0, .slice e1 e2 e3] 29))).cell? ⟨W.heap.size + 1 + 1, 4, none⟩ = some (.int .i64 0) := cell_of_row _ _ 4 _ _ _ rQ30_.out
  have Q_5_ : ((w3.alloc (.cells #[.int .i64 0, .int .i64 0, .int .i64 0, .int .i64 0, .int .i64 0, .int .i64 0, .int .i64 0, .slice e1 e2 e3] 29))).cell? ⟨W.heap.size + 1 + 1, 5, none⟩ = some (.int .i64 0) := cell_of_row _ _ 5 _ _ _ rQ30_.out
  have Q_6_ : ((w3.alloc (.cells #[.int .i64 0, .int .i64 0, .int .i64 0, .int .i64 0, .int .i64 0, .int .i64 0, .int .i64 0, .slice e1 e2 e3] 29))).cell? ⟨W.heap.size + 1 + 1, 6, none⟩ = some (.int .i64 0) := cell_of_row _ _ 6 _ _ _ rQ30_.out
  have Q_7_ : ((w3.alloc (.cells #[.int .i64 0, .int .i64 0, .int .i64 0, .int .i64 0, .int .i64 0, .int .i64 0, .int .i64 0, .slice e1 e2 e3] 29))).cell? ⟨W.heap.size + 1 + 1, 7, none⟩ = some (.slice none 0 0) := cell_of_row _ _ 7 _ _ _ rQ30_.out
  have Qf0_ : ((w3.alloc (.cells #[.int .i64 0, .int .i64 0, .int .i64 0, .int .i64 0, .int .i64 0, .int .i64 0, .int .i64 0, .slice e1 e2 e3] 29))).frozen? ⟨W.heap.size + 1 + 1, 0, none⟩ = false := frozen_of_row _ _ 0 _ _ rQ30_.out
  have Qf1_ : ((w3.alloc (.cells #[.int .i64 0, .int .i64 0, .int .i64 0, .int .i64 0, .int .i64 0, .int .i64 0, .int .i64 0, .slice e1 e2 e3] 29))).frozen? ⟨W.heap.size + 1 + 1, 1, none⟩ = false := frozen_of_row _ _ 1 _ _ rQ30_.out
  have Qf2_ : ((w3.alloc (.cells #[.int .i64 0, .int .i64 0, .int .i64 0, .int .i64 0, .int .i64 0, .int .i64 0, .int .i64 0, .slice e1 e2 e3] 29))).frozen? ⟨W.heap.size + 1 + 1, 2, none⟩ = false := frozen_of_row _ _ 2 _ _ rQ30_.out
  have Qf3_ : ((w3.alloc (.cells #[.int .i64 0, .int .i64 0, .int .i64 0, .int .i64 0, .int .i64 0, .int .i64 0, .int .i64 0, .slice e1 e2 e3] 29))).frozen? ⟨W.heap.size + 1 + 1, 3, none⟩ = false := frozen_of_row _ _ 3 _ _ rQ30_.out
  have Qf4_ : ((w3.alloc (.cells #[.int .i64 0, .int .i64 0, .int .i64 0, .int .i64 0, .int .i64 0, .int .i64 0, .int .i64 0, .slice e1 e2 e3] 29))).frozen? ⟨W.heap.size + 1 + 1, 4, none⟩ = false := frozen_of_row _ _ 4 _ _ rQ30_.out
  have Qf5_ : ((w3.alloc (.cells #[.int .i64 0, .int .i64 0, .int .i64 0, .int .i64 0, .int .i64 0, .int .i64 0, .int .i64 0, .slice e1 e2 e3] 29))).frozen? ⟨W.heap.size + 1 + 1, 5, none⟩ = false := frozen_of_row _ _ 5 _ _ rQ30_.out
  have Qf6_ : ((w3.alloc (.cells #[.int .i64 0, .int .i64 0, .int .i64 0, .int .i64 0, .int .i64 0, .int .i64 0, .int .i64 0, .slice e1 e2 e3] 29))).frozen? ⟨W.heap.size + 1 + 1, 6, none⟩ = false := frozen_of_row _ _ 6 _ _ rQ30_.out
  have Qf7_ : ((w3.alloc (.cells #[.int .i64 0, .int .i64 0, .int .i64 0, .int .i64 0, .int .i64 0, .int .i64 0, .int .i64 0, .slice e1 e2 e3] 29))).frozen? ⟨W.heap.size + 1 + 1, 7, none⟩ = false := frozen_of_row _ _ 7 _ _ rQ30_.out
  have X_0_ : ((w3.alloc (.cells #[.int .i64 0, .int .i64 0, .int .i64 0, .int .i64 0, .int .i64 0, .int .i64 0, .int .i64 0, .slice e1 e2 e3] 29))).cell? ⟨w1.heap.size, 0, none⟩ = some (.int .i32 0) := cell_of_row _ _ 0 _ _ _ rX31_.out
  have X_1_ : ((w3.alloc (.cells #[.int .i64 0, .int .i64 0, .int .i64 0, .int .i64 0, .int .i64 0, .int .i64 0, .int .i64 0, .slice e1 e2 e3] 29))).cell? ⟨w1.heap.size, 1, none⟩ = some (.int .u32 0) := cell_of_row _ _ 1 _ _ _ rX31_.out
  have X_2_ : ((w3.alloc (.cells #[.int .i64 0, .int .i64 0, .int .i64 0, .int .i64 0, .int .i64 0, .int .i64 0, .int .i64 0, .slice e1 e2 e3] 29))).cell? ⟨w1.heap.size, 2, none⟩ = some (.int .i64 i0) := cell_of_row _ _ 2 _ _ _ rX31_.out
  have X_3_ : ((w3.alloc (.cells #[.int .i64 0, .int .i64 0, .int .i64 0, .int .i64 0, .int .i64 0, .int .i64 0, .int .i64 0, .slice e1 e2 e3] 29))).cell? ⟨w1.heap.size, 3, none⟩ = some (.slice d1 m1 k1) := cell_of_row _ _ 3 _ _ _ rX31_.out
  have X_4_ : ((w3.alloc (.cells #[.int .i64 0, .int .i64 0, .int .i64 0, .int .i64 0, .int .i64 0, .int .i64 0, .int .i64 0, .slice e1 e2 e3] 29))).cell? ⟨w1.heap.size, 4, none⟩ = some (.slice d2 m2 k2) := cell_of_row _ _ 4 _ _ _ rX31_.out
  have K_0_ : ((w3.alloc (.cells #[.int .i64 0, .int .i64 0, .int .i64 0, .int .i64 0, .int .i64 0, .int .i64 0, .int .i64 0, .slice e1 e2 e3] 29))).cell? ⟨w3.heap.size, 0, none⟩ = some (.int .i64 0) := cell_of_row _ _ 0 _ _ _ rK34_.out
  have K_1_ : ((w3.alloc (.cells #[.int .i64 0, .int .i64 0, .int .i64 0, .int .i64 0, .int .i64 0, .int .i64 0, .int .i64 0, .slice e1 e2 e3] 29))).cell? ⟨w3.heap.size, 1, none⟩ = some (.int .i64 0) := cell_of_row _ _ 1 _ _ _ rK34_.out
  have K_2_ : ((w3.alloc (.cells #[.int .i64 0, .int .i64 0, .int .i64 0, .int .i64 0, .int .i64 0, .int .i64 0, .int .i64 0, .slice e1 e2 e3] 29))).cell? ⟨w3.heap.size, 2, none⟩ = some (.int .i64 0) := cell_of_row _ _ 2 _ _ _ rK34_.out
  have K_3_ : ((w3.alloc (.cells #[.int .i64 0, .int .i64 0, .int .i64 0, .int .i64 0, .int .i64 0, .int .i64 0, .int .i64 0, .slice e1 e2 e3] 29))).cell? ⟨w3.heap.size, 3, none⟩ = some (.int .i64 0) := cell_of_row _ _ 3 _ _ _ rK34_.out
  have K_4_ : ((w3.alloc (.cells #[.int .i64 0, .int .i64 0, .int .i64 0, .int .i64 0, .int .i64 0, .int .i64 0, .int .i64 0, .slice e1 e2 e3] 29))).cell? ⟨w3.heap.size, 4, none⟩ = some (.int .i64 0) := cell_of_row _ _ 4 _ _ _ rK34_.out
  have K_5_ : ((w3.alloc (.cells #[.int .i64 0, .int .i64 0, .int .i64 0, .int .i64 0, .int .i64 0, .int .i64 0, .int .i64 0, .slice e1 e2 e3] 29))).cell? ⟨w3.heap.size, 5, none⟩ = some (.int .i64 0) := cell_of_row _ _ 5 _ _ _ rK34_.out
  have K_6_ : ((w3.alloc (.cells #[.int .i64 0, .int .i64 0, .int .i64 0, .int .i64 0, .int .i64 0, .int .i64 0, .int .i64 0, .slice e1 e2 e3] 29))).cell? ⟨w3.heap.size, 6, none⟩ = some (.int .i64 0) := cell_of_row _ _ 6 _ _ _ rK34_.out
  have K_7_ : ((w3.alloc (.cells #[.int .i64 0, .int .i64 0, .int .i64 0, .int .i64 0, .int .i64 0, .int .i64 0, .int .i64 0, .slice e1 e2 e3] 29))).cell? ⟨w3.heap.size, 7, none⟩ = some (.slice e1 e2 e3) := cell_of_row _ _ 7 _ _ _ rK34_.out
  have yr_ := Lib.hid (show (((((((((((((w3.alloc (.cells #[.int .i64 0, .int .i64 0, .int .i64 0, .int .i64 0, .int .i64 0, .int .i64 0, .int .i64 0, .slice e1 e2 e3] 29)).setCell ⟨W.heap.size + 1, 0, none⟩ (.int .i64 i0)).setCell ⟨W.heap.size + 1, 1, none⟩ (.slice d1 m1 k1)).setCell ⟨W.heap.size + 1, 2, none⟩ (.slice d2 m2 k2)).setCell ⟨W.heap.size + 1 + 1, 0, none⟩ (.int .i64 0)).setCell ⟨W.heap.size + 1 + 1, 1, none⟩ (.int .i64 0)).setCell ⟨W.heap.size + 1 + 1, 2, none⟩ (.int .i64 0)).setCell ⟨W.heap.size + 1 + 1, 3, none⟩ (.int .i64 0)).setCell ⟨W.heap.size + 1 + 1, 4, none⟩ (.int .i64 0)).setCell ⟨W.heap.size + 1 + 1, 5, none⟩ (.int .i64 0)).setCell ⟨W.heap.size + 1 + 1, 6, none⟩ (.int .i64 0)).setCell ⟨W.heap.size + 1 + 1, 7, none⟩ (.slice e1 e2 e3))).heap[W.heap.size + 1]? = some (.cells #[.int .i64 i0, .slice d1 m1 k1, .slice d2 m2 k2] 26 (0, 0)) from (set_far (set_far (set_far (set_far (set_far (set_far (set_far (set_far (heap_setCell_same _ _ 2 _ _ _ (heap_setCell_same _ _ 1 _ _ _ (heap_setCell_same _ _ 0 _ _ _ rR29_.out))) (by dsimp only; omega)) (by dsimp only; omega)) (by dsimp only; omega)) (by dsimp only; omega)) (by dsimp only; omega)) (by dsimp only; omega)) (by dsimp only; omega)) (by dsimp only; omega)))
  have yq_ := Lib.hid (show (((((((((((((w3.alloc (.cells #[.int .i64 0, .int .i64 0, .int .i64 0, .int .i64 0, .int .i64 0, .int .i64 0, .int .i64 0, .slice e1 e2 e3] 29)).setCell ⟨W.heap.size + 1, 0, none⟩ (.int .i64 i0)).setCell ⟨W.heap.size + 1, 1, none⟩ (.slice d1 m1 k1)).setCell ⟨W.heap.size + 1, 2, none⟩ (.slice d2 m2 k2)).setCell ⟨W.heap.size + 1 + 1, 0, none⟩ (.int .i64 0)).setCell ⟨W.heap.size + 1 + 1, 1, none⟩ (.int .i64 0)).setCell ⟨W.heap.size + 1 + 1, 2, none⟩ (.int .i64 0)).setCell ⟨W.heap.size + 1 + 1, 3, none⟩ (.int .i64 0)).setCell ⟨W.heap.size + 1 + 1, 4, none⟩ (.int .i64 0)).setCell ⟨W.heap.size + 1 + 1, 5, none⟩ (.int .i64 0)).setCell ⟨W.heap.size + 1 + 1, 6, none⟩ (.int .i64 0)).setCell ⟨W.heap.size + 1 + 1, 7, none⟩ (.slice e1 e2 e3))).heap[W.heap.size + 1 + 1]? = some (.cells #[.int .i64 0, .int .i64 0, .int .i64 0, .int .i64 0, .int .i64 0, .int .i64 0, .int .i64 0, .slice e1 e2 e3] 29 (0, 0)) from (heap_setCell_same _ _ 7 _ _ _ (heap_setCell_same _ _ 6 _ _ _ (heap_setCell_same _ _ 5 _ _ _ (heap_setCell_same _ _ 4 _ _ _ (heap_setCell_same _ _ 3 _ _ _ (heap_setCell_same _ _ 2 _ _ _ (heap_setCell_same _ _ 1 _ _ _ (heap_setCell_same _ _ 0 _ _ _ (set_far (set_far (set_far rQ30_.out (by dsimp only; omega)) (by dsimp only; omega)) (by dsimp only; omega)))))))))))
  have z0_ : (((((((((((((w3.alloc (.cells #[.int .i64 0, .int .i64 0, .int .i64 0, .int .i64 0, .int .i64 0, .int .i64 0, .int .i64 0, .slice e1 e2 e3] 29)).setCell ⟨W.heap.size + 1, 0, none⟩ (.int .i64 i0)).setCell ⟨W.heap.size + 1, 1, none⟩ (.slice d1 m1 k1)).setCell ⟨W.heap.size + 1, 2, none⟩ (.slice d2 m2 k2)).setCell ⟨W.heap.size + 1 + 1, 0, none⟩ (.int .i64 0)).setCell ⟨W.heap.size + 1 + 1, 1, none⟩ (.int .i64 0)).setCell ⟨W.heap.size + 1 + 1, 2, none⟩ (.int .i64 0)).setCell ⟨W.heap.size + 1 + 1, 3, none⟩ (.int .i64 0)).setCell ⟨W.heap.size + 1 + 1, 4, none⟩ (.int .i64 0)).setCell ⟨W.heap.size + 1 + 1, 5, none⟩ (.int .i64 0)).setCell ⟨W.heap.size + 1 + 1, 6, none⟩ (.int .i64 0)).setCell ⟨W.heap.size + 1 + 1, 7, none⟩ (.slice e1 e2 e3))).cell? ⟨W.heap.size + 1, 0, none⟩ = some (.int .i64 i0) := cell_of_row _ _ 0 _ _ _ yr_.out
  have z1_ : (((((((((((((w3.alloc (.cells #[.int .i64 0, .int .i64 0, .int .i64 0, .int .i64 0, .int .i64 0, .int .i64 0, .int .i64 0, .slice e1 e2 e3] 29)).setCell ⟨W.heap.size + 1, 0, none⟩ (.int .i64 i0)).setCell ⟨W.heap.size + 1, 1, none⟩ (.slice d1 m1 k1)).setCell ⟨W.heap.size + 1, 2, none⟩ (.slice d2 m2 k2)).setCell ⟨W.heap.size + 1 + 1, 0, none⟩ (.int .i64 0)).setCell ⟨W.heap.size + 1 + 1, 1, none⟩ (.int .i64 0)).setCell ⟨W.heap.size + 1 + 1, 2, none⟩ (.int .i64 0)).setCell ⟨W.heap.size + 1 + 1, 3, none⟩ (.int .i64 0)).setCell ⟨W.heap.size + 1 + 1, 4, none⟩ (.int .i64 0)).setCell ⟨W.heap.size + 1 + 1, 5, none⟩ (.int .i64 0)).setCell ⟨W.heap.size + 1 + 1, 6, none⟩ (.int .i64 0)).setCell ⟨W.heap.size + 1 + 1, 7, none⟩ (.slice e1 e2 e3))).cell? ⟨W.heap.size + 1, 1, none⟩ = some (.slice d1 m1 k1) := cell_of_row _ _ 1 _ _ _ yr_.out
  have z2_ : (((((((((((((w3.alloc (.cells #[.int .i64 0, .int .i64 0, .int .i64 0, .int .i64 0, .int .i64 0, .int .i64 0, .int .i64 0, .slice e1 e2 e3] 29)).setCell ⟨W.heap.size + 1, 0, none⟩ (.int .i64 i0)).setCell ⟨W.heap.size + 1, 1, none⟩ (.slice d1 m1 k1)).setCell ⟨W.heap.size + 1, 2, none⟩ (.slice d2 m2 k2)).setCell ⟨W.heap.size + 1 + 1, 0, none⟩ (.int .i64 0)).setCell ⟨W.heap.size + 1 + 1, 1, none⟩ (.int .i64 0)).setCell ⟨W.heap.size + 1 + 1, 2, none⟩ (.int .i64 0)).setCell ⟨W.heap.size + 1 + 1, 3, none⟩ (.int .i64 0)).setCell ⟨W.heap.size + 1 + 1, 4, none⟩ (.int .i64 0)).setCell ⟨W.heap.size + 1 + 1, 5, none⟩ (.int .i64 0)).setCell ⟨W.heap.size + 1 + 1, 6, none⟩ (.int .i64 0)).setCell ⟨W.heap.size + 1 + 1, 7, none⟩ (.slice e1 e2 e3))).cell? ⟨W.heap.size + 1, 2, none⟩ = some (.slice d2 m2 k2) := cell_of_row _ _ 2 _ _ _ yr_.out
  have y0_ : (((((((((((((w3.alloc (.cells #[.int .i64 0, .int .i64 0, .int .i64 0, .int .i64 0, .int .i64 0, .int .i64 0, .int .i64 0, .slice e1 e2 e3] 29)).setCell ⟨W.heap.size + 1, 0, none⟩ (.int .i64 i0)).setCell ⟨W.heap.size + 1, 1, none⟩ (.slice d1 m1 k1)).setCell ⟨W.heap.size + 1, 2, none⟩ (.slice d2 m2 k2)).setCell ⟨W.heap.size + 1 + 1, 0, none⟩ (.int .i64 0)).setCell ⟨W.heap.size + 1 + 1, 1, none⟩ (.int .i64 0)).setCell ⟨W.heap.size + 1 + 1, 2, none⟩ (.int .i64 0)).setCell ⟨W.heap.size + 1 + 1, 3, none⟩ (.int .i64 0)).setCell ⟨W.heap.size + 1 + 1, 4, none⟩ (.int .i64 0)).setCell ⟨W.heap.size + 1 + 1, 5, none⟩ (.int .i64 0)).setCell ⟨W.heap.size + 1 + 1, 6, none⟩ (.int .i64 0)).setCell ⟨W.heap.size + 1 + 1, 7, none⟩ (.slice e1 e2 e3))).cell? ⟨W.heap.size + 1 + 1, 0, none⟩ = some (.int .i64 0) := cell_of_row _ _ 0 _ _ _ yq_.out
  have y1_ : (((((((((((((w3.alloc (.cells #[.int .i64 0, .int .i64 0, .int .i64 0, .int .i64 0, .int .i64 0, .int .i64 0, .int .i64 0, .slice e1 e2 e3] 29)).setCell ⟨W.heap.size + 1, 0, none⟩ (.int .i64 i0)).setCell ⟨W.heap.size + 1, 1, none⟩ (.slice d1 m1 k1)).setCell ⟨W.heap.size + 1, 2, none⟩ (.slice d2 m2 k2)).setCell ⟨W.heap.size + 1 + 1, 0, none⟩ (.int .i64 0)).setCell ⟨W.heap.size + 1 + 1, 1, none⟩ (.int .i64 0)).setCell ⟨W.heap.size + 1 + 1, 2, none⟩ (.int .i64 0)).setCell ⟨W.heap.size + 1 + 1, 3, none⟩ (.int .i64 0)).setCell ⟨W.heap.size + 1 + 1, 4, none⟩ (.int .i64 0)).setCell ⟨W.heap.size + 1 + 1, 5, none⟩ (.int .i64 0)).setCell ⟨W.heap.size + 1 + 1, 6, none⟩ (.int .i64 0)).setCell ⟨W.heap.size + 1 + 1, 7, none⟩ (.slice e1 e2 e3))).cell? ⟨W.heap.size + 1 + 1, 1, none⟩ = some (.int .i64 0) := cell_of_row _ _ 1 _ _ _ yq_.out
  have y2_ : (((((((((((((w3.alloc (.cells #[.int .i64 0, .int .i64 0, .int .i64 0, .int .i64 0, .int .i64 0, .int .i64 0, .int .i64 0, .slice e1 e2 e3] 29)).setCell ⟨W.heap.size + 1, 0, none⟩ (.int .i64 i0)).setCell ⟨W.heap.size + 1, 1, none⟩ (.slice d1 m1 k1)).setCell ⟨W.heap.size + 1, 2, none⟩ (.slice d2 m2 k2)).setCell ⟨W.heap.size + 1 + 1, 0, none⟩ (.int .i64 0)).setCell ⟨W.heap.size + 1 + 1, 1, none⟩ (.int .i64 0)).setCell ⟨W.heap.size + 1 + 1, 2, none⟩ (.int .i64 0)).setCell ⟨W.heap.size + 1 + 1, 3, none⟩ (.int .i64 0)).setCell ⟨W.heap.size + 1 + 1, 4, none⟩ (.int .i64 0)).setCell ⟨W.heap.size + 1 + 1, 5, none⟩ (.int .i64 0)).setCell ⟨W.heap.size + 1 + 1, 6, none⟩ (.int .i64 0)).setCell ⟨W.heap.size + 1 + 1, 7, none⟩ (.slice e1 e2 e3))).cell? ⟨W.heap.size + 1 + 1, 2, none⟩ = some (.int .i64 0) := cell_of_row _ _ 2 _ _ _ yq_.out
  have y3_ : (((((((((((((w3.alloc (.cells #[.int .i64 0, .int .i64 0, .int .i64 0, .int .i64 0, .int .i64 0, .int .i64 0, .int .i64 0, .slice e1 e2 e3] 29)).setCell ⟨W.heap.size + 1, 0, none⟩ (.int .i64 i0)).setCell ⟨W.heap.size + 1, 1, none⟩ (.slice d1 m1 k1)).setCell ⟨W.heap.size + 1, 2, none⟩ (.slice d2 m2 k2)).setCell ⟨W.heap.size + 1 + 1, 0, none⟩ (.int .i64 0)).setCell ⟨W.heap.size + 1 + 1, 1, none⟩ (.int .i64 0)).setCell ⟨W.heap.size + 1 + 1, 2, none⟩ (.int .i64 0)).setCell ⟨W.heap.size + 1 + 1, 3, none⟩ (.int .i64 0)).setCell ⟨W.heap.size + 1 + 1, 4, none⟩ (.int .i64 0)).setCell ⟨W.heap.size + 1 + 1, 5, none⟩ (.int .i64 0)).setCell ⟨W.heap.size + 1 + 1, 6, none⟩ (.int .i64 0)).setCell ⟨W.heap.size + 1 + 1, 7, none⟩ (.slice e1 e2 e3))).cell? ⟨W.heap.size + 1 + 1, 3, none⟩ = some (.int .i64 0) := cell_of_row _ _ 3 _ _ _ yq_.out
  have y4_ : (((((((((((((w3.alloc (.cells #[.int .i64 0, .int .i64 0, .int .i64 0, .int .i64 0, .int .i64 0, .int .i64 0, .int .i64 0, .slice e1 e2 e3] 29)).setCell ⟨W.heap.size + 1, 0, none⟩ (.int .i64 i0)).setCell ⟨W.heap.size + 1, 1, none⟩ (.slice d1 m1 k1)).setCell ⟨W.heap.size + 1, 2, none⟩ (.slice d2 m2 k2)).setCell ⟨W.heap.size + 1 + 1, 0, none⟩ (.int .i64 0)).setCell ⟨W.heap.size + 1 + 1, 1, none⟩ (.int .i64 0)).setCell ⟨W.heap.size + 1 + 1, 2, none⟩ (.int .i64 0)).setCell ⟨W.heap.size + 1 + 1, 3, none⟩ (.int .i64 0)).setCell ⟨W.heap.size + 1 + 1, 4, none⟩ (.int .i64 0)).setCell ⟨W.heap.size + 1 + 1, 5, none⟩ (.int .i64 0)).setCell ⟨W.heap.size + 1 + 1, 6, none⟩ (.int .i64 0)).setCell ⟨W.heap.size + 1 + 1, 7, none⟩ (.slice e1 e2 e3))).cell? ⟨W.heap.size + 1 + 1, 4, none⟩ = some (.int .i64 0) := cell_of_row _ _ 4 _ _ _ yq_.out
  have y5_ : (((((((((((((w3.alloc (.cells #[.int .i64 0, .int .i64 0, .int .i64 0, .int .i64 0, .int .i64 0, .int .i64 0, .int .i64 0, .slice e1 e2 e3] 29)).setCell ⟨W.heap.size + 1, 0, none⟩ (.int .i64 i0)).setCell ⟨W.heap.size + 1, 1, none⟩ (.slice d1 m1 k1)).setCell ⟨W.heap.size + 1, 2, none⟩ (.slice d2 m2 k2)).setCell ⟨W.heap.size + 1 + 1, 0, none⟩ (.int .i64 0)).setCell ⟨W.heap.size + 1 + 1, 1, none⟩ (.int .i64 0)).setCell ⟨W.heap.size + 1 + 1, 2, none⟩ (.int .i64 0)).setCell ⟨W.heap.size + 1 + 1, 3, none⟩ (.int .i64 0)).setCell ⟨W.heap.size + 1 + 1, 4, none⟩ (.int .i64 0)).setCell ⟨W.heap.size + 1 + 1, 5, none⟩ (.int .i64 0)).setCell ⟨W.heap.size + 1 + 1, 6, none⟩ (.int .i64 0)).setCell ⟨W.heap.size + 1 + 1, 7, none⟩ (.slice e1 e2 e3))).cell? ⟨W.heap.size + 1 + 1, 5, none⟩ = some (.int .i64 0) := cell_of_row _ _ 5 _ _ _ yq_.out
  have y6_ : (((((((((((((w3.alloc (.cells #[.int .i64 0, .int .i64 0, .int .i64 0, .int .i64 0, .int .i64 0, .int .i64 0, .int .i64 0, .slice e1 e2 e3] 29)).setCell ⟨W.heap.size + 1, 0, none⟩ (.int .i64 i0)).setCell ⟨W.heap.size + 1, 1, none⟩ (.slice d1 m1 k1)).setCell ⟨W.heap.size + 1, 2, none⟩ (.slice d2 m2 k2)).setCell ⟨W.heap.size + 1 + 1, 0, none⟩ (.int .i64 0)).setCell ⟨W.heap.size + 1 + 1, 1, none⟩ (.int .i64 0)).setCell ⟨W.heap.size + 1 + 1, 2, none⟩ (.int .i64 0)).setCell ⟨W.heap.size + 1 + 1, 3, none⟩ (.int .i64 0)).setCell ⟨W.heap.size + 1 + 1, 4, none⟩ (.int .i64 0)).setCell ⟨W.heap.size + 1 + 1, 5, none⟩ (.int .i64 0)).setCell ⟨W.heap.size + 1 + 1, 6, none⟩ (.int .i64 0)).setCell ⟨W.heap.size + 1 + 1, 7, none⟩ (.slice e1 e2 e3))).cell? ⟨W.heap.size + 1 + 1, 6, none⟩ = some (.int .i64 0) := cell_of_row _ _ 6 _ _ _ yq_.out
  have y7_ : (((((((((((((w3.alloc (.cells #[.int .i64 0, .int .i64 0, .int .i64 0, .int .i64 0, .int .i64 0, .int .i64 0, .int .i64 0, .slice e1 e2 e3] 29)).setCell ⟨W.heap.size + 1, 0, none⟩ (.int .i64 i0)).setCell ⟨W.heap.size + 1, 1, none⟩ (.slice d1 m1 k1)).setCell ⟨W.heap.size + 1, 2, none⟩ (.slice d2 m2 k2)).setCell ⟨W.heap.size + 1 + 1, 0, none⟩ (.int .i64 0)).setCell ⟨W.heap.size + 1 + 1, 1, none⟩ (.int .i64 0)).setCell ⟨W.heap.size + 1 + 1, 2, none⟩ (.int .i64 0)).setCell ⟨W.heap.size + 1 + 1, 3, none⟩ (.int .i64 0)).setCell ⟨W.heap.size + 1 + 1, 4, none⟩ (.int .i64 0)).setCell ⟨W.heap.size + 1 + 1, 5, none⟩ (.int .i64 0)).setCell ⟨W.heap.size + 1 + 1, 6, none⟩ (.int .i64 0)).setCell ⟨W.heap.size + 1 + 1, 7, none⟩ (.slice e1 e2 e3))).cell? ⟨W.heap.size + 1 + 1, 7, none⟩ = some (.slice e1 e2 e3) := cell_of_row _ _ 7 _ _ _ yq_.out
  go_wp2_with fail
  go_region_with (fail)
  all_goals
    go_wp2
    refine bodyPost_ret (v := .tuple #[.agg #[.int .i64 i0, .slice d1 m1 k1, .slice d2 m2 k2], .agg #[.int .i64 0, .int .i64 0, .int .i64 0, .int .i64 0, .int .i64 0, .int .i64 0, .int .i64 0, .slice e1 e2 e3], .bool true]) (by simp [results, go_sem, z0_, z1_, z2_, y0_, y1_, y2_, y3_, y4_, y5_, y6_, y7_]) rfl ⟨_, _, _, rfl, ?_, ?_⟩
    · exact OwU.wide (lo := (W.heap.size + 1 + 1 + 1)) (by omega) (by simp only [World.size_drew, World.size_setCell, World.size_alloc]; omega) (OwU.grow (OwU.keep (chg_one _ _ _ _) (by omega) (OwU.keep (chg_one _ _ _ _) (by omega) (OwU.keep (chg_one _ _ _ _) (by omega) (OwU.keep (chg_one _ _ _ _) (by omega) (OwU.keep (chg_one _ _ _ _) (by omega) (OwU.keep (chg_one _ _ _ _) (by omega) (OwU.keep (chg_one _ _ _ _) (by omega) (OwU.keep (chg_one _ _ _ _) (by omega) (OwU.keep (chg_one _ _ _ _) (by omega) (OwU.keep (chg_one _ _ _ _) (by omega) (OwU.keep (chg_one _ _ _ _) (by omega) oC32_.out))))))))))) (gby_drew (gby_refl _ _)))
    · exact gby_drew (gby_setnew (gby_setnew (gby_setnew (gby_setnew (gby_setnew (gby_setnew (gby_setnew (gby_setnew (gby_setnew (gby_setnew (gby_setnew G33_.out _ (by dsimp only; omega) _) _ (by dsimp only; omega) _) _ (by dsimp only; omega) _) _ (by dsimp only; omega) _) _ (by dsimp only; omega) _) _ (by dsimp only; omega) _) _ (by dsimp only; omega) _) _ (by dsimp only; omega) _) _ (by dsimp only; omega) _) _ (by dsimp only; omega) _) _ (by dsimp only; omega) _)

set_option maxRecDepth 8000 in
set_option maxHeartbeats 4000000 in
theorem implRaise_no (W : World) (i0 : Int) (v1 v2 : Value) (xs ys : List Bool) (H1 : RdL shB W v1 xs) (H2 : RdL shB W v2 ys) (hl1 : szL shB xs ≤ 1048576) (hl2 : szL shB ys ≤ 1048576) (id k : Int) (hb : VCall i0 xs ys id k) (hm : xs.getD k.toNat false = false) : Calls Try.prog 14 #[vVectors i0 v1 v2, .int .i64 id, .int .i64 k] W (ResIRaiseVector i0 xs ys 1 id 0 i0 0 0 0 [k] true W) := by
  have HOK := Lib.hid hb
  have hk_ := hb.2.2
  have h8_ := hb.1.1
  have hy_ := hb.1.2.1
  obtain ⟨kn, hkn⟩ : ∃ n : Nat, k = (n : Int) := ⟨k.toNat, by omega⟩
  subst hkn
  have hkx : kn < xs.length := by omega
  clear hb
  have HM := Lib.hid (show xs.getD kn false = false from by simpa using hm)
  clear hm
  have H1_ := Lib.hid H1
  have H2_ := Lib.hid H2
  obtain ⟨a1, n1, c1, rfl⟩ := RdL.form H1
  obtain ⟨a2, n2, c2, rfl⟩ := RdL.form H2
  clear H1 H2
  unfold vVectors
  go_enter Try.func14, Try.ntmps14
  have rA1_ := Lib.hid (show ((((W.alloc (.cells #[.int .i64 i0, .slice a1 n1 c1, .slice a2 n2 c2] 26)).alloc (.cells #[.int .i64 0, .slice none 0 0, .slice none 0 0] 26)).alloc (.cells #[.int .i64 0, .int .i64 0, .int .i64 0, .int .i64 0, .int .i64 0, .int .i64 0, .int .i64 0, .slice none 0 0] 29))).heap[W.heap.size]? = some (.cells #[.int .i64 i0, .slice a1 n1 c1, .slice a2 n2 c2] 26 (0, 0)) from by rw [heap_alloc_old _ _ (by simp only [World.size_alloc]; omega)]; rw [heap_alloc_old _ _ (by simp only [World.size_alloc]; omega)]; exact heap_alloc_new _ _)
  have rR2_ := Lib.hid (show ((((W.alloc (.cells #[.int .i64 i0, .slice a1 n1 c1, .slice a2 n2 c2] 26)).alloc (.cells #[.int .i64 0, .slice none 0 0, .slice none 0 0] 26)).alloc (.cells #[.int .i64 0, .int .i64 0, .int .i64 0, .int .i64 0, .int .i64 0, .int .i64 0, .int .i64 0, .slice none 0 0] 29))).heap[W.heap.size + 1]? = some (.cells #[.int .i64 0, .slice none 0 0, .slice none 0 0] 26 (0, 0)) from by rw [heap_alloc_old _ _ (by simp only [World.size_alloc]; omega)]; exact heap_pair _ _ _)
  have rQ3_ := Lib.hid (show ((((W.alloc (.cells #[.int .i64 i0, .slice a1 n1 c1, .slice a2 n2 c2] 26)).alloc (.cells #[.int .i64 0, .slice none 0 0, .slice none 0 0] 26)).alloc (.cells #[.int .i64 0, .int .i64 0, .int .i64 0, .int .i64 0, .int .i64 0, .int .i64 0, .int .i64 0, .slice none 0 0] 29))).heap[W.heap.size + 1 + 1]? = some (.cells #[.int .i64 0, .int .i64 0, .int .i64 0, .int .i64 0, .int .i64 0, .int .i64 0, .int .i64 0, .slice none 0 0] 29 (0, 0)) from by exact heap_trip _ _ _ _)
  have G4_ := Lib.hid (show (W).grownBy ((((W.alloc (.cells #[.int .i64 i0, .slice a1 n1 c1, .slice a2 n2 c2] 26)).alloc (.cells #[.int .i64 0, .slice none 0 0, .slice none 0 0] 26)).alloc (.cells #[.int .i64 0, .int .i64 0, .int .i64 0, .int .i64 0, .int .i64 0, .int .i64 0, .int .i64 0, .slice none 0 0] 29))) none from (gby_alloc (gby_alloc (gby_alloc (gby_refl _ _) _) _) _))
  have A_0_ : ((((W.alloc (.cells #[.int .i64 i0, .slice a1 n1 c1, .slice a2 n2 c2] 26)).alloc (.cells #[.int .i64 0, .slice none 0 0, .slice none 0 0] 26)).alloc (.cells #[.int .i64 0, .int .i64 0, .int .i64 0, .int .i64 0, .int .i64 0, .int .i64 0, .int .i64 0, .slice none 0 0] 29))).cell? ⟨W.heap.size, 0, none⟩ = some (.int .i64 i0) := cell_of_row _ _ 0 _ _ _ rA1_.out
  have A_1_ : ((((W.alloc (.cells #[.int .i64 i0, .slice a1 n1 c1, .slice a2 n2 c2] 26)).alloc (.cells #[.int .i64 0, .slice none 0 0, .slice none 0 0] 26)).alloc (.cells #[.int .i64 0, .int .i64 0, .int .i64 0, .int .i64 0, .int .i64 0, .int .i64 0, .int .i64 0, .slice none 0 0] 29))).cell? ⟨W.heap.size, 1, none⟩ = some (.slice a1 n1 c1) := cell_of_row _ _ 1 _ _ _ rA1_.out
  have A_2_ : ((((W.alloc (.cells #[.int .i64 i0, .slice a1 n1 c1, .slice a2 n2 c2] 26)).alloc (.cells #[.int .i64 0, .slice none 0 0, .slice none 0 0] 26)).alloc (.cells #[.int .i64 0, .int .i64 0, .int .i64 0, .int .i64 0, .int .i64 0, .int .i64 0, .int .i64 0, .slice none 0 0] 29))).cell? ⟨W.heap.size, 2, none⟩ = some (.slice a2 n2 c2) := cell_of_row _ _ 2 _ _ _ rA1_.out
  have R_0_ : ((((W.alloc (.cells #[.int .i64 i0, .slice a1 n1 c1, .slice a2 n2 c2] 26)).alloc (.cells #[.int .i64 0, .slice none 0 0, .slice none 0 0] 26)).alloc (.cells #[.int .i64 0, .int .i64 0, .int .i64 0, .int .i64 0, .int .i64 0, .int .i64 0, .int .i64 0, .slice none 0 0] 29))).cell? ⟨W.heap.size + 1, 0, none⟩ = some (.int .i64 0) := cell_of_row _ _ 0 _ _ _ rR2_.out
  have R_1_ : ((((W.alloc (.cells #[.int .i64 i0, .slice a1 n1 c1, .slice a2 n2 c2] 26)).alloc (.cells #[.int .i64 0, .slice none 0 0, .slice none 0 0] 26)).alloc (.cells #[.int .i64 0, .int .i64 0, .int .i64 0, .int .i64 0, .int .i64 0, .int .i64 0, .int .i64 0, .slice none 0 0] 29))).cell? ⟨W.heap.size + 1, 1, none⟩ = some (.slice none 0 0) := cell_of_row _ _ 1 _ _ _ rR2_.out
  have R_2_ : ((((W.alloc (.cells #[.int .i64 i0, .slice a1 n1 c1, .slice a2 n2 c2] 26)).alloc (.cells #[.int .i64 0, .slice none 0 0, .slice none 0 0] 26)).alloc (.cells #[.int .i64 0, .int .i64 0, .int .i64 0, .int .i64 0, .int .i64 0, .int .i64 0, .int .i64 0, .slice none 0 0] 29))).cell? ⟨W.heap.size + 1, 2, none⟩ = some (.slice none 0 0) := cell_of_row _ _ 2 _ _ _ rR2_.out
  have Q_0_ : ((((W.alloc (.cells #[.int .i64 i0, .slice a1 n1 c1, .slice a2 n2 c2] 26)).alloc (.cells #[.int .i64 0, .slice none 0 0, .slice none 0 0] 26)).alloc (.cells #[.int .i64 0, .int .i64 0, .int .i64 0, .int .i64 0, .int .i64 0, .int .i64 0, .int .i64 0, .slice none 0 0] 29))).cell? ⟨W.heap.size + 1 + 1, 0, none⟩ = some (.int .i64 0) := cell_of_row _ _ 0 _ _ _ rQ3_.out
  have Q_1_ : ((((W.alloc (.cells #[.int .i64 i0, .slice a1 n1 c1, .slice a2 n2 c2] 26)).alloc (.cells #[.int .i64 0, .slice none 0 0, .slice none 0 0] 26)).alloc (.cells #[.int .i64 0, .int .i64 0, .int .i64 0, .int .i64 0, .int .i64 0, .int .i64 0, .int .i64 0, .slice none 0 0] 29))).cell? ⟨W.heap.size + 1 + 1, 1, none⟩ = some (.int .i64 0) := cell_of_row _ _ 1 _ _ _ rQ3_.out
  have Q_2_ : ((((W.alloc (.cells #[.int .i64 i0, .slice a1 n1 c1, .slice a2 n2 c2] 26)).alloc (.cells #[.int .i64 0, .slice none 0 0, .slice none 0 0] 26)).alloc (.cells #[.int .i64 0, .int .i64 0, .int .i64 0, .int .i64 0, .int .i64 0, .int .i64 0, .int .i64 0, .slice none 0 0] 29))).cell? ⟨W.heap.size + 1 + 1, 2, none⟩ = some (.int .i64 0) := cell_of_row _ _ 2 _ _ _ rQ3_.out
  have Q_3_ : ((((W.alloc (.cells #[.int .i64 i0, .slice a1 n1 c1, .slice a2 n2 c2] 26)).alloc (.cells #[.int .i64 0, .slice none 0 0, .slice none 0 0] 26)).alloc (.cells #[.int .i64 0, .int .i64 0, .int .i64 0, .int .i64 0, .int .i64 0, .int .i64 0, .int .i64 0, .slice none 0 0] 29))).cell? ⟨W.heap.size + 1 + 1, 3, none⟩ = some (.int .i64 0) := cell_of_row _ _ 3 _ _ _ rQ3_.out
  have Q_4_ : ((((W.alloc (.cells #[.int .i64 i0, .slice a1 n1 c1, .slice a2 n2 c2] 26)).alloc (.cells #[.int .i64 0, .slice none 0 0, .slice none 0 0] 26)).alloc (.cells #[.int .i64 0, .int .i64 0, .int .i64 0, .int .i64 0, .int .i64 0, .int .i64 0, .int .i64 0, .slice none 0 0] 29))).cell? ⟨W.heap.size + 1 + 1, 4, none⟩ = some (.int .i64 0) := cell_of_row _ _ 4 _ _ _ rQ3_.out
  have Q_5_ : ((((W.alloc (.cells #[.int .i64 i0, .slice a1 n1 c1, .slice a2 n2 c2] 26)).alloc (.cells #[.int .i64 0, .slice none 0 0, .slice none 0 0] 26)).alloc (.cells #[.int .i64 0, .int .i64 0, .int .i64 0, .int .i64 0, .int .i64 0, .int .i64 0, .int .i64 0, .slice none 0 0] 29))).cell? ⟨W.heap.size + 1 + 1, 5, none⟩ = some (.int .i64 0) := cell_of_row _ _ 5 _ _ _ rQ3_.out
  have Q_6_ : ((((W.alloc (.cells #[.int .i64 i0, .slice a1 n1 c1, .slice a2 n2 c2] 26)).alloc (.cells #[.int .i64 0, .slice none 0 0, .slice none 0 0] 26)).alloc (.cells #[.int .i64 0, .int .i64 0, .int .i64 0, .int .i64 0, .int .i64 0, .int .i64 0, .int .i64 0, .slice none 0 0] 29))).cell? ⟨W.heap.size + 1 + 1, 6, none⟩ = some (.int .i64 0) := cell_of_row _ _ 6 _ _ _ rQ3_.out
  have Q_7_ : ((((W.alloc (.cells #[.int .i64 i0, .slice a1 n1 c1, .slice a2 n2 c2] 26)).alloc (.cells #[.int .i64 0, .slice none 0 0, .slice none 0 0] 26)).alloc (.cells #[.int .i64 0, .int .i64 0, .int .i64 0, .int .i64 0, .int .i64 0, .int .i64 0, .int .i64 0, .slice none 0 0] 29))).cell? ⟨W.heap.size + 1 + 1, 7, none⟩ = some (.slice none 0 0) := cell_of_row _ _ 7 _ _ _ rQ3_.out
  go_wp2_with fail
  go_at_call 63
  refine (copiedVec_d _ i0 _ _ xs ys (H1_.out.grow G4_.out) (H2_.out.grow G4_.out) hl1 hl2).mono ?_
  rintro e w1 ⟨x1, x2, rfl, o, g⟩
  have sz_ := g.size
  try simp only [World.size_alloc] at sz_ o
  clear A_0_ A_1_ A_2_ R_0_ R_1_ R_2_ Q_0_ Q_1_ Q_2_ Q_3_ Q_4_ Q_5_ Q_6_ Q_7_
  have rA5_ := Lib.hid (show (w1).heap[W.heap.size]? = some (.cells #[.int .i64 i0, .slice a1 n1 c1, .slice a2 n2 c2] 26 (0, 0)) from row_held g rA1_.out)
  clear rA1_
  have rR6_ := Lib.hid (show (w1).heap[W.heap.size + 1]? = some (.cells #[.int .i64 0, .slice none 0 0, .slice none 0 0] 26 (0, 0)) from row_held g rR2_.out)
  clear rR2_
  have rQ7_ := Lib.hid (show (w1).heap[W.heap.size + 1 + 1]? = some (.cells #[.int .i64 0, .int .i64 0, .int .i64 0, .int .i64 0, .int .i64 0, .int .i64 0, .int .i64 0, .slice none 0 0] 29 (0, 0)) from row_held g rQ3_.out)
  clear rQ3_
  have G8_ := Lib.hid (show (W).grownBy (w1) none from gby_trans G4_.out g)
  clear g
  obtain ⟨d1, m1, k1, hv_⟩ := RdL.form (OwU.rd o)
  subst hv_
  obtain ⟨d2, m2, k2, hv_⟩ := RdL.form (OwU.rd (OwU.tail o))
  subst hv_
  unfold vVectors
  have oC9_ := Lib.hid (show OwU (w1) ((W.heap.size + 1 + 1 + 1)) (w1.heap.size) [] [own shB (.slice d1 m1 k1) xs, own shB (.slice d2 m2 k2) ys] from o)
  clear o
  have al_ : (w1).grownBy ((w1).alloc (.cells #[.int .i32 0, .int .u32 0, .int .i64 i0, .slice d1 m1 k1, .slice d2 m2 k2] 92)) none := gby_alloc (gby_refl _ _) _
  have rA10_ := Lib.hid (show ((w1.alloc (.cells #[.int .i32 0, .int .u32 0, .int .i64 i0, .slice d1 m1 k1, .slice d2 m2 k2] 92))).heap[W.heap.size]? = some (.cells #[.int .i64 i0, .slice a1 n1 c1, .slice a2 n2 c2] 26 (0, 0)) from row_held al_ rA5_.out)
  clear rA5_
  have rR11_ := Lib.hid (show ((w1.alloc (.cells #[.int .i32 0, .int .u32 0, .int .i64 i0, .slice d1 m1 k1, .slice d2 m2 k2] 92))).heap[W.heap.size + 1]? = some (.cells #[.int .i64 0, .slice none 0 0, .slice none 0 0] 26 (0, 0)) from row_held al_ rR6_.out)
  clear rR6_
  have rQ12_ := Lib.hid (show ((w1.alloc (.cells #[.int .i32 0, .int .u32 0, .int .i64 i0, .slice d1 m1 k1, .slice d2 m2 k2] 92))).heap[W.heap.size + 1 + 1]? = some (.cells #[.int .i64 0, .int .i64 0, .int .i64 0, .int .i64 0, .int .i64 0, .int .i64 0, .int .i64 0, .slice none 0 0] 29 (0, 0)) from row_held al_ rQ7_.out)
  clear rQ7_
  have oC13_ := Lib.hid (show OwU ((w1.alloc (.cells #[.int .i32 0, .int .u32 0, .int .i64 i0, .slice d1 m1 k1, .slice d2 m2 k2] 92))) ((W.heap.size + 1 + 1 + 1)) (w1.heap.size) [] [own shB (.slice d1 m1 k1) xs, own shB (.slice d2 m2 k2) ys] from OwU.grow oC9_.out al_)
  clear oC9_
  have G14_ := Lib.hid (show (W).grownBy ((w1.alloc (.cells #[.int .i32 0, .int .u32 0, .int .i64 i0, .slice d1 m1 k1, .slice d2 m2 k2] 92))) none from gby_trans G8_.out al_)
  have rX15_ := Lib.hid (show ((w1.alloc (.cells #[.int .i32 0, .int .u32 0, .int .i64 i0, .slice d1 m1 k1, .slice d2 m2 k2] 92))).heap[w1.heap.size]? = some (.cells #[.int .i32 0, .int .u32 0, .int .i64 i0, .slice d1 m1 k1, .slice d2 m2 k2] 92 (0, 0)) from by first | exact heap_alloc_new _ _ | exact heap_pair _ _ _ | exact heap_trip _ _ _ _)
  clear al_
  have A_0_ : ((w1.alloc (.cells #[.int .i32 0, .int .u32 0, .int .i64 i0, .slice d1 m1 k1, .slice d2 m2 k2] 92))).cell? ⟨W.heap.size, 0, none⟩ = some (.int .i64 i0) := cell_of_row _ _ 0 _ _ _ rA10_.out
  have A_1_ : ((w1.alloc (.cells #[.int .i32 0, .int .u32 0, .int .i64 i0, .slice d1 m1 k1, .slice d2 m2 k2] 92))).cell? ⟨W.heap.size, 1, none⟩ = some (.slice a1 n1 c1) := cell_of_row _ _ 1 _ _ _ rA10_.out
  have A_2_ : ((w1.alloc (.cells #[.int .i32 0, .int .u32 0, .int .i64 i0, .slice d1 m1 k1, .slice d2 m2 k2] 92))).cell? ⟨W.heap.size, 2, none⟩ = some (.slice a2 n2 c2) := cell_of_row _ _ 2 _ _ _ rA10_.out
  have R_0_ : ((w1.alloc (.cells #[.int .i32 0, .int .u32 0, .int .i64 i0, .slice d1 m1 k1, .slice d2 m2 k2] 92))).cell? ⟨W.heap.size + 1, 0, none⟩ = some (.int .i64 0) := cell_of_row _ _ 0 _ _ _ rR11_.out
  have R_1_ : ((w1.alloc (.cells #[.int .i32 0, .int .u32 0, .int .i64 i0, .slice d1 m1 k1, .slice d2 m2 k2] 92))).cell? ⟨W.heap.size + 1, 1, none⟩ = some (.slice none 0 0) := cell_of_row _ _ 1 _ _ _ rR11_.out
  have R_2_ : ((w1.alloc (.cells #[.int .i32 0, .int .u32 0, .int .i64 i0, .slice d1 m1 k1, .slice d2 m2 k2] 92))).cell? ⟨W.heap.size + 1, 2, none⟩ = some (.slice none 0 0) := cell_of_row _ _ 2 _ _ _ rR11_.out
  have Q_0_ : ((w1.alloc (.cells #[.int .i32 0, .int .u32 0, .int .i64 i0, .slice d1 m1 k1, .slice d2 m2 k2] 92))).cell? ⟨W.heap.size + 1 + 1, 0, none⟩ = some (.int .i64 0) := cell_of_row _ _ 0 _ _ _ rQ12_.out
  have Q_1_ : ((w1.alloc (.cells #[.int .i32 0, .int .u32 0, .int .i64 i0, .slice d1 m1 k1, .slice d2 m2 k2] 92))).cell? ⟨W.heap.size + 1 + 1, 1, none⟩ = some (.int .i64 0) := cell_of_row _ _ 1 _ _ _ rQ12_.out
  have Q_2_ : ((w1.alloc (.cells #[.int .i32 0, .int .u32 0, .int .i64 i0, .slice d1 m1 k1, .slice d2 m2 k2] 92))).cell? ⟨W.heap.size + 1 + 1, 2, none⟩ = some (.int .i64 0) := cell_of_row _ _ 2 _ _ _ rQ12_.out
  have Q_3_ : ((w1.alloc (.cells #[.int .i32 0, .int .u32 0, .int .i64 i0, .slice d1 m1 k1, .slice d2 m2 k2] 92))).cell? ⟨W.heap.size + 1 + 1, 3, none⟩ = some (.int .i64 0) := cell_of_row _ _ 3 _ _ _ rQ12_.out
  have Q_4_ : ((w1.alloc (.cells #[.int .i32 0, .int .u32 0, .int .i64 i0, .slice d1 m1 k1, .slice d2 m2 k2] 92))).cell? ⟨W.heap.size + 1 + 1, 4, none⟩ = some (.int .i64 0) := cell_of_row _ _ 4 _ _ _ rQ12_.out
  have Q_5_ : ((w1.alloc (.cells #[.int .i32 0, .int .u32 0, .int .i64 i0, .slice d1 m1 k1, .slice d2 m2 k2] 92))).cell? ⟨W.heap.size + 1 + 1, 5, none⟩ = some (.int .i64 0) := cell_of_row _ _ 5 _ _ _ rQ12_.out
  have Q_6_ : ((w1.alloc (.cells #[.int .i32 0, .int .u32 0, .int .i64 i0, .slice d1 m1 k1, .slice d2 m2 k2] 92))).cell? ⟨W.heap.size + 1 + 1, 6, none⟩ = some (.int .i64 0) := cell_of_row _ _ 6 _ _ _ rQ12_.out
  have Q_7_ : ((w1.alloc (.cells #[.int .i32 0, .int .u32 0, .int .i64 i0, .slice d1 m1 k1, .slice d2 m2 k2] 92))).cell? ⟨W.heap.size + 1 + 1, 7, none⟩ = some (.slice none 0 0) := cell_of_row _ _ 7 _ _ _ rQ12_.out
  have X_0_ : ((w1.alloc (.cells #[.int .i32 0, .int .u32 0, .int .i64 i0, .slice d1 m1 k1, .slice d2 m2 k2] 92))).cell? ⟨w1.heap.size, 0, none⟩ = some (.int .i32 0) := cell_of_row _ _ 0 _ _ _ rX15_.out
  have X_1_ : ((w1.alloc (.cells #[.int .i32 0, .int .u32 0, .int .i64 i0, .slice d1 m1 k1, .slice d2 m2 k2] 92))).cell? ⟨w1.heap.size, 1, none⟩ = some (.int .u32 0) := cell_of_row _ _ 1 _ _ _ rX15_.out
  have X_2_ : ((w1.alloc (.cells #[.int .i32 0, .int .u32 0, .int .i64 i0, .slice d1 m1 k1, .slice d2 m2 k2] 92))).cell? ⟨w1.heap.size, 2, none⟩ = some (.int .i64 i0) := cell_of_row _ _ 2 _ _ _ rX15_.out
  have X_3_ : ((w1.alloc (.cells #[.int .i32 0, .int .u32 0, .int .i64 i0, .slice d1 m1 k1, .slice d2 m2 k2] 92))).cell? ⟨w1.heap.size, 3, none⟩ = some (.slice d1 m1 k1) := cell_of_row _ _ 3 _ _ _ rX15_.out
  have X_4_ : ((w1.alloc (.cells #[.int .i32 0, .int .u32 0, .int .i64 i0, .slice d1 m1 k1, .slice d2 m2 k2] 92))).cell? ⟨w1.heap.size, 4, none⟩ = some (.slice d2 m2 k2) := cell_of_row _ _ 4 _ _ _ rX15_.out
  go_wp2_with fail
  go_at_call 64
  refine (((implVCall _ i0 _ _ xs ys id (kn : Int) (H1_.out.grow G14_.out) (H2_.out.grow G14_.out)).mono (bpost_yes HOK.out))).mono ?_
  rintro e w2 ⟨rfl, g⟩
  have szw2 := g.size
  try simp only [World.size_alloc] at szw2
  try simp only [World.size_setCell] at szw2
  clear A_0_ A_1_ A_2_ R_0_ R_1_ R_2_ Q_0_ Q_1_ Q_2_ Q_3_ Q_4_ Q_5_ Q_6_ Q_7_ X_0_ X_1_ X_2_ X_3_ X_4_
  have rA16_ := Lib.hid (show (w2).heap[W.heap.size]? = some (.cells #[.int .i64 i0, .slice a1 n1 c1, .slice a2 n2 c2] 26 (0, 0)) from row_held g rA10_.out)
  clear rA10_
  have rR17_ := Lib.hid (show (w2).heap[W.heap.size + 1]? = some (.cells #[.int .i64 0, .slice none 0 0, .slice none 0 0] 26 (0, 0)) from row_held g rR11_.out)
  clear rR11_
  have rQ18_ := Lib.hid (show (w2).heap[W.heap.size + 1 + 1]? = some (.cells #[.int .i64 0, .int .i64 0, .int .i64 0, .int .i64 0, .int .i64 0, .int .i64 0, .int .i64 0, .slice none 0 0] 29 (0, 0)) from row_held g rQ12_.out)
  clear rQ12_
  have rX19_ := Lib.hid (show (w2).heap[w1.heap.size]? = some (.cells #[.int .i32 0, .int .u32 0, .int .i64 i0, .slice d1 m1 k1, .slice d2 m2 k2] 92 (0, 0)) from row_held g rX15_.out)
  clear rX15_
  have oC20_ := Lib.hid (show OwU (w2) ((W.heap.size + 1 + 1 + 1)) (w1.heap.size) [] [own shB (.slice d1 m1 k1) xs, own shB (.slice d2 m2 k2) ys] from OwU.grow oC13_.out g)
  clear oC13_
  have G21_ := Lib.hid (show (W).grownBy (w2) none from gby_trans G14_.out g)
  clear g
  have A_0_ : (w2).cell? ⟨W.heap.size, 0, none⟩ = some (.int .i64 i0) := cell_of_row _ _ 0 _ _ _ rA16_.out
  have A_1_ : (w2).cell? ⟨W.heap.size, 1, none⟩ = some (.slice a1 n1 c1) := cell_of_row _ _ 1 _ _ _ rA16_.out
  have A_2_ : (w2).cell? ⟨W.heap.size, 2, none⟩ = some (.slice a2 n2 c2) := cell_of_row _ _ 2 _ _ _ rA16_.out
  have R_0_ : (w2).cell? ⟨W.heap.size + 1, 0, none⟩ = some (.int .i64 0) := cell_of_row _ _ 0 _ _ _ rR17_.out
  have R_1_ : (w2).cell? ⟨W.heap.size + 1, 1, none⟩ = some (.slice none 0 0) := cell_of_row _ _ 1 _ _ _ rR17_.out
  have R_2_ : (w2).cell? ⟨W.heap.size + 1, 2, none⟩ = some (.slice none 0 0) := cell_of_row _ _ 2 _ _ _ rR17_.out
  have Q_0_ : (w2).cell? ⟨W.heap.size + 1 + 1, 0, none⟩ = some (.int .i64 0) := cell_of_row _ _ 0 _ _ _ rQ18_.out
  have Q_1_ : (w2).cell? ⟨W.heap.size + 1 + 1, 1, none⟩ = some (.int .i64 0) := cell_of_row _ _ 1 _ _ _ rQ18_.out
  have Q_2_ : (w2).cell? ⟨W.heap.size + 1 + 1, 2, none⟩ = some (.int .i64 0) := cell_of_row _ _ 2 _ _ _ rQ18_.out
  have Q_3_ : (w2).cell? ⟨W.heap.size + 1 + 1, 3, none⟩ = some (.int .i64 0) := cell_of_row _ _ 3 _ _ _ rQ18_.out
  have Q_4_ : (w2).cell? ⟨W.heap.size + 1 + 1, 4, none⟩ = some (.int .i64 0) := cell_of_row _ _ 4 _ _ _ rQ18_.out
  have Q_5_ : (w2).cell? ⟨W.heap.size + 1 + 1, 5, none⟩ = some (.int .i64 0) := cell_of_row _ _ 5 _ _ _ rQ18_.out
  have Q_6_ : (w2).cell? ⟨W.heap.size + 1 + 1, 6, none⟩ = some (.int .i64 0) := cell_of_row _ _ 6 _ _ _ rQ18_.out
  have Q_7_ : (w2).cell? ⟨W.heap.size + 1 + 1, 7, none⟩ = some (.slice none 0 0) := cell_of_row _ _ 7 _ _ _ rQ18_.out
  have X_0_ : (w2).cell? ⟨w1.heap.size, 0, none⟩ = some (.int .i32 0) := cell_of_row _ _ 0 _ _ _ rX19_.out
  have X_1_ : (w2).cell? ⟨w1.heap.size, 1, none⟩ = some (.int .u32 0) := cell_of_row _ _ 1 _ _ _ rX19_.out
  have X_2_ : (w2).cell? ⟨w1.heap.size, 2, none⟩ = some (.int .i64 i0) := cell_of_row _ _ 2 _ _ _ rX19_.out
  have X_3_ : (w2).cell? ⟨w1.heap.size, 3, none⟩ = some (.slice d1 m1 k1) := cell_of_row _ _ 3 _ _ _ rX19_.out
  have X_4_ : (w2).cell? ⟨w1.heap.size, 4, none⟩ = some (.slice d2 m2 k2) := cell_of_row _ _ 4 _ _ _ rX19_.out
  clear A_0_ A_1_ A_2_ R_0_ R_1_ R_2_ Q_0_ Q_1_ Q_2_ Q_3_ Q_4_ Q_5_ Q_6_ Q_7_ X_0_ X_1_ X_2_ X_3_ X_4_
  go_wp2_with fail
  go_at_call 65
  refine (raise_no _ w1.heap.size (W.heap.size + 1 + 1 + 1) kn i0 id _ _ xs ys rX19_.out (OwU.wide (Nat.le_refl _) (by omega) oC20_.out) hkx (by omega) hy_ HM.out).mono ?_
  rintro e w3 ⟨x3, rfl, o, hrow, o3, gc⟩
  have gg_ : (w2).heap.size ≤ w3.heap.size := gc.size
  try simp only [World.size_alloc] at gg_
  obtain ⟨e1, e2, e3, hv_⟩ := RdL.form (OwU.rd o3)
  subst hv_
  unfold vPacket
  have NA_ := Lib.hid (show w3.heap[W.heap.size]? = some (.cells #[.int .i64 i0, .slice a1 n1 c1, .slice a2 n2 c2] 26 (0, 0)) from Chg.keep gc rA16_.out (by omega))
  have NR_ := Lib.hid (show w3.heap[W.heap.size + 1]? = some (.cells #[.int .i64 0, .slice none 0 0, .slice none 0 0] 26 (0, 0)) from Chg.keep gc rR17_.out (by omega))
  have NQ_ := Lib.hid (show w3.heap[W.heap.size + 1 + 1]? = some (.cells #[.int .i64 0, .int .i64 0, .int .i64 0, .int .i64 0, .int .i64 0, .int .i64 0, .int .i64 0, .slice none 0 0] 29 (0, 0)) from Chg.keep gc rQ18_.out (by omega))
  have NX_ := Lib.hid hrow
  have NO_ := Lib.hid (show OwU w3 (W.heap.size + 1 + 1 + 1) w3.heap.size [] [own shB (.slice d1 m1 k1) xs, own shB (.slice d2 m2 k2) ys, own shI (.slice e1 e2 e3) [(kn : Int)]] from OwU.app (ps := [own shB (.slice d1 m1 k1) xs, own shB (.slice d2 m2 k2) ys]) (qs := [own shI (.slice e1 e2 e3) [(kn : Int)]]) (by omega) (by omega) o (OwU.wide (lo := (w2).heap.size) (by (try simp only [World.size_alloc]); omega) (Nat.le_refl _) o3))
  have NG_ := Lib.hid (show W.grownBy w3 none from gby_chg G21_.out gc (by omega))
  have hgl_ : w1.heap.size < w3.heap.size := lt_of_block hrow
  clear hrow o o3 gc
  clear rA16_
  clear rR17_
  clear rQ18_
  clear rX19_
  clear oC20_
  have G22_ := Lib.hid (show (W).grownBy (w3) none from NG_.out)
  have rA23_ := Lib.hid (show (w3).heap[W.heap.size]? = some (.cells #[.int .i64 i0, .slice a1 n1 c1, .slice a2 n2 c2] 26 (0, 0)) from NA_.out)
  have rR24_ := Lib.hid (show (w3).heap[W.heap.size + 1]? = some (.cells #[.int .i64 0, .slice none 0 0, .slice none 0 0] 26 (0, 0)) from NR_.out)
  have rQ25_ := Lib.hid (show (w3).heap[W.heap.size + 1 + 1]? = some (.cells #[.int .i64 0, .int .i64 0, .int .i64 0, .int .i64 0, .int .i64 0, .int .i64 0, .int .i64 0, .slice none 0 0] 29 (0, 0)) from NQ_.out)
  have rX26_ := Lib.hid (show (w3).heap[w1.heap.size]? = some (.cells #[.int .i32 0, .int .u32 0, .int .i64 i0, .slice d1 m1 k1, .slice d2 m2 k2] 92 (0, 0)) from NX_.out)
  have oC27_ := Lib.hid (show OwU (w3) ((W.heap.size + 1 + 1 + 1)) (w3.heap.size) [] [own shB (.slice d1 m1 k1) xs, own shB (.slice d2 m2 k2) ys, own shI (.slice e1 e2 e3) [(kn : Int)]] from NO_.out)
  have A_0_ : (w3).cell? ⟨W.heap.size, 0, none⟩ = some (.int .i64 i0) := cell_of_row _ _ 0 _ _ _ rA23_.out
  have A_1_ : (w3).cell? ⟨W.heap.size, 1, none⟩ = some (.slice a1 n1 c1) := cell_of_row _ _ 1 _ _ _ rA23_.out
  have A_2_ : (w3).cell? ⟨W.heap.size, 2, none⟩ = some (.slice a2 n2 c2) := cell_of_row _ _ 2 _ _ _ rA23_.out
  have R_0_ : (w3).cell? ⟨W.heap.size + 1, 0, none⟩ = some (.int .i64 0) := cell_of_row _ _ 0 _ _ _ rR24_.out
  have R_1_ : (w3).cell? ⟨W.heap.size + 1, 1, none⟩ = some (.slice none 0 0) := cell_of_row _ _ 1 _ _ _ rR24_.out
  have R_2_ : (w3).cell? ⟨W.heap.size + 1, 2, none⟩ = some (.slice none 0 0) := cell_of_row _ _ 2 _ _ _ rR24_.out
  have Q_0_ : (w3).cell? ⟨W.heap.size + 1 + 1, 0, none⟩ = some (.int .i64 0) := cell_of_row _ _ 0 _ _ _ rQ25_.out
  have Q_1_ : (w3).cell? ⟨W.heap.size + 1 + 1, 1, none⟩ = some (.int .i64 0) := cell_of_row _ _ 1 _ _ _ rQ25_.out
  have Q_2_ : (w3).cell? ⟨W.heap.size + 1 + 1, 2, none⟩ = some (.int .i64 0) := cell_of_row _ _ 2 _ _ _ rQ25_.out
  have Q_3_ : (w3).cell? ⟨W.heap.size + 1 + 1, 3, none⟩ = some (.int .i64 0) := cell_of_row _ _ 3 _ _ _ rQ25_.out
  have Q_4_ : (w3).cell? ⟨W.heap.size + 1 + 1, 4, none⟩ = some (.int .i64 0) := cell_of_row _ _ 4 _ _ _ rQ25_.out
  have Q_5_ : (w3).cell? ⟨W.heap.size + 1 + 1, 5, none⟩ = some (.int .i64 0) := cell_of_row _ _ 5 _ _ _ rQ25_.out
  have Q_6_ : (w3).cell? ⟨W.heap.size + 1 + 1, 6, none⟩ = some (.int .i64 0) := cell_of_row _ _ 6 _ _ _ rQ25_.out
  have Q_7_ : (w3).cell? ⟨W.heap.size + 1 + 1, 7, none⟩ = some (.slice none 0 0) := cell_of_row _ _ 7 _ _ _ rQ25_.out
  have X_0_ : (w3).cell? ⟨w1.heap.size, 0, none⟩ = some (.int .i32 0) := cell_of_row _ _ 0 _ _ _ rX26_.out
  have X_1_ : (w3).cell? ⟨w1.heap.size, 1, none⟩ = some (.int .u32 0) := cell_of_row _ _ 1 _ _ _ rX26_.out
  have X_2_ : (w3).cell? ⟨w1.heap.size, 2, none⟩ = some (.int .i64 i0) := cell_of_row _ _ 2 _ _ _ rX26_.out
  have X_3_ : (w3).cell? ⟨w1.heap.size, 3, none⟩ = some (.slice d1 m1 k1) := cell_of_row _ _ 3 _ _ _ rX26_.out
  have X_4_ : (w3).cell? ⟨w1.heap.size, 4, none⟩ = some (.slice d2 m2 k2) := cell_of_row _ _ 4 _ _ _ rX26_.out
  clear A_0_ A_1_ A_2_ R_0_ R_1_ R_2_ Q_0_ Q_1_ Q_2_ Q_3_ Q_4_ Q_5_ Q_6_ Q_7_ X_0_ X_1_ X_2_ X_3_ X_4_
  have al_ : (w3).grownBy ((w3).alloc (.cells #[.int .i64 1, .int .i64 id, .int .i64 0, .int .i64 i0, .int .i64 0, .int .i64 0, .int .i64 0, .slice e1 e2 e3] 29)) none := gby_alloc (gby_refl _ _) _
  have rA28_ := Lib.hid (show ((w3.alloc (.cells #[.int .i64 1, .int .i64 id, .int .i64 0, .int .i64 i0, .int .i64 0, .int .i64 0, .int .i64 0, .slice e1 e2 e3] 29))).heap[W.heap.size]? = some (.cells #[.int .i64 i0, .slice a1 n1 c1, .slice a2 n2 c2] 26 (0, 0)) from row_held al_ rA23_.out)
  clear rA23_
  have rR29_ := Lib.hid (show ((w3.alloc (.cells #[.int .i64 1, .int .i64 id, .int .i64 0, .int .i64 i0, .int .i64 0, .int .i64 0, .int .i64 0, .slice e1 e2 e3] 29))).heap[W.heap.size + 1]? = some (.cells #[.int .i64 0, .slice none 0 0, .slice none 0 0] 26 (0, 0)) from row_held al_ rR24_.out)
  clear rR24_
  have rQ30_ := Lib.hid (show ((w3.alloc (.cells #[.int .i64 1, .int .i64 id, .int .i64 0, .int .i64 i0, .int .i64 0, .int .i64 0, .int .i64 0, .slice e1 e2 e3] 29))).heap[W.heap.size + 1 + 1]? = some (.cells #[.int .i64 0, .int .i64 0, .int .i64 0, .int .i64 0, .int .i64 0, .int .i64 0, .int .i64 0, .slice none 0 0] 29 (0, 0)) from row_held al_ rQ25_.out)
  clear rQ25_
  have rX31_ := Lib.hid (show ((w3.alloc (.cells #[.int .i64 1, .int .i64 id, .int .i64 0, .int .i64 i0, .int .i64 0, .int .i64 0, .int .i64 0, .slice e1 e2 e3] 29))).heap[w1.heap.size]? = some (.cells #[.int .i32 0, .int .u32 0, .int .i64 i0, .slice d1 m1 k1, .slice d2 m2 k2] 92 (0, 0)) from row_held al_ rX26_.out)
  clear rX26_
  have oC32_ := Lib.hid (show OwU ((w3.alloc (.cells #[.int .i64 1, .int .i64 id, .int .i64 0, .int .i64 i0, .int .i64 0, .int .i64 0, .int .i64 0, .slice e1 e2 e3] 29))) ((W.heap.size + 1 + 1 + 1)) (w3.heap.size) [] [own shB (.slice d1 m1 k1) xs, own shB (.slice d2 m2 k2) ys, own shI (.slice e1 e2 e3) [(kn : Int)]] from OwU.grow oC27_.out al_)
  clear oC27_
  have G33_ := Lib.hid (show (W).grownBy ((w3.alloc (.cells #[.int .i64 1, .int .i64 id, .int .i64 0, .int .i64 i0, .int .i64 0, .int .i64 0, .int .i64 0, .slice e1 e2 e3] 29))) none from gby_trans G22_.out al_)
  have rK34_ := Lib.hid (show ((w3.alloc (.cells #[.int .i64 1, .int .i64 id, .int .i64 0, .int .i64 i0, .int .i64 0, .int .i64 0, .int .i64 0, .slice e1 e2 e3] 29))).heap[w3.heap.size]? = some (.cells #[.int .i64 1, .int .i64 id, .int .i64 0, .int .i64 i0, .int .i64 0, .int .i64 0, .int .i64 0, .slice e1 e2 e3] 29 (0, 0)) from by first | exact heap_alloc_new _ _ | exact heap_pair _ _ _ | exact heap_trip _ _ _ _)
  clear al_
  have A_0_ : ((w3.alloc (.cells #[.int .i64 1, .int .i64 id, .int .i64 0, .int .i64 i0, .int .i64 0, .int .i64 0, .int .i64 0, .slice e1 e2 e3] 29))).cell? ⟨W.heap.size, 0, none⟩ = some (.int .i64 i0) := cell_of_row _ _ 0 _ _ _ rA28_.out
  have A_1_ : ((w3.alloc (.cells #[.int .i64 1, .int .i64 id, .int .i64 0, .int .i64 i0, .int .i64 0, .int .i64 0, .int .i64 0, .slice e1 e2 e3] 29))).cell? ⟨W.heap.size, 1, none⟩ = some (.slice a1 n1 c1) := cell_of_row _ _ 1 _ _ _ rA28_.out
  have A_2_ : ((w3.alloc (.cells #[.int .i64 1, .int .i64 id, .int .i64 0, .int .i64 i0, .int .i64 0, .int .i64 0, .int .i64 0, .slice e1 e2 e3] 29))).cell? ⟨W.heap.size, 2, none⟩ = some (.slice a2 n2 c2) := cell_of_row _ _ 2 _ _ _ rA28_.out
  have R_0_ : ((w3.alloc (.cells #[.int .i64 1, .int .i64 id, .int .i64 0, .int .i64 i0, .int .i64 0, .int .i64 0, .int .i64 0, .slice e1 e2 e3] 29))).cell? ⟨W.heap.size + 1, 0, none⟩ = some (.int .i64 0) := cell_of_row _ _ 0 _ _ _ rR29_.out
  have R_1_ : ((w3.alloc (.cells #[.int .i64 1, .int .i64 id, .int .i64 0, .int .i64 i0, .int .i64 0, .int .i64 0, .int .i64 0, .slice e1 e2 e3] 29))).cell? ⟨W.heap.size + 1, 1, none⟩ = some (.slice none 0 0) := cell_of_row _ _ 1 _ _ _ rR29_.out
  have R_2_ : ((w3.alloc (.cells #[.int .i64 1, .int .i64 id, .int .i64 0, .int .i64 i0, .int .i64 0, .int .i64 0, .int .i64 0, .slice e1 e2 e3] 29))).cell? ⟨W.heap.size + 1, 2, none⟩ = some (.slice none 0 0) := cell_of_row _ _ 2 _ _ _ rR29_.out
  have Q_0_ : ((w3.alloc (.cells #[.int .i64 1, .int .i64 id, .int .i64 0, .int .i64 i0, .int .i64 0, .int .i64 0, .int .i64 0, .slice e1 e2 e3] 29))).cell? ⟨W.heap.size + 1 + 1, 0, none⟩ = some (.int .i64 0) := cell_of_row _ _ 0 _ _ _ rQ30_.out
  have Q_1_ : ((w3.alloc (.cells #[.int .i64 1, .int .i64 id, .int .i64 0, .int .i64 i0, .int .i64 0, .int .i64 0, .int .i64 0, .slice e1 e2 e3] 29))).cell? ⟨W.heap.size + 1 + 1, 1, none⟩ = some (.int .i64 0) := cell_of_row _ _ 1 _ _ _ rQ30_.out
  have Q_2_ : ((w3.alloc (.cells #[.int .i64 1, .int .i64 id, .int .i64 0, .int .i64 i0, .int .i64 0, .int .i64 0, .int .i64 0, .slice e1 e2 e3] 29))).cell? ⟨W.heap.size + 1 + 1, 2, none⟩ = some (.int .i64 0) := cell_of_row _ _ 2 _ _ _ rQ30_.out
  have Q_3_ : ((w3.alloc (.cells #[.int .i64 1, .int .i64 id, .int .i64 0, .int .i64 i0, .int .i64 0, .int .i64 0, .int .i64 0, .slice e1 e2 e3] 29))).cell? ⟨W.heap.size + 1 + 1, 3, none⟩ = some (.int .i64 0) := cell_of_row _ _ 3 _ _ _ rQ30_.out
  have Q_4_ : ((w3.alloc (.cells #[.int .i64 1, .int .i64 id, .int .i64 0, .int .i64 i0, .int .i64 0, .int .i64 0, .int .i64 0, .slice e1 e2 e3] 29))).cell? ⟨W.heap.size + 1 + 1, 4, none⟩ = some (.int .i64 0) := cell_of_row _ _ 4 _ _ _ rQ30_.out
  have Q_5_ : ((w3.alloc (.cells #[.int .i64 1, .int .i64 id, .int .i64 0, .int .i64 i0, .int .i64 0, .int .i64 0, .int .i64 0, .slice e1 e2 e3] 29))).cell? ⟨W.heap.size + 1 + 1, 5, none⟩ = some (.int .i64 0) := cell_of_row _ _ 5 _ _ _ rQ30_.out
  have Q_6_ : ((w3.alloc (.cells #[.int .i64 1, .int .i64 id, .int .i64 0, .int .i64 i0, .int .i64 0, .int .i64 0, .int .i64 0, .slice e1 e2 e3] 29))).cell? ⟨W.heap.size + 1 + 1, 6, none⟩ = some (.int .i64 0) := cell_of_row _ _ 6 _ _ _ rQ30_.out
  have Q_7_ : ((w3.alloc (.cells #[.int .i64 1, .int .i64 id, .int .i64 0, .int .i64 i0, .int .i64 0, .int .i64 0, .int .i64 0, .slice e1 e2 e3] 29))).cell? ⟨W.heap.size + 1 + 1, 7, none⟩ = some (.slice none 0 0) := cell_of_row _ _ 7 _ _ _ rQ30_.out
  have X_0_ : ((w3.alloc (.cells #[.int .i64 1, .int .i64 id, .int .i64 0, .int .i64 i0, .int .i64 0, .int .i64 0, .int .i64 0, .slice e1 e2 e3] 29))).cell? ⟨w1.heap.size, 0, none⟩ = some (.int .i32 0) := cell_of_row _ _ 0 _ _ _ rX31_.out
  have X_1_ : ((w3.alloc (.cells #[.int .i64 1, .int .i64 id, .int .i64 0, .int .i64 i0, .int .i64 0, .int .i64 0, .int .i64 0, .slice e1 e2 e3] 29))).cell? ⟨w1.heap.size, 1, none⟩ = some (.int .u32 0) := cell_of_row _ _ 1 _ _ _ rX31_.out
  have X_2_ : ((w3.alloc (.cells #[.int .i64 1, .int .i64 id, .int .i64 0, .int .i64 i0, .int .i64 0, .int .i64 0, .int .i64 0, .slice e1 e2 e3] 29))).cell? ⟨w1.heap.size, 2, none⟩ = some (.int .i64 i0) := cell_of_row _ _ 2 _ _ _ rX31_.out
  have X_3_ : ((w3.alloc (.cells #[.int .i64 1, .int .i64 id, .int .i64 0, .int .i64 i0, .int .i64 0, .int .i64 0, .int .i64 0, .slice e1 e2 e3] 29))).cell? ⟨w1.heap.size, 3, none⟩ = some (.slice d1 m1 k1) := cell_of_row _ _ 3 _ _ _ rX31_.out
  have X_4_ : ((w3.alloc (.cells #[.int .i64 1, .int .i64 id, .int .i64 0, .int .i64 i0, .int .i64 0, .int .i64 0, .int .i64 0, .slice e1 e2 e3] 29))).cell? ⟨w1.heap.size, 4, none⟩ = some (.slice d2 m2 k2) := cell_of_row _ _ 4 _ _ _ rX31_.out
  have K_0_ : ((w3.alloc (.cells #[.int .i64 1, .int .i64 id, .int .i64 0, .int .i64 i0, .int .i64 0, .int .i64 0, .int .i64 0, .slice e1 e2 e3] 29))).cell? ⟨w3.heap.size, 0, none⟩ = some (.int .i64 1) := cell_of_row _ _ 0 _ _ _ rK34_.out
  have K_1_ : ((w3.alloc (.cells #[.int .i64 1, .int .i64 id, .int .i64 0, .int .i64 i0, .int .i64 0, .int .i64 0, .int .i64 0, .slice e1 e2 e3] 29))).cell? ⟨w3.heap.size, 1, none⟩ = some (.int .i64 id) := cell_of_row _ _ 1 _ _ _ rK34_.out
  have K_2_ : ((w3.alloc (.cells #[.int .i64 1, .int .i64 id, .int .i64 0, .int .i64 i0, .int .i64 0, .int .i64 0, .int .i64 0, .slice e1 e2 e3] 29))).cell? ⟨w3.heap.size, 2, none⟩ = some (.int .i64 0) := cell_of_row _ _ 2 _ _ _ rK34_.out
  have K_3_ : ((w3.alloc (.cells #[.int .i64 1, .int .i64 id, .int .i64 0, .int .i64 i0, .int .i64 0, .int .i64 0, .int .i64 0, .slice e1 e2 e3] 29))).cell? ⟨w3.heap.size, 3, none⟩ = some (.int .i64 i0) := cell_of_row _ _ 3 _ _ _ rK34_.out
  have K_4_ : ((w3.alloc (.cells #[.int .i64 1, .int .i64 id, .int .i64 0, .int .i64 i0, .int .i64 0, .int .i64 0, .int .i64 0, .slice e1 e2 e3] 29))).cell? ⟨w3.heap.size, 4, none⟩ = some (.int .i64 0) := cell_of_row _ _ 4 _ _ _ rK34_.out
  have K_5_ : ((w3.alloc (.cells #[.int .i64 1, .int .i64 id, .int .i64 0, .int .i64 i0, .int .i64 0, .int .i64 0, .int .i64 0, .slice e1 e2 e3] 29))).cell? ⟨w3.heap.size, 5, none⟩ = some (.int .i64 0) := cell_of_row _ _ 5 _ _ _ rK34_.out
  have K_6_ : ((w3.alloc (.cells #[.int .i64 1, .int .i64 id, .int .i64 0, .int .i64 i0, .int .i64 0, .int .i64 0, .int .i64 0, .slice e1 e2 e3] 29))).cell? ⟨w3.heap.size, 6, none⟩ = some (.int .i64 0) := cell_of_row _ _ 6 _ _ _ rK34_.out
  have K_7_ : ((w3.alloc (.cells #[.int .i64 1, .int .i64 id, .int .i64 0, .int .i64 i0, .int .i64 0, .int .i64 0, .int .i64 0, .slice e1 e2 e3] 29))).cell? ⟨w3.heap.size, 7, none⟩ = some (.slice e1 e2 e3) := cell_of_row _ _ 7 _ _ _ rK34_.out
  have nb0_ : ¬ w1.heap.size = W.heap.size + 1 := by omega
  have nb1_ : ¬ W.heap.size + 1 = w1.heap.size := by omega
  have nb2_ : ¬ w1.heap.size = W.heap.size + 1 + 1 := by omega
  have nb3_ : ¬ W.heap.size + 1 + 1 = w1.heap.size := by omega
  have nb4_ : ¬ w3.heap.size = W.heap.size + 1 := by omega
  have nb5_ : ¬ W.heap.size + 1 = w3.heap.size := by omega
  have nb6_ : ¬ w3.heap.size = W.heap.size + 1 + 1 := by omega
  have nb7_ : ¬ W.heap.size + 1 + 1 = w3.heap.size := by omega
  clear A_0_ A_1_ A_2_ R_0_ R_1_ R_2_ Q_0_ Q_1_ Q_2_ Q_3_ Q_4_ Q_5_ Q_6_ Q_7_ X_0_ X_1_ X_2_ X_3_ X_4_ K_0_ K_1_ K_2_ K_3_ K_4_ K_5_ K_6_ K_7_
  have A_0_ : ((w3.alloc (.cells #[.int .i64 1, .int .i64 id, .int .i64 0, .int .i64 i0, .int .i64 0, .int .i64 0, .int .i64 0, .slice e1 e2 e3] 29))).cell? ⟨W.heap.size, 0, none⟩ = some (.int .i64 i0) := cell_of_row _ _ 0 _ _ _ rA28_.out
  have A_1_ : ((w3.alloc (.cells #[.int .i64 1, .int .i64 id, .int .i64 0, .int .i64 i0, .int .i64 0, .int .i64 0, .int .i64 0, .slice e1 e2 e3] 29))).cell? ⟨W.heap.size, 1, none⟩ = some (.slice a1 n1 c1) := cell_of_row _ _ 1 _ _ _ rA28_.out
  have A_2_ : ((w3.alloc (.cells #[.int .i64 1, .int .i64 id, .int .i64 0, .int .i64 i0, .int .i64 0, .int .i64 0, .int .i64 0, .slice e1 e2 e3] 29))).cell? ⟨W.heap.size, 2, none⟩ = some (.slice a2 n2 c2) := cell_of_row _ _ 2 _ _ _ rA28_.out
  have R_0_ : ((w3.alloc (.cells #[.int .i64 1, .int .i64 id, .int .i64 0, .int .i64 i0, .int .i64 0, .int .i64 0, .int .i64 0, .slice e1 e2 e3] 29))).cell? ⟨W.heap.size + 1, 0, none⟩ = some (.int .i64 0) := cell_of_row _ _ 0 _ _ _ rR29_.out
  have R_1_ : ((w3.alloc (.cells #[.int .i64 1, .int .i64 id, .int .i64 0, .int .i64 i0, .int .i64 0, .int .i64 0, .int .i64 0, .slice e1 e2 e3] 29))).cell? ⟨W.heap.size + 1, 1, none⟩ = some (.slice none 0 0) := cell_of_row _ _ 1 _ _ _ rR29_.out
  have R_2_ : ((w3.alloc (.cells #[.int .i64 1, .int .i64 id, .int .i64 0, .int .i64 i0, .int .i64 0, .int .i64 0, .int .i64 0, .slice e1 e2 e3] 29))).cell? ⟨W.heap.size + 1, 2, none⟩ = some (.slice none 0 0) := cell_of_row _ _ 2 _ _ _ rR29_.out
  have Rf0_ : ((w3.alloc (.cells #[.int .i64 1, .int .i64 id, .int .i64 0, .int .i64 i0, .int .i64 0, .int .i64 0, .int .i64 0, .slice e1 e2 e3] 29))).frozen? ⟨W.heap.size + 1, 0, none⟩ = false := frozen_of_row _ _ 0 _ _ rR29_.out
  have Rf1_ : ((w3.alloc (.cells #[.int .i64 1, .int .i64 id, .int .i64 0, .int .i64 i0, .int .i64 0, .int .i64 0, .int .i64 0, .slice e1 e2 e3] 29))).frozen? ⟨W.heap.size + 1, 1, none⟩ = false := frozen_of_row _ _ 1 _ _ rR29_.out
  have Rf2_ : ((w3.alloc (.cells #[.int .i64 1, .int .i64 id, .int .i64 0, .int .i64 i0, .int .i64 0, .int .i64 0, .int .i64 0, .slice e1 e2 e3] 29))).frozen? ⟨W.heap.size + 1, 2, none⟩ = false := frozen_of_row _ _ 2 _ _ rR29_.out
  have Q_0_ : ((w3.alloc (.cells #[.int .i64 1, .int .i64 id, .int .i64 0, .int .i64 i0, .int .i64 0, .int .i64 0, .int .i64 0, .slice e1 e2 e3] 29))).cell? ⟨W.heap.size + 1 + 1, 0, none⟩ = some (.int .i64 0) := cell_of_row _ _ 0 _ _ _ rQ30_.out
  have Q_1_ : ((w3.alloc (.cells #[.int .i64 1, .int .i64 id, .int .i64 0, .int .i64 i0, .int .i64 0, .int .i64 0, .int .i64 0, .slice e1 e2 e3] 29))).cell? ⟨W.heap.size + 1 + 1, 1, none⟩ = some (.int .i64 0) := cell_of_row _ _ 1 _ _ _ rQ30_.out
  have Q_2_ : ((w3.alloc (.cells #[.int .i64 1, .int .i64 id, .int .i64 0, .int .i64 i0, .int .i64 0, .int .i64 0, .int .i64 0, .slice e1 e2 e3] 29))).cell? ⟨W.heap.size + 1 + 1, 2, none⟩ = some (.int .i64 0) := cell_of_row _ _ 2 _ _ _ rQ30_.out
  have Q_3_ : ((w3.alloc (.cells #[.int .i64 1, .int .i64 id, .int .i64 0, .int .i64 i0, .int .i64 0, .int .i64 0, .int .i64 0, .slice e1 e2 e3] 29))).cell? ⟨W.heap.size + 1 + 1, 3, none⟩ = some (.int .i64 0) := cell_of_row _ _ 3 _ _ _ rQ30_.out
  have Q_4_ : ((w3.alloc (.cells #[.int .i64 1, .int .i64 id, .int .i64 0, .int .i64 i0, .int .i64 0, .int .i64 0, .int .i64 0, .slice e1 e2 e3] 29))).cell? ⟨W.heap.size + 1 + 1, 4, none⟩ = some (.int .i64 0) := cell_of_row _ _ 4 _ _ _ rQ30_.out
  have Q_5_ : ((w3.alloc (.cells #[.int .i64 1, .int .i64 id, .int .i64 0, .int .i64 i0, .int .i64 0, .int .i64 0, .int .i64 0, .slice e1 e2 e3] 29))).cell? ⟨W.heap.size + 1 + 1, 5, none⟩ = some (.int .i64 0) := cell_of_row _ _ 5 _ _ _ rQ30_.out
  have Q_6_ : ((w3.alloc (.cells #[.int .i64 1, .int .i64 id, .int .i64 0, .int .i64 i0, .int .i64 0, .int .i64 0, .int .i64 0, .slice e1 e2 e3] 29))).cell? ⟨W.heap.size + 1 + 1, 6, none⟩ = some (.int .i64 0) := cell_of_row _ _ 6 _ _ _ rQ30_.out
  have Q_7_ : ((w3.alloc (.cells #[.int .i64 1, .int .i64 id, .int .i64 0, .int .i64 i0, .int .i64 0, .int .i64 0, .int .i64 0, .slice e1 e2 e3] 29))).cell? ⟨W.heap.size + 1 + 1, 7, none⟩ = some (.slice none 0 0) := cell_of_row _ _ 7 _ _ _ rQ30_.out
  have Qf0_ : ((w3.alloc (.cells #[.int .i64 1, .int .i64 id, .int .i64 0, .int .i64 i0, .int .i64 0, .int .i64 0, .int .i64 0, .slice e1 e2 e3] 29))).frozen? ⟨W.heap.size + 1 + 1, 0, none⟩ = false := frozen_of_row _ _ 0 _ _ rQ30_.out
  have Qf1_ : ((w3.alloc (.cells #[.int .i64 1, .int .i64 id, .int .i64 0, .int .i64 i0, .int .i64 0, .int .i64 0, .int .i64 0, .slice e1 e2 e3] 29))).frozen? ⟨W.heap.size + 1 + 1, 1, none⟩ = false := frozen_of_row _ _ 1 _ _ rQ30_.out
  have Qf2_ : ((w3.alloc (.cells #[.int .i64 1, .int .i64 id, .int .i64 0, .int .i64 i0, .int .i64 0, .int .i64 0, .int .i64 0, .slice e1 e2 e3] 29))).frozen? ⟨W.heap.size + 1 + 1, 2, none⟩ = false := frozen_of_row _ _ 2 _ _ rQ30_.out
  have Qf3_ : ((w3.alloc (.cells #[.int .i64 1, .int .i64 id, .int .i64 0, .int .i64 i0, .int .i64 0, .int .i64 0, .int .i64 0, .slice e1 e2 e3] 29))).frozen? ⟨W.heap.size + 1 + 1, 3, none⟩ = false := frozen_of_row _ _ 3 _ _ rQ30_.out
  have Qf4_ : ((w3.alloc (.cells #[.int .i64 1, .int .i64 id, .int .i64 0, .int .i64 i0, .int .i64 0, .int .i64 0, .int .i64 0, .slice e1 e2 e3] 29))).frozen? ⟨W.heap.size + 1 + 1, 4, none⟩ = false := frozen_of_row _ _ 4 _ _ rQ30_.out
  have Qf5_ : ((w3.alloc (.cells #[.int .i64 1, .int .i64 id, .int .i64 0, .int .i64 i0, .int .i64 0, .int .i64 0, .int .i64 0, .slice e1 e2 e3] 29))).frozen? ⟨W.heap.size + 1 + 1, 5, none⟩ = false := frozen_of_row _ _ 5 _ _ rQ30_.out
  have Qf6_ : ((w3.alloc (.cells #[.int .i64 1, .int .i64 id, .int .i64 0, .int .i64 i0, .int .i64 0, .int .i64 0, .int .i64 0, .slice e1 e2 e3] 29))).frozen? ⟨W.heap.size + 1 + 1, 6, none⟩ = false := frozen_of_row _ _ 6 _ _ rQ30_.out
  have Qf7_ : ((w3.alloc (.cells #[.int .i64 1, .int .i64 id, .int .i64 0, .int .i64 i0, .int .i64 0, .int .i64 0, .int .i64 0, .slice e1 e2 e3] 29))).frozen? ⟨W.heap.size + 1 + 1, 7, none⟩ = false := frozen_of_row _ _ 7 _ _ rQ30_.out
  have X_0_ : ((w3.alloc (.cells #[.int .i64 1, .int .i64 id, .int .i64 0, .int .i64 i0, .int .i64 0, .int .i64 0, .int .i64 0, .slice e1 e2 e3] 29))).cell? ⟨w1.heap.size, 0, none⟩ = some (.int .i32 0) := cell_of_row _ _ 0 _ _ _ rX31_.out
  have X_1_ : ((w3.alloc (.cells #[.int .i64 1, .int .i64 id, .int .i64 0, .int .i64 i0, .int .i64 0, .int .i64 0, .int .i64 0, .slice e1 e2 e3] 29))).cell? ⟨w1.heap.size, 1, none⟩ = some (.int .u32 0) := cell_of_row _ _ 1 _ _ _ rX31_.out
  have X_2_ : ((w3.alloc (.cells #[.int .i64 1, .int .i64 id, .int .i64 0, .int .i64 i0, .int .i64 0, .int .i64 0, .int .i64 0, .slice e1 e2 e3] 29))).cell? ⟨w1.heap.size, 2, none⟩ = some (.int .i64 i0) := cell_of_row _ _ 2 _ _ _ rX31_.out
  have X_3_ : ((w3.alloc (.cells #[.int .i64 1, .int .i64 id, .int .i64 0, .int .i64 i0, .int .i64 0, .int .i64 0, .int .i64 0, .slice e1 e2 e3] 29))).cell? ⟨w1.heap.size, 3, none⟩ = some (.slice d1 m1 k1) := cell_of_row _ _ 3 _ _ _ rX31_.out
  have X_4_ : ((w3.alloc (.cells #[.int .i64 1, .int .i64 id, .int .i64 0, .int .i64 i0, .int .i64 0, .int .i64 0, .int .i64 0, .slice e1 e2 e3] 29))).cell? ⟨w1.heap.size, 4, none⟩ = some (.slice d2 m2 k2) := cell_of_row _ _ 4 _ _ _ rX31_.out
  have K_0_ : ((w3.alloc (.cells #[.int .i64 1, .int .i64 id, .int .i64 0, .int .i64 i0, .int .i64 0, .int .i64 0, .int .i64 0, .slice e1 e2 e3] 29))).cell? ⟨w3.heap.size, 0, none⟩ = some (.int .i64 1) := cell_of_row _ _ 0 _ _ _ rK34_.out
  have K_1_ : ((w3.alloc (.cells #[.int .i64 1, .int .i64 id, .int .i64 0, .int .i64 i0, .int .i64 0, .int .i64 0, .int .i64 0, .slice e1 e2 e3] 29))).cell? ⟨w3.heap.size, 1, none⟩ = some (.int .i64 id) := cell_of_row _ _ 1 _ _ _ rK34_.out
  have K_2_ : ((w3.alloc (.cells #[.int .i64 1, .int .i64 id, .int .i64 0, .int .i64 i0, .int .i64 0, .int .i64 0, .int .i64 0, .slice e1 e2 e3] 29))).cell? ⟨w3.heap.size, 2, none⟩ = some (.int .i64 0) := cell_of_row _ _ 2 _ _ _ rK34_.out
  have K_3_ : ((w3.alloc (.cells #[.int .i64 1, .int .i64 id, .int .i64 0, .int .i64 i0, .int .i64 0, .int .i64 0, .int .i64 0, .slice e1 e2 e3] 29))).cell? ⟨w3.heap.size, 3, none⟩ = some (.int .i64 i0) := cell_of_row _ _ 3 _ _ _ rK34_.out
  have K_4_ : ((w3.alloc (.cells #[.int .i64 1, .int .i64 id, .int .i64 0, .int .i64 i0, .int .i64 0, .int .i64 0, .int .i64 0, .slice e1 e2 e3] 29))).cell? ⟨w3.heap.size, 4, none⟩ = some (.int .i64 0) := cell_of_row _ _ 4 _ _ _ rK34_.out
  have K_5_ : ((w3.alloc (.cells #[.int .i64 1, .int .i64 id, .int .i64 0, .int .i64 i0, .int .i64 0, .int .i64 0, .int .i64 0, .slice e1 e2 e3] 29))).cell? ⟨w3.heap.size, 5, none⟩ = some (.int .i64 0) := cell_of_row _ _ 5 _ _ _ rK34_.out
  have K_6_ : ((w3.alloc (.cells #[.int .i64 1, .int .i64 id, .int .i64 0, .int .i64 i0, .int .i64 0, .int .i64 0, .int .i64 0, .slice e1 e2 e3] 29))).cell? ⟨w3.heap.size, 6, none⟩ = some (.int .i64 0) := cell_of_row _ _ 6 _ _ _ rK34_.out
  have K_7_ : ((w3.alloc (.cells #[.int .i64 1, .int .i64 id, .int .i64 0, .int .i64 i0, .int .i64 0, .int .i64 0, .int .i64 0, .slice e1 e2 e3] 29))).cell? ⟨w3.heap.size, 7, none⟩ = some (.slice e1 e2 e3) := cell_of_row _ _ 7 _ _ _ rK34_.out
  have yr_ := Lib.hid (show (((((((((((((w3.alloc (.cells #[.int .i64 1, .int .i64 id, .int .i64 0, .int .i64 i0, .int .i64 0, .int .i64 0, .int .i64 0, .slice e1 e2 e3] 29)).setCell ⟨W.heap.size + 1, 0, none⟩ (.int .i64 i0)).setCell ⟨W.heap.size + 1, 1, none⟩ (.slice d1 m1 k1)).setCell ⟨W.heap.size + 1, 2, none⟩ (.slice d2 m2 k2)).setCell ⟨W.heap.size + 1 + 1, 0, none⟩ (.int .i64 1)).setCell ⟨W.heap.size + 1 + 1, 1, none⟩ (.int .i64 id)).setCell ⟨W.heap.size + 1 + 1, 2, none⟩ (.int .i64 0)).setCell ⟨W.heap.size + 1 + 1, 3, none⟩ (.int .i64 i0)).setCell ⟨W.heap.size + 1 + 1, 4, none⟩ (.int .i64 0)).setCell ⟨W.heap.size + 1 + 1, 5, none⟩ (.int .i64 0)).setCell ⟨W.heap.size + 1 + 1, 6, none⟩ (.int .i64 0)).setCell ⟨W.heap.size + 1 + 1, 7, none⟩ (.slice e1 e2 e3))).heap[W.heap.size + 1]? = some (.cells #[.int .i64 i0, .slice d1 m1 k1, .slice d2 m2 k2] 26 (0, 0)) from (set_far (set_far (set_far (set_far (set_far (set_far (set_far (set_far (heap_setCell_same _ _ 2 _ _ _ (heap_setCell_same _ _ 1 _ _ _ (heap_setCell_same _ _ 0 _ _ _ rR29_.out))) (by dsimp only; omega)) (by dsimp only; omega)) (by dsimp only; omega)) (by dsimp only; omega)) (by dsimp only; omega)) (by dsimp only; omega)) (by dsimp only; omega)) (by dsimp only; omega)))
  have yq_ := Lib.hid (show (((((((((((((w3.alloc (.cells #[.int .i64 1, .int .i64 id, .int .i64 0, .int .i64 i0, .int .i64 0, .int .i64 0, .int .i64 0, .slice e1 e2 e3] 29)).setCell ⟨W.heap.size + 1, 0, none⟩ (.int .i64 i0)).setCell ⟨W.heap.size + 1, 1, none⟩ (.slice d1 m1 k1)).setCell ⟨W.heap.size + 1, 2, none⟩ (.slice d2 m2 k2)).setCell ⟨W.heap.size + 1 + 1, 0, none⟩ (.int .i64 1)).setCell ⟨W.heap.size + 1 + 1, 1, none⟩ (.int .i64 id)).setCell ⟨W.heap.size + 1 + 1, 2, none⟩ (.int .i64 0)).setCell ⟨W.heap.size + 1 + 1, 3, none⟩ (.int .i64 i0)).setCell ⟨W.heap.size + 1 + 1, 4, none⟩ (.int .i64 0)).setCell ⟨W.heap.size + 1 + 1, 5, none⟩ (.int .i64 0)).setCell ⟨W.heap.size + 1 + 1, 6, none⟩ (.int .i64 0)).setCell ⟨W.heap.size + 1 + 1, 7, none⟩ (.slice e1 e2 e3))).heap[W.heap.size + 1 + 1]? = some (.cells #[.int .i64 1, .int .i64 id, .int .i64 0, .int .i64 i0, .int .i64 0, .int .i64 0, .int .i64 0, .slice e1 e2 e3] 29 (0, 0)) from (heap_setCell_same _ _ 7 _ _ _ (heap_setCell_same _ _ 6 _ _ _ (heap_setCell_same _ _ 5 _ _ _ (heap_setCell_same _ _ 4 _ _ _ (heap_setCell_same _ _ 3 _ _ _ (heap_setCell_same _ _ 2 _ _ _ (heap_setCell_same _ _ 1 _ _ _ (heap_setCell_same _ _ 0 _ _ _ (set_far (set_far (set_far rQ30_.out (by dsimp only; omega)) (by dsimp only; omega)) (by dsimp only; omega)))))))))))
  have z0_ : (((((((((((((w3.alloc (.cells #[.int .i64 1, .int .i64 id, .int .i64 0, .int .i64 i0, .int .i64 0, .int .i64 0, .int .i64 0, .slice e1 e2 e3] 29)).setCell ⟨W.heap.size + 1, 0, none⟩ (.int .i64 i0)).setCell ⟨W.heap.size + 1, 1, none⟩ (.slice d1 m1 k1)).setCell ⟨W.heap.size + 1, 2, none⟩ (.slice d2 m2 k2)).setCell ⟨W.heap.size + 1 + 1, 0, none⟩ (.int .i64 1)).setCell ⟨W.heap.size + 1 + 1, 1, none⟩ (.int .i64 id)).setCell ⟨W.heap.size + 1 + 1, 2, none⟩ (.int .i64 0)).setCell ⟨W.heap.size + 1 + 1, 3, none⟩ (.int .i64 i0)).setCell ⟨W.heap.size + 1 + 1, 4, none⟩ (.int .i64 0)).setCell ⟨W.heap.size + 1 + 1, 5, none⟩ (.int .i64 0)).setCell ⟨W.heap.size + 1 + 1, 6, none⟩ (.int .i64 0)).setCell ⟨W.heap.size + 1 + 1, 7, none⟩ (.slice e1 e2 e3))).cell? ⟨W.heap.size + 1, 0, none⟩ = some (.int .i64 i0) := cell_of_row _ _ 0 _ _ _ yr_.out
  have z1_ : (((((((((((((w3.alloc (.cells #[.int .i64 1, .int .i64 id, .int .i64 0, .int .i64 i0, .int .i64 0, .int .i64 0, .int .i64 0, .slice e1 e2 e3] 29)).setCell ⟨W.heap.size + 1, 0, none⟩ (.int .i64 i0)).setCell ⟨W.heap.size + 1, 1, none⟩ (.slice d1 m1 k1)).setCell ⟨W.heap.size + 1, 2, none⟩ (.slice d2 m2 k2)).setCell ⟨W.heap.size + 1 + 1, 0, none⟩ (.int .i64 1)).setCell ⟨W.heap.size + 1 + 1, 1, none⟩ (.int .i64 id)).setCell ⟨W.heap.size + 1 + 1, 2, none⟩ (.int .i64 0)).setCell ⟨W.heap.size + 1 + 1, 3, none⟩ (.int .i64 i0)).setCell ⟨W.heap.size + 1 + 1, 4, none⟩ (.int .i64 0)).setCell ⟨W.heap.size + 1 + 1, 5, none⟩ (.int .i64 0)).setCell ⟨W.heap.size + 1 + 1, 6, none⟩ (.int .i64 0)).setCell ⟨W.heap.size + 1 + 1, 7, none⟩ (.slice e1 e2 e3))).cell? ⟨W.heap.size + 1, 1, none⟩ = some (.slice d1 m1 k1) := cell_of_row _ _ 1 _ _ _ yr_.out
  have z2_ : (((((((((((((w3.alloc (.cells #[.int .i64 1, .int .i64 id, .int .i64 0, .int .i64 i0, .int .i64 0, .int .i64 0, .int .i64 0, .slice e1 e2 e3] 29)).setCell ⟨W.heap.size + 1, 0, none⟩ (.int .i64 i0)).setCell ⟨W.heap.size + 1, 1, none⟩ (.slice d1 m1 k1)).setCell ⟨W.heap.size + 1, 2, none⟩ (.slice d2 m2 k2)).setCell ⟨W.heap.size + 1 + 1, 0, none⟩ (.int .i64 1)).setCell ⟨W.heap.size + 1 + 1, 1, none⟩ (.int .i64 id)).setCell ⟨W.heap.size + 1 + 1, 2, none⟩ (.int .i64 0)).setCell ⟨W.heap.size + 1 + 1, 3, none⟩ (.int .i64 i0)).setCell ⟨W.heap.size + 1 + 1, 4, none⟩ (.int .i64 0)).setCell ⟨W.heap.size + 1 + 1, 5, none⟩ (.int .i64 0)).setCell ⟨W.heap.size + 1 + 1, 6, none⟩ (.int .i64 0)).setCell ⟨W.heap.size + 1 + 1, 7, none⟩ (.slice e1 e2 e3))).cell? ⟨W.heap.size + 1, 2, none⟩ = some (.slice d2 m2 k2) := cell_of_row _ _ 2 _ _ _ yr_.out
  have y0_ : (((((((((((((w3.alloc (.cells #[.int .i64 1, .int .i64 id, .int .i64 0, .int .i64 i0, .int .i64 0, .int .i64 0, .int .i64 0, .slice e1 e2 e3] 29)).setCell ⟨W.heap.size + 1, 0, none⟩ (.int .i64 i0)).setCell ⟨W.heap.size + 1, 1, none⟩ (.slice d1 m1 k1)).setCell ⟨W.heap.size + 1, 2, none⟩ (.slice d2 m2 k2)).setCell ⟨W.heap.size + 1 + 1, 0, none⟩ (.int .i64 1)).setCell ⟨W.heap.size + 1 + 1, 1, none⟩ (.int .i64 id)).setCell ⟨W.heap.size + 1 + 1, 2, none⟩ (.int .i64 0)).setCell ⟨W.heap.size + 1 + 1, 3, none⟩ (.int .i64 i0)).setCell ⟨W.heap.size + 1 + 1, 4, none⟩ (.int .i64 0)).setCell ⟨W.heap.size + 1 + 1, 5, none⟩ (.int .i64 0)).setCell ⟨W.heap.size + 1 + 1, 6, none⟩ (.int .i64 0)).setCell ⟨W.heap.size + 1 + 1, 7, none⟩ (.slice e1 e2 e3))).cell? ⟨W.heap.size + 1 + 1, 0, none⟩ = some (.int .i64 1) := cell_of_row _ _ 0 _ _ _ yq_.out
  have y1_ : (((((((((((((w3.alloc (.cells #[.int .i64 1, .int .i64 id, .int .i64 0, .int .i64 i0, .int .i64 0, .int .i64 0, .int .i64 0, .slice e1 e2 e3] 29)).setCell ⟨W.heap.size + 1, 0, none⟩ (.int .i64 i0)).setCell ⟨W.heap.size + 1, 1, none⟩ (.slice d1 m1 k1)).setCell ⟨W.heap.size + 1, 2, none⟩ (.slice d2 m2 k2)).setCell ⟨W.heap.size + 1 + 1, 0, none⟩ (.int .i64 1)).setCell ⟨W.heap.size + 1 + 1, 1, none⟩ (.int .i64 id)).setCell ⟨W.heap.size + 1 + 1, 2, none⟩ (.int .i64 0)).setCell ⟨W.heap.size + 1 + 1, 3, none⟩ (.int .i64 i0)).setCell ⟨W.heap.size + 1 + 1, 4, none⟩ (.int .i64 0)).setCell ⟨W.heap.size + 1 + 1, 5, none⟩ (.int .i64 0)).setCell ⟨W.heap.size + 1 + 1, 6, none⟩ (.int .i64 0)).setCell ⟨W.heap.size + 1 + 1, 7, none⟩ (.slice e1 e2 e3))).cell? ⟨W.heap.size + 1 + 1, 1, none⟩ = some (.int .i64 id) := cell_of_row _ _ 1 _ _ _ yq_.out
  have y2_ : (((((((((((((w3.alloc (.cells #[.int .i64 1, .int .i64 id, .int .i64 0, .int .i64 i0, .int .i64 0, .int .i64 0, .int .i64 0, .slice e1 e2 e3] 29)).setCell ⟨W.heap.size + 1, 0, none⟩ (.int .i64 i0)).setCell ⟨W.heap.size + 1, 1, none⟩ (.slice d1 m1 k1)).setCell ⟨W.heap.size + 1, 2, none⟩ (.slice d2 m2 k2)).setCell ⟨W.heap.size + 1 + 1, 0, none⟩ (.int .i64 1)).setCell ⟨W.heap.size + 1 + 1, 1, none⟩ (.int .i64 id)).setCell ⟨W.heap.size + 1 + 1, 2, none⟩ (.int .i64 0)).setCell ⟨W.heap.size + 1 + 1, 3, none⟩ (.int .i64 i0)).setCell ⟨W.heap.size + 1 + 1, 4, none⟩ (.int .i64 0)).setCell ⟨W.heap.size + 1 + 1, 5, none⟩ (.int .i64 0)).setCell ⟨W.heap.size + 1 + 1, 6, none⟩ (.int .i64 0)).setCell ⟨W.heap.size + 1 + 1, 7, none⟩ (.slice e1 e2 e3))).cell? ⟨W.heap.size + 1 + 1, 2, none⟩ = some (.int .i64 0) := cell_of_row _ _ 2 _ _ _ yq_.out
  have y3_ : (((((((((((((w3.alloc (.cells #[.int .i64 1, .int .i64 id, .int .i64 0, .int .i64 i0, .int .i64 0, .int .i64 0, .int .i64 0, .slice e1 e2 e3] 29)).setCell ⟨W.heap.size + 1, 0, none⟩ (.int .i64 i0)).setCell ⟨W.heap.size + 1, 1, none⟩ (.slice d1 m1 k1)).setCell ⟨W.heap.size + 1, 2, none⟩ (.slice d2 m2 k2)).setCell ⟨W.heap.size + 1 + 1, 0, none⟩ (.int .i64 1)).setCell ⟨W.heap.size + 1 + 1, 1, none⟩ (.int .i64 id)).setCell ⟨W.heap.size + 1 + 1, 2, none⟩ (.int .i64 0)).setCell ⟨W.heap.size + 1 + 1, 3, none⟩ (.int .i64 i0)).setCell ⟨W.heap.size + 1 + 1, 4, none⟩ (.int .i64 0)).setCell ⟨W.heap.size + 1 + 1, 5, none⟩ (.int .i64 0)).setCell ⟨W.heap.size + 1 + 1, 6, none⟩ (.int .i64 0)).setCell ⟨W.heap.size + 1 + 1, 7, none⟩ (.slice e1 e2 e3))).cell? ⟨W.heap.size + 1 + 1, 3, none⟩ = some (.int .i64 i0) := cell_of_row _ _ 3 _ _ _ yq_.out
  have y4_ : (((((((((((((w3.alloc (.cells #[.int .i64 1, .int .i64 id, .int .i64 0, .int .i64 i0, .int .i64 0, .int .i64 0, .int .i64 0, .slice e1 e2 e3] 29)).setCell ⟨W.heap.size + 1, 0, none⟩ (.int .i64 i0)).setCell ⟨W.heap.size + 1, 1, none⟩ (.slice d1 m1 k1)).setCell ⟨W.heap.size + 1, 2, none⟩ (.slice d2 m2 k2)).setCell ⟨W.heap.size + 1 + 1, 0, none⟩ (.int .i64 1)).setCell ⟨W.heap.size + 1 + 1, 1, none⟩ (.int .i64 id)).setCell ⟨W.heap.size + 1 + 1, 2, none⟩ (.int .i64 0)).setCell ⟨W.heap.size + 1 + 1, 3, none⟩ (.int .i64 i0)).setCell ⟨W.heap.size + 1 + 1, 4, none⟩ (.int .i64 0)).setCell ⟨W.heap.size + 1 + 1, 5, none⟩ (.int .i64 0)).setCell ⟨W.heap.size + 1 + 1, 6, none⟩ (.int .i64 0)).setCell ⟨W.heap.size + 1 + 1, 7, none⟩ (.slice e1 e2 e3))).cell? ⟨W.heap.size + 1 + 1, 4, none⟩ = some (.int .i64 0) := cell_of_row _ _ 4 _ _ _ yq_.out
  have y5_ : (((((((((((((w3.alloc (.cells #[.int .i64 1, .int .i64 id, .int .i64 0, .int .i64 i0, .int .i64 0, .int .i64 0, .int .i64 0, .slice e1 e2 e3] 29)).setCell ⟨W.heap.size + 1, 0, none⟩ (.int .i64 i0)).setCell ⟨W.heap.size + 1, 1, none⟩ (.slice d1 m1 k1)).setCell ⟨W.heap.size + 1, 2, none⟩ (.slice d2 m2 k2)).setCell ⟨W.heap.size + 1 + 1, 0, none⟩ (.int .i64 1)).setCell ⟨W.heap.size + 1 + 1, 1, none⟩ (.int .i64 id)).setCell ⟨W.heap.size + 1 + 1, 2, none⟩ (.int .i64 0)).setCell ⟨W.heap.size + 1 + 1, 3, none⟩ (.int .i64 i0)).setCell ⟨W.heap.size + 1 + 1, 4, none⟩ (.int .i64 0)).setCell ⟨W.heap.size + 1 + 1, 5, none⟩ (.int .i64 0)).setCell ⟨W.heap.size + 1 + 1, 6, none⟩ (.int .i64 0)).setCell ⟨W.heap.size + 1 + 1, 7, none⟩ (.slice e1 e2 e3))).cell? ⟨W.heap.size + 1 + 1, 5, none⟩ = some (.int .i64 0) := cell_of_row _ _ 5 _ _ _ yq_.out
  have y6_ : (((((((((((((w3.alloc (.cells #[.int .i64 1, .int .i64 id, .int .i64 0, .int .i64 i0, .int .i64 0, .int .i64 0, .int .i64 0, .slice e1 e2 e3] 29)).setCell ⟨W.heap.size + 1, 0, none⟩ (.int .i64 i0)).setCell ⟨W.heap.size + 1, 1, none⟩ (.slice d1 m1 k1)).setCell ⟨W.heap.size + 1, 2, none⟩ (.slice d2 m2 k2)).setCell ⟨W.heap.size + 1 + 1, 0, none⟩ (.int .i64 1)).setCell ⟨W.heap.size + 1 + 1, 1, none⟩ (.int .i64 id)).setCell ⟨W.heap.size + 1 + 1, 2, none⟩ (.int .i64 0)).setCell ⟨W.heap.size + 1 + 1, 3, none⟩ (.int .i64 i0)).setCell ⟨W.heap.size + 1 + 1, 4, none⟩ (.int .i64 0)).setCell ⟨W.heap.size + 1 + 1, 5, none⟩ (.int .i64 0)).setCell ⟨W.heap.size + 1 + 1, 6, none⟩ (.int .i64 0)).setCell ⟨W.heap.size + 1 + 1, 7, none⟩ (.slice e1 e2 e3))).cell? ⟨W.heap.size + 1 + 1, 6, none⟩ = some (.int .i64 0) := cell_of_row _ _ 6 _ _ _ yq_.out
  have y7_ : (((((((((((((w3.alloc (.cells #[.int .i64 1, .int .i64 id, .int .i64 0, .int .i64 i0, .int .i64 0, .int .i64 0, .int .i64 0, .slice e1 e2 e3] 29)).setCell ⟨W.heap.size + 1, 0, none⟩ (.int .i64 i0)).setCell ⟨W.heap.size + 1, 1, none⟩ (.slice d1 m1 k1)).setCell ⟨W.heap.size + 1, 2, none⟩ (.slice d2 m2 k2)).setCell ⟨W.heap.size + 1 + 1, 0, none⟩ (.int .i64 1)).setCell ⟨W.heap.size + 1 + 1, 1, none⟩ (.int .i64 id)).setCell ⟨W.heap.size + 1 + 1, 2, none⟩ (.int .i64 0)).setCell ⟨W.heap.size + 1 + 1, 3, none⟩ (.int .i64 i0)).setCell ⟨W.heap.size + 1 + 1, 4, none⟩ (.int .i64 0)).setCell ⟨W.heap.size + 1 + 1, 5, none⟩ (.int .i64 0)).setCell ⟨W.heap.size + 1 + 1, 6, none⟩ (.int .i64 0)).setCell ⟨W.heap.size + 1 + 1, 7, none⟩ (.slice e1 e2 e3))).cell? ⟨W.heap.size + 1 + 1, 7, none⟩ = some (.slice e1 e2 e3) := cell_of_row _ _ 7 _ _ _ yq_.out
  go_wp2_with fail
  go_region_with (fail)
  all_goals
    go_wp2
    refine bodyPost_ret (v := .tuple #[.agg #[.int .i64 i0, .slice d1 m1 k1, .slice d2 m2 k2], .agg #[.int .i64 1, .int .i64 id, .int .i64 0, .int .i64 i0, .int .i64 0, .int .i64 0, .int .i64 0, .slice e1 e2 e3], .bool true]) (by simp [results, go_sem, z0_, z1_, z2_, y0_, y1_, y2_, y3_, y4_, y5_, y6_, y7_]) rfl ⟨_, _, _, rfl, ?_, ?_⟩
    · exact OwU.wide (lo := (W.heap.size + 1 + 1 + 1)) (by omega) (by simp only [World.size_drew, World.size_setCell, World.size_alloc]; omega) (OwU.grow (OwU.keep (chg_one _ _ _ _) (by omega) (OwU.keep (chg_one _ _ _ _) (by omega) (OwU.keep (chg_one _ _ _ _) (by omega) (OwU.keep (chg_one _ _ _ _) (by omega) (OwU.keep (chg_one _ _ _ _) (by omega) (OwU.keep (chg_one _ _ _ _) (by omega) (OwU.keep (chg_one _ _ _ _) (by omega) (OwU.keep (chg_one _ _ _ _) (by omega) (OwU.keep (chg_one _ _ _ _) (by omega) (OwU.keep (chg_one _ _ _ _) (by omega) (OwU.keep (chg_one _ _ _ _) (by omega) oC32_.out))))))))))) (gby_drew (gby_refl _ _)))
    · exact gby_drew (gby_setnew (gby_setnew (gby_setnew (gby_setnew (gby_setnew (gby_setnew (gby_setnew (gby_setnew (gby_setnew (gby_setnew (gby_setnew G33_.out _ (by dsimp only; omega) _) _ (by dsimp only; omega) _) _ (by dsimp only; omega) _) _ (by dsimp only; omega) _) _ (by dsimp only; omega) _) _ (by dsimp only; omega) _) _ (by dsimp only; omega) _) _ (by dsimp only; omega) _) _ (by dsimp only; omega) _) _ (by dsimp only; omega) _) _ (by dsimp only; omega) _)

set_option maxRecDepth 8000 in
set_option maxHeartbeats 4000000 in
theorem implSetM_set (W : World) (i0 : Int) (v1 v2 : Value) (xs ys : List Bool) (H1 : RdL shB W v1 xs) (H2 : RdL shB W v2 ys) (hl1 : szL shB xs ≤ 1048576) (hl2 : szL shB ys ≤ 1048576) (id k : Int) (hb : VCall i0 xs ys id k) : Calls Try.prog 22 #[vVectors i0 v1 v2, .int .i64 id, .int .i64 k, .bool true] W (ResISetMask i0 (xs.set k.toNat true) ys 0 0 0 0 0 0 0 [] true W) := by
  have HOK := Lib.hid hb
  have hk_ := hb.2.2
  have h8_ := hb.1.1
  have hy_ := hb.1.2.1
  obtain ⟨kn, hkn⟩ : ∃ n : Nat, k = (n : Int) := ⟨k.toNat, by omega⟩
  subst hkn
  have hkx : kn < xs.length := by omega
  clear hb
  rw [Int.toNat_natCast]
  have H1_ := Lib.hid H1
  have H2_ := Lib.hid H2
  obtain ⟨a1, n1, c1, rfl⟩ := RdL.form H1
  obtain ⟨a2, n2, c2, rfl⟩ := RdL.form H2
  clear H1 H2
  unfold vVectors
  go_enter Try.func22, Try.ntmps22
  have rA1_ := Lib.hid (show ((((W.alloc (.cells #[.int .i64 i0, .slice a1 n1 c1, .slice a2 n2 c2] 26)).alloc (.cells #[.int .i64 0, .slice none 0 0, .slice none 0 0] 26)).alloc (.cells #[.int .i64 0, .int .i64 0, .int .i64 0, .int .i64 0, .int .i64 0, .int .i64 0, .int .i64 0, .slice none 0 0] 29))).heap[W.heap.size]? = some (.cells #[.int .i64 i0, .slice a1 n1 c1, .slice a2 n2 c2] 26 (0, 0)) from by rw [heap_alloc_old _ _ (by simp only [World.size_alloc]; omega)]; rw [heap_alloc_old _ _ (by simp only [World.size_alloc]; omega)]; exact heap_alloc_new _ _)
  have rR2_ := Lib.hid (show ((((W.alloc (.cells #[.int .i64 i0, .slice a1 n1 c1, .slice a2 n2 c2] 26)).alloc (.cells #[.int .i64 0, .slice none 0 0, .slice none 0 0] 26)).alloc (.cells #[.int .i64 0, .int .i64 0, .int .i64 0, .int .i64 0, .int .i64 0, .int .i64 0, .int .i64 0, .slice none 0 0] 29))).heap[W.heap.size + 1]? = some (.cells #[.int .i64 0, .slice none 0 0, .slice none 0 0] 26 (0, 0)) from by rw [heap_alloc_old _ _ (by simp only [World.size_alloc]; omega)]; exact heap_pair _ _ _)
  have rQ3_ := Lib.hid (show ((((W.alloc (.cells #[.int .i64 i0, .slice a1 n1 c1, .slice a2 n2 c2] 26)).alloc (.cells #[.int .i64 0, .slice none 0 0, .slice none 0 0] 26)).alloc (.cells #[.int .i64 0, .int .i64 0, .int .i64 0, .int .i64 0, .int .i64 0, .int .i64 0, .int .i64 0, .slice none 0 0] 29))).heap[W.heap.size + 1 + 1]? = some (.cells #[.int .i64 0, .int .i64 0, .int .i64 0, .int .i64 0, .int .i64 0, .int .i64 0, .int .i64 0, .slice none 0 0] 29 (0, 0)) from by exact heap_trip _ _ _ _)
  have G4_ := Lib.hid (show (W).grownBy ((((W.alloc (.cells #[.int .i64 i0, .slice a1 n1 c1, .slice a2 n2 c2] 26)).alloc (.cells #[.int .i64 0, .slice none 0 0, .slice none 0 0] 26)).alloc (.cells #[.int .i64 0, .int .i64 0, .int .i64 0, .int .i64 0, .int .i64 0, .int .i64 0, .int .i64 0, .slice none 0 0] 29))) none from (gby_alloc (gby_alloc (gby_alloc (gby_refl _ _) _) _) _))
  have A_0_ : ((((W.alloc (.cells #[.int .i64 i0, .slice a1 n1 c1, .slice a2 n2 c2] 26)).alloc (.cells #[.int .i64 0, .slice none 0 0, .slice none 0 0] 26)).alloc (.cells #[.int .i64 0, .int .i64 0, .int .i64 0, .int .i64 0, .int .i64 0, .int .i64 0, .int .i64 0, .slice none 0 0] 29))).cell? ⟨W.heap.size, 0, none⟩ = some (.int .i64 i0) := cell_of_row _ _ 0 _ _ _ rA1_.out
  have A_1_ : ((((W.alloc (.cells #[.int .i64 i0, .slice a1 n1 c1, .slice a2 n2 c2] 26)).alloc (.cells #[.int .i64 0, .slice none 0 0, .slice none 0 0] 26)).alloc (.cells #[.int .i64 0, .int .i64 0, .int .i64 0, .int .i64 0, .int .i64 0, .int .i64 0, .int .i64 0, .slice none 0 0] 29))).cell? ⟨W.heap.size, 1, none⟩ = some (.slice a1 n1 c1) := cell_of_row _ _ 1 _ _ _ rA1_.out
  have A_2_ : ((((W.alloc (.cells #[.int .i64 i0, .slice a1 n1 c1, .slice a2 n2 c2] 26)).alloc (.cells #[.int .i64 0, .slice none 0 0, .slice none 0 0] 26)).alloc (.cells #[.int .i64 0, .int .i64 0, .int .i64 0, .int .i64 0, .int .i64 0, .int .i64 0, .int .i64 0, .slice none 0 0] 29))).cell? ⟨W.heap.size, 2, none⟩ = some (.slice a2 n2 c2) := cell_of_row _ _ 2 _ _ _ rA1_.out
  have R_0_ : ((((W.alloc (.cells #[.int .i64 i0, .slice a1 n1 c1, .slice a2 n2 c2] 26)).alloc (.cells #[.int .i64 0, .slice none 0 0, .slice none 0 0] 26)).alloc (.cells #[.int .i64 0, .int .i64 0, .int .i64 0, .int .i64 0, .int .i64 0, .int .i64 0, .int .i64 0, .slice none 0 0] 29))).cell? ⟨W.heap.size + 1, 0, none⟩ = some (.int .i64 0) := cell_of_row _ _ 0 _ _ _ rR2_.out
  have R_1_ : ((((W.alloc (.cells #[.int .i64 i0, .slice a1 n1 c1, .slice a2 n2 c2] 26)).alloc (.cells #[.int .i64 0, .slice none 0 0, .slice none 0 0] 26)).alloc (.cells #[.int .i64 0, .int .i64 0, .int .i64 0, .int .i64 0, .int .i64 0, .int .i64 0, .int .i64 0, .slice none 0 0] 29))).cell? ⟨W.heap.size + 1, 1, none⟩ = some (.slice none 0 0) := cell_of_row _ _ 1 _ _ _ rR2_.out
  have R_2_ : ((((W.alloc (.cells #[.int .i64 i0, .slice a1 n1 c1, .slice a2 n2 c2] 26)).alloc (.cells #[.int .i64 0, .slice none 0 0, .slice none 0 0] 26)).alloc (.cells #[.int .i64 0, .int .i64 0, .int .i64 0, .int .i64 0, .int .i64 0, .int .i64 0, .int .i64 0, .slice none 0 0] 29))).cell? ⟨W.heap.size + 1, 2, none⟩ = some (.slice none 0 0) := cell_of_row _ _ 2 _ _ _ rR2_.out
  have Q_0_ : ((((W.alloc (.cells #[.int .i64 i0, .slice a1 n1 c1, .slice a2 n2 c2] 26)).alloc (.cells #[.int .i64 0, .slice none 0 0, .slice none 0 0] 26)).alloc (.cells #[.int .i64 0, .int .i64 0, .int .i64 0, .int .i64 0, .int .i64 0, .int .i64 0, .int .i64 0, .slice none 0 0] 29))).cell? ⟨W.heap.size + 1 + 1, 0, none⟩ = some (.int .i64 0) := cell_of_row _ _ 0 _ _ _ rQ3_.out
  have Q_1_ : ((((W.alloc (.cells #[.int .i64 i0, .slice a1 n1 c1, .slice a2 n2 c2] 26)).alloc (.cells #[.int .i64 0, .slice none 0 0, .slice none 0 0] 26)).alloc (.cells #[.int .i64 0, .int .i64 0, .int .i64 0, .int .i64 0, .int .i64 0, .int .i64 0, .int .i64 0, .slice none 0 0] 29))).cell? ⟨W.heap.size + 1 + 1, 1, none⟩ = some (.int .i64 0) := cell_of_row _ _ 1 _ _ _ rQ3_.out
  have Q_2_ : ((((W.alloc (.cells #[.int .i64 i0, .slice a1 n1 c1, .slice a2 n2 c2] 26)).alloc (.cells #[.int .i64 0, .slice none 0 0, .slice none 0 0] 26)).alloc (.cells #[.int .i64 0, .int .i64 0, .int .i64 0, .int .i64 0, .int .i64 0, .int .i64 0, .int .i64 0, .slice none 0 0] 29))).cell? ⟨W.heap.size + 1 + 1, 2, none⟩ = some (.int .i64 0) := cell_of_row _ _ 2 _ _ _ rQ3_.out
  have Q_3_ : ((((W.alloc (.cells #[.int .i64 i0, .slice a1 n1 c1, .slice a2 n2 c2] 26)).alloc (.cells #[.int .i64 0, .slice none 0 0, .slice none 0 0] 26)).alloc (.cells #[.int .i64 0, .int .i64 0, .int .i64 0, .int .i64 0, .int .i64 0, .int .i64 0, .int .i64 0, .slice none 0 0] 29))).cell? ⟨W.heap.size + 1 + 1, 3, none⟩ = some (.int .i64 0) := cell_of_row _ _ 3 _ _ _ rQ3_.out
  have Q_4_ : ((((W.alloc (.cells #[.int .i64 i0, .slice a1 n1 c1, .slice a2 n2 c2] 26)).alloc (.cells #[.int .i64 0, .slice none 0 0, .slice none 0 0] 26)).alloc (.cells #[.int .i64 0, .int .i64 0, .int .i64 0, .int .i64 0, .int .i64 0, .int .i64 0, .int .i64 0, .slice none 0 0] 29))).cell? ⟨W.heap.size + 1 + 1, 4, none⟩ = some (.int .i64 0) := cell_of_row _ _ 4 _ _ _ rQ3_.out
  have Q_5_ : ((((W.alloc (.cells #[.int .i64 i0, .slice a1 n1 c1, .slice a2 n2 c2] 26)).alloc (.cells #[.int .i64 0, .slice none 0 0, .slice none 0 0] 26)).alloc (.cells #[.int .i64 0, .int .i64 0, .int .i64 0, .int .i64 0, .int .i64 0, .int .i64 0, .int .i64 0, .slice none 0 0] 29))).cell? ⟨W.heap.size + 1 + 1, 5, none⟩ = some (.int .i64 0) := cell_of_row _ _ 5 _ _ _ rQ3_.out
  have Q_6_ : ((((W.alloc (.cells #[.int .i64 i0, .slice a1 n1 c1, .slice a2 n2 c2] 26)).alloc (.cells #[.int .i64 0, .slice none 0 0, .slice none 0 0] 26)).alloc (.cells #[.int .i64 0, .int .i64 0, .int .i64 0, .int .i64 0, .int .i64 0, .int .i64 0, .int .i64 0, .slice none 0 0] 29))).cell? ⟨W.heap.size + 1 + 1, 6, none⟩ = some (.int .i64 0) := cell_of_row _ _ 6 _ _ _ rQ3_.out
  have Q_7_ : ((((W.alloc (.cells #[.int .i64 i0, .slice a1 n1 c1, .slice a2 n2 c2] 26)).alloc (.cells #[.int .i64 0, .slice none 0 0, .slice none 0 0] 26)).alloc (.cells #[.int .i64 0, .int .i64 0, .int .i64 0, .int .i64 0, .int .i64 0, .int .i64 0, .int .i64 0, .slice none 0 0] 29))).cell? ⟨W.heap.size + 1 + 1, 7, none⟩ = some (.slice none 0 0) := cell_of_row _ _ 7 _ _ _ rQ3_.out
  go_wp2_with fail
  go_at_call 63
  refine (copiedVec_d _ i0 _ _ xs ys (H1_.out.grow G4_.out) (H2_.out.grow G4_.out) hl1 hl2).mono ?_
  rintro e w1 ⟨x1, x2, rfl, o, g⟩
  have sz_ := g.size
  try simp only [World.size_alloc] at sz_ o
  clear A_0_ A_1_ A_2_ R_0_ R_1_ R_2_ Q_0_ Q_1_ Q_2_ Q_3_ Q_4_ Q_5_ Q_6_ Q_7_
  have rA5_ := Lib.hid (show (w1).heap[W.heap.size]? = some (.cells #[.int .i64 i0, .slice a1 n1 c1, .slice a2 n2 c2] 26 (0, 0)) from row_held g rA1_.out)
  clear rA1_
  have rR6_ := Lib.hid (show (w1).heap[W.heap.size + 1]? = some (.cells #[.int .i64 0, .slice none 0 0, .slice none 0 0] 26 (0, 0)) from row_held g rR2_.out)
  clear rR2_
  have rQ7_ := Lib.hid (show (w1).heap[W.heap.size + 1 + 1]? = some (.cells #[.int .i64 0, .int .i64 0, .int .i64 0, .int .i64 0, .int .i64 0, .int .i64 0, .int .i64 0, .slice none 0 0] 29 (0, 0)) from row_held g rQ3_.out)
  clear rQ3_
  have G8_ := Lib.hid (show (W).grownBy (w1) none from gby_trans G4_.out g)
  clear g
  obtain ⟨d1, m1, k1, hv_⟩ := RdL.form (OwU.rd o)
  subst hv_
  obtain ⟨d2, m2, k2, hv_⟩ := RdL.form (OwU.rd (OwU.tail o))
  subst hv_
  unfold vVectors
  have oC9_ := Lib.hid (show OwU (w1) ((W.heap.size + 1 + 1 + 1)) (w1.heap.size) [] [own shB (.slice d1 m1 k1) xs, own shB (.slice d2 m2 k2) ys] from o)
  clear o
  have al_ : (w1).grownBy ((w1).alloc (.cells #[.int .i32 0, .int .u32 0, .int .i64 i0, .slice d1 m1 k1, .slice d2 m2 k2] 92)) none := gby_alloc (gby_refl _ _) _
  have rA10_ := Lib.hid (show ((w1.alloc (.cells #[.int .i32 0, .int .u32 0, .int .i64 i0, .slice d1 m1 k1, .slice d2 m2 k2] 92))).heap[W.heap.size]? = some (.cells #[.int .i64 i0, .slice a1 n1 c1, .slice a2 n2 c2] 26 (0, 0)) from row_held al_ rA5_.out)
  clear rA5_
  have rR11_ := Lib.hid (show ((w1.alloc (.cells #[.int .i32 0, .int .u32 0, .int .i64 i0, .slice d1 m1 k1, .slice d2 m2 k2] 92))).heap[W.heap.size + 1]? = some (.cells #[.int .i64 0, .slice none 0 0, .slice none 0 0] 26 (0, 0)) from row_held al_ rR6_.out)
  clear rR6_
  have rQ12_ := Lib.hid (show ((w1.alloc (.cells #[.int .i32 0, .int .u32 0, .int .i64 i0, .slice d1 m1 k1, .slice d2 m2 k2] 92))).heap[W.heap.size + 1 + 1]? = some (.cells #[.int .i64 0, .int .i64 0, .int .i64 0, .int .i64 0, .int .i64 0, .int .i64 0, .int .i64 0, .slice none 0 0] 29 (0, 0)) from row_held al_ rQ7_.out)
  clear rQ7_
  have oC13_ := Lib.hid (show OwU ((w1.alloc (.cells #[.int .i32 0, .int .u32 0, .int .i64 i0, .slice d1 m1 k1, .slice d2 m2 k2] 92))) ((W.heap.size + 1 + 1 + 1)) (w1.heap.size) [] [own shB (.slice d1 m1 k1) xs, own shB (.slice d2 m2 k2) ys] from OwU.grow oC9_.out al_)
  clear oC9_
  have G14_ := Lib.hid (show (W).grownBy ((w1.alloc (.cells #[.int .i32 0, .int .u32 0, .int .i64 i0, .slice d1 m1 k1, .slice d2 m2 k2] 92))) none from gby_trans G8_.out al_)
  have rX15_ := Lib.hid (show ((w1.alloc (.cells #[.int .i32 0, .int .u32 0, .int .i64 i0, .slice d1 m1 k1, .slice d2 m2 k2] 92))).heap[w1.heap.size]? = some (.cells #[.int .i32 0, .int .u32 0, .int .i64 i0, .slice d1 m1 k1, .slice d2 m2 k2] 92 (0, 0)) from by first | exact heap_alloc_new _ _ | exact heap_pair _ _ _ | exact heap_trip _ _ _ _)
  clear al_
  have A_0_ : ((w1.alloc (.cells #[.int .i32 0, .int .u32 0, .int .i64 i0, .slice d1 m1 k1, .slice d2 m2 k2] 92))).cell? ⟨W.heap.size, 0, none⟩ = some (.int .i64 i0) := cell_of_row _ _ 0 _ _ _ rA10_.out
  have A_1_ : ((w1.alloc (.cells #[.int .i32 0, .int .u32 0, .int .i64 i0, .slice d1 m1 k1, .slice d2 m2 k2] 92))).cell? ⟨W.heap.size, 1, none⟩ = some (.slice a1 n1 c1) := cell_of_row _ _ 1 _ _ _ rA10_.out
  have A_2_ : ((w1.alloc (.cells #[.int .i32 0, .int .u32 0, .int .i64 i0, .slice d1 m1 k1, .slice d2 m2 k2] 92))).cell? ⟨W.heap.size, 2, none⟩ = some (.slice a2 n2 c2) := cell_of_row _ _ 2 _ _ _ rA10_.out
  have R_0_ : ((w1.alloc (.cells #[.int .i32 0, .int .u32 0, .int .i64 i0, .slice d1 m1 k1, .slice d2 m2 k2] 92))).cell? ⟨W.heap.size + 1, 0, none⟩ = some (.int .i64 0) := cell_of_row _ _ 0 _ _ _ rR11_.out
  have R_1_ : ((w1.alloc (.cells #[.int .i32 0, .int .u32 0, .int .i64 i0, .slice d1 m1 k1, .slice d2 m2 k2] 92))).cell? ⟨W.heap.size + 1, 1, none⟩ = some (.slice none 0 0) := cell_of_row _ _ 1 _ _ _ rR11_.out
  have R_2_ : ((w1.alloc (.cells #[.int .i32 0, .int .u32 0, .int .i64 i0, .slice d1 m1 k1, .slice d2 m2 k2] 92))).cell? ⟨W.heap.size + 1, 2, none⟩ = some (.slice none 0 0) := cell_of_row _ _ 2 _ _ _ rR11_.out
  have Q_0_ : ((w1.alloc (.cells #[.int .i32 0, .int .u32 0, .int .i64 i0, .slice d1 m1 k1, .slice d2 m2 k2] 92))).cell? ⟨W.heap.size + 1 + 1, 0, none⟩ = some (.int .i64 0) := cell_of_row _ _ 0 _ _ _ rQ12_.out
  have Q_1_ : ((w1.alloc (.cells #[.int .i32 0, .int .u32 0, .int .i64 i0, .slice d1 m1 k1, .slice d2 m2 k2] 92))).cell? ⟨W.heap.size + 1 + 1, 1, none⟩ = some (.int .i64 0) := cell_of_row _ _ 1 _ _ _ rQ12_.out
  have Q_2_ : ((w1.alloc (.cells #[.int .i32 0, .int .u32 0, .int .i64 i0, .slice d1 m1 k1, .slice d2 m2 k2] 92))).cell? ⟨W.heap.size + 1 + 1, 2, none⟩ = some (.int .i64 0) := cell_of_row _ _ 2 _ _ _ rQ12_.out
  have Q_3_ : ((w1.alloc (.cells #[.int .i32 0, .int .u32 0, .int .i64 i0, .slice d1 m1 k1, .slice d2 m2 k2] 92))).cell? ⟨W.heap.size + 1 + 1, 3, none⟩ = some (.int .i64 0) := cell_of_row _ _ 3 _ _ _ rQ12_.out
  have Q_4_ : ((w1.alloc (.cells #[.int .i32 0, .int .u32 0, .int .i64 i0, .slice d1 m1 k1, .slice d2 m2 k2] 92))).cell? ⟨W.heap.size + 1 + 1, 4, none⟩ = some (.int .i64 0) := cell_of_row _ _ 4 _ _ _ rQ12_.out
  have Q_5_ : ((w1.alloc (.cells #[.int .i32 0, .int .u32 0, .int .i64 i0, .slice d1 m1 k1, .slice d2 m2 k2] 92))).cell? ⟨W.heap.size + 1 + 1, 5, none⟩ = some (.int .i64 0) := cell_of_row _ _ 5 _ _ _ rQ12_.out
  have Q_6_ : ((w1.alloc (.cells #[.int .i32 0, .int .u32 0, .int .i64 i0, .slice d1 m1 k1, .slice d2 m2 k2] 92))).cell? ⟨W.heap.size + 1 + 1, 6, none⟩ = some (.int .i64 0) := cell_of_row _ _ 6 _ _ _ rQ12_.out
  have Q_7_ : ((w1.alloc (.cells #[.int .i32 0, .int .u32 0, .int .i64 i0, .slice d1 m1 k1, .slice d2 m2 k2] 92))).cell? ⟨W.heap.size + 1 + 1, 7, none⟩ = some (.slice none 0 0) := cell_of_row _ _ 7 _ _ _ rQ12_.out
  have X_0_ : ((w1.alloc (.cells #[.int .i32 0, .int .u32 0, .int .i64 i0, .slice d1 m1 k1, .slice d2 m2 k2] 92))).cell? ⟨w1.heap.size, 0, none⟩ = some (.int .i32 0) := cell_of_row _ _ 0 _ _ _ rX15_.out
  have X_1_ : ((w1.alloc (.cells #[.int .i32 0, .int .u32 0, .int .i64 i0, .slice d1 m1 k1, .slice d2 m2 k2] 92))).cell? ⟨w1.heap.size, 1, none⟩ = some (.int .u32 0) := cell_of_row _ _ 1 _ _ _ rX15_.out
  have X_2_ : ((w1.alloc (.cells #[.int .i32 0, .int .u32 0, .int .i64 i0, .slice d1 m1 k1, .slice d2 m2 k2] 92))).cell? ⟨w1.heap.size, 2, none⟩ = some (.int .i64 i0) := cell_of_row _ _ 2 _ _ _ rX15_.out
  have X_3_ : ((w1.alloc (.cells #[.int .i32 0, .int .u32 0, .int .i64 i0, .slice d1 m1 k1, .slice d2 m2 k2] 92))).cell? ⟨w1.heap.size, 3, none⟩ = some (.slice d1 m1 k1) := cell_of_row _ _ 3 _ _ _ rX15_.out
  have X_4_ : ((w1.alloc (.cells #[.int .i32 0, .int .u32 0, .int .i64 i0, .slice d1 m1 k1, .slice d2 m2 k2] 92))).cell? ⟨w1.heap.size, 4, none⟩ = some (.slice d2 m2 k2) := cell_of_row _ _ 4 _ _ _ rX15_.out
  go_wp2_with fail
  go_at_call 64
  refine (((implVCall _ i0 _ _ xs ys id (kn : Int) (H1_.out.grow G14_.out) (H2_.out.grow G14_.out)).mono (bpost_yes HOK.out))).mono ?_
  rintro e w2 ⟨rfl, g⟩
  have szw2 := g.size
  try simp only [World.size_alloc] at szw2
  try simp only [World.size_setCell] at szw2
  clear A_0_ A_1_ A_2_ R_0_ R_1_ R_2_ Q_0_ Q_1_ Q_2_ Q_3_ Q_4_ Q_5_ Q_6_ Q_7_ X_0_ X_1_ X_2_ X_3_ X_4_
  have rA16_ := Lib.hid (show (w2).heap[W.heap.size]? = some (.cells #[.int .i64 i0, .slice a1 n1 c1, .slice a2 n2 c2] 26 (0, 0)) from row_held g rA10_.out)
  clear rA10_
  have rR17_ := Lib.hid (show (w2).heap[W.heap.size + 1]? = some (.cells #[.int .i64 0, .slice none 0 0, .slice none 0 0] 26 (0, 0)) from row_held g rR11_.out)
  clear rR11_
  have rQ18_ := Lib.hid (show (w2).heap[W.heap.size + 1 + 1]? = some (.cells #[.int .i64 0, .int .i64 0, .int .i64 0, .int .i64 0, .int .i64 0, .int .i64 0, .int .i64 0, .slice none 0 0] 29 (0, 0)) from row_held g rQ12_.out)
  clear rQ12_
  have rX19_ := Lib.hid (show (w2).heap[w1.heap.size]? = some (.cells #[.int .i32 0, .int .u32 0, .int .i64 i0, .slice d1 m1 k1, .slice d2 m2 k2] 92 (0, 0)) from row_held g rX15_.out)
  clear rX15_
  have oC20_ := Lib.hid (show OwU (w2) ((W.heap.size + 1 + 1 + 1)) (w1.heap.size) [] [own shB (.slice d1 m1 k1) xs, own shB (.slice d2 m2 k2) ys] from OwU.grow oC13_.out g)
  clear oC13_
  have G21_ := Lib.hid (show (W).grownBy (w2) none from gby_trans G14_.out g)
  clear g
  have A_0_ : (w2).cell? ⟨W.heap.size, 0, none⟩ = some (.int .i64 i0) := cell_of_row _ _ 0 _ _ _ rA16_.out
  have A_1_ : (w2).cell? ⟨W.heap.size, 1, none⟩ = some (.slice a1 n1 c1) := cell_of_row _ _ 1 _ _ _ rA16_.out
  have A_2_ : (w2).cell? ⟨W.heap.size, 2, none⟩ = some (.slice a2 n2 c2) := cell_of_row _ _ 2 _ _ _ rA16_.out
  have R_0_ : (w2).cell? ⟨W.heap.size + 1, 0, none⟩ = some (.int .i64 0) := cell_of_row _ _ 0 _ _ _ rR17_.out
  have R_1_ : (w2).cell? ⟨W.heap.size + 1, 1, none⟩ = some (.slice none 0 0) := cell_of_row _ _ 1 _ _ _ rR17_.out
  have R_2_ : (w2).cell? ⟨W.heap.size + 1, 2, none⟩ = some (.slice none 0 0) := cell_of_row _ _ 2 _ _ _ rR17_.out
  have Q_0_ : (w2).cell? ⟨W.heap.size + 1 + 1, 0, none⟩ = some (.int .i64 0) := cell_of_row _ _ 0 _ _ _ rQ18_.out
  have Q_1_ : (w2).cell? ⟨W.heap.size + 1 + 1, 1, none⟩ = some (.int .i64 0) := cell_of_row _ _ 1 _ _ _ rQ18_.out
  have Q_2_ : (w2).cell? ⟨W.heap.size + 1 + 1, 2, none⟩ = some (.int .i64 0) := cell_of_row _ _ 2 _ _ _ rQ18_.out
  have Q_3_ : (w2).cell? ⟨W.heap.size + 1 + 1, 3, none⟩ = some (.int .i64 0) := cell_of_row _ _ 3 _ _ _ rQ18_.out
  have Q_4_ : (w2).cell? ⟨W.heap.size + 1 + 1, 4, none⟩ = some (.int .i64 0) := cell_of_row _ _ 4 _ _ _ rQ18_.out
  have Q_5_ : (w2).cell? ⟨W.heap.size + 1 + 1, 5, none⟩ = some (.int .i64 0) := cell_of_row _ _ 5 _ _ _ rQ18_.out
  have Q_6_ : (w2).cell? ⟨W.heap.size + 1 + 1, 6, none⟩ = some (.int .i64 0) := cell_of_row _ _ 6 _ _ _ rQ18_.out
  have Q_7_ : (w2).cell? ⟨W.heap.size + 1 + 1, 7, none⟩ = some (.slice none 0 0) := cell_of_row _ _ 7 _ _ _ rQ18_.out
  have X_0_ : (w2).cell? ⟨w1.heap.size, 0, none⟩ = some (.int .i32 0) := cell_of_row _ _ 0 _ _ _ rX19_.out
  have X_1_ : (w2).cell? ⟨w1.heap.size, 1, none⟩ = some (.int .u32 0) := cell_of_row _ _ 1 _ _ _ rX19_.out
  have X_2_ : (w2).cell? ⟨w1.heap.size, 2, none⟩ = some (.int .i64 i0) := cell_of_row _ _ 2 _ _ _ rX19_.out
  have X_3_ : (w2).cell? ⟨w1.heap.size, 3, none⟩ = some (.slice d1 m1 k1) := cell_of_row _ _ 3 _ _ _ rX19_.out
  have X_4_ : (w2).cell? ⟨w1.heap.size, 4, none⟩ = some (.slice d2 m2 k2) := cell_of_row _ _ 4 _ _ _ rX19_.out
  clear A_0_ A_1_ A_2_ R_0_ R_1_ R_2_ Q_0_ Q_1_ Q_2_ Q_3_ Q_4_ Q_5_ Q_6_ Q_7_ X_0_ X_1_ X_2_ X_3_ X_4_
  go_wp2_with fail
  go_at_call 72
  refine (setm_set _ w1.heap.size (W.heap.size + 1 + 1 + 1) kn i0 id _ _ xs ys rX19_.out (OwU.wide (Nat.le_refl _) (by omega) oC20_.out) hkx (by omega) hy_).mono ?_
  rintro e w3 ⟨x3, rfl, o, hrow, o3, gc⟩
  have gg_ : (w2).heap.size ≤ w3.heap.size := gc.size
  try simp only [World.size_alloc] at gg_
  obtain ⟨e1, e2, e3, hv_⟩ := RdL.form (OwU.rd o3)
  subst hv_
  unfold vPacket
  have NA_ := Lib.hid (show w3.heap[W.heap.size]? = some (.cells #[.int .i64 i0, .slice a1 n1 c1, .slice a2 n2 c2] 26 (0, 0)) from Chg.keep gc rA16_.out (by omega))
  have NR_ := Lib.hid (show w3.heap[W.heap.size + 1]? = some (.cells #[.int .i64 0, .slice none 0 0, .slice none 0 0] 26 (0, 0)) from Chg.keep gc rR17_.out (by omega))
  have NQ_ := Lib.hid (show w3.heap[W.heap.size + 1 + 1]? = some (.cells #[.int .i64 0, .int .i64 0, .int .i64 0, .int .i64 0, .int .i64 0, .int .i64 0, .int .i64 0, .slice none 0 0] 29 (0, 0)) from Chg.keep gc rQ18_.out (by omega))
  have NX_ := Lib.hid hrow
  have NO_ := Lib.hid (show OwU w3 (W.heap.size + 1 + 1 + 1) w3.heap.size [] [own shB (.slice d1 m1 k1) (xs.set kn true), own shB (.slice d2 m2 k2) ys, own shI (.slice e1 e2 e3) []] from OwU.app (ps := [own shB (.slice d1 m1 k1) (xs.set kn true), own shB (.slice d2 m2 k2) ys]) (qs := [own shI (.slice e1 e2 e3) []]) (by omega) (by omega) o (OwU.wide (lo := (w2).heap.size) (by (try simp only [World.size_alloc]); omega) (Nat.le_refl _) o3))
  have NG_ := Lib.hid (show W.grownBy w3 none from gby_chg G21_.out gc (by omega))
  have hgl_ : w1.heap.size < w3.heap.size := lt_of_block hrow
  clear hrow o o3 gc
  clear rA16_
  clear rR17_
  clear rQ18_
  clear rX19_
  clear oC20_
  have G22_ := Lib.hid (show (W).grownBy (w3) none from NG_.out)
  have rA23_ := Lib.hid (show (w3).heap[W.heap.size]? = some (.cells #[.int .i64 i0, .slice a1 n1 c1, .slice a2 n2 c2] 26 (0, 0)) from NA_.out)
  have rR24_ := Lib.hid (show (w3).heap[W.heap.size + 1]? = some (.cells #[.int .i64 0, .slice none 0 0, .slice none 0 0] 26 (0, 0)) from NR_.out)
  have rQ25_ := Lib.hid (show (w3).heap[W.heap.size + 1 + 1]? = some (.cells #[.int .i64 0, .int .i64 0, .int .i64 0, .int .i64 0, .int .i64 0, .int .i64 0, .int .i64 0, .slice none 0 0] 29 (0, 0)) from NQ_.out)
  have rX26_ := Lib.hid (show (w3).heap[w1.heap.size]? = some (.cells #[.int .i32 0, .int .u32 0, .int .i64 i0, .slice d1 m1 k1, .slice d2 m2 k2] 92 (0, 0)) from NX_.out)
  have oC27_ := Lib.hid (show OwU (w3) ((W.heap.size + 1 + 1 + 1)) (w3.heap.size) [] [own shB (.slice d1 m1 k1) (xs.set kn true), own shB (.slice d2 m2 k2) ys, own shI (.slice e1 e2 e3) []] from NO_.out)
  have A_0_ : (w3).cell? ⟨W.heap.size, 0, none⟩ = some (.int .i64 i0) := cell_of_row _ _ 0 _ _ _ rA23_.out
  have A_1_ : (w3).cell? ⟨W.heap.size, 1, none⟩ = some (.slice a1 n1 c1) := cell_of_row _ _ 1 _ _ _ rA23_.out
  have A_2_ : (w3).cell? ⟨W.heap.size, 2, none⟩ = some (.slice a2 n2 c2) := cell_of_row _ _ 2 _ _ _ rA23_.out
  have R_0_ : (w3).cell? ⟨W.heap.size + 1, 0, none⟩ = some (.int .i64 0) := cell_of_row _ _ 0 _ _ _ rR24_.out
  have R_1_ : (w3).cell? ⟨W.heap.size + 1, 1, none⟩ = some (.slice none 0 0) := cell_of_row _ _ 1 _ _ _ rR24_.out
  have R_2_ : (w3).cell? ⟨W.heap.size + 1, 2, none⟩ = some (.slice none 0 0) := cell_of_row _ _ 2 _ _ _ rR24_.out
  have Q_0_ : (w3).cell? ⟨W.heap.size + 1 + 1, 0, none⟩ = some (.int .i64 0) := cell_of_row _ _ 0 _ _ _ rQ25_.out
  have Q_1_ : (w3).cell? ⟨W.heap.size + 1 + 1, 1, none⟩ = some (.int .i64 0) := cell_of_row _ _ 1 _ _ _ rQ25_.out
  have Q_2_ : (w3).cell? ⟨W.heap.size + 1 + 1, 2, none⟩ = some (.int .i64 0) := cell_of_row _ _ 2 _ _ _ rQ25_.out
  have Q_3_ : (w3).cell? ⟨W.heap.size + 1 + 1, 3, none⟩ = some (.int .i64 0) := cell_of_row _ _ 3 _ _ _ rQ25_.out
  have Q_4_ : (w3).cell? ⟨W.heap.size + 1 + 1, 4, none⟩ = some (.int .i64 0) := cell_of_row _ _ 4 _ _ _ rQ25_.out
  have Q_5_ : (w3).cell? ⟨W.heap.size + 1 + 1, 5, none⟩ = some (.int .i64 0) := cell_of_row _ _ 5 _ _ _ rQ25_.out
  have Q_6_ : (w3).cell? ⟨W.heap.size + 1 + 1, 6, none⟩ = some (.int .i64 0) := cell_of_row _ _ 6 _ _ _ rQ25_.out
  have Q_7_ : (w3).cell? ⟨W.heap.size + 1 + 1, 7, none⟩ = some (.slice none 0 0) := cell_of_row _ _ 7 _ _ _ rQ25_.out
  have X_0_ : (w3).cell? ⟨w1.heap.size, 0, none⟩ = some (.int .i32 0) := cell_of_row _ _ 0 _ _ _ rX26_.out
  have X_1_ : (w3).cell? ⟨w1.heap.size, 1, none⟩ = some (.int .u32 0) := cell_of_row _ _ 1 _ _ _ rX26_.out
  have X_2_ : (w3).cell? ⟨w1.heap.size, 2, none⟩ = some (.int .i64 i0) := cell_of_row _ _ 2 _ _ _ rX26_.out
  have X_3_ : (w3).cell? ⟨w1.heap.size, 3, none⟩ = some (.slice d1 m1 k1) := cell_of_row _ _ 3 _ _ _ rX26_.out
  have X_4_ : (w3).cell? ⟨w1.heap.size, 4, none⟩ = some (.slice d2 m2 k2) := cell_of_row _ _ 4 _ _ _ rX26_.out
  clear A_0_ A_1_ A_2_ R_0_ R_1_ R_2_ Q_0_ Q_1_ Q_2_ Q_3_ Q_4_ Q_5_ Q_6_ Q_7_ X_0_ X_1_ X_2_ X_3_ X_4_
  have al_ : (w3).grownBy ((w3).alloc (.cells #[.int .i64 0, .int .i64 0, .int .i64 0, .int .i64 0, .int .i64 0, .int .i64 0, .int .i64 0, .slice e1 e2 e3] 29)) none := gby_alloc (gby_refl _ _) _
  have rA28_ := Lib.hid (show ((w3.alloc (.cells #[.int .i64 0, .int .i64 0, .int .i64 0, .int .i64 0, .int .i64 0, .int .i64 0, .int .i64 0, .slice e1 e2 e3] 29))).heap[W.heap.size]? = some (.cells #[.int .i64 i0, .slice a1 n1 c1, .slice a2 n2 c2] 26 (0, 0)) from row_held al_ rA23_.out)
  clear rA23_
  have rR29_ := Lib.hid (show ((w3.alloc (.cells #[.int .i64 0, .int .i64 0, .int .i64 0, .int .i64 0, .int .i64 0, .int .i64 0, .int .i64 0, .slice e1 e2 e3] 29))).heap[W.heap.size + 1]? = some (.cells #[.int .i64 0, .slice none 0 0, .slice none 0 0] 26 (0, 0)) from row_held al_ rR24_.out)
  clear rR24_
  have rQ30_ := Lib.hid (show ((w3.alloc (.cells #[.int .i64 0, .int .i64 0, .int .i64 0, .int .i64 0, .int .i64 0, .int .i64 0, .int .i64 0, .slice e1 e2 e3] 29))).heap[W.heap.size + 1 + 1]? = some (.cells #[.int .i64 0, .int .i64 0, .int .i64 0, .int .i64 0, .int .i64 0, .int .i64 0, .int .i64 0, .slice none 0 0] 29 (0, 0)) from row_held al_ rQ25_.out)
  clear rQ25_
  have rX31_ := Lib.hid (show ((w3.alloc (.cells #[.int .i64 0, .int .i64 0, .int .i64 0, .int .i64 0, .int .i64 0, .int .i64 0, .int .i64 0, .slice e1 e2 e3] 29))).heap[w1.heap.size]? = some (.cells #[.int .i32 0, .int .u32 0, .int .i64 i0, .slice d1 m1 k1, .slice d2 m2 k2] 92 (0, 0)) from row_held al_ rX26_.out)
  clear rX26_
  have oC32_ := Lib.hid (show OwU ((w3.alloc (.cells #[.int .i64 0, .int .i64 0, .int .i64 0, .int .i64 0, .int .i64 0, .int .i64 0, .int .i64 0, .slice e1 e2 e3] 29))) ((W.heap.size + 1 + 1 + 1)) (w3.heap.size) [] [own shB (.slice d1 m1 k1) (xs.set kn true), own shB (.slice d2 m2 k2) ys, own shI (.slice e1 e2 e3) []] from OwU.grow oC27_.out al_)
  clear oC27_
  have G33_ := Lib.hid (show (W).grownBy ((w3.alloc (.cells #[.int .i64 0, .int .i64 0, .int .i64 0, .int .i64 0, .int .i64 0, .int .i64 0, .int .i64 0, .slice e1 e2 e3] 29))) none from gby_trans G22_.out al_)
  have rK34_ := Lib.hid (show ((w3.alloc (.cells #[.int .i64 0, .int .i64 0, .int .i64 0, .int .i64 0, .int .i64 0, .int .i64 0, .int .i64 0, .slice e1 e2 e3] 29))).heap[w3.heap.size]? = some (.cells #[.int .i64 0, .int .i64 0, .int .i64 0, .int .i64 0, .int .i64 0, .int .i64 0, .int .i64 0, .slice e1 e2 e3] 29 (0, 0)) from by first | exact heap_alloc_new _ _ | exact heap_pair _ _ _ | exact heap_trip _ _ _ _)
  clear al_
  have A_0_ : ((w3.alloc (.cells #[.int .i64 0, .int .i64 0, .int .i64 0, .int .i64 0, .int .i64 0, .int .i64 0, .int .i64 0, .slice e1 e2 e3] 29))).cell? ⟨W.heap.size, 0, none⟩ = some (.int .i64 i0) := cell_of_row _ _ 0 _ _ _ rA28_.out
  have A_1_ : ((w3.alloc (.cells #[.int .i64 0, .int .i64 0, .int .i64 0, .int .i64 0, .int .i64 0, .int .i64 0, .int .i64 0, .slice e1 e2 e3] 29))).cell? ⟨W.heap.size, 1, none⟩ = some (.slice a1 n1 c1) := cell_of_row _ _ 1 _ _ _ rA28_.out
  have A_2_ : ((w3.alloc (.cells #[.int .i64 0, .int .i64 0, .int .i64 0, .int .i64 0, .int .i64 0, .int .i64 0, .int .i64 0, .slice e1 e2 e3] 29))).cell? ⟨W.heap.size, 2, none⟩ = some (.slice a2 n2 c2) := cell_of_row _ _ 2 _ _ _ rA28_.out
  have R_0_ : ((w3.alloc (.cells #[.int .i64 0, .int .i64 0, .int .i64 0, .int .i64 0, .int .i64 0, .int .i64 0, .int .i64 0, .slice e1 e2 e3] 29))).cell? ⟨W.heap.size + 1, 0, none⟩ = some (.int .i64 0) := cell_of_row _ _ 0 _ _ _ rR29_.out
  have R_1_ : ((w3.alloc (.cells #[.int .i64 0, .int .i64 0, .int .i64 0, .int .i64 0, .int .i64 0, .int .i64 0, .int .i64 0, .slice e1 e2 e3] 29))).cell? ⟨W.heap.size + 1, 1, none⟩ = some (.slice none 0 0) := cell_of_row _ _ 1 _ _ _ rR29_.out
  have R_2_ : ((w3.alloc (.cells #[.int .i64 0, .int .i64 0, .int .i64 0, .int .i64 0, .int .i64 0, .int .i64 0, .int .i64 0, .slice e1 e2 e3] 29))).cell? ⟨W.heap.size + 1, 2, none⟩ = some (.slice none 0 0) := cell_of_row _ _ 2 _ _ _ rR29_.out
  have Q_0_ : ((w3.alloc (.cells #[.int .i64 0, .int .i64 0, .int .i64 0, .int .i64 0, .int .i64 0, .int .i64 0, .int .i64 0, .slice e1 e2 e3] 29))).cell? ⟨W.heap.size + 1 + 1, 0, none⟩ = some (.int .i64 0) := cell_of_row _ _ 0 _ _ _ rQ30_.out
  have Q_1_ : ((w3.alloc (.cells #[.int .i64 0, .int .i64 0, .int .i64 0, .int .i64 0, .int .i64 0, .int .i64 0, .int .i64 0, .slice e1 e2 e3] 29))).cell? ⟨W.heap.size + 1 + 1, 1, none⟩ = some (.int .i64 0) := cell_of_row _ _ 1 _ _ _ rQ30_.out
  have Q_2_ : ((w3.alloc (.cells #[.int .i64 0, .int .i64 0, .int .i64 0, .int .i64 0, .int .i64 0, .int .i64 0, .int .i64 0, .slice e1 e2 e3] 29))).cell? ⟨W.heap.size + 1 + 1, 2, none⟩ = some (.int .i64 0) := cell_of_row _ _ 2 _ _ _ rQ30_.out
  have Q_3_ : ((w3.alloc (.cells #[.int .i64 0, .int .i64 0, .int .i64 0, .int .i64 0, .int .i64 0, .int .i64 0, .int .i64 0, .slice e1 e2 e3] 29))).cell? ⟨W.heap.size + 1 + 1, 3, none⟩ = some (.int .i64 0) := cell_of_row _ _ 3 _ _ _ rQ30_.out
  have Q_4_ : ((w3.alloc (.cells #[.int .i64 0, .int .i64 0, .int .i64 0, .int .i64 0, .int .i64 0, .int .i64 0, .int .i64 0, .slice e1 e2 e3] 29))).cell? ⟨W.heap.size + 1 + 1, 4, none⟩ = some (.int .i64 0) := cell_of_row _ _ 4 _ _ _ rQ30_.out
  have Q_5_ : ((w3.alloc (.cells #[.int .i64 0, .int .i64 0, .int .i64 0, .int .i64 0, .int .i64 0, .int .i64 0, .int .i64 0, .slice e1 e2 e3] 29))).cell? ⟨W.heap.size + 1 + 1, 5, none⟩ = some (.int .i64 0) := cell_of_row _ _ 5 _ _ _ rQ30_.out
  have Q_6_ : ((w3.alloc (.cells #[.int .i64 0, .int .i64 0, .int .i64 0, .int .i64 0, .int .i64 0, .int .i64 0, .int .i64 0, .slice e1 e2 e3] 29))).cell? ⟨W.heap.size + 1 + 1, 6, none⟩ = some (.int .i64 0) := cell_of_row _ _ 6 _ _ _ rQ30_.out
  have Q_7_ : ((w3.alloc (.cells #[.int .i64 0, .int .i64 0, .int .i64 0, .int .i64 0, .int .i64 0, .int .i64 0, .int .i64 0, .slice e1 e2 e3] 29))).cell? ⟨W.heap.size + 1 + 1, 7, none⟩ = some (.slice none 0 0) := cell_of_row _ _ 7 _ _ _ rQ30_.out
  have X_0_ : ((w3.alloc (.cells #[.int .i64 0, .int .i64 0, .int .i64 0, .int .i64 0, .int .i64 0, .int .i64 0, .int .i64 0, .slice e1 e2 e3] 29))).cell? ⟨w1.heap.size, 0, none⟩ = some (.int .i32 0) := cell_of_row _ _ 0 _ _ _ rX31_.out
  have X_1_ : ((w3.alloc (.cells #[.int .i64 0, .int .i64 0, .int .i64 0, .int .i64 0, .int .i64 0, .int .i64 0, .int .i64 0, .slice e1 e2 e3] 29))).cell? ⟨w1.heap.size, 1, none⟩ = some (.int .u32 0) := cell_of_row _ _ 1 _ _ _ rX31_.out
  have X_2_ : ((w3.alloc (.cells #[.int .i64 0, .int .i64 0, .int .i64 0, .int .i64 0, .int .i64 0, .int .i64 0, .int .i64 0, .slice e1 e2 e3] 29))).cell? ⟨w1.heap.size, 2, none⟩ = some (.int .i64 i0) := cell_of_row _ _ 2 _ _ _ rX31_.out
  have X_3_ : ((w3.alloc (.cells #[.int .i64 0, .int .i64 0, .int .i64 0, .int .i64 0, .int .i64 0, .int .i64 0, .int .i64 0, .slice e1 e2 e3] 29))).cell? ⟨w1.heap.size, 3, none⟩ = some (.slice d1 m1 k1) := cell_of_row _ _ 3 _ _ _ rX31_.out
  have X_4_ : ((w3.alloc (.cells #[.int .i64 0, .int .i64 0, .int .i64 0, .int .i64 0, .int .i64 0, .int .i64 0, .int .i64 0, .slice e1 e2 e3] 29))).cell? ⟨w1.heap.size, 4, none⟩ = some (.slice d2 m2 k2) := cell_of_row _ _ 4 _ _ _ rX31_.out
  have K_0_ : ((w3.alloc (.cells #[.int .i64 0, .int .i64 0, .int .i64 0, .int .i64 0, .int .i64 0, .int .i64 0, .int .i64 0, .slice e1 e2 e3] 29))).cell? ⟨w3.heap.size, 0, none⟩ = some (.int .i64 0) := cell_of_row _ _ 0 _ _ _ rK34_.out
  have K_1_ : ((w3.alloc (.cells #[.int .i64 0, .int .i64 0, .int .i64 0, .int .i64 0, .int .i64 0, .int .i64 0, .int .i64 0, .slice e1 e2 e3] 29))).cell? ⟨w3.heap.size, 1, none⟩ = some (.int .i64 0) := cell_of_row _ _ 1 _ _ _ rK34_.out
  have K_2_ : ((w3.alloc (.cells #[.int .i64 0, .int .i64 0, .int .i64 0, .int .i64 0, .int .i64 0, .int .i64 0, .int .i64 0, .slice e1 e2 e3] 29))).cell? ⟨w3.heap.size, 2, none⟩ = some (.int .i64 0) := cell_of_row _ _ 2 _ _ _ rK34_.out
  have K_3_ : ((w3.alloc (.cells #[.int .i64 0, .int .i64 0, .int .i64 0, .int .i64 0, .int .i64 0, .int .i64 0, .int .i64 0, .slice e1 e2 e3] 29))).cell? ⟨w3.heap.size, 3, none⟩ = some (.int .i64 0) := cell_of_row _ _ 3 _ _ _ rK34_.out
  have K_4_ : ((w3.alloc (.cells #[.int .i64 0, .int .i64 0, .int .i64 0, .int .i64 0, .int .i64 0, .int .i64 0, .int .i64 0, .slice e1 e2 e3] 29))).cell? ⟨w3.heap.size, 4, none⟩ = some (.int .i64 0) := cell_of_row _ _ 4 _ _ _ rK34_.out
  have K_5_ : ((w3.alloc (.cells #[.int .i64 0, .int .i64 0, .int .i64 0, .int .i64 0, .int .i64 0, .int .i64 0, .int .i64 0, .slice e1 e2 e3] 29))).cell? ⟨w3.heap.size, 5, none⟩ = some (.int .i64 0) := cell_of_row _ _ 5 _ _ _ rK34_.out
  have K_6_ : ((w3.alloc (.cells #[.int .i64 0, .int .i64 0, .int .i64 0, .int .i64 0, .int .i64 0, .int .i64 0, .int .i64 0, .slice e1 e2 e3] 29))).cell? ⟨w3.heap.size, 6, none⟩ = some (.int .i64 0) := cell_of_row _ _ 6 _ _ _ rK34_.out
  have K_7_ : ((w3.alloc (.cells #[.int .i64 0, .int .i64 0, .int .i64 0, .int .i64 0, .int .i64 0, .int .i64 0, .int .i64 0, .slice e1 e2 e3] 29))).cell? ⟨w3.heap.size, 7, none⟩ = some (.slice e1 e2 e3) := cell_of_row _ _ 7 _ _ _ rK34_.out
  have nb0_ : ¬ w1.heap.size = W.heap.size + 1 := by omega
  have nb1_ : ¬ W.heap.size + 1 = w1.heap.size := by omega
  have nb2_ : ¬ w1.heap.size = W.heap.size + 1 + 1 := by omega
  have nb3_ : ¬ W.heap.size + 1 + 1 = w1.heap.size := by omega
  have nb4_ : ¬ w3.heap.size = W.heap.size + 1 := by omega
  have nb5_ : ¬ W.heap.size + 1 = w3.heap.size := by omega
  have nb6_ : ¬ w3.heap.size = W.heap.size + 1 + 1 := by omega
  have nb7_ : ¬ W.heap.size + 1 + 1 = w3.heap.size := by omega
  clear A_0_ A_1_ A_2_ R_0_ R_1_ R_2_ Q_0_ Q_1_ Q_2_ Q_3_ Q_4_ Q_5_ Q_6_ Q_7_ X_0_ X_1_ X_2_ X_3_ X_4_ K_0_ K_1_ K_2_ K_3_ K_4_ K_5_ K_6_ K_7_
  have A_0_ : ((w3.alloc (.cells #[.int .i64 0, .int .i64 0, .int .i64 0, .int .i64 0, .int .i64 0, .int .i64 0, .int .i64 0, .slice e1 e2 e3] 29))).cell? ⟨W.heap.size, 0, none⟩ = some (.int .i64 i0) := cell_of_row _ _ 0 _ _ _ rA28_.out
  have A_1_ : ((w3.alloc (.cells #[.int .i64 0, .int .i64 0, .int .i64 0, .int .i64 0, .int .i64 0, .int .i64 0, .int .i64 0, .slice e1 e2 e3] 29))).cell? ⟨W.heap.size, 1, none⟩ = some (.slice a1 n1 c1) := cell_of_row _ _ 1 _ _ _ rA28_.out
  have A_2_ : ((w3.alloc (.cells #[.int .i64 0, .int .i64 0, .int .i64 0, .int .i64 0, .int .i64 0, .int .i64 0, .int .i64 0, .slice e1 e2 e3] 29))).cell? ⟨W.heap.size, 2, none⟩ = some (.slice a2 n2 c2) := cell_of_row _ _ 2 _ _ _ rA28_.out
  have R_0_ : ((w3.alloc (.cells #[.int .i64 0, .int .i64 0, .int .i64 0, .int .i64 0, .int .i64 0, .int .i64 0, .int .i64 0, .slice e1 e2 e3] 29))).cell? ⟨W.heap.size + 1, 0, none⟩ = some (.int .i64 0) := cell_of_row _ _ 0 _ _ _ rR29_.out
  have R_1_ : ((w3.alloc (.cells #[.int .i64 0, .int .i64 0, .int .i64 0, .int .i64 0, .int .i64 0, .int .i64 0, .int .i64 0, .slice e1 e2 e3] 29))).cell? ⟨W.heap.size + 1, 1, none⟩ = some (.slice none 0 0) := cell_of_row _ _ 1 _ _ _ rR29_.out
  have R_2_ : ((w3.alloc (.cells #[.int .i64 0, .int .i64 0, .int .i64 0, .int .i64 0, .int .i64 0, .int .i64 0, .int .i64 0, .slice e1 e2 e3] 29))).cell? ⟨W.heap.size + 1, 2, none⟩ = some (.slice none 0 0) := cell_of_row _ _ 2 _ _ _ rR29_.out
  have Rf0_ : ((w3.alloc (.cells #[.int .i64 0, .int .i64 0, .int .i64 0, .int .i64 0, .int .i64 0, .int .i64 0, .int .i64 0, .slice e1 e2 e3] 29))).frozen? ⟨W.heap.size + 1, 0, none⟩ = false := frozen_of_row _ _ 0 _ _ rR29_.out
  have Rf1_ : ((w3.alloc (.cells #[.int .i64 0, .int .i64 0, .int .i64 0, .int .i64 0, .int .i64 0, .int .i64 0, .int .i64 0, .slice e1 e2 e3] 29))).frozen? ⟨W.heap.size + 1, 1, none⟩ = false := frozen_of_row _ _ 1 _ _ rR29_.out
  have Rf2_ : ((w3.alloc (.cells #[.int .i64 0, .int .i64 0, .int .i64 0, .int .i64 0, .int .i64 0, .int .i64 0, .int .i64 0, .slice e1 e2 e3] 29))).frozen? ⟨W.heap.size + 1, 2, none⟩ = false := frozen_of_row _ _ 2 _ _ rR29_.out
  have Q_0_ : ((w3.alloc (.cells #[.int .i64 0, .int .i64 0, .int .i64 0, .int .i64 0, .int .i64 0, .int .i64 0, .int .i64 0, .slice e1 e2 e3] 29))).cell? ⟨W.heap.size + 1 + 1, 0, none⟩ = some (.int .i64 0) := cell_of_row _ _ 0 _ _ _ rQ30_.out
  have Q_1_ : ((w3.alloc (.cells #[.int .i64 0, .int .i64 0, .int .i64 0, .int .i64 0, .int .i64 0, .int .i64 0, .int .i64 0, .slice e1 e2 e3] 29))).cell? ⟨W.heap.size + 1 + 1, 1, none⟩ = some (.int .i64 0) := cell_of_row _ _ 1 _ _ _ rQ30_.out
  have Q_2_ : ((w3.alloc (.cells #[.int .i64 0, .int .i64 0, .int .i64 0, .int .i64 0, .int .i64 0, .int .i64 0, .int .i64 0, .slice e1 e2 e3] 29))).cell? ⟨W.heap.size + 1 + 1, 2, none⟩ = some (.int .i64 0) := cell_of_row _ _ 2 _ _ _ rQ30_.out
  have Q_3_ : ((w3.alloc (.cells #[.int .i64 0, .int .i64 0, .int .i64 0, .int .i64 0, .int .i64 0, .int .i64 0, .int .i64 0, .slice e1 e2 e3] 29))).cell? ⟨W.heap.size + 1 + 1, 3, none⟩ = some (.int .i64 0) := cell_of_row _ _ 3 _ _ _ rQ30_.out
  have Q_4_ : ((w3.alloc (.cells #[.int .i64 0, .int .i64 0, .int .i64 0, .int .i64 0, .int .i64 0, .int .i64 0, .int .i64 0, .slice e1 e2 e3] 29))).cell? ⟨W.heap.size + 1 + 1, 4, none⟩ = some (.int .i64 0) := cell_of_row _ _ 4 _ _ _ rQ30_.out
  have Q_5_ : ((w3.alloc (.cells #[.int .i64 0, .int .i64 0, .int .i64 0, .int .i64 0, .int .i64 0, .int .i64 0, .int .i64 0, .slice e1 e2 e3] 29))).cell? ⟨W.heap.size + 1 + 1, 5, none⟩ = some (.int .i64 0) := cell_of_row _ _ 5 _ _ _ rQ30_.out
  have Q_6_ : ((w3.alloc (.cells #[.int .i64 0, .int .i64 0, .int .i64 0, .int .i64 0, .int .i64 0, .int .i64 0, .int .i64 0, .slice e1 e2 e3] 29))).cell? ⟨W.heap.size + 1 + 1, 6, none⟩ = some (.int .i64 0) := cell_of_row _ _ 6 _ _ _ rQ30_.out
  have Q_7_ : ((w3.alloc (.cells #[.int .i64 0, .int .i64 0, .int .i64 0, .int .i64 0, .int .i64 0, .int .i64 0, .int .i64 0, .slice e1 e2 e3] 29))).cell? ⟨W.heap.size + 1 + 1, 7, none⟩ = some (.slice none 0 0) := cell_of_row _ _ 7 _ _ _ rQ30_.out
  have Qf0_ : ((w3.alloc (.cells #[.int .i64 0, .int .i64 0, .int .i64 0, .int .i64 0, .int .i64 0, .int .i64 0, .int .i64 0, .slice e1 e2 e3] 29))).frozen? ⟨W.heap.size + 1 + 1, 0, none⟩ = false := frozen_of_row _ _ 0 _ _ rQ30_.out
  have Qf1_ : ((w3.alloc (.cells #[.int .i64 0, .int .i64 0, .int .i64 0, .int .i64 0, .int .i64 0, .int .i64 0, .int .i64 0, .slice e1 e2 e3] 29))).frozen? ⟨W.heap.size + 1 + 1, 1, none⟩ = false := frozen_of_row _ _ 1 _ _ rQ30_.out
  have Qf2_ : ((w3.alloc (.cells #[.int .i64 0, .int .i64 0, .int .i64 0, .int .i64 0, .int .i64 0, .int .i64 0, .int .i64 0, .slice e1 e2 e3] 29))).frozen? ⟨W.heap.size + 1 + 1, 2, none⟩ = false := frozen_of_row _ _ 2 _ _ rQ30_.out
  have Qf3_ : ((w3.alloc (.cells #[.int .i64 0, .int .i64 0, .int .i64 0, .int .i64 0, .int .i64 0, .int .i64 0, .int .i64 0, .slice e1 e2 e3] 29))).frozen? ⟨W.heap.size + 1 + 1, 3, none⟩ = false := frozen_of_row _ _ 3 _ _ rQ30_.out
  have Qf4_ : ((w3.alloc (.cells #[.int .i64 0, .int .i64 0, .int .i64 0, .int .i64 0, .int .i64 0, .int .i64 0, .int .i64 0, .slice e1 e2 e3] 29))).frozen? ⟨W.heap.size + 1 + 1, 4, none⟩ = false := frozen_of_row _ _ 4 _ _ rQ30_.out
  have Qf5_ : ((w3.alloc (.cells #[.int .i64 0, .int .i64 0, .int .i64 0, .int .i64 0, .int .i64 0, .int .i64 0, .int .i64 0, .slice e1 e2 e3] 29))).frozen? ⟨W.heap.size + 1 + 1, 5, none⟩ = false := frozen_of_row _ _ 5 _ _ rQ30_.out
  have Qf6_ : ((w3.alloc (.cells #[.int .i64 0, .int .i64 0, .int .i64 0, .int .i64 0, .int .i64 0, .int .i64 0, .int .i64 0, .slice e1 e2 e3] 29))).frozen? ⟨W.heap.size + 1 + 1, 6, none⟩ = false := frozen_of_row _ _ 6 _ _ rQ30_.out
  have Qf7_ : ((w3.alloc (.cells #[.int .i64 0, .int .i64 0, .int .i64 0, .int .i64 0, .int .i64 0, .int .i64 0, .int .i64 0, .slice e1 e2 e3] 29))).frozen? ⟨W.heap.size + 1 + 1, 7, none⟩ = false := frozen_of_row _ _ 7 _ _ rQ30_.out
  have X_0_ : ((w3.alloc (.cells #[.int .i64 0, .int .i64 0, .int .i64 0, .int .i64 0, .int .i64 0, .int .i64 0, .int .i64 0, .slice e1 e2 e3] 29))).cell? ⟨w1.heap.size, 0, none⟩ = some (.int .i32 0) := cell_of_row _ _ 0 _ _ _ rX31_.out
  have X_1_ : ((w3.alloc (.cells #[.int .i64 0, .int .i64 0, .int .i64 0, .int .i64 0, .int .i64 0, .int .i64 0, .int .i64 0, .slice e1 e2 e3] 29))).cell? ⟨w1.heap.size, 1, none⟩ = some (.int .u32 0) := cell_of_row _ _ 1 _ _ _ rX31_.out
  have X_2_ : ((w3.alloc (.cells #[.int .i64 0, .int .i64 0, .int .i64 0, .int .i64 0, .int .i64 0, .int .i64 0, .int .i64 0, .slice e1 e2 e3] 29))).cell? ⟨w1.heap.size, 2, none⟩ = some (.int .i64 i0) := cell_of_row _ _ 2 _ _ _ rX31_.out
  have X_3_ : ((w3.alloc (.cells #[.int .i64 0, .int .i64 0, .int .i64 0, .int .i64 0, .int .i64 0, .int .i64 0, .int .i64 0, .slice e1 e2 e3] 29))).cell? ⟨w1.heap.size, 3, none⟩ = some (.slice d1 m1 k1) := cell_of_row _ _ 3 _ _ _ rX31_.out
  have X_4_ : ((w3.alloc (.cells #[.int .i64 0, .int .i64 0, .int .i64 0, .int .i64 0, .int .i64 0, .int .i64 0, .int .i64 0, .slice e1 e2 e3] 29))).cell? ⟨w1.heap.size, 4, none⟩ = some (.slice d2 m2 k2) := cell_of_row _ _ 4 _ _ _ rX31_.out
  have K_0_ : ((w3.alloc (.cells #[.int .i64 0, .int .i64 0, .int .i64 0, .int .i64 0, .int .i64 0, .int .i64 0, .int .i64 0, .slice e1 e2 e3] 29))).cell? ⟨w3.heap.size, 0, none⟩ = some (.int .i64 0) := cell_of_row _ _ 0 _ _ _ rK34_.out
  have K_1_ : ((w3.alloc (.cells #[.int .i64 0, .int .i64 0, .int .i64 0, .int .i64 0, .int .i64 0, .int .i64 0, .int .i64 0, .slice e1 e2 e3] 29))).cell? ⟨w3.heap.size, 1, none⟩ = some (.int .i64 0) := cell_of_row _ _ 1 _ _ _ rK34_.out
  have K_2_ : ((w3.alloc (.cells #[.int .i64 0, .int .i64 0, .int .i64 0, .int .i64 0, .int .i64 0, .int .i64 0, .int .i64 0, .slice e1 e2 e3] 29))).cell? ⟨w3.heap.size, 2, none⟩ = some (.int .i64 0) := cell_of_row _ _ 2 _ _ _ rK34_.out
  have K_3_ : ((w3.alloc (.cells #[.int .i64 0, .int .i64 0, .int .i64 0, .int .i64 0, .int .i64 0, .int .i64 0, .int .i64 0, .slice e1 e2 e3] 29))).cell? ⟨w3.heap.size, 3, none⟩ = some (.int .i64 0) := cell_of_row _ _ 3 _ _ _ rK34_.out
  have K_4_ : ((w3.alloc (.cells #[.int .i64 0, .int .i64 0, .int .i64 0, .int .i64 0, .int .i64 0, .int .i64 0, .int .i64 0, .slice e1 e2 e3] 29))).cell? ⟨w3.heap.size, 4, none⟩ = some (.int .i64 0) := cell_of_row _ _ 4 _ _ _ rK34_.out
  have K_5_ : ((w3.alloc (.cells #[.int .i64 0, .int .i64 0, .int .i64 0, .int .i64 0, .int .i64 0, .int .i64 0, .int .i64 0, .slice e1 e2 e3] 29))).cell? ⟨w3.heap.size, 5, none⟩ = some (.int .i64 0) := cell_of_row _ _ 5 _ _ _ rK34_.out
  have K_6_ : ((w3.alloc (.cells #[.int .i64 0, .int .i64 0, .int .i64 0, .int .i64 0, .int .i64 0, .int .i64 0, .int .i64 0, .slice e1 e2 e3] 29))).cell? ⟨w3.heap.size, 6, none⟩ = some (.int .i64 0) := cell_of_row _ _ 6 _ _ _ rK34_.out
  have K_7_ : ((w3.alloc (.cells #[.int .i64 0, .int .i64 0, .int .i64 0, .int .i64 0, .int .i64 0, .int .i64 0, .int .i64 0, .slice e1 e2 e3] 29))).cell? ⟨w3.heap.size, 7, none⟩ = some (.slice e1 e2 e3) := cell_of_row _ _ 7 _ _ _ rK34_.out
  have yr_ := Lib.hid (show (((((((((((((w3.alloc (.cells #[.int .i64 0, .int .i64 0, .int .i64 0, .int .i64 0, .int .i64 0, .int .i64 0, .int .i64 0, .slice e1 e2 e3] 29)).setCell ⟨W.heap.size + 1, 0, none⟩ (.int .i64 i0)).setCell ⟨W.heap.size + 1, 1, none⟩ (.slice d1 m1 k1)).setCell ⟨W.heap.size + 1, 2, none⟩ (.slice d2 m2 k2)).setCell ⟨W.heap.size + 1 + 1, 0, none⟩ (.int .i64 0)).setCell ⟨W.heap.size + 1 + 1, 1, none⟩ (.int .i64 0)).setCell ⟨W.heap.size + 1 + 1, 2, none⟩ (.int .i64 0)).setCell ⟨W.heap.size + 1 + 1, 3, none⟩ (.int .i64 0)).setCell ⟨W.heap.size + 1 + 1, 4, none⟩ (.int .i64 0)).setCell ⟨W.heap.size + 1 + 1, 5, none⟩ (.int .i64 0)).setCell ⟨W.heap.size + 1 + 1, 6, none⟩ (.int .i64 0)).setCell ⟨W.heap.size + 1 + 1, 7, none⟩ (.slice e1 e2 e3))).heap[W.heap.size + 1]? = some (.cells #[.int .i64 i0, .slice d1 m1 k1, .slice d2 m2 k2] 26 (0, 0)) from (set_far (set_far (set_far (set_far (set_far (set_far (set_far (set_far (heap_setCell_same _ _ 2 _ _ _ (heap_setCell_same _ _ 1 _ _ _ (heap_setCell_same _ _ 0 _ _ _ rR29_.out))) (by dsimp only; omega)) (by dsimp only; omega)) (by dsimp only; omega)) (by dsimp only; omega)) (by dsimp only; omega)) (by dsimp only; omega)) (by dsimp only; omega)) (by dsimp only; omega)))
  have yq_ := Lib.hid (show (((((((((((((w3.alloc (.cells #[.int .i64 0, .int .i64 0, .int .i64 0, .int .i64 0, .int .i64 0, .int .i64 0, .int .i64 0, .slice e1 e2 e3] 29)).setCell ⟨W.heap.size + 1, 0, none⟩ (.int .i64 i0)).setCell ⟨W.heap.size + 1, 1, none⟩ (.slice d1 m1 k1)).setCell ⟨W.heap.size + 1, 2, none⟩ (.slice d2 m2 k2)).setCell ⟨W.heap.size + 1 + 1, 0, none⟩ (.int .i64 0)).setCell ⟨W.heap.size + 1 + 1, 1, none⟩ (.int .i64 0)).setCell ⟨W.heap.size + 1 + 1, 2, none⟩ (.int .i64 0)).setCell ⟨W.heap.size + 1 + 1, 3, none⟩ (.int .i64 0)).setCell ⟨W.heap.size + 1 + 1, 4, none⟩ (.int .i64 0)).setCell ⟨W.heap.size + 1 + 1, 5, none⟩ (.int .i64 0)).setCell ⟨W.heap.size + 1 + 1, 6, none⟩ (.int .i64 0)).setCell ⟨W.heap.size + 1 + 1, 7, none⟩ (.slice e1 e2 e3))).heap[W.heap.size + 1 + 1]? = some (.cells #[.int .i64 0, .int .i64 0, .int .i64 0, .int .i64 0, .int .i64 0, .int .i64 0, .int .i64 0, .slice e1 e2 e3] 29 (0, 0)) from (heap_setCell_same _ _ 7 _ _ _ (heap_setCell_same _ _ 6 _ _ _ (heap_setCell_same _ _ 5 _ _ _ (heap_setCell_same _ _ 4 _ _ _ (heap_setCell_same _ _ 3 _ _ _ (heap_setCell_same _ _ 2 _ _ _ (heap_setCell_same _ _ 1 _ _ _ (heap_setCell_same _ _ 0 _ _ _ (set_far (set_far (set_far rQ30_.out (by dsimp only; omega)) (by dsimp only; omega)) (by dsimp only; omega)))))))))))
  have z0_ : (((((((((((((w3.alloc (.cells #[.int .i64 0, .int .i64 0, .int .i64 0, .int .i64 0, .int .i64 0, .int .i64 0, .int .i64 0, .slice e1 e2 e3] 29)).setCell ⟨W.heap.size + 1, 0, none⟩ (.int .i64 i0)).setCell ⟨W.heap.size + 1, 1, none⟩ (.slice d1 m1 k1)).setCell ⟨W.heap.size + 1, 2, none⟩ (.slice d2 m2 k2)).setCell ⟨W.heap.size + 1 + 1, 0, none⟩ (.int .i64 0)).setCell ⟨W.heap.size + 1 + 1, 1, none⟩ (.int .i64 0)).setCell ⟨W.heap.size + 1 + 1, 2, none⟩ (.int .i64 0)).setCell ⟨W.heap.size + 1 + 1, 3, none⟩ (.int .i64 0)).setCell ⟨W.heap.size + 1 + 1, 4, none⟩ (.int .i64 0)).setCell ⟨W.heap.size + 1 + 1, 5, none⟩ (.int .i64 0)).setCell ⟨W.heap.size + 1 + 1, 6, none⟩ (.int .i64 0)).setCell ⟨W.heap.size + 1 + 1, 7, none⟩ (.slice e1 e2 e3))).cell? ⟨W.heap.size + 1, 0, none⟩ = some (.int .i64 i0) := cell_of_row _ _ 0 _ _ _ yr_.out
  have z1_ : (((((((((((((w3.alloc (.cells #[.int .i64 0, .int .i64 0, .int .i64 0, .int .i64 0, .int .i64 0, .int .i64 0, .int .i64 0, .slice e1 e2 e3] 29)).setCell ⟨W.heap.size + 1, 0, none⟩ (.int .i64 i0)).setCell ⟨W.heap.size + 1, 1, none⟩ (.slice d1 m1 k1)).setCell ⟨W.heap.size + 1, 2, none⟩ (.slice d2 m2 k2)).setCell ⟨W.heap.size + 1 + 1, 0, none⟩ (.int .i64 0)).setCell ⟨W.heap.size + 1 + 1, 1, none⟩ (.int .i64 0)).setCell ⟨W.heap.size + 1 + 1, 2, none⟩ (.int .i64 0)).setCell ⟨W.heap.size + 1 + 1, 3, none⟩ (.int .i64 0)).setCell ⟨W.heap.size + 1 + 1, 4, none⟩ (.int .i64 0)).setCell ⟨W.heap.size + 1 + 1, 5, none⟩ (.int .i64 0)).setCell ⟨W.heap.size + 1 + 1, 6, none⟩ (.int .i64 0)).setCell ⟨W.heap.size + 1 + 1, 7, none⟩ (.slice e1 e2 e3))).cell? ⟨W.heap.size + 1, 1, none⟩ = some (.slice d1 m1 k1) := cell_of_row _ _ 1 _ _ _ yr_.out
  have z2_ : (((((((((((((w3.alloc (.cells #[.int .i64 0, .int .i64 0, .int .i64 0, .int .i64 0, .int .i64 0, .int .i64 0, .int .i64 0, .slice e1 e2 e3] 29)).setCell ⟨W.heap.size + 1, 0, none⟩ (.int .i64 i0)).setCell ⟨W.heap.size + 1, 1, none⟩ (.slice d1 m1 k1)).setCell ⟨W.heap.size + 1, 2, none⟩ (.slice d2 m2 k2)).setCell ⟨W.heap.size + 1 + 1, 0, none⟩ (.int .i64 0)).setCell ⟨W.heap.size + 1 + 1, 1, none⟩ (.int .i64 0)).setCell ⟨W.heap.size + 1 + 1, 2, none⟩ (.int .i64 0)).setCell ⟨W.heap.size + 1 + 1, 3, none⟩ (.int .i64 0)).setCell ⟨W.heap.size + 1 + 1, 4, none⟩ (.int .i64 0)).setCell ⟨W.heap.size + 1 + 1, 5, none⟩ (.int .i64 0)).setCell ⟨W.heap.size + 1 + 1, 6, none⟩ (.int .i64 0)).setCell ⟨W.heap.size + 1 + 1, 7, none⟩ (.slice e1 e2 e3))).cell? ⟨W.heap.size + 1, 2, none⟩ = some (.slice d2 m2 k2) := cell_of_row _ _ 2 _ _ _ yr_.out
  have y0_ : (((((((((((((w3.alloc (.cells #[.int .i64 0, .int .i64 0, .int .i64 0, .int .i64 0, .int .i64 0, .int .i64 0, .int .i64 0, .slice e1 e2 e3] 29)).setCell ⟨W.heap.size + 1, 0, none⟩ (.int .i64 i0)).setCell ⟨W.heap.size + 1, 1, none⟩ (.slice d1 m1 k1)).setCell ⟨W.heap.size + 1, 2, none⟩ (.slice d2 m2 k2)).setCell ⟨W.heap.size + 1 + 1, 0, none⟩ (.int .i64 0)).setCell ⟨W.heap.size + 1 + 1, 1, none⟩ (.int .i64 0)).setCell ⟨W.heap.size + 1 + 1, 2, none⟩ (.int .i64 0)).setCell ⟨W.heap.size + 1 + 1, 3, none⟩ (.int .i64 0)).setCell ⟨W.heap.size + 1 + 1, 4, none⟩ (.int .i64 0)).setCell ⟨W.heap.size + 1 + 1, 5, none⟩ (.int .i64 0)).setCell ⟨W.heap.size + 1 + 1, 6, none⟩ (.int .i64 0)).setCell ⟨W.heap.size + 1 + 1, 7, none⟩ (.slice e1 e2 e3))).cell? ⟨W.heap.size + 1 + 1, 0, none⟩ = some (.int .i64 0) := cell_of_row _ _ 0 _ _ _ yq_.out
  have y1_ : (((((((((((((w3.alloc (.cells #[.int .i64 0, .int .i64 0, .int .i64 0, .int .i64 0, .int .i64 0, .int .i64 0, .int .i64 0, .slice e1 e2 e3] 29)).setCell ⟨W.heap.size + 1, 0, none⟩ (.int .i64 i0)).setCell ⟨W.heap.size + 1, 1, none⟩ (.slice d1 m1 k1)).setCell ⟨W.heap.size + 1, 2, none⟩ (.slice d2 m2 k2)).setCell ⟨W.heap.size + 1 + 1, 0, none⟩ (.int .i64 0)).setCell ⟨W.heap.size + 1 + 1, 1, none⟩ (.int .i64 0)).setCell ⟨W.heap.size + 1 + 1, 2, none⟩ (.int .i64 0)).setCell ⟨W.heap.size + 1 + 1, 3, none⟩ (.int .i64 0)).setCell ⟨W.heap.size + 1 + 1, 4, none⟩ (.int .i64 0)).setCell ⟨W.heap.size + 1 + 1, 5, none⟩ (.int .i64 0)).setCell ⟨W.heap.size + 1 + 1, 6, none⟩ (.int .i64 0)).setCell ⟨W.heap.size + 1 + 1, 7, none⟩ (.slice e1 e2 e3))).cell? ⟨W.heap.size + 1 + 1, 1, none⟩ = some (.int .i64 0) := cell_of_row _ _ 1 _ _ _ yq_.out
  have y2_ : (((((((((((((w3.alloc (.cells #[.int .i64 0, .int .i64 0, .int .i64 0, .int .i64 0, .int .i64 0, .int .i64 0, .int .i64 0, .slice e1 e2 e3] 29)).setCell ⟨W.heap.size + 1, 0, none⟩ (.int .i64 i0)).setCell ⟨W.heap.size + 1, 1, none⟩ (.slice d1 m1 k1)).setCell ⟨W.heap.size + 1, 2, none⟩ (.slice d2 m2 k2)).setCell ⟨W.heap.size + 1 + 1, 0, none⟩ (.int .i64 0)).setCell ⟨W.heap.size + 1 + 1, 1, none⟩ (.int .i64 0)).setCell ⟨W.heap.size + 1 + 1, 2, none⟩ (.int .i64 0)).setCell ⟨W.heap.size + 1 + 1, 3, none⟩ (.int .i64 0)).setCell ⟨W.heap.size + 1 + 1, 4, none⟩ (.int .i64 0)).setCell ⟨W.heap.size + 1 + 1, 5, none⟩ (.int .i64 0)).setCell ⟨W.heap.size + 1 + 1, 6, none⟩ (.int .i64 0)).setCell ⟨W.heap.size + 1 + 1, 7, none⟩ (.slice e1 e2 e3))).cell? ⟨W.heap.size + 1 + 1, 2, none⟩ = some (.int .i64 0) := cell_of_row _ _ 2 _ _ _ yq_.out
  have y3_ : (((((((((((((w3.alloc (.cells #[.int .i64 0, .int .i64 0, .int .i64 0, .int .i64 0, .int .i64 0, .int .i64 0, .int .i64 0, .slice e1 e2 e3] 29)).setCell ⟨W.heap.size + 1, 0, none⟩ (.int .i64 i0)).setCell ⟨W.heap.size + 1, 1, none⟩ (.slice d1 m1 k1)).setCell ⟨W.heap.size + 1, 2, none⟩ (.slice d2 m2 k2)).setCell ⟨W.heap.size + 1 + 1, 0, none⟩ (.int .i64 0)).setCell ⟨W.heap.size + 1 + 1, 1, none⟩ (.int .i64 0)).setCell ⟨W.heap.size + 1 + 1, 2, none⟩ (.int .i64 0)).setCell ⟨W.heap.size + 1 + 1, 3, none⟩ (.int .i64 0)).setCell ⟨W.heap.size + 1 + 1, 4, none⟩ (.int .i64 0)).setCell ⟨W.heap.size + 1 + 1, 5, none⟩ (.int .i64 0)).setCell ⟨W.heap.size + 1 + 1, 6, none⟩ (.int .i64 0)).setCell ⟨W.heap.size + 1 + 1, 7, none⟩ (.slice e1 e2 e3))).cell? ⟨W.heap.size + 1 + 1, 3, none⟩ = some (.int .i64 0) := cell_of_row _ _ 3 _ _ _ yq_.out
  have y4_ : (((((((((((((w3.alloc (.cells #[.int .i64 0, .int .i64 0, .int .i64 0, .int .i64 0, .int .i64 0, .int .i64 0, .int .i64 0, .slice e1 e2 e3] 29)).setCell ⟨W.heap.size + 1, 0, none⟩ (.int .i64 i0)).setCell ⟨W.heap.size + 1, 1, none⟩ (.slice d1 m1 k1)).setCell ⟨W.heap.size + 1, 2, none⟩ (.slice d2 m2 k2)).setCell ⟨W.heap.size + 1 + 1, 0, none⟩ (.int .i64 0)).setCell ⟨W.heap.size + 1 + 1, 1, none⟩ (.int .i64 0)).setCell ⟨W.heap.size + 1 + 1, 2, none⟩ (.int .i64 0)).setCell ⟨W.heap.size + 1 + 1, 3, none⟩ (.int .i64 0)).setCell ⟨W.heap.size + 1 + 1, 4, none⟩ (.int .i64 0)).setCell ⟨W.heap.size + 1 + 1, 5, none⟩ (.int .i64 0)).setCell ⟨W.heap.size + 1 + 1, 6, none⟩ (.int .i64 0)).setCell ⟨W.heap.size + 1 + 1, 7, none⟩ (.slice e1 e2 e3))).cell? ⟨W.heap.size + 1 + 1, 4, none⟩ = some (.int .i64 0) := cell_of_row _ _ 4 _ _ _ yq_.out
  have y5_ : (((((((((((((w3.alloc (.cells #[.int .i64 0, .int .i64 0, .int .i64 0, .int .i64 0, .int .i64 0, .int .i64 0, .int .i64 0, .slice e1 e2 e3] 29)).setCell ⟨W.heap.size + 1, 0, none⟩ (.int .i64 i0)).setCell ⟨W.heap.size + 1, 1, none⟩ (.slice d1 m1 k1)).setCell ⟨W.heap.size + 1, 2, none⟩ (.slice d2 m2 k2)).setCell ⟨W.heap.size + 1 + 1, 0, none⟩ (.int .i64 0)).setCell ⟨W.heap.size + 1 + 1, 1, none⟩ (.int .i64 0)).setCell ⟨W.heap.size + 1 + 1, 2, none⟩ (.int .i64 0)).setCell ⟨W.heap.size + 1 + 1, 3, none⟩ (.int .i64 0)).setCell ⟨W.heap.size + 1 + 1, 4, none⟩ (.int .i64 0)).setCell ⟨W.heap.size + 1 + 1, 5, none⟩ (.int .i64 0)).setCell ⟨W.heap.size + 1 + 1, 6, none⟩ (.int .i64 0)).setCell ⟨W.heap.size + 1 + 1, 7, none⟩ (.slice e1 e2 e3))).cell? ⟨W.heap.size + 1 + 1, 5, none⟩ = some (.int .i64 0) := cell_of_row _ _ 5 _ _ _ yq_.out
  have y6_ : (((((((((((((w3.alloc (.cells #[.int .i64 0, .int .i64 0, .int .i64 0, .int .i64 0, .int .i64 0, .int .i64 0, .int .i64 0, .slice e1 e2 e3] 29)).setCell ⟨W.heap.size + 1, 0, none⟩ (.int .i64 i0)).setCell ⟨W.heap.size + 1, 1, none⟩ (.slice d1 m1 k1)).setCell ⟨W.heap.size + 1, 2, none⟩ (.slice d2 m2 k2)).setCell ⟨W.heap.size + 1 + 1, 0, none⟩ (.int .i64 0)).setCell ⟨W.heap.size + 1 + 1, 1, none⟩ (.int .i64 0)).setCell ⟨W.heap.size + 1 + 1, 2, none⟩ (.int .i64 0)).setCell ⟨W.heap.size + 1 + 1, 3, none⟩ (.int .i64 0)).setCell ⟨W.heap.size + 1 + 1, 4, none⟩ (.int .i64 0)).setCell ⟨W.heap.size + 1 + 1, 5, none⟩ (.int .i64 0)).setCell ⟨W.heap.size + 1 + 1, 6, none⟩ (.int .i64 0)).setCell ⟨W.heap.size + 1 + 1, 7, none⟩ (.slice e1 e2 e3))).cell? ⟨W.heap.size + 1 + 1, 6, none⟩ = some (.int .i64 0) := cell_of_row _ _ 6 _ _ _ yq_.out
  have y7_ : (((((((((((((w3.alloc (.cells #[.int .i64 0, .int .i64 0, .int .i64 0, .int .i64 0, .int .i64 0, .int .i64 0, .int .i64 0, .slice e1 e2 e3] 29)).setCell ⟨W.heap.size + 1, 0, none⟩ (.int .i64 i0)).setCell ⟨W.heap.size + 1, 1, none⟩ (.slice d1 m1 k1)).setCell ⟨W.heap.size + 1, 2, none⟩ (.slice d2 m2 k2)).setCell ⟨W.heap.size + 1 + 1, 0, none⟩ (.int .i64 0)).setCell ⟨W.heap.size + 1 + 1, 1, none⟩ (.int .i64 0)).setCell ⟨W.heap.size + 1 + 1, 2, none⟩ (.int .i64 0)).setCell ⟨W.heap.size + 1 + 1, 3, none⟩ (.int .i64 0)).setCell ⟨W.heap.size + 1 + 1, 4, none⟩ (.int .i64 0)).setCell ⟨W.heap.size + 1 + 1, 5, none⟩ (.int .i64 0)).setCell ⟨W.heap.size + 1 + 1, 6, none⟩ (.int .i64 0)).setCell ⟨W.heap.size + 1 + 1, 7, none⟩ (.slice e1 e2 e3))).cell? ⟨W.heap.size + 1 + 1, 7, none⟩ = some (.slice e1 e2 e3) := cell_of_row _ _ 7 _ _ _ yq_.out
  go_wp2_with fail
  go_region_with (fail)
  all_goals
    go_wp2
    refine bodyPost_ret (v := .tuple #[.agg #[.int .i64 i0, .slice d1 m1 k1, .slice d2 m2 k2], .agg #[.int .i64 0, .int .i64 0, .int .i64 0, .int .i64 0, .int .i64 0, .int .i64 0, .int .i64 0, .slice e1 e2 e3], .bool true]) (by simp [results, go_sem, z0_, z1_, z2_, y0_, y1_, y2_, y3_, y4_, y5_, y6_, y7_]) rfl ⟨_, _, _, rfl, ?_, ?_⟩
    · exact OwU.wide (lo := (W.heap.size + 1 + 1 + 1)) (by omega) (by simp only [World.size_drew, World.size_setCell, World.size_alloc]; omega) (OwU.grow (OwU.keep (chg_one _ _ _ _) (by omega) (OwU.keep (chg_one _ _ _ _) (by omega) (OwU.keep (chg_one _ _ _ _) (by omega) (OwU.keep (chg_one _ _ _ _) (by omega) (OwU.keep (chg_one _ _ _ _) (by omega) (OwU.keep (chg_one _ _ _ _) (by omega) (OwU.keep (chg_one _ _ _ _) (by omega) (OwU.keep (chg_one _ _ _ _) (by omega) (OwU.keep (chg_one _ _ _ _) (by omega) (OwU.keep (chg_one _ _ _ _) (by omega) (OwU.keep (chg_one _ _ _ _) (by omega) oC32_.out))))))))))) (gby_drew (gby_refl _ _)))
    · exact gby_drew (gby_setnew (gby_setnew (gby_setnew (gby_setnew (gby_setnew (gby_setnew (gby_setnew (gby_setnew (gby_setnew (gby_setnew (gby_setnew G33_.out _ (by dsimp only; omega) _) _ (by dsimp only; omega) _) _ (by dsimp only; omega) _) _ (by dsimp only; omega) _) _ (by dsimp only; omega) _) _ (by dsimp only; omega) _) _ (by dsimp only; omega) _) _ (by dsimp only; omega) _) _ (by dsimp only; omega) _) _ (by dsimp only; omega) _) _ (by dsimp only; omega) _)

set_option maxRecDepth 8000 in
set_option maxHeartbeats 4000000 in
theorem implSetM_quiet (W : World) (i0 : Int) (v1 v2 : Value) (xs ys : List Bool) (H1 : RdL shB W v1 xs) (H2 : RdL shB W v2 ys) (hl1 : szL shB xs ≤ 1048576) (hl2 : szL shB ys ≤ 1048576) (id k : Int) (hb : VCall i0 xs ys id k) (hm : ys.getD k.toNat false = false) : Calls Try.prog 22 #[vVectors i0 v1 v2, .int .i64 id, .int .i64 k, .bool false] W (ResISetMask i0 (xs.set k.toNat false) ys 0 0 0 0 0 0 0 [] true W) := by
  have HOK := Lib.hid hb
  have hk_ := hb.2.2
  have h8_ := hb.1.1
  have hy_ := hb.1.2.1
  obtain ⟨kn, hkn⟩ : ∃ n : Nat, k = (n : Int) := ⟨k.toNat, by omega⟩
  subst hkn
  have hkx : kn < xs.length := by omega
  clear hb
  have HM := Lib.hid (show ys.getD kn false = false from by simpa using hm)
  clear hm
  rw [Int.toNat_natCast]
  have H1_ := Lib.hid H1
  have H2_ := Lib.hid H2
  obtain ⟨a1, n1, c1, rfl⟩ := RdL.form H1
  obtain ⟨a2, n2, c2, rfl⟩ := RdL.form H2
  clear H1 H2
  unfold vVectors
  go_enter Try.func22, Try.ntmps22
  have rA1_ := Lib.hid (show ((((W.alloc (.cells #[.int .i64 i0, .slice a1 n1 c1, .slice a2 n2 c2] 26)).alloc (.cells #[.int .i64 0, .slice none 0 0, .slice none 0 0] 26)).alloc (.cells #[.int .i64 0, .int .i64 0, .int .i64 0, .int .i64 0, .int .i64 0, .int .i64 0, .int .i64 0, .slice none 0 0] 29))).heap[W.heap.size]? = some (.cells #[.int .i64 i0, .slice a1 n1 c1, .slice a2 n2 c2] 26 (0, 0)) from by rw [heap_alloc_old _ _ (by simp only [World.size_alloc]; omega)]; rw [heap_alloc_old _ _ (by simp only [World.size_alloc]; omega)]; exact heap_alloc_new _ _)
  have rR2_ := Lib.hid (show ((((W.alloc (.cells #[.int .i64 i0, .slice a1 n1 c1, .slice a2 n2 c2] 26)).alloc (.cells #[.int .i64 0, .slice none 0 0, .slice none 0 0] 26)).alloc (.cells #[.int .i64 0, .int .i64 0, .int .i64 0, .int .i64 0, .int .i64 0, .int .i64 0, .int .i64 0, .slice none 0 0] 29))).heap[W.heap.size + 1]? = some (.cells #[.int .i64 0, .slice none 0 0, .slice none 0 0] 26 (0, 0)) from by rw [heap_alloc_old _ _ (by simp only [World.size_alloc]; omega)]; exact heap_pair _ _ _)
  have rQ3_ := Lib.hid (show ((((W.alloc (.cells #[.int .i64 i0, .slice a1 n1 c1, .slice a2 n2 c2] 26)).alloc (.cells #[.int .i64 0, .slice none 0 0, .slice none 0 0] 26)).alloc (.cells #[.int .i64 0, .int .i64 0, .int .i64 0, .int .i64 0, .int .i64 0, .int .i64 0, .int .i64 0, .slice none 0 0] 29))).heap[W.heap.size + 1 + 1]? = some (.cells #[.int .i64 0, .int .i64 0, .int .i64 0, .int .i64 0, .int .i64 0, .int .i64 0, .int .i64 0, .slice none 0 0] 29 (0, 0)) from by exact heap_trip _ _ _ _)
  have G4_ := Lib.hid (show (W).grownBy ((((W.alloc (.cells #[.int .i64 i0, .slice a1 n1 c1, .slice a2 n2 c2] 26)).alloc (.cells #[.int .i64 0, .slice none 0 0, .slice none 0 0] 26)).alloc (.cells #[.int .i64 0, .int .i64 0, .int .i64 0, .int .i64 0, .int .i64 0, .int .i64 0, .int .i64 0, .slice none 0 0] 29))) none from (gby_alloc (gby_alloc (gby_alloc (gby_refl _ _) _) _) _))
  have A_0_ : ((((W.alloc (.cells #[.int .i64 i0, .slice a1 n1 c1, .slice a2 n2 c2] 26)).alloc (.cells #[.int .i64 0, .slice none 0 0, .slice none 0 0] 26)).alloc (.cells #[.int .i64 0, .int .i64 0, .int .i64 0, .int .i64 0, .int .i64 0, .int .i64 0, .int .i64 0, .slice none 0 0] 29))).cell? ⟨W.heap.size, 0, none⟩ = some (.int .i64 i0) := cell_of_row _ _ 0 _ _ _ rA1_.out
  have A_1_ : ((((W.alloc (.cells #[.int .i64 i0, .slice a1 n1 c1, .slice a2 n2 c2] 26)).alloc (.cells #[.int .i64 0, .slice none 0 0, .slice none 0 0] 26)).alloc (.cells #[.int .i64 0, .int .i64 0, .int .i64 0, .int .i64 0, .int .i64 0, .int .i64 0, .int .i64 0, .slice none 0 0] 29))).cell? ⟨W.heap.size, 1, none⟩ = some (.slice a1 n1 c1) := cell_of_row _ _ 1 _ _ _ rA1_.out
  have A_2_ : ((((W.alloc (.cells #[.int .i64 i0, .slice a1 n1 c1, .slice a2 n2 c2] 26)).alloc (.cells #[.int .i64 0, .slice none 0 0, .slice none 0 0] 26)).alloc (.cells #[.int .i64 0, .int .i64 0, .int .i64 0, .int .i64 0, .int .i64 0, .int .i64 0, .int .i64 0, .slice none 0 0] 29))).cell? ⟨W.heap.size, 2, none⟩ = some (.slice a2 n2 c2) := cell_of_row _ _ 2 _ _ _ rA1_.out
  have R_0_ : ((((W.alloc (.cells #[.int .i64 i0, .slice a1 n1 c1, .slice a2 n2 c2] 26)).alloc (.cells #[.int .i64 0, .slice none 0 0, .slice none 0 0] 26)).alloc (.cells #[.int .i64 0, .int .i64 0, .int .i64 0, .int .i64 0, .int .i64 0, .int .i64 0, .int .i64 0, .slice none 0 0] 29))).cell? ⟨W.heap.size + 1, 0, none⟩ = some (.int .i64 0) := cell_of_row _ _ 0 _ _ _ rR2_.out
  have R_1_ : ((((W.alloc (.cells #[.int .i64 i0, .slice a1 n1 c1, .slice a2 n2 c2] 26)).alloc (.cells #[.int .i64 0, .slice none 0 0, .slice none 0 0] 26)).alloc (.cells #[.int .i64 0, .int .i64 0, .int .i64 0, .int .i64 0, .int .i64 0, .int .i64 0, .int .i64 0, .slice none 0 0] 29))).cell? ⟨W.heap.size + 1, 1, none⟩ = some (.slice none 0 0) := cell_of_row _ _ 1 _ _ _ rR2_.out
  have R_2_ : ((((W.alloc (.cells #[.int .i64 i0, .slice a1 n1 c1, .slice a2 n2 c2] 26)).alloc (.cells #[.int .i64 0, .slice none 0 0, .slice none 0 0] 26)).alloc (.cells #[.int .i64 0, .int .i64 0, .int .i64 0, .int .i64 0, .int .i64 0, .int .i64 0, .int .i64 0, .slice none 0 0] 29))).cell? ⟨W.heap.size + 1, 2, none⟩ = some (.slice none 0 0) := cell_of_row _ _ 2 _ _ _ rR2_.out
  have Q_0_ : ((((W.alloc (.cells #[.int .i64 i0, .slice a1 n1 c1, .slice a2 n2 c2] 26)).alloc (.cells #[.int .i64 0, .slice none 0 0, .slice none 0 0] 26)).alloc (.cells #[.int .i64 0, .int .i64 0, .int .i64 0, .int .i64 0, .int .i64 0, .int .i64 0, .int .i64 0, .slice none 0 0] 29))).cell? ⟨W.heap.size + 1 + 1, 0, none⟩ = some (.int .i64 0) := cell_of_row _ _ 0 _ _ _ rQ3_.out
  have Q_1_ : ((((W.alloc (.cells #[.int .i64 i0, .slice a1 n1 c1, .slice a2 n2 c2] 26)).alloc (.cells #[.int .i64 0, .slice none 0 0, .slice none 0 0] 26)).alloc (.cells #[.int .i64 0, .int .i64 0, .int .i64 0, .int .i64 0, .int .i64 0, .int .i64 0, .int .i64 0, .slice none 0 0] 29))).cell? ⟨W.heap.size + 1 + 1, 1, none⟩ = some (.int .i64 0) := cell_of_row _ _ 1 _ _ _ rQ3_.out
  have Q_2_ : ((((W.alloc (.cells #[.int .i64 i0, .slice a1 n1 c1, .slice a2 n2 c2] 26)).alloc (.cells #[.int .i64 0, .slice none 0 0, .slice none 0 0] 26)).alloc (.cells #[.int .i64 0, .int .i64 0, .int .i64 0, .int .i64 0, .int .i64 0, .int .i64 0, .int .i64 0, .slice none 0 0] 29))).cell? ⟨W.heap.size + 1 + 1, 2, none⟩ = some (.int .i64 0) := cell_of_row _ _ 2 _ _ _ rQ3_.out
  have Q_3_ : ((((W.alloc (.cells #[.int .i64 i0, .slice a1 n1 c1, .slice a2 n2 c2] 26)).alloc (.cells #[.int .i64 0, .slice none 0 0, .slice none 0 0] 26)).alloc (.cells #[.int .i64 0, .int .i64 0, .int .i64 0, .int .i64 0, .int .i64 0, .int .i64 0, .int .i64 0, .slice none 0 0] 29))).cell? ⟨W.heap.size + 1 + 1, 3, none⟩ = some (.int .i64 0) := cell_of_row _ _ 3 _ _ _ rQ3_.out
  have Q_4_ : ((((W.alloc (.cells #[.int .i64 i0, .slice a1 n1 c1, .slice a2 n2 c2] 26)).alloc (.cells #[.int .i64 0, .slice none 0 0, .slice none 0 0] 26)).alloc (.cells #[.int .i64 0, .int .i64 0, .int .i64 0, .int .i64 0, .int .i64 0, .int .i64 0, .int .i64 0, .slice none 0 0] 29))).cell? ⟨W.heap.size + 1 + 1, 4, none⟩ = some (.int .i64 0) := cell_of_row _ _ 4 _ _ _ rQ3_.out
  have Q_5_ : ((((W.alloc (.cells #[.int .i64 i0, .slice a1 n1 c1, .slice a2 n2 c2] 26)).alloc (.cells #[.int .i64 0, .slice none 0 0, .slice none 0 0] 26)).alloc (.cells #[.int .i64 0, .int .i64 0, .int .i64 0, .int .i64 0, .int .i64 0, .int .i64 0, .int .i64 0, .slice none 0 0] 29))).cell? ⟨W.heap.size + 1 + 1, 5, none⟩ = some (.int .i64 0) := cell_of_row _ _ 5 _ _ _ rQ3_.out
  have Q_6_ : ((((W.alloc (.cells #[.int .i64 i0, .slice a1 n1 c1, .slice a2 n2 c2] 26)).alloc (.cells #[.int .i64 0, .slice none 0 0, .slice none 0 0] 26)).alloc (.cells #[.int .i64 0, .int .i64 0, .int .i64 0, .int .i64 0, .int .i64 0, .int .i64 0, .int .i64 0, .slice none 0 0] 29))).cell? ⟨W.heap.size + 1 + 1, 6, none⟩ = some (.int .i64 0) := cell_of_row _ _ 6 _ _ _ rQ3_.out
  have Q_7_ : ((((W.alloc (.cells #[.int .i64 i0, .slice a1 n1 c1, .slice a2 n2 c2] 26)).alloc (.cells #[.int .i64 0, .slice none 0 0, .slice none 0 0] 26)).alloc (.cells #[.int .i64 0, .int .i64 0, .int .i64 0, .int .i64 0, .int .i64 0, .int .i64 0, .int .i64 0, .slice none 0 0] 29))).cell? ⟨W.heap.size + 1 + 1, 7, none⟩ = some (.slice none 0 0) := cell_of_row _ _ 7 _ _ _ rQ3_.out
  go_wp2_with fail
  go_at_call 63
  refine (copiedVec_d _ i0 _ _ xs ys (H1_.out.grow G4_.out) (H2_.out.grow G4_.out) hl1 hl2).mono ?_
  rintro e w1 ⟨x1, x2, rfl, o, g⟩
  have sz_ := g.size
  try simp only [World.size_alloc] at sz_ o
  clear A_0_ A_1_ A_2_ R_0_ R_1_ R_2_ Q_0_ Q_1_ Q_2_ Q_3_ Q_4_ Q_5_ Q_6_ Q_7_
  have rA5_ := Lib.hid (show (w1).heap[W.heap.size]? = some (.cells #[.int .i64 i0, .slice a1 n1 c1, .slice a2 n2 c2] 26 (0, 0)) from row_held g rA1_.out)
  clear rA1_
  have rR6_ := Lib.hid (show (w1).heap[W.heap.size + 1]? = some (.cells #[.int .i64 0, .slice none 0 0, .slice none 0 0] 26 (0, 0)) from row_held g rR2_.out)
  clear rR2_
  have rQ7_ := Lib.hid (show (w1).heap[W.heap.size + 1 + 1]? = some (.cells #[.int .i64 0, .int .i64 0, .int .i64 0, .int .i64 0, .int .i64 0, .int .i64 0, .int .i64 0, .slice none 0 0] 29 (0, 0)) from row_held g rQ3_.out)
  clear rQ3_
  have G8_ := Lib.hid (show (W).grownBy (w1) none from gby_trans G4_.out g)
  clear g
  obtain ⟨d1, m1, k1, hv_⟩ := RdL.form (OwU.rd o)
  subst hv_
  obtain ⟨d2, m2, k2, hv_⟩ := RdL.form (OwU.rd (OwU.tail o))
  subst hv_
  unfold vVectors
  have oC9_ := Lib.hid (show OwU (w1) ((W.heap.size + 1 + 1 + 1)) (w1.heap.size) [] [own shB (.slice d1 m1 k1) xs, own shB (.slice d2 m2 k2) ys] from o)
  clear o
  have al_ : (w1).grownBy ((w1).alloc (.cells #[.int .i32 0, .int .u32 0, .int .i64 i0, .slice d1 m1 k1, .slice d2 m2 k2] 92)) none := gby_alloc (gby_refl _ _) _
  have rA10_ := Lib.hid (show ((w1.alloc (.cells #[.int .i32 0, .int .u32 0, .int .i64 i0, .slice d1 m1 k1, .slice d2 m2 k2] 92))).heap[W.heap.size]? = some (.cells #[.int .i64 i0, .slice a1 n1 c1, .slice a2 n2 c2] 26 (0, 0)) from row_held al_ rA5_.out)
  clear rA5_
  have rR11_ := Lib.hid (show ((w1.alloc (.cells #[.int .i32 0, .int .u32 0, .int .i64 i0, .slice d1 m1 k1, .slice d2 m2 k2] 92))).heap[W.heap.size + 1]? = some (.cells #[.int .i64 0, .slice none 0 0, .slice none 0 0] 26 (0, 0)) from row_held al_ rR6_.out)
  clear rR6_
  have rQ12_ := Lib.hid (show ((w1.alloc (.cells #[.int .i32 0, .int .u32 0, .int .i64 i0, .slice d1 m1 k1, .slice d2 m2 k2] 92))).heap[W.heap.size + 1 + 1]? = some (.cells #[.int .i64 0, .int .i64 0, .int .i64 0, .int .i64 0, .int .i64 0, .int .i64 0, .int .i64 0, .slice none 0 0] 29 (0, 0)) from row_held al_ rQ7_.out)
  clear rQ7_
  have oC13_ := Lib.hid (show OwU ((w1.alloc (.cells #[.int .i32 0, .int .u32 0, .int .i64 i0, .slice d1 m1 k1, .slice d2 m2 k2] 92))) ((W.heap.size + 1 + 1 + 1)) (w1.heap.size) [] [own shB (.slice d1 m1 k1) xs, own shB (.slice d2 m2 k2) ys] from OwU.grow oC9_.out al_)
  clear oC9_
  have G14_ := Lib.hid (show (W).grownBy ((w1.alloc (.cells #[.int .i32 0, .int .u32 0, .int .i64 i0, .slice d1 m1 k1, .slice d2 m2 k2] 92))) none from gby_trans G8_.out al_)
  have rX15_ := Lib.hid (show ((w1.alloc (.cells #[.int .i32 0, .int .u32 0, .int .i64 i0, .slice d1 m1 k1, .slice d2 m2 k2] 92))).heap[w1.heap.size]? = some (.cells #[.int .i32 0, .int .u32 0, .int .i64 i0, .slice d1 m1 k1, .slice d2 m2 k2] 92 (0, 0)) from by first | exact heap_alloc_new _ _ | exact heap_pair _ _ _ | exact heap_trip _ _ _ _)
  clear al_
  have A_0_ : ((w1.alloc (.cells #[.int .i32 0, .int .u32 0, .int .i64 i0, .slice d1 m1 k1, .slice d2 m2 k2] 92))).cell? ⟨W.heap.size, 0, none⟩ = some (.int .i64 i0) := cell_of_row _ _ 0 _ _ _ rA10_.out
  have A_1_ : ((w1.alloc (.cells #[.int .i32 0, .int .u32 0, .int .i64 i0, .slice d1 m1 k1, .slice d2 m2 k2] 92))).cell? ⟨W.heap.size, 1, none⟩ = some (.slice a1 n1 c1) := cell_of_row _ _ 1 _ _ _ rA10_.out
  have A_2_ : ((w1.alloc (.cells #[.int .i32 0, .int .u32 0, .int .i64 i0, .slice d1 m1 k1, .slice d2 m2 k2] 92))).cell? ⟨W.heap.size, 2, none⟩ = some (.slice a2 n2 c2) := cell_of_row _ _ 2 _ _ _ rA10_.out
  have R_0_ : ((w1.alloc (.cells #[.int .i32 0, .int .u32 0, .int .i64 i0, .slice d1 m1 k1, .slice d2 m2 k2] 92))).cell? ⟨W.heap.size + 1, 0, none⟩ = some (.int .i64 0) := cell_of_row _ _ 0 _ _ _ rR11_.out
  have R_1_ : ((w1.alloc (.cells #[.int .i32 0, .int .u32 0, .int .i64 i0, .slice d1 m1 k1, .slice d2 m2 k2] 92))).cell? ⟨W.heap.size + 1, 1, none⟩ = some (.slice none 0 0) := cell_of_row _ _ 1 _ _ _ rR11_.out
  have R_2_ : ((w1.alloc (.cells #[.int .i32 0, .int .u32 0, .int .i64 i0, .slice d1 m1 k1, .slice d2 m2 k2] 92))).cell? ⟨W.heap.size + 1, 2, none⟩ = some (.slice none 0 0) := cell_of_row _ _ 2 _ _ _ rR11_.out
  have Q_0_ : ((w1.alloc (.cells #[.int .i32 0, .int .u32 0, .int .i64 i0, .slice d1 m1 k1, .slice d2 m2 k2] 92))).cell? ⟨W.heap.size + 1 + 1, 0, none⟩ = some (.int .i64 0) := cell_of_row _ _ 0 _ _ _ rQ12_.out
  have Q_1_ : ((w1.alloc (.cells #[.int .i32 0, .int .u32 0, .int .i64 i0, .slice d1 m1 k1, .slice d2 m2 k2] 92))).cell? ⟨W.heap.size + 1 + 1, 1, none⟩ = some (.int .i64 0) := cell_of_row _ _ 1 _ _ _ rQ12_.out
  have Q_2_ : ((w1.alloc (.cells #[.int .i32 0, .int .u32 0, .int .i64 i0, .slice d1 m1 k1, .slice d2 m2 k2] 92))).cell? ⟨W.heap.size + 1 + 1, 2, none⟩ = some (.int .i64 0) := cell_of_row _ _ 2 _ _ _ rQ12_.out
  have Q_3_ : ((w1.alloc (.cells #[.int .i32 0, .int .u32 0, .int .i64 i0, .slice d1 m1 k1, .slice d2 m2 k2] 92))).cell? ⟨W.heap.size + 1 + 1, 3, none⟩ = some (.int .i64 0) := cell_of_row _ _ 3 _ _ _ rQ12_.out
  have Q_4_ : ((w1.alloc (.cells #[.int .i32 0, .int .u32 0, .int .i64 i0, .slice d1 m1 k1, .slice d2 m2 k2] 92))).cell? ⟨W.heap.size + 1 + 1, 4, none⟩ = some (.int .i64 0) := cell_of_row _ _ 4 _ _ _ rQ12_.out
  have Q_5_ : ((w1.alloc (.cells #[.int .i32 0, .int .u32 0, .int .i64 i0, .slice d1 m1 k1, .slice d2 m2 k2] 92))).cell? ⟨W.heap.size + 1 + 1, 5, none⟩ = some (.int .i64 0) := cell_of_row _ _ 5 _ _ _ rQ12_.out
  have Q_6_ : ((w1.alloc (.cells #[.int .i32 0, .int .u32 0, .int .i64 i0, .slice d1 m1 k1, .slice d2 m2 k2] 92))).cell? ⟨W.heap.size + 1 + 1, 6, none⟩ = some (.int .i64 0) := cell_of_row _ _ 6 _ _ _ rQ12_.out
  have Q_7_ : ((w1.alloc (.cells #[.int .i32 0, .int .u32 0, .int .i64 i0, .slice d1 m1 k1, .slice d2 m2 k2] 92))).cell? ⟨W.heap.size + 1 + 1, 7, none⟩ = some (.slice none 0 0) := cell_of_row _ _ 7 _ _ _ rQ12_.out
  have X_0_ : ((w1.alloc (.cells #[.int .i32 0, .int .u32 0, .int .i64 i0, .slice d1 m1 k1, .slice d2 m2 k2] 92))).cell? ⟨w1.heap.size, 0, none⟩ = some (.int .i32 0) := cell_of_row _ _ 0 _ _ _ rX15_.out
  have X_1_ : ((w1.alloc (.cells #[.int .i32 0, .int .u32 0, .int .i64 i0, .slice d1 m1 k1, .slice d2 m2 k2] 92))).cell? ⟨w1.heap.size, 1, none⟩ = some (.int .u32 0) := cell_of_row _ _ 1 _ _ _ rX15_.out
  have X_2_ : ((w1.alloc (.cells #[.int .i32 0, .int .u32 0, .int .i64 i0, .slice d1 m1 k1, .slice d2 m2 k2] 92))).cell? ⟨w1.heap.size, 2, none⟩ = some (.int .i64 i0) := cell_of_row _ _ 2 _ _ _ rX15_.out
  have X_3_ : ((w1.alloc (.cells #[.int .i32 0, .int .u32 0, .int .i64 i0, .slice d1 m1 k1, .slice d2 m2 k2] 92))).cell? ⟨w1.heap.size, 3, none⟩ = some (.slice d1 m1 k1) := cell_of_row _ _ 3 _ _ _ rX15_.out
  have X_4_ : ((w1.alloc (.cells #[.int .i32 0, .int .u32 0, .int .i64 i0, .slice d1 m1 k1, .slice d2 m2 k2] 92))).cell? ⟨w1.heap.size, 4, none⟩ = some (.slice d2 m2 k2) := cell_of_row _ _ 4 _ _ _ rX15_.out
  go_wp2_with fail
  go_at_call 64
  refine (((implVCall _ i0 _ _ xs ys id (kn : Int) (H1_.out.grow G14_.out) (H2_.out.grow G14_.out)).mono (bpost_yes HOK.out))).mono ?_
  rintro e w2 ⟨rfl, g⟩
  have szw2 := g.size
  try simp only [World.size_alloc] at szw2
  try simp only [World.size_setCell] at szw2
  clear A_0_ A_1_ A_2_ R_0_ R_1_ R_2_ Q_0_ Q_1_ Q_2_ Q_3_ Q_4_ Q_5_ Q_6_ Q_7_ X_0_ X_1_ X_2_ X_3_ X_4_
  have rA16_ := Lib.hid (show (w2).heap[W.heap.size]? = some (.cells #[.int .i64 i0, .slice a1 n1 c1, .slice a2 n2 c2] 26 (0, 0)) from row_held g rA10_.out)
  clear rA10_
  have rR17_ := Lib.hid (show (w2).heap[W.heap.size + 1]? = some (.cells #[.int .i64 0, .slice none 0 0, .slice none 0 0] 26 (0, 0)) from row_held g rR11_.out)
  clear rR11_
  have rQ18_ := Lib.hid (show (w2).heap[W.heap.size + 1 + 1]? = some (.cells #[.int .i64 0, .int .i64 0, .int .i64 0, .int .i64 0, .int .i64 0, .int .i64 0, .int .i64 0, .slice none 0 0] 29 (0, 0)) from row_held g rQ12_.out)
  clear rQ12_
  have rX19_ := Lib.hid (show (w2).heap[w1.heap.size]? = some (.cells #[.int .i32 0, .int .u32 0, .int .i64 i0, .slice d1 m1 k1, .slice d2 m2 k2] 92 (0, 0)) from row_held g rX15_.out)
  clear rX15_
  have oC20_ := Lib.hid (show OwU (w2) ((W.heap.size + 1 + 1 + 1)) (w1.heap.size) [] [own shB (.slice d1 m1 k1) xs, own shB (.slice d2 m2 k2) ys] from OwU.grow oC13_.out g)
  clear oC13_
  have G21_ := Lib.hid (show (W).grownBy (w2) none from gby_trans G14_.out g)
  clear g
  have A_0_ : (w2).cell? ⟨W.heap.size, 0, none⟩ = some (.int .i64 i0) := cell_of_row _ _ 0 _ _ _ rA16_.out
  have A_1_ : (w2).cell? ⟨W.heap.size, 1, none⟩ = some (.slice a1 n1 c1) := cell_of_row _ _ 1 _ _ _ rA16_.out
  have A_2_ : (w2).cell? ⟨W.heap.size, 2, none⟩ = some (.slice a2 n2 c2) := cell_of_row _ _ 2 _ _ _ rA16_.out
  have R_0_ : (w2).cell? ⟨W.heap.size + 1, 0, none⟩ = some (.int .i64 0) := cell_of_row _ _ 0 _ _ _ rR17_.out
  have R_1_ : (w2).cell? ⟨W.heap.size + 1, 1, none⟩ = some (.slice none 0 0) := cell_of_row _ _ 1 _ _ _ rR17_.out
  have R_2_ : (w2).cell? ⟨W.heap.size + 1, 2, none⟩ = some (.slice none 0 0) := cell_of_row _ _ 2 _ _ _ rR17_.out
  have Q_0_ : (w2).cell? ⟨W.heap.size + 1 + 1, 0, none⟩ = some (.int .i64 0) := cell_of_row _ _ 0 _ _ _ rQ18_.out
  have Q_1_ : (w2).cell? ⟨W.heap.size + 1 + 1, 1, none⟩ = some (.int .i64 0) := cell_of_row _ _ 1 _ _ _ rQ18_.out
  have Q_2_ : (w2).cell? ⟨W.heap.size + 1 + 1, 2, none⟩ = some (.int .i64 0) := cell_of_row _ _ 2 _ _ _ rQ18_.out
  have Q_3_ : (w2).cell? ⟨W.heap.size + 1 + 1, 3, none⟩ = some (.int .i64 0) := cell_of_row _ _ 3 _ _ _ rQ18_.out
  have Q_4_ : (w2).cell? ⟨W.heap.size + 1 + 1, 4, none⟩ = some (.int .i64 0) := cell_of_row _ _ 4 _ _ _ rQ18_.out
  have Q_5_ : (w2).cell? ⟨W.heap.size + 1 + 1, 5, none⟩ = some (.int .i64 0) := cell_of_row _ _ 5 _ _ _ rQ18_.out
  have Q_6_ : (w2).cell? ⟨W.heap.size + 1 + 1, 6, none⟩ = some (.int .i64 0) := cell_of_row _ _ 6 _ _ _ rQ18_.out
  have Q_7_ : (w2).cell? ⟨W.heap.size + 1 + 1, 7, none⟩ = some (.slice none 0 0) := cell_of_row _ _ 7 _ _ _ rQ18_.out
  have X_0_ : (w2).cell? ⟨w1.heap.size, 0, none⟩ = some (.int .i32 0) := cell_of_row _ _ 0 _ _ _ rX19_.out
  have X_1_ : (w2).cell? ⟨w1.heap.size, 1, none⟩ = some (.int .u32 0) := cell_of_row _ _ 1 _ _ _ rX19_.out
  have X_2_ : (w2).cell? ⟨w1.heap.size, 2, none⟩ = some (.int .i64 i0) := cell_of_row _ _ 2 _ _ _ rX19_.out
  have X_3_ : (w2).cell? ⟨w1.heap.size, 3, none⟩ = some (.slice d1 m1 k1) := cell_of_row _ _ 3 _ _ _ rX19_.out
  have X_4_ : (w2).cell? ⟨w1.heap.size, 4, none⟩ = some (.slice d2 m2 k2) := cell_of_row _ _ 4 _ _ _ rX19_.out
  clear A_0_ A_1_ A_2_ R_0_ R_1_ R_2_ Q_0_ Q_1_ Q_2_ Q_3_ Q_4_ Q_5_ Q_6_ Q_7_ X_0_ X_1_ X_2_ X_3_ X_4_
  go_wp2_with fail
  go_at_call 72
  refine (setm_quiet _ w1.heap.size (W.heap.size + 1 + 1 + 1) kn i0 id _ _ xs ys rX19_.out (OwU.wide (Nat.le_refl _) (by omega) oC20_.out) hkx (by omega) hy_ HM.out).mono ?_
  rintro e w3 ⟨x3, rfl, o, hrow, o3, gc⟩
  have gg_ : (w2).heap.size ≤ w3.heap.size := gc.size
  try simp only [World.size_alloc] at gg_
  obtain ⟨e1, e2, e3, hv_⟩ := RdL.form (OwU.rd o3)
  subst hv_
  unfold vPacket
  have NA_ := Lib.hid (show w3.heap[W.heap.size]? = some (.cells #[.int .i64 i0, .slice a1 n1 c1, .slice a2 n2 c2] 26 (0, 0)) from Chg.keep gc rA16_.out (by omega))
  have NR_ := Lib.hid (show w3.heap[W.heap.size + 1]? = some (.cells #[.int .i64 0, .slice none 0 0, .slice none 0 0] 26 (0, 0)) from Chg.keep gc rR17_.out (by omega))
  have NQ_ := Lib.hid (show w3.heap[W.heap.size + 1 + 1]? = some (.cells #[.int .i64 0, .int .i64 0, .int .i64 0, .int .i64 0, .int .i64 0, .int .i64 0, .int .i64 0, .slice none 0 0] 29 (0, 0)) from Chg.keep gc rQ18_.out (by omega))
  have NX_ := Lib.hid hrow
  have NO_ := Lib.hid (show OwU w3 (W.heap.size + 1 + 1 + 1) w3.heap.size [] [own shB (.slice d1 m1 k1) (xs.set kn false), own shB (.slice d2 m2 k2) ys, own shI (.slice e1 e2 e3) []] from OwU.app (ps := [own shB (.slice d1 m1 k1) (xs.set kn false), own shB (.slice d2 m2 k2) ys]) (qs := [own shI (.slice e1 e2 e3) []]) (by omega) (by omega) o (OwU.wide (lo := (w2).heap.size) (by (try simp only [World.size_alloc]); omega) (Nat.le_refl _) o3))
  have NG_ := Lib.hid (show W.grownBy w3 none from gby_chg G21_.out gc (by omega))
  have hgl_ : w1.heap.size < w3.heap.size := lt_of_block hrow
  clear hrow o o3 gc
  clear rA16_
  clear rR17_
  clear rQ18_
  clear rX19_
  clear oC20_
  have G22_ := Lib.hid (show (W).grownBy (w3) none from NG_.out)
  have rA23_ := Lib.hid (show (w3).heap[W.heap.size]? = some (.cells #[.int .i64 i0, .slice a1 n1 c1, .slice a2 n2 c2] 26 (0, 0)) from NA_.out)
  have rR24_ := Lib.hid (show (w3).heap[W.heap.size + 1]? = some (.cells #[.int .i64 0, .slice none 0 0, .slice none 0 0] 26 (0, 0)) from NR_.out)
  have rQ25_ := Lib.hid (show (w3).heap[W.heap.size + 1 + 1]? = some (.cells #[.int .i64 0, .int .i64 0, .int .i64 0, .int .i64 0, .int .i64 0, .int .i64 0, .int .i64 0, .slice none 0 0] 29 (0, 0)) from NQ_.out)
  have rX26_ := Lib.hid (show (w3).heap[w1.heap.size]? = some (.cells #[.int .i32 0, .int .u32 0, .int .i64 i0, .slice d1 m1 k1, .slice d2 m2 k2] 92 (0, 0)) from NX_.out)
  have oC27_ := Lib.hid (show OwU (w3) ((W.heap.size + 1 + 1 + 1)) (w3.heap.size) [] [own shB (.slice d1 m1 k1) (xs.set kn false), own shB (.slice d2 m2 k2) ys, own shI (.slice e1 e2 e3) []] from NO_.out)
  have A_0_ : (w3).cell? ⟨W.heap.size, 0, none⟩ = some (.int .i64 i0) := cell_of_row _ _ 0 _ _ _ rA23_.out
  have A_1_ : (w3).cell? ⟨W.heap.size, 1, none⟩ = some (.slice a1 n1 c1) := cell_of_row _ _ 1 _ _ _ rA23_.out
  have A_2_ : (w3).cell? ⟨W.heap.size, 2, none⟩ = some (.slice a2 n2 c2) := cell_of_row _ _ 2 _ _ _ rA23_.out
  have R_0_ : (w3).cell? ⟨W.heap.size + 1, 0, none⟩ = some (.int .i64 0) := cell_of_row _ _ 0 _ _ _ rR24_.out
  have R_1_ : (w3).cell? ⟨W.heap.size + 1, 1, none⟩ = some (.slice none 0 0) := cell_of_row _ _ 1 _ _ _ rR24_.out
  have R_2_ : (w3).cell? ⟨W.heap.size + 1, 2, none⟩ = some (.slice none 0 0) := cell_of_row _ _ 2 _ _ _ rR24_.out
  have Q_0_ : (w3).cell? ⟨W.heap.size + 1 + 1, 0, none⟩ = some (.int .i64 0) := cell_of_row _ _ 0 _ _ _ rQ25_.out
  have Q_1_ : (w3).cell? ⟨W.heap.size + 1 + 1, 1, none⟩ = some (.int .i64 0) := cell_of_row _ _ 1 _ _ _ rQ25_.out
  have Q_2_ : (w3).cell? ⟨W.heap.size + 1 + 1, 2, none⟩ = some (.int .i64 0) := cell_of_row _ _ 2 _ _ _ rQ25_.out
  have Q_3_ : (w3).cell? ⟨W.heap.size + 1 + 1, 3, none⟩ = some (.int .i64 0) := cell_of_row _ _ 3 _ _ _ rQ25_.out
  have Q_4_ : (w3).cell? ⟨W.heap.size + 1 + 1, 4, none⟩ = some (.int .i64 0) := cell_of_row _ _ 4 _ _ _ rQ25_.out
  have Q_5_ : (w3).cell? ⟨W.heap.size + 1 + 1, 5, none⟩ = some (.int .i64 0) := cell_of_row _ _ 5 _ _ _ rQ25_.out
  have Q_6_ : (w3).cell? ⟨W.heap.size + 1 + 1, 6, none⟩ = some (.int .i64 0) := cell_of_row _ _ 6 _ _ _ rQ25_.out
  have Q_7_ : (w3).cell? ⟨W.heap.size + 1 + 1, 7, none⟩ = some (.slice none 0 0) := cell_of_row _ _ 7 _ _ _ rQ25_.out
  have X_0_ : (w3).cell? ⟨w1.heap.size, 0, none⟩ = some (.int .i32 0) := cell_of_row _ _ 0 _ _ _ rX26_.out
  have X_1_ : (w3).cell? ⟨w1.heap.size, 1, none⟩ = some (.int .u32 0) := cell_of_row _ _ 1 _ _ _ rX26_.out
  have X_2_ : (w3).cell? ⟨w1.heap.size, 2, none⟩ = some (.int .i64 i0) := cell_of_row _ _ 2 _ _ _ rX26_.out
  have X_3_ : (w3).cell? ⟨w1.heap.size, 3, none⟩ = some (.slice d1 m1 k1) := cell_of_row _ _ 3 _ _ _ rX26_.out
  have X_4_ : (w3).cell? ⟨w1.heap.size, 4, none⟩ = some (.slice d2 m2 k2) := cell_of_row _ _ 4 _ _ _ rX26_.out
  clear A_0_ A_1_ A_2_ R_0_ R_1_ R_2_ Q_0_ Q_1_ Q_2_ Q_3_ Q_4_ Q_5_ Q_6_ Q_7_ X_0_ X_1_ X_2_ X_3_ X_4_
  have al_ : (w3).grownBy ((w3).alloc (.cells #[.int .i64 0, .int .i64 0, .int .i64 0, .int .i64 0, .int .i64 0, .int .i64 0, .int .i64 0, .slice e1 e2 e3] 29)) none := gby_alloc (gby_refl _ _) _
  have rA28_ := Lib.hid (show ((w3.alloc (.cells #[.int .i64 0, .int .i64 0, .int .i64 0, .int .i64 0, .int .i64 0, .int .i64 0, .int .i64 0, .slice e1 e2 e3] 29))).heap[W.heap.size]? = some (.cells #[.int .i64 i0, .slice a1 n1 c1, .slice a2 n2 c2] 26 (0, 0)) from row_held al_ rA23_.out)
  clear rA23_
  have rR29_ := Lib.hid (show ((w3.alloc (.cells #[.int .i64 0, .int .i64 0, .int .i64 0, .int .i64 0, .int .i64 0, .int .i64 0, .int .i64 0, .slice e1 e2 e3] 29))).heap[W.heap.size + 1]? = some (.cells #[.int .i64 0, .slice none 0 0, .slice none 0 0] 26 (0, 0)) from row_held al_ rR24_.out)
  clear rR24_
  have rQ30_ := Lib.hid (show ((w3.alloc (.cells #[.int .i64 0, .int .i64 0, .int .i64 0, .int .i64 0, .int .i64 0, .int .i64 0, .int .i64 0, .slice e1 e2 e3] 29))).heap[W.heap.size + 1 + 1]? = some (.cells #[.int .i64 0, .int .i64 0, .int .i64 0, .int .i64 0, .int .i64 0, .int .i64 0, .int .i64 0, .slice none 0 0] 29 (0, 0)) from row_held al_ rQ25_.out)
  clear rQ25_
  have rX31_ := Lib.hid (show ((w3.alloc (.cells #[.int .i64 0, .int .i64 0, .int .i64 0, .int .i64 0, .int .i64 0, .int .i64 0, .int .i64 0, .slice e1 e2 e3] 29))).heap[w1.heap.size]? = some (.cells #[.int .i32 0, .int .u32 0, .int .i64 i0, .slice d1 m1 k1, .slice d2 m2 k2] 92 (0, 0)) from row_held al_ rX26_.out)
  clear rX26_
  have oC32_ := Lib.hid (show OwU ((w3.alloc (.cells #[.int .i64 0, .int .i64 0, .int .i64 0, .int .i64 0, .int .i64 0, .int .i64 0, .int .i64 0, .slice e1 e2 e3] 29))) ((W.heap.size + 1 + 1 + 1)) (w3.heap.size) [] [own shB (.slice d1 m1 k1) (xs.set kn false), own shB (.slice d2 m2 k2) ys, own shI (.slice e1 e2 e3) []] from OwU.grow oC27_.out al_)
  clear oC27_
  have G33_ := Lib.hid (show (W).grownBy ((w3.alloc (.cells #[.int .i64 0, .int .i64 0, .int .i64 0, .int .i64 0, .int .i64 0, .int .i64 0, .int .i64 0, .slice e1 e2 e3] 29))) none from gby_trans G22_.out al_)
  have rK34_ := Lib.hid (show ((w3.alloc (.cells #[.int .i64 0, .int .i64 0, .int .i64 0, .int .i64 0, .int .i64 0, .int .i64 0, .int .i64 0, .slice e1 e2 e3] 29))).heap[w3.heap.size]? = some (.cells #[.int .i64 0, .int .i64 0, .int .i64 0, .int .i64 0, .int .i64 0, .int .i64 0, .int .i64 0, .slice e1 e2 e3] 29 (0, 0)) from by first | exact heap_alloc_new _ _ | exact heap_pair _ _ _ | exact heap_trip _ _ _ _)
  clear al_
  have A_0_ : ((w3.alloc (.cells #[.int .i64 0, .int .i64 0, .int .i64 0, .int .i64 0, .int .i64 0, .int .i64 0, .int .i64 0, .slice e1 e2 e3] 29))).cell? ⟨W.heap.size, 0, none⟩ = some (.int .i64 i0) := cell_of_row _ _ 0 _ _ _ rA28_.out
  have A_1_ : ((w3.alloc (.cells #[.int .i64 0, .int .i64 0, .int .i64 0, .int .i64 0, .int .i64 0, .int .i64 0, .int .i64 0, .slice e1 e2 e3] 29))).cell? ⟨W.heap.size, 1, none⟩ = some (.slice a1 n1 c1) := cell_of_row _ _ 1 _ _ _ rA28_.out
  have A_2_ : ((w3.alloc (.cells #[.int .i64 0, .int .i64 0, .int .i64 0, .int .i64 0, .int .i64 0, .int .i64 0, .int .i64 0, .slice e1 e2 e3] 29))).cell? ⟨W.heap.size, 2, none⟩ = some (.slice a2 n2 c2) := cell_of_row _ _ 2 _ _ _ rA28_.out
  have R_0_ : ((w3.alloc (.cells #[.int .i64 0, .int .i64 0, .int .i64 0, .int .i64 0, .int .i64 0, .int .i64 0, .int .i64 0, .slice e1 e2 e3] 29))).cell? ⟨W.heap.size + 1, 0, none⟩ = some (.int .i64 0) := cell_of_row _ _ 0 _ _ _ rR29_.out
  have R_1_ : ((w3.alloc (.cells #[.int .i64 0, .int .i64 0, .int .i64 0, .int .i64 0, .int .i64 0, .int .i64 0, .int .i64 0, .slice e1 e2 e3] 29))).cell? ⟨W.heap.size + 1, 1, none⟩ = some (.slice none 0 0) := cell_of_row _ _ 1 _ _ _ rR29_.out
  have R_2_ : ((w3.alloc (.cells #[.int .i64 0, .int .i64 0, .int .i64 0, .int .i64 0, .int .i64 0, .int .i64 0, .int .i64 0, .slice e1 e2 e3] 29))).cell? ⟨W.heap.size + 1, 2, none⟩ = some (.slice none 0 0) := cell_of_row _ _ 2 _ _ _ rR29_.out
  have Q_0_ : ((w3.alloc (.cells #[.int .i64 0, .int .i64 0, .int .i64 0, .int .i64 0, .int .i64 0, .int .i64 0, .int .i64 0, .slice e1 e2 e3] 29))).cell? ⟨W.heap.size + 1 + 1, 0, none⟩ = some (.int .i64 0) := cell_of_row _ _ 0 _ _ _ rQ30_.out
  have Q_1_ : ((w3.alloc (.cells #[.int .i64 0, .int .i64 0, .int .i64 0, .int .i64 0, .int .i64 0, .int .i64 0, .int .i64 0, .slice e1 e2 e3] 29))).cell? ⟨W.heap.size + 1 + 1, 1, none⟩ = some (.int .i64 0) := cell_of_row _ _ 1 _ _ _ rQ30_.out
  have Q_2_ : ((w3.alloc (.cells #[.int .i64 0, .int .i64 0, .int .i64 0, .int .i64 0, .int .i64 0, .int .i64 0, .int .i64 0, .slice e1 e2 e3] 29))).cell? ⟨W.heap.size + 1 + 1, 2, none⟩ = some (.int .i64 0) := cell_of_row _ _ 2 _ _ _ rQ30_.out
  have Q_3_ : ((w3.alloc (.cells #[.int .i64 0, .int .i64 0, .int .i64 0, .int .i64 0, .int .i64 0, .int .i64 0, .int .i64 0, .slice e1 e2 e3] 29))).cell? ⟨W.heap.size + 1 + 1, 3, none⟩ = some (.int .i64 0) := cell_of_row _ _ 3 _ _ _ rQ30_.out
  have Q_4_ : ((w3.alloc (.cells #[.int .i64 0, .int .i64 0, .int .i64 0, .int .i64 0, .int .i64 0, .int .i64 0, .int .i64 0, .slice e1 e2 e3] 29))).cell? ⟨W.heap.size + 1 + 1, 4, none⟩ = some (.int .i64 0) := cell_of_row _ _ 4 _ _ _ rQ30_.out
  have Q_5_ : ((w3.alloc (.cells #[.int .i64 0, .int .i64 0, .int .i64 0, .int .i64 0, .int .i64 0, .int .i64 0, .int .i64 0, .slice e1 e2 e3] 29))).cell? ⟨W.heap.size + 1 + 1, 5, none⟩ = some (.int .i64 0) := cell_of_row _ _ 5 _ _ _ rQ30_.out
  have Q_6_ : ((w3.alloc (.cells #[.int .i64 0, .int .i64 0, .int .i64 0, .int .i64 0, .int .i64 0, .int .i64 0, .int .i64 0, .slice e1 e2 e3] 29))).cell? ⟨W.heap.size + 1 + 1, 6, none⟩ = some (.int .i64 0) := cell_of_row _ _ 6 _ _ _ rQ30_.out
  have Q_7_ : ((w3.alloc (.cells #[.int .i64 0, .int .i64 0, .int .i64 0, .int .i64 0, .int .i64 0, .int .i64 0, .int .i64 0, .slice e1 e2 e3] 29))).cell? ⟨W.heap.size + 1 + 1, 7, none⟩ = some (.slice none 0 0) := cell_of_row _ _ 7 _ _ _ rQ30_.out
  have X_0_ : ((w3.alloc (.cells #[.int .i64 0, .int .i64 0, .int .i64 0, .int .i64 0, .int .i64 0, .int .i64 0, .int .i64 0, .slice e1 e2 e3] 29))).cell? ⟨w1.heap.size, 0, none⟩ = some (.int .i32 0) := cell_of_row _ _ 0 _ _ _ rX31_.out
  have X_1_ : ((w3.alloc (.cells #[.int .i64 0, .int .i64 0, .int .i64 0, .int .i64 0, .int .i64 0, .int .i64 0, .int .i64 0, .slice e1 e2 e3] 29))).cell? ⟨w1.heap.size, 1, none⟩ = some (.int .u32 0) := cell_of_row _ _ 1 _ _ _ rX31_.out
  have X_2_ : ((w3.alloc (.cells #[.int .i64 0, .int .i64 0, .int .i64 0, .int .i64 0, .int .i64 0, .int .i64 0, .int .i64 0, .slice e1 e2 e3] 29))).cell? ⟨w1.heap.size, 2, none⟩ = some (.int .i64 i0) := cell_of_row _ _ 2 _ _ _ rX31_.out
  have X_3_ : ((w3.alloc (.cells #[.int .i64 0, .int .i64 0, .int .i64 0, .int .i64 0, .int .i64 0, .int .i64 0, .int .i64 0, .slice e1 e2 e3] 29))).cell? ⟨w1.heap.size, 3, none⟩ = some (.slice d1 m1 k1) := cell_of_row _ _ 3 _ _ _ rX31_.out
  have X_4_ : ((w3.alloc (.cells #[.int .i64 0, .int .i64 0, .int .i64 0, .int .i64 0, .int .i64 0, .int .i64 0, .int .i64 0, .slice e1 e2 e3] 29))).cell? ⟨w1.heap.size, 4, none⟩ = some (.slice d2 m2 k2) := cell_of_row _ _ 4 _ _ _ rX31_.out
  have K_0_ : ((w3.alloc (.cells #[.int .i64 0, .int .i64 0, .int .i64 0, .int .i64 0, .int .i64 0, .int .i64 0, .int .i64 0, .slice e1 e2 e3] 29))).cell? ⟨w3.heap.size, 0, none⟩ = some (.int .i64 0) := cell_of_row _ _ 0 _ _ _ rK34_.out
  have K_1_ : ((w3.alloc (.cells #[.int .i64 0, .int .i64 0, .int .i64 0, .int .i64 0, .int .i64 0, .int .i64 0, .int .i64 0, .slice e1 e2 e3] 29))).cell? ⟨w3.heap.size, 1, none⟩ = some (.int .i64 0) := cell_of_row _ _ 1 _ _ _ rK34_.out
  have K_2_ : ((w3.alloc (.cells #[.int .i64 0, .int .i64 0, .int .i64 0, .int .i64 0, .int .i64 0, .int .i64 0, .int .i64 0, .slice e1 e2 e3] 29))).cell? ⟨w3.heap.size, 2, none⟩ = some (.int .i64 0) := cell_of_row _ _ 2 _ _ _ rK34_.out
  have K_3_ : ((w3.alloc (.cells #[.int .i64 0, .int .i64 0, .int .i64 0, .int .i64 0, .int .i64 0, .int .i64 0, .int .i64 0, .slice e1 e2 e3] 29))).cell? ⟨w3.heap.size, 3, none⟩ = some (.int .i64 0) := cell_of_row _ _ 3 _ _ _ rK34_.out
  have K_4_ : ((w3.alloc (.cells #[.int .i64 0, .int .i64 0, .int .i64 0, .int .i64 0, .int .i64 0, .int .i64 0, .int .i64 0, .slice e1 e2 e3] 29))).cell? ⟨w3.heap.size, 4, none⟩ = some (.int .i64 0) := cell_of_row _ _ 4 _ _ _ rK34_.out
  have K_5_ : ((w3.alloc (.cells #[.int .i64 0, .int .i64 0, .int .i64 0, .int .i64 0, .int .i64 0, .int .i64 0, .int .i64 0, .slice e1 e2 e3] 29))).cell? ⟨w3.heap.size, 5, none⟩ = some (.int .i64 0) := cell_of_row _ _ 5 _ _ _ rK34_.out
  have K_6_ : ((w3.alloc (.cells #[.int .i64 0, .int .i64 0, .int .i64 0, .int .i64 0, .int .i64 0, .int .i64 0, .int .i64 0, .slice e1 e2 e3] 29))).cell? ⟨w3.heap.size, 6, none⟩ = some (.int .i64 0) := cell_of_row _ _ 6 _ _ _ rK34_.out
  have K_7_ : ((w3.alloc (.cells #[.int .i64 0, .int .i64 0, .int .i64 0, .int .i64 0, .int .i64 0, .int .i64 0, .int .i64 0, .slice e1 e2 e3] 29))).cell? ⟨w3.heap.size, 7, none⟩ = some (.slice e1 e2 e3) := cell_of_row _ _ 7 _ _ _ rK34_.out
  have nb0_ : ¬ w1.heap.size = W.heap.size + 1 := by omega
  have nb1_ : ¬ W.heap.size + 1 = w1.heap.size := by omega
  have nb2_ : ¬ w1.heap.size = W.heap.size + 1 + 1 := by omega
  have nb3_ : ¬ W.heap.size + 1 + 1 = w1.heap.size := by omega
  have nb4_ : ¬ w3.heap.size = W.heap.size + 1 := by omega
  have nb5_ : ¬ W.heap.size + 1 = w3.heap.size := by omega
  have nb6_ : ¬ w3.heap.size = W.heap.size + 1 + 1 := by omega
  have nb7_ : ¬ W.heap.size + 1 + 1 = w3.heap.size := by omega
  clear A_0_ A_1_ A_2_ R_0_ R_1_ R_2_ Q_0_ Q_1_ Q_2_ Q_3_ Q_4_ Q_5_ Q_6_ Q_7_ X_0_ X_1_ X_2_ X_3_ X_4_ K_0_ K_1_ K_2_ K_3_ K_4_ K_5_ K_6_ K_7_
  have A_0_ : ((w3.alloc (.cells #[.int .i64 0, .int .i64 0, .int .i64 0, .int .i64 0, .int .i64 0, .int .i64 0, .int .i64 0, .slice e1 e2 e3] 29))).cell? ⟨W.heap.size, 0, none⟩ = some (.int .i64 i0) := cell_of_row _ _ 0 _ _ _ rA28_.out
  have A_1_ : ((w3.alloc (.cells #[.int .i64 0, .int .i64 0, .int .i64 0, .int .i64 0, .int .i64 0, .int .i64 0, .int .i64 0, .slice e1 e2 e3] 29))).cell? ⟨W.heap.size, 1, none⟩ = some (.slice a1 n1 c1) := cell_of_row _ _ 1 _ _ _ rA28_.out
  have A_2_ : ((w3.alloc (.cells #[.int .i64 0, .int .i64 0, .int .i64 0, .int .i64 0, .int .i64 0, .int .i64 0, .int .i64 0, .slice e1 e2 e3] 29))).cell? ⟨W.heap.size, 2, none⟩ = some (.slice a2 n2 c2) := cell_of_row _ _ 2 _ _ _ rA28_.out
  have R_0_ : ((w3.alloc (.cells #[.int .i64 0, .int .i64 0, .int .i64 0, .int .i64 0, .int .i64 0, .int .i64 0, .int .i64 0, .slice e1 e2 e3] 29))).cell? ⟨W.heap.size + 1, 0, none⟩ = some (.int .i64 0) := cell_of_row _ _ 0 _ _ _ rR29_.out
  have R_1_ : ((w3.alloc (.cells #[.int .i64 0, .int .i64 0, .int .i64 0, .int .i64 0, .int .i64 0, .int .i64 0, .int .i64 0, .slice e1 e2 e3] 29))).cell? ⟨W.heap.size + 1, 1, none⟩ = some (.slice none 0 0) := cell_of_row _ _ 1 _ _ _ rR29_.out
  have R_2_ : ((w3.alloc (.cells #[.int .i64 0, .int .i64 0, .int .i64 0, .int .i64 0, .int .i64 0, .int .i64 0, .int .i64 0, .slice e1 e2 e3] 29))).cell? ⟨W.heap.size + 1, 2, none⟩ = some (.slice none 0 0) := cell_of_row _ _ 2 _ _ _ rR29_.out
  have Rf0_ : ((w3.alloc (.cells #[.int .i64 0, .int .i64 0, .int .i64 0, .int .i64 0, .int .i64 0, .int .i64 0, .int .i64 0, .slice e1 e2 e3] 29))).frozen? ⟨W.heap.size + 1, 0, none⟩ = false := frozen_of_row _ _ 0 _ _ rR29_.out
  have Rf1_ : ((w3.alloc (.cells #[.int .i64 0, .int .i64 0, .int .i64 0, .int .i64 0, .int .i64 0, .int .i64 0, .int .i64 0, .slice e1 e2 e3] 29))).frozen? ⟨W.heap.size + 1, 1, none⟩ = false := frozen_of_row _ _ 1 _ _ rR29_.out
  have Rf2_ : ((w3.alloc (.cells #[.int .i64 0, .int .i64 0, .int .i64 0, .int .i64 0, .int .i64 0, .int .i64 0, .int .i64 0, .slice e1 e2 e3] 29))).frozen? ⟨W.heap.size + 1, 2, none⟩ = false := frozen_of_row _ _ 2 _ _ rR29_.out
  have Q_0_ : ((w3.alloc (.cells #[.int .i64 0, .int .i64 0, .int .i64 0, .int .i64 0, .int .i64 0, .int .i64 0, .int .i64 0, .slice e1 e2 e3] 29))).cell? ⟨W.heap.size + 1 + 1, 0, none⟩ = some (.int .i64 0) := cell_of_row _ _ 0 _ _ _ rQ30_.out
  have Q_1_ : ((w3.alloc (.cells #[.int .i64 0, .int .i64 0, .int .i64 0, .int .i64 0, .int .i64 0, .int .i64 0, .int .i64 0, .slice e1 e2 e3] 29))).cell? ⟨W.heap.size + 1 + 1, 1, none⟩ = some (.int .i64 0) := cell_of_row _ _ 1 _ _ _ rQ30_.out
  have Q_2_ : ((w3.alloc (.cells #[.int .i64 0, .int .i64 0, .int .i64 0, .int .i64 0, .int .i64 0, .int .i64 0, .int .i64 0, .slice e1 e2 e3] 29))).cell? ⟨W.heap.size + 1 + 1, 2, none⟩ = some (.int .i64 0) := cell_of_row _ _ 2 _ _ _ rQ30_.out
  have Q_3_ : ((w3.alloc (.cells #[.int .i64 0, .int .i64 0, .int .i64 0, .int .i64 0, .int .i64 0, .int .i64 0, .int .i64 0, .slice e1 e2 e3] 29))).cell? ⟨W.heap.size + 1 + 1, 3, none⟩ = some (.int .i64 0) := cell_of_row _ _ 3 _ _ _ rQ30_.out
  have Q_4_ : ((w3.alloc (.cells #[.int .i64 0, .int .i64 0, .int .i64 0, .int .i64 0, .int .i64 0, .int .i64 0, .int .i64 0, .slice e1 e2 e3] 29))).cell? ⟨W.heap.size + 1 + 1, 4, none⟩ = some (.int .i64 0) := cell_of_row _ _ 4 _ _ _ rQ30_.out
  have Q_5_ : ((w3.alloc (.cells #[.int .i64 0, .int .i64 0, .int .i64 0, .int .i64 0, .int .i64 0, .int .i64 0, .int .i64 0, .slice e1 e2 e3] 29))).cell? ⟨W.heap.size + 1 + 1, 5, none⟩ = some (.int .i64 0) := cell_of_row _ _ 5 _ _ _ rQ30_.out
  have Q_6_ : ((w3.alloc (.cells #[.int .i64 0, .int .i64 0, .int .i64 0, .int .i64 0, .int .i64 0, .int .i64 0, .int .i64 0, .slice e1 e2 e3] 29))).cell? ⟨W.heap.size + 1 + 1, 6, none⟩ = some (.int .i64 0) := cell_of_row _ _ 6 _ _ _ rQ30_.out
  have Q_7_ : ((w3.alloc (.cells #[.int .i64 0, .int .i64 0, .int .i64 0, .int .i64 0, .int .i64 0, .int .i64 0, .int .i64 0, .slice e1 e2 e3] 29))).cell? ⟨W.heap.size + 1 + 1, 7, none⟩ = some (.slice none 0 0) := cell_of_row _ _ 7 _ _ _ rQ30_.out
  have Qf0_ : ((w3.alloc (.cells #[.int .i64 0, .int .i64 0, .int .i64 0, .int .i64 0, .int .i64 0, .int .i64 0, .int .i64 0, .slice e1 e2 e3] 29))).frozen? ⟨W.heap.size + 1 + 1, 0, none⟩ = false := frozen_of_row _ _ 0 _ _ rQ30_.out
  have Qf1_ : ((w3.alloc (.cells #[.int .i64 0, .int .i64 0, .int .i64 0, .int .i64 0, .int .i64 0, .int .i64 0, .int .i64 0, .slice e1 e2 e3] 29))).frozen? ⟨W.heap.size + 1 + 1, 1, none⟩ = false := frozen_of_row _ _ 1 _ _ rQ30_.out
  have Qf2_ : ((w3.alloc (.cells #[.int .i64 0, .int .i64 0, .int .i64 0, .int .i64 0, .int .i64 0, .int .i64 0, .int .i64 0, .slice e1 e2 e3] 29))).frozen? ⟨W.heap.size + 1 + 1, 2, none⟩ = false := frozen_of_row _ _ 2 _ _ rQ30_.out
  have Qf3_ : ((w3.alloc (.cells #[.int .i64 0, .int .i64 0, .int .i64 0, .int .i64 0, .int .i64 0, .int .i64 0, .int .i64 0, .slice e1 e2 e3] 29))).frozen? ⟨W.heap.size + 1 + 1, 3, none⟩ = false := frozen_of_row _ _ 3 _ _ rQ30_.out
  have Qf4_ : ((w3.alloc (.cells #[.int .i64 0, .int .i64 0, .int .i64 0, .int .i64 0, .int .i64 0, .int .i64 0, .int .i64 0, .slice e1 e2 e3] 29))).frozen? ⟨W.heap.size + 1 + 1, 4, none⟩ = false := frozen_of_row _ _ 4 _ _ rQ30_.out
  have Qf5_ : ((w3.alloc (.cells #[.int .i64 0, .int .i64 0, .int .i64 0, .int .i64 0, .int .i64 0, .int .i64 0, .int .i64 0, .slice e1 e2 e3] 29))).frozen? ⟨W.heap.size + 1 + 1, 5, none⟩ = false := frozen_of_row _ _ 5 _ _ rQ30_.out
  have Qf6_ : ((w3.alloc (.cells #[.int .i64 0, .int .i64 0, .int .i64 0, .int .i64 0, .int .i64 0, .int .i64 0, .int .i64 0, .slice e1 e2 e3] 29))).frozen? ⟨W.heap.size + 1 + 1, 6, none⟩ = false := frozen_of_row _ _ 6 _ _ rQ30_.out
  have Qf7_ : ((w3.alloc (.cells #[.int .i64 0, .int .i64 0, .int .i64 0, .int .i64 0, .int .i64 0, .int .i64 0, .int .i64 0, .slice e1 e2 e3] 29))).frozen? ⟨W.heap.size + 1 + 1, 7, none⟩ = false := frozen_of_row _ _ 7 _ _ rQ30_.out
  have X_0_ : ((w3.alloc (.cells #[.int .i64 0, .int .i64 0, .int .i64 0, .int .i64 0, .int .i64 0, .int .i64 0, .int .i64 0, .slice e1 e2 e3] 29))).cell? ⟨w1.heap.size, 0, none⟩ = some (.int .i32 0) := cell_of_row _ _ 0 _ _ _ rX31_.out
  have X_1_ : ((w3.alloc (.cells #[.int .i64 0, .int .i64 0, .int .i64 0, .int .i64 0, .int .i64 0, .int .i64 0, .int .i64 0, .slice e1 e2 e3] 29))).cell? ⟨w1.heap.size, 1, none⟩ = some (.int .u32 0) := cell_of_row _ _ 1 _ _ _ rX31_.out
  have X_2_ : ((w3.alloc (.cells #[.int .i64 0, .int .i64 0, .int .i64 0, .int .i64 0, .int .i64 0, .int .i64 0, .int .i64 0, .slice e1 e2 e3] 29))).cell? ⟨w1.heap.size, 2, none⟩ = some (.int .i64 i0) := cell_of_row _ _ 2 _ _ _ rX31_.out
  have X_3_ : ((w3.alloc (.cells #[.int .i64 0, .int .i64 0, .int .i64 0, .int .i64 0, .int .i64 0, .int .i64 0, .int .i64 0, .slice e1 e2 e3] 29))).cell? ⟨w1.heap.size, 3, none⟩ = some (.slice d1 m1 k1) := cell_of_row _ _ 3 _ _ _ rX31_.out
  have X_4_ : ((w3.alloc (.cells #[.int .i64 0, .int .i64 0, .int .i64 0, .int .i64 0, .int .i64 0, .int .i64 0, .int .i64 0, .slice e1 e2 e3] 29))).cell? ⟨w1.heap.size, 4, none⟩ = some (.slice d2 m2 k2) := cell_of_row _ _ 4 _ _ _ rX31_.out
  have K_0_ : ((w3.alloc (.cells #[.int .i64 0, .int .i64 0, .int .i64 0, .int .i64 0, .int .i64 0, .int .i64 0, .int .i64 0, .slice e1 e2 e3] 29))).cell? ⟨w3.heap.size, 0, none⟩ = some (.int .i64 0) := cell_of_row _ _ 0 _ _ _ rK34_.out
  have K_1_ : ((w3.alloc (.cells #[.int .i64 0, .int .i64 0, .int .i64 0, .int .i64 0, .int .i64 0, .int .i64 0, .int .i64 0, .slice e1 e2 e3] 29))).cell? ⟨w3.heap.size, 1, none⟩ = some (.int .i64 0) := cell_of_row _ _ 1 _ _ _ rK34_.out
  have K_2_ : ((w3.alloc (.cells #[.int .i64 0, .int .i64 0, .int .i64 0, .int .i64 0, .int .i64 0, .int .i64 0, .int .i64 0, .slice e1 e2 e3] 29))).cell? ⟨w3.heap.size, 2, none⟩ = some (.int .i64 0) := cell_of_row _ _ 2 _ _ _ rK34_.out
  have K_3_ : ((w3.alloc (.cells #[.int .i64 0, .int .i64 0, .int .i64 0, .int .i64 0, .int .i64 0, .int .i64 0, .int .i64 0, .slice e1 e2 e3] 29))).cell? ⟨w3.heap.size, 3, none⟩ = some (.int .i64 0) := cell_of_row _ _ 3 _ _ _ rK34_.out
  have K_4_ : ((w3.alloc (.cells #[.int .i64 0, .int .i64 0, .int .i64 0, .int .i64 0, .int .i64 0, .int .i64 0, .int .i64 0, .slice e1 e2 e3] 29))).cell? ⟨w3.heap.size, 4, none⟩ = some (.int .i64 0) := cell_of_row _ _ 4 _ _ _ rK34_.out
  have K_5_ : ((w3.alloc (.cells #[.int .i64 0, .int .i64 0, .int .i64 0, .int .i64 0, .int .i64 0, .int .i64 0, .int .i64 0, .slice e1 e2 e3] 29))).cell? ⟨w3.heap.size, 5, none⟩ = some (.int .i64 0) := cell_of_row _ _ 5 _ _ _ rK34_.out
  have K_6_ : ((w3.alloc (.cells #[.int .i64 0, .int .i64 0, .int .i64 0, .int .i64 0, .int .i64 0, .int .i64 0, .int .i64 0, .slice e1 e2 e3] 29))).cell? ⟨w3.heap.size, 6, none⟩ = some (.int .i64 0) := cell_of_row _ _ 6 _ _ _ rK34_.out
  have K_7_ : ((w3.alloc (.cells #[.int .i64 0, .int .i64 0, .int .i64 0, .int .i64 0, .int .i64 0, .int .i64 0, .int .i64 0, .slice e1 e2 e3] 29))).cell? ⟨w3.heap.size, 7, none⟩ = some (.slice e1 e2 e3) := cell_of_row _ _ 7 _ _ _ rK34_.out
  have yr_ := Lib.hid (show (((((((((((((w3.alloc (.cells #[.int .i64 0, .int .i64 0, .int .i64 0, .int .i64 0, .int .i64 0, .int .i64 0, .int .i64 0, .slice e1 e2 e3] 29)).setCell ⟨W.heap.size + 1, 0, none⟩ (.int .i64 i0)).setCell ⟨W.heap.size + 1, 1, none⟩ (.slice d1 m1 k1)).setCell ⟨W.heap.size + 1, 2, none⟩ (.slice d2 m2 k2)).setCell ⟨W.heap.size + 1 + 1, 0, none⟩ (.int .i64 0)).setCell ⟨W.heap.size + 1 + 1, 1, none⟩ (.int .i64 0)).setCell ⟨W.heap.size + 1 + 1, 2, none⟩ (.int .i64 0)).setCell ⟨W.heap.size + 1 + 1, 3, none⟩ (.int .i64 0)).setCell ⟨W.heap.size + 1 + 1, 4, none⟩ (.int .i64 0)).setCell ⟨W.heap.size + 1 + 1, 5, none⟩ (.int .i64 0)).setCell ⟨W.heap.size + 1 + 1, 6, none⟩ (.int .i64 0)).setCell ⟨W.heap.size + 1 + 1, 7, none⟩ (.slice e1 e2 e3))).heap[W.heap.size + 1]? = some (.cells #[.int .i64 i0, .slice d1 m1 k1, .slice d2 m2 k2] 26 (0, 0)) from (set_far (set_far (set_far (set_far (set_far (set_far (set_far (set_far (heap_setCell_same _ _ 2 _ _ _ (heap_setCell_same _ _ 1 _ _ _ (heap_setCell_same _ _ 0 _ _ _ rR29_.out))) (by dsimp only; omega)) (by dsimp only; omega)) (by dsimp only; omega)) (by dsimp only; omega)) (by dsimp only; omega)) (by dsimp only; omega)) (by dsimp only; omega)) (by dsimp only; omega)))
  have yq_ := Lib.hid (show (((((((((((((w3.alloc (.cells #[.int .i64 0, .int .i64 0, .int .i64 0, .int .i64 0, .int .i64 0, .int .i64 0, .int .i64 0, .slice e1 e2 e3] 29)).setCell ⟨W.heap.size + 1, 0, none⟩ (.int .i64 i0)).setCell ⟨W.heap.size + 1, 1, none⟩ (.slice d1 m1 k1)).setCell ⟨W.heap.size + 1, 2, none⟩ (.slice d2 m2 k2)).setCell ⟨W.heap.size + 1 + 1, 0, none⟩ (.int .i64 0)).setCell ⟨W.heap.size + 1 + 1, 1, none⟩ (.int .i64 0)).setCell ⟨W.heap.size + 1 + 1, 2, none⟩ (.int .i64 0)).setCell ⟨W.heap.size + 1 + 1, 3, none⟩ (.int .i64 0)).setCell ⟨W.heap.size + 1 + 1, 4, none⟩ (.int .i64 0)).setCell ⟨W.heap.size + 1 + 1, 5, none⟩ (.int .i64 0)).setCell ⟨W.heap.size + 1 + 1, 6, none⟩ (.int .i64 0)).setCell ⟨W.heap.size + 1 + 1, 7, none⟩ (.slice e1 e2 e3))).heap[W.heap.size + 1 + 1]? = some (.cells #[.int .i64 0, .int .i64 0, .int .i64 0, .int .i64 0, .int .i64 0, .int .i64 0, .int .i64 0, .slice e1 e2 e3] 29 (0, 0)) from (heap_setCell_same _ _ 7 _ _ _ (heap_setCell_same _ _ 6 _ _ _ (heap_setCell_same _ _ 5 _ _ _ (heap_setCell_same _ _ 4 _ _ _ (heap_setCell_same _ _ 3 _ _ _ (heap_setCell_same _ _ 2 _ _ _ (heap_setCell_same _ _ 1 _ _ _ (heap_setCell_same _ _ 0 _ _ _ (set_far (set_far (set_far rQ30_.out (by dsimp only; omega)) (by dsimp only; omega)) (by dsimp only; omega)))))))))))
  have z0_ : (((((((((((((w3.alloc (.cells #[.int .i64 0, .int .i64 0, .int .i64 0, .int .i64 0, .int .i64 0, .int .i64 0, .int .i64 0, .slice e1 e2 e3] 29)).setCell ⟨W.heap.size + 1, 0, none⟩ (.int .i64 i0)).setCell ⟨W.heap.size + 1, 1, none⟩ (.slice d1 m1 k1)).setCell ⟨W.heap.size + 1, 2, none⟩ (.slice d2 m2 k2)).setCell ⟨W.heap.size + 1 + 1, 0, none⟩ (.int .i64 0)).setCell ⟨W.heap.size + 1 + 1, 1, none⟩ (.int .i64 0)).setCell ⟨W.heap.size + 1 + 1, 2, none⟩ (.int .i64 0)).setCell ⟨W.heap.size + 1 + 1, 3, none⟩ (.int .i64 0)).setCell ⟨W.heap.size + 1 + 1, 4, none⟩ (.int .i64 0)).setCell ⟨W.heap.size + 1 + 1, 5, none⟩ (.int .i64 0)).setCell ⟨W.heap.size + 1 + 1, 6, none⟩ (.int .i64 0)).setCell ⟨W.heap.size + 1 + 1, 7, none⟩ (.slice e1 e2 e3))).cell? ⟨W.heap.size + 1, 0, none⟩ = some (.int .i64 i0) := cell_of_row _ _ 0 _ _ _ yr_.out
  have z1_ : (((((((((((((w3.alloc (.cells #[.int .i64 0, .int .i64 0, .int .i64 0, .int .i64 0, .int .i64 0, .int .i64 0, .int .i64 0, .slice e1 e2 e3] 29)).setCell ⟨W.heap.size + 1, 0, none⟩ (.int .i64 i0)).setCell ⟨W.heap.size + 1, 1, none⟩ (.slice d1 m1 k1)).setCell ⟨W.heap.size + 1, 2, none⟩ (.slice d2 m2 k2)).setCell ⟨W.heap.size + 1 + 1, 0, none⟩ (.int .i64 0)).setCell ⟨W.heap.size + 1 + 1, 1, none⟩ (.int .i64 0)).setCell ⟨W.heap.size + 1 + 1, 2, none⟩ (.int .i64 0)).setCell ⟨W.heap.size + 1 + 1, 3, none⟩ (.int .i64 0)).setCell ⟨W.heap.size + 1 + 1, 4, none⟩ (.int .i64 0)).setCell ⟨W.heap.size + 1 + 1, 5, none⟩ (.int .i64 0)).setCell ⟨W.heap.size + 1 + 1, 6, none⟩ (.int .i64 0)).setCell ⟨W.heap.size + 1 + 1, 7, none⟩ (.slice e1 e2 e3))).cell? ⟨W.heap.size + 1, 1, none⟩ = some (.slice d1 m1 k1) := cell_of_row _ _ 1 _ _ _ yr_.out
  have z2_ : (((((((((((((w3.alloc (.cells #[.int .i64 0, .int .i64 0, .int .i64 0, .int .i64 0, .int .i64 0, .int .i64 0, .int .i64 0, .slice e1 e2 e3] 29)).setCell ⟨W.heap.size + 1, 0, none⟩ (.int .i64 i0)).setCell ⟨W.heap.size + 1, 1, none⟩ (.slice d1 m1 k1)).setCell ⟨W.heap.size + 1, 2, none⟩ (.slice d2 m2 k2)).setCell ⟨W.heap.size + 1 + 1, 0, none⟩ (.int .i64 0)).setCell ⟨W.heap.size + 1 + 1, 1, none⟩ (.int .i64 0)).setCell ⟨W.heap.size + 1 + 1, 2, none⟩ (.int .i64 0)).setCell ⟨W.heap.size + 1 + 1, 3, none⟩ (.int .i64 0)).setCell ⟨W.heap.size + 1 + 1, 4, none⟩ (.int .i64 0)).setCell ⟨W.heap.size + 1 + 1, 5, none⟩ (.int .i64 0)).setCell ⟨W.heap.size + 1 + 1, 6, none⟩ (.int .i64 0)).setCell ⟨W.heap.size + 1 + 1, 7, none⟩ (.slice e1 e2 e3))).cell? ⟨W.heap.size + 1, 2, none⟩ = some (.slice d2 m2 k2) := cell_of_row _ _ 2 _ _ _ yr_.out
  have y0_ : (((((((((((((w3.alloc (.cells #[.int .i64 0, .int .i64 0, .int .i64 0, .int .i64 0, .int .i64 0, .int .i64 0, .int .i64 0, .slice e1 e2 e3] 29)).setCell ⟨W.heap.size + 1, 0, none⟩ (.int .i64 i0)).setCell ⟨W.heap.size + 1, 1, none⟩ (.slice d1 m1 k1)).setCell ⟨W.heap.size + 1, 2, none⟩ (.slice d2 m2 k2)).setCell ⟨W.heap.size + 1 + 1, 0, none⟩ (.int .i64 0)).setCell ⟨W.heap.size + 1 + 1, 1, none⟩ (.int .i64 0)).setCell ⟨W.heap.size + 1 + 1, 2, none⟩ (.int .i64 0)).setCell ⟨W.heap.size + 1 + 1, 3, none⟩ (.int .i64 0)).setCell ⟨W.heap.size + 1 + 1, 4, none⟩ (.int .i64 0)).setCell ⟨W.heap.size + 1 + 1, 5, none⟩ (.int .i64 0)).setCell ⟨W.heap.size + 1 + 1, 6, none⟩ (.int .i64 0)).setCell ⟨W.heap.size + 1 + 1, 7, none⟩ (.slice e1 e2 e3))).cell? ⟨W.heap.size + 1 + 1, 0, none⟩ = some (.int .i64 0) := cell_of_row _ _ 0 _ _ _ yq_.out
  have y1_ : (((((((((((((w3.alloc (.cells #[.int .i64 0, .int .i64 0, .int .i64 0, .int .i64 0, .int .i64 0, .int .i64 0, .int .i64 0, .slice e1 e2 e3] 29)).setCell ⟨W.heap.size + 1, 0, none⟩ (.int .i64 i0)).setCell ⟨W.heap.size + 1, 1, none⟩ (.slice d1 m1 k1)).setCell ⟨W.heap.size + 1, 2, none⟩ (.slice d2 m2 k2)).setCell ⟨W.heap.size + 1 + 1, 0, none⟩ (.int .i64 0)).setCell ⟨W.heap.size + 1 + 1, 1, none⟩ (.int .i64 0)).setCell ⟨W.heap.size + 1 + 1, 2, none⟩ (.int .i64 0)).setCell ⟨W.heap.size + 1 + 1, 3, none⟩ (.int .i64 0)).setCell ⟨W.heap.size + 1 + 1, 4, none⟩ (.int .i64 0)).setCell ⟨W.heap.size + 1 + 1, 5, none⟩ (.int .i64 0)).setCell ⟨W.heap.size + 1 + 1, 6, none⟩ (.int .i64 0)).setCell ⟨W.heap.size + 1 + 1, 7, none⟩ (.slice e1 e2 e3))).cell? ⟨W.heap.size + 1 + 1, 1, none⟩ = some (.int .i64 0) := cell_of_row _ _ 1 _ _ _ yq_.out
  have y2_ : (((((((((((((w3.alloc (.cells #[.int .i64 0, .int .i64 0, .int .i64 0, .int .i64 0, .int .i64 0, .int .i64 0, .int .i64 0, .slice e1 e2 e3] 29)).setCell ⟨W.heap.size + 1, 0, none⟩ (.int .i64 i0)).setCell ⟨W.heap.size + 1, 1, none⟩ (.slice d1 m1 k1)).setCell ⟨W.heap.size + 1, 2, none⟩ (.slice d2 m2 k2)).setCell ⟨W.heap.size + 1 + 1, 0, none⟩ (.int .i64 0)).setCell ⟨W.heap.size + 1 + 1, 1, none⟩ (.int .i64 0)).setCell ⟨W.heap.size + 1 + 1, 2, none⟩ (.int .i64 0)).setCell ⟨W.heap.size + 1 + 1, 3, none⟩ (.int .i64 0)).setCell ⟨W.heap.size + 1 + 1, 4, none⟩ (.int .i64 0)).setCell ⟨W.heap.size + 1 + 1, 5, none⟩ (.int .i64 0)).setCell ⟨W.heap.size + 1 + 1, 6, none⟩ (.int .i64 0)).setCell ⟨W.heap.size + 1 + 1, 7, none⟩ (.slice e1 e2 e3))).cell? ⟨W.heap.size + 1 + 1, 2, none⟩ = some (.int .i64 0) := cell_of_row _ _ 2 _ _ _ yq_.out
  have y3_ : (((((((((((((w3.alloc (.cells #[.int .i64 0, .int .i64 0, .int .i64 0, .int .i64 0, .int .i64 0, .int .i64 0, .int .i64 0, .slice e1 e2 e3] 29)).setCell ⟨W.heap.size + 1, 0, none⟩ (.int .i64 i0)).setCell ⟨W.heap.size + 1, 1, none⟩ (.slice d1 m1 k1)).setCell ⟨W.heap.size + 1, 2, none⟩ (.slice d2 m2 k2)).setCell ⟨W.heap.size + 1 + 1, 0, none⟩ (.int .i64 0)).setCell ⟨W.heap.size + 1 + 1, 1, none⟩ (.int .i64 0)).setCell ⟨W.heap.size + 1 + 1, 2, none⟩ (.int .i64 0)).setCell ⟨W.heap.size + 1 + 1, 3, none⟩ (.int .i64 0)).setCell ⟨W.heap.size + 1 + 1, 4, none⟩ (.int .i64 0)).setCell ⟨W.heap.size + 1 + 1, 5, none⟩ (.int .i64 0)).setCell ⟨W.heap.size + 1 + 1, 6, none⟩ (.int .i64 0)).setCell ⟨W.heap.size + 1 + 1, 7, none⟩ (.slice e1 e2 e3))).cell? ⟨W.heap.size + 1 + 1, 3, none⟩ = some (.int .i64 0) := cell_of_row _ _ 3 _ _ _ yq_.out
  have y4_ : (((((((((((((w3.alloc (.cells #[.int .i64 0, .int .i64 0, .int .i64 0, .int .i64 0, .int .i64 0, .int .i64 0, .int .i64 0, .slice e1 e2 e3] 29)).setCell ⟨W.heap.size + 1, 0, none⟩ (.int .i64 i0)).setCell ⟨W.heap.size + 1, 1, none⟩ (.slice d1 m1 k1)).setCell ⟨W.heap.size + 1, 2, none⟩ (.slice d2 m2 k2)).setCell ⟨W.heap.size + 1 + 1, 0, none⟩ (.int .i64 0)).setCell ⟨W.heap.size + 1 + 1, 1, none⟩ (.int .i64 0)).setCell ⟨W.heap.size + 1 + 1, 2, none⟩ (.int .i64 0)).setCell ⟨W.heap.size + 1 + 1, 3, none⟩ (.int .i64 0)).setCell ⟨W.heap.size + 1 + 1, 4, none⟩ (.int .i64 0)).setCell ⟨W.heap.size + 1 + 1, 5, none⟩ (.int .i64 0)).setCell ⟨W.heap.size + 1 + 1, 6, none⟩ (.int .i64 0)).setCell ⟨W.heap.size + 1 + 1, 7, none⟩ (.slice e1 e2 e3))).cell? ⟨W.heap.size + 1 + 1, 4, none⟩ = some (.int .i64 0) := cell_of_row _ _ 4 _ _ _ yq_.out
  have y5_ : (((((((((((((w3.alloc (.cells #[.int .i64 0, .int .i64 0, .int .i64 0, .int .i64 0, .int .i64 0, .int .i64 0, .int .i64 0, .slice e1 e2 e3] 29)).setCell ⟨W.heap.size + 1, 0, none⟩ (.int .i64 i0)).setCell ⟨W.heap.size + 1, 1, none⟩ (.slice d1 m1 k1)).setCell ⟨W.heap.size + 1, 2, none⟩ (.slice d2 m2 k2)).setCell ⟨W.heap.size + 1 + 1, 0, none⟩ (.int .i64 0)).setCell ⟨W.heap.size + 1 + 1, 1, none⟩ (.int .i64 0)).setCell ⟨W.heap.size + 1 + 1, 2, none⟩ (.int .i64 0)).setCell ⟨W.heap.size + 1 + 1, 3, none⟩ (.int .i64 0)).setCell ⟨W.heap.size + 1 + 1, 4, none⟩ (.int .i64 0)).setCell ⟨W.heap.size + 1 + 1, 5, none⟩ (.int .i64 0)).setCell ⟨W.heap.size + 1 + 1, 6, none⟩ (.int .i64 0)).setCell ⟨W.heap.size + 1 + 1, 7, none⟩ (.slice e1 e2 e3))).cell? ⟨W.heap.size + 1 + 1, 5, none⟩ = some (.int .i64 0) := cell_of_row _ _ 5 _ _ _ yq_.out
  have y6_ : (((((((((((((w3.alloc (.cells #[.int .i64 0, .int .i64 0, .int .i64 0, .int .i64 0, .int .i64 0, .int .i64 0, .int .i64 0, .slice e1 e2 e3] 29)).setCell ⟨W.heap.size + 1, 0, none⟩ (.int .i64 i0)).setCell ⟨W.heap.size + 1, 1, none⟩ (.slice d1 m1 k1)).setCell ⟨W.heap.size + 1, 2, none⟩ (.slice d2 m2 k2)).setCell ⟨W.heap.size + 1 + 1, 0, none⟩ (.int .i64 0)).setCell ⟨W.heap.size + 1 + 1, 1, none⟩ (.int .i64 0)).setCell ⟨W.heap.size + 1 + 1, 2, none⟩ (.int .i64 0)).setCell ⟨W.heap.size + 1 + 1, 3, none⟩ (.int .i64 0)).setCell ⟨W.heap.size + 1 + 1, 4, none⟩ (.int .i64 0)).setCell ⟨W.heap.size + 1 + 1, 5, none⟩ (.int .i64 0)).setCell ⟨W.heap.size + 1 + 1, 6, none⟩ (.int .i64 0)).setCell ⟨W.heap.size + 1 + 1, 7, none⟩ (.slice e1 e2 e3))).cell? ⟨W.heap.size + 1 + 1, 6, none⟩ = some (.int .i64 0) := cell_of_row _ _ 6 _ _ _ yq_.out
  have y7_ : (((((((((((((w3.alloc (.cells #[.int .i64 0, .int .i64 0, .int .i64 0, .int .i64 0, .int .i64 0, .int .i64 0, .int .i64 0, .slice e1 e2 e3] 29)).setCell ⟨W.heap.size + 1, 0, none⟩ (.int .i64 i0)).setCell ⟨W.heap.size + 1, 1, none⟩ (.slice d1 m1 k1)).setCell ⟨W.heap.size + 1, 2, none⟩ (.slice d2 m2 k2)).setCell ⟨W.heap.size + 1 + 1, 0, none⟩ (.int .i64 0)).setCell ⟨W.heap.size + 1 + 1, 1, none⟩ (.int .i64 0)).setCell ⟨W.heap.size + 1 + 1, 2, none⟩ (.int .i64 0)).setCell ⟨W.heap.size + 1 + 1, 3, none⟩ (.int .i64 0)).setCell ⟨W.heap.size + 1 + 1, 4, none⟩ (.int .i64 0)).setCell ⟨W.heap.size + 1 + 1, 5, none⟩ (.int .i64 0)).setCell ⟨W.heap.size + 1 + 1, 6, none⟩ (.int .i64 0)).setCell ⟨W.heap.size + 1 + 1, 7, none⟩ (.slice e1 e2 e3))).cell? ⟨W.heap.size + 1 + 1, 7, none⟩ = some (.slice e1 e2 e3) := cell_of_row _ _ 7 _ _ _ yq_.out
  go_wp2_with fail
  go_region_with (fail)
  all_goals
    go_wp2
    refine bodyPost_ret (v := .tuple #[.agg #[.int .i64 i0, .slice d1 m1 k1, .slice d2 m2 k2], .agg #[.int .i64 0, .int .i64 0, .int .i64 0, .int .i64 0, .int .i64 0, .int .i64 0, .int .i64 0, .slice e1 e2 e3], .bool true]) (by simp [results, go_sem, z0_, z1_, z2_, y0_, y1_, y2_, y3_, y4_, y5_, y6_, y7_]) rfl ⟨_, _, _, rfl, ?_, ?_⟩
    · exact OwU.wide (lo := (W.heap.size + 1 + 1 + 1)) (by omega) (by simp only [World.size_drew, World.size_setCell, World.size_alloc]; omega) (OwU.grow (OwU.keep (chg_one _ _ _ _) (by omega) (OwU.keep (chg_one _ _ _ _) (by omega) (OwU.keep (chg_one _ _ _ _) (by omega) (OwU.keep (chg_one _ _ _ _) (by omega) (OwU.keep (chg_one _ _ _ _) (by omega) (OwU.keep (chg_one _ _ _ _) (by omega) (OwU.keep (chg_one _ _ _ _) (by omega) (OwU.keep (chg_one _ _ _ _) (by omega) (OwU.keep (chg_one _ _ _ _) (by omega) (OwU.keep (chg_one _ _ _ _) (by omega) (OwU.keep (chg_one _ _ _ _) (by omega) oC32_.out))))))))))) (gby_drew (gby_refl _ _)))
    · exact gby_drew (gby_setnew (gby_setnew (gby_setnew (gby_setnew (gby_setnew (gby_setnew (gby_setnew (gby_setnew (gby_setnew (gby_setnew (gby_setnew G33_.out _ (by dsimp only; omega) _) _ (by dsimp only; omega) _) _ (by dsimp only; omega) _) _ (by dsimp only; omega) _) _ (by dsimp only; omega) _) _ (by dsimp only; omega) _) _ (by dsimp only; omega) _) _ (by dsimp only; omega) _) _ (by dsimp only; omega) _) _ (by dsimp only; omega) _) _ (by dsimp only; omega) _)

set_option maxRecDepth 8000 in
set_option maxHeartbeats 4000000 in
theorem implSetM_call (W : World) (i0 : Int) (v1 v2 : Value) (xs ys : List Bool) (H1 : RdL shB W v1 xs) (H2 : RdL shB W v2 ys) (hl1 : szL shB xs ≤ 1048576) (hl2 : szL shB ys ≤ 1048576) (id k : Int) (hb : VCall i0 xs ys id k) (hm : ys.getD k.toNat false = true) : Calls Try.prog 22 #[vVectors i0 v1 v2, .int .i64 id, .int .i64 k, .bool false] W (ResISetMask i0 (xs.set k.toNat false) (ys.set k.toNat false) 1 id 0 i0 0 0 0 [k] true W) := by
  have HOK := Lib.hid hb
  have hk_ := hb.2.2
  have h8_ := hb.1.1
  have hy_ := hb.1.2.1
  obtain ⟨kn, hkn⟩ : ∃ n : Nat, k = (n : Int) := ⟨k.toNat, by omega⟩
  subst hkn
  have hkx : kn < xs.length := by omega
  clear hb
  have HM := Lib.hid (show ys.getD kn false = true from by simpa using hm)
  clear hm
  rw [Int.toNat_natCast]
  have H1_ := Lib.hid H1
  have H2_ := Lib.hid H2
  obtain ⟨a1, n1, c1, rfl⟩ := RdL.form H1
  obtain ⟨a2, n2, c2, rfl⟩ := RdL.form H2
  clear H1 H2
  unfold vVectors
  go_enter Try.func22, Try.ntmps22
  have rA1_ := Lib.hid (show ((((W.alloc (.cells #[.int .i64 i0, .slice a1 n1 c1, .slice a2 n2 c2] 26)).alloc (.cells #[.int .i64 0, .slice none 0 0, .slice none 0 0] 26)).alloc (.cells #[.int .i64 0, .int .i64 0, .int .i64 0, .int .i64 0, .int .i64 0, .int .i64 0, .int .i64 0, .slice none 0 0] 29))).heap[W.heap.size]? = some (.cells #[.int .i64 i0, .slice a1 n1 c1, .slice a2 n2 c2] 26 (0, 0)) from by rw [heap_alloc_old _ _ (by simp only [World.size_alloc]; omega)]; rw [heap_alloc_old _ _ (by simp only [World.size_alloc]; omega)]; exact heap_alloc_new _ _)
  have rR2_ := Lib.hid (show ((((W.alloc (.cells #[.int .i64 i0, .slice a1 n1 c1, .slice a2 n2 c2] 26)).alloc (.cells #[.int .i64 0, .slice none 0 0, .slice none 0 0] 26)).alloc (.cells #[.int .i64 0, .int .i64 0, .int .i64 0, .int .i64 0, .int .i64 0, .int .i64 0, .int .i64 0, .slice none 0 0] 29))).heap[W.heap.size + 1]? = some (.cells #[.int .i64 0, .slice none 0 0, .slice none 0 0] 26 (0, 0)) from by rw [heap_alloc_old _ _ (by simp only [World.size_alloc]; omega)]; exact heap_pair _ _ _)
  have rQ3_ := Lib.hid (show ((((W.alloc (.cells #[.int .i64 i0, .slice a1 n1 c1, .slice a2 n2 c2] 26)).alloc (.cells #[.int .i64 0, .slice none 0 0, .slice none 0 0] 26)).alloc (.cells #[.int .i64 0, .int .i64 0, .int .i64 0, .int .i64 0, .int .i64 0, .int .i64 0, .int .i64 0, .slice none 0 0] 29))).heap[W.heap.size + 1 + 1]? = some (.cells #[.int .i64 0, .int .i64 0, .int .i64 0, .int .i64 0, .int .i64 0, .int .i64 0, .int .i64 0, .slice none 0 0] 29 (0, 0)) from by exact heap_trip _ _ _ _)
  have G4_ := Lib.hid (show (W).grownBy ((((W.alloc (.cells #[.int .i64 i0, .slice a1 n1 c1, .slice a2 n2 c2] 26)).alloc (.cells #[.int .i64 0, .slice none 0 0, .slice none 0 0] 26)).alloc (.cells #[.int .i64 0, .int .i64 0, .int .i64 0, .int .i64 0, .int .i64 0, .int .i64 0, .int .i64 0, .slice none 0 0] 29))) none from (gby_alloc (gby_alloc (gby_alloc (gby_refl _ _) _) _) _))
  have A_0_ : ((((W.alloc (.cells #[.int .i64 i0, .slice a1 n1 c1, .slice a2 n2 c2] 26)).alloc (.cells #[.int .i64 0, .slice none 0 0, .slice none 0 0] 26)).alloc (.cells #[.int .i64 0, .int .i64 0, .int .i64 0, .int .i64 0, .int .i64 0, .int .i64 0, .int .i64 0, .slice none 0 0] 29))).cell? ⟨W.heap.size, 0, none⟩ = some (.int .i64 i0) := cell_of_row _ _ 0 _ _ _ rA1_.out
  have A_1_ : ((((W.alloc (.cells #[.int .i64 i0, .slice a1 n1 c1, .slice a2 n2 c2] 26)).alloc (.cells #[.int .i64 0, .slice none 0 0, .slice none 0 0] 26)).alloc (.cells #[.int .i64 0, .int .i64 0, .int .i64 0, .int .i64 0, .int .i64 0, .int .i64 0, .int .i64 0, .slice none 0 0] 29))).cell? ⟨W.heap.size, 1, none⟩ = some (.slice a1 n1 c1) := cell_of_row _ _ 1 _ _ _ rA1_.out
  have A_2_ : ((((W.alloc (.cells #[.int .i64 i0, .slice a1 n1 c1, .slice a2 n2 c2] 26)).alloc (.cells #[.int .i64 0, .slice none 0 0, .slice none 0 0] 26)).alloc (.cells #[.int .i64 0, .int .i64 0, .int .i64 0, .int .i64 0, .int .i64 0, .int .i64 0, .int .i64 0, .slice none 0 0] 29))).cell? ⟨W.heap.size, 2, none⟩ = some (.slice a2 n2 c2) := cell_of_row _ _ 2 _ _ _ rA1_.out
  have R_0_ : ((((W.alloc (.cells #[.int .i64 i0, .slice a1 n1 c1, .slice a2 n2 c2] 26)).alloc (.cells #[.int .i64 0, .slice none 0 0, .slice none 0 0] 26)).alloc (.cells #[.int .i64 0, .int .i64 0, .int .i64 0, .int .i64 0, .int .i64 0, .int .i64 0, .int .i64 0, .slice none 0 0] 29))).cell? ⟨W.heap.size + 1, 0, none⟩ = some (.int .i64 0) := cell_of_row _ _ 0 _ _ _ rR2_.out
  have R_1_ : ((((W.alloc (.cells #[.int .i64 i0, .slice a1 n1 c1, .slice a2 n2 c2] 26)).alloc (.cells #[.int .i64 0, .slice none 0 0, .slice none 0 0] 26)).alloc (.cells #[.int .i64 0, .int .i64 0, .int .i64 0, .int .i64 0, .int .i64 0, .int .i64 0, .int .i64 0, .slice none 0 0] 29))).cell? ⟨W.heap.size + 1, 1, none⟩ = some (.slice none 0 0) := cell_of_row _ _ 1 _ _ _ rR2_.out
  have R_2_ : ((((W.alloc (.cells #[.int .i64 i0, .slice a1 n1 c1, .slice a2 n2 c2] 26)).alloc (.cells #[.int .i64 0, .slice none 0 0, .slice none 0 0] 26)).alloc (.cells #[.int .i64 0, .int .i64 0, .int .i64 0, .int .i64 0, .int .i64 0, .int .i64 0, .int .i64 0, .slice none 0 0] 29))).cell? ⟨W.heap.size + 1, 2, none⟩ = some (.slice none 0 0) := cell_of_row _ _ 2 _ _ _ rR2_.out
  have Q_0_ : ((((W.alloc (.cells #[.int .i64 i0, .slice a1 n1 c1, .slice a2 n2 c2] 26)).alloc (.cells #[.int .i64 0, .slice none 0 0, .slice none 0 0] 26)).alloc (.cells #[.int .i64 0, .int .i64 0, .int .i64 0, .int .i64 0, .int .i64 0, .int .i64 0, .int .i64 0, .slice none 0 0] 29))).cell? ⟨W.heap.size + 1 + 1, 0, none⟩ = some (.int .i64 0) := cell_of_row _ _ 0 _ _ _ rQ3_.out
  have Q_1_ : ((((W.alloc (.cells #[.int .i64 i0, .slice a1 n1 c1, .slice a2 n2 c2] 26)).alloc (.cells #[.int .i64 0, .slice none 0 0, .slice none 0 0] 26)).alloc (.cells #[.int .i64 0, .int .i64 0, .int .i64 0, .int .i64 0, .int .i64 0, .int .i64 0, .int .i64 0, .slice none 0 0] 29))).cell? ⟨W.heap.size + 1 + 1, 1, none⟩ = some (.int .i64 0) := cell_of_row _ _ 1 _ _ _ rQ3_.out
  have Q_2_ : ((((W.alloc (.cells #[.int .i64 i0, .slice a1 n1 c1, .slice a2 n2 c2] 26)).alloc (.cells #[.int .i64 0, .slice none 0 0, .slice none 0 0] 26)).alloc (.cells #[.int .i64 0, .int .i64 0, .int .i64 0, .int .i64 0, .int .i64 0, .int .i64 0, .int .i64 0, .slice none 0 0] 29))).cell? ⟨W.heap.size + 1 + 1, 2, none⟩ = some (.int .i64 0) := cell_of_row _ _ 2 _ _ _ rQ3_.out
  have Q_3_ : ((((W.alloc (.cells #[.int .i64 i0, .slice a1 n1 c1, .slice a2 n2 c2] 26)).alloc (.cells #[.int .i64 0, .slice none 0 0, .slice none 0 0] 26)).alloc (.cells #[.int .i64 0, .int .i64 0, .int .i64 0, .int .i64 0, .int .i64 0, .int .i64 0, .int .i64 0, .slice none 0 0] 29))).cell? ⟨W.heap.size + 1 + 1, 3, none⟩ = some (.int .i64 0) := cell_of_row _ _ 3 _ _ _ rQ3_.out
  have Q_4_ : ((((W.alloc (.cells #[.int .i64 i0, .slice a1 n1 c1, .slice a2 n2 c2] 26)).alloc (.cells #[.int .i64 0, .slice none 0 0, .slice none 0 0] 26)).alloc (.cells #[.int .i64 0, .int .i64 0, .int .i64 0, .int .i64 0, .int .i64 0, .int .i64 0, .int .i64 0, .slice none 0 0] 29))).cell? ⟨W.heap.size + 1 + 1, 4, none⟩ = some (.int .i64 0) := cell_of_row _ _ 4 _ _ _ rQ3_.out
  have Q_5_ : ((((W.alloc (.cells #[.int .i64 i0, .slice a1 n1 c1, .slice a2 n2 c2] 26)).alloc (.cells #[.int .i64 0, .slice none 0 0, .slice none 0 0] 26)).alloc (.cells #[.int .i64 0, .int .i64 0, .int .i64 0, .int .i64 0, .int .i64 0, .int .i64 0, .int .i64 0, .slice none 0 0] 29))).cell? ⟨W.heap.size + 1 + 1, 5, none⟩ = some (.int .i64 0) := cell_of_row _ _ 5 _ _ _ rQ3_.out
  have Q_6_ : ((((W.alloc (.cells #[.int .i64 i0, .slice a1 n1 c1, .slice a2 n2 c2] 26)).alloc (.cells #[.int .i64 0, .slice none 0 0, .slice none 0 0] 26)).alloc (.cells #[.int .i64 0, .int .i64 0, .int .i64 0, .int .i64 0, .int .i64 0, .int .i64 0, .int .i64 0, .slice none 0 0] 29))).cell? ⟨W.heap.size + 1 + 1, 6, none⟩ = some (.int .i64 0) := cell_of_row _ _ 6 _ _ _ rQ3_.out
  have Q_7_ : ((((W.alloc (.cells #[.int .i64 i0, .slice a1 n1 c1, .slice a2 n2 c2] 26)).alloc (.cells #[.int .i64 0, .slice none 0 0, .slice none 0 0] 26)).alloc (.cells #[.int .i64 0, .int .i64 0, .int .i64 0, .int .i64 0, .int .i64 0, .int .i64 0, .int .i64 0, .slice none 0 0] 29))).cell? ⟨W.heap.size + 1 + 1, 7, none⟩ = some (.slice none 0 0) := cell_of_row _ _ 7 _ _ _ rQ3_.out
  go_wp2_with fail
  go_at_call 63
  refine (copiedVec_d _ i0 _ _ xs ys (H1_.out.grow G4_.out) (H2_.out.grow G4_.out) hl1 hl2).mono ?_
  rintro e w1 ⟨x1, x2, rfl, o, g⟩
  have sz_ := g.size
  try simp only [World.size_alloc] at sz_ o
  clear A_0_ A_1_ A_2_ R_0_ R_1_ R_2_ Q_0_ Q_1_ Q_2_ Q_3_ Q_4_ Q_5_ Q_6_ Q_7_
  have rA5_ := Lib.hid (show (w1).heap[W.heap.size]? = some (.cells #[.int .i64 i0, .slice a1 n1 c1, .slice a2 n2 c2] 26 (0, 0)) from row_held g rA1_.out)
  clear rA1_
  have rR6_ := Lib.hid (show (w1).heap[W.heap.size + 1]? = some (.cells #[.int .i64 0, .slice none 0 0, .slice none 0 0] 26 (0, 0)) from row_held g rR2_.out)
  clear rR2_
  have rQ7_ := Lib.hid (show (w1).heap[W.heap.size + 1 + 1]? = some (.cells #[.int .i64 0, .int .i64 0, .int .i64 0, .int .i64 0, .int .i64 0, .int .i64 0, .int .i64 0, .slice none 0 0] 29 (0, 0)) from row_held g rQ3_.out)
  clear rQ3_
  have G8_ := Lib.hid (show (W).grownBy (w1) none from gby_trans G4_.out g)
  clear g
  obtain ⟨d1, m1, k1, hv_⟩ := RdL.form (OwU.rd o)
  subst hv_
  obtain ⟨d2, m2, k2, hv_⟩ := RdL.form (OwU.rd (OwU.tail o))
  subst hv_
  unfold vVectors
  have oC9_ := Lib.hid (show OwU (w1) ((W.heap.size + 1 + 1 + 1)) (w1.heap.size) [] [own shB (.slice d1 m1 k1) xs, own shB (.slice d2 m2 k2) ys] from o)
  clear o
  have al_ : (w1).grownBy ((w1).alloc (.cells #[.int .i32 0, .int .u32 0, .int .i64 i0, .slice d1 m1 k1, .slice d2 m2 k2] 92)) none := gby_alloc (gby_refl _ _) _
  have rA10_ := Lib.hid (show ((w1.alloc (.cells #[.int .i32 0, .int .u32 0, .int .i64 i0, .slice d1 m1 k1, .slice d2 m2 k2] 92))).heap[W.heap.size]? = some (.cells #[.int .i64 i0, .slice a1 n1 c1, .slice a2 n2 c2] 26 (0, 0)) from row_held al_ rA5_.out)
  clear rA5_
  have rR11_ := Lib.hid (show ((w1.alloc (.cells #[.int .i32 0, .int .u32 0, .int .i64 i0, .slice d1 m1 k1, .slice d2 m2 k2] 92))).heap[W.heap.size + 1]? = some (.cells #[.int .i64 0, .slice none 0 0, .slice none 0 0] 26 (0, 0)) from row_held al_ rR6_.out)
  clear rR6_
  have rQ12_ := Lib.hid (show ((w1.alloc (.cells #[.int .i32 0, .int .u32 0, .int .i64 i0, .slice d1 m1 k1, .slice d2 m2 k2] 92))).heap[W.heap.size + 1 + 1]? = some (.cells #[.int .i64 0, .int .i64 0, .int .i64 0, .int .i64 0, .int .i64 0, .int .i64 0, .int .i64 0, .slice none 0 0] 29 (0, 0)) from row_held al_ rQ7_.out)
  clear rQ7_
  have oC13_ := Lib.hid (show OwU ((w1.alloc (.cells #[.int .i32 0, .int .u32 0, .int .i64 i0, .slice d1 m1 k1, .slice d2 m2 k2] 92))) ((W.heap.size + 1 + 1 + 1)) (w1.heap.size) [] [own shB (.slice d1 m1 k1) xs, own shB (.slice d2 m2 k2) ys] from OwU.grow oC9_.out al_)
  clear oC9_
  have G14_ := Lib.hid (show (W).grownBy ((w1.alloc (.cells #[.int .i32 0, .int .u32 0, .int .i64 i0, .slice d1 m1 k1, .slice d2 m2 k2] 92))) none from gby_trans G8_.out al_)
  have rX15_ := Lib.hid (show ((w1.alloc (.cells #[.int .i32 0, .int .u32 0, .int .i64 i0, .slice d1 m1 k1, .slice d2 m2 k2] 92))).heap[w1.heap.size]? = some (.cells #[.int .i32 0, .int .u32 0, .int .i64 i0, .slice d1 m1 k1, .slice d2 m2 k2] 92 (0, 0)) from by first | exact heap_alloc_new _ _ | exact heap_pair _ _ _ | exact heap_trip _ _ _ _)
  clear al_
  have A_0_ : ((w1.alloc (.cells #[.int .i32 0, .int .u32 0, .int .i64 i0, .slice d1 m1 k1, .slice d2 m2 k2] 92))).cell? ⟨W.heap.size, 0, none⟩ = some (.int .i64 i0) := cell_of_row _ _ 0 _ _ _ rA10_.out
  have A_1_ : ((w1.alloc (.cells #[.int .i32 0, .int .u32 0, .int .i64 i0, .slice d1 m1 k1, .slice d2 m2 k2] 92))).cell? ⟨W.heap.size, 1, none⟩ = some (.slice a1 n1 c1) := cell_of_row _ _ 1 _ _ _ rA10_.out
  have A_2_ : ((w1.alloc (.cells #[.int .i32 0, .int .u32 0, .int .i64 i0, .slice d1 m1 k1, .slice d2 m2 k2] 92))).cell? ⟨W.heap.size, 2, none⟩ = some (.slice a2 n2 c2) := cell_of_row _ _ 2 _ _ _ rA10_.out
  have R_0_ : ((w1.alloc (.cells #[.int .i32 0, .int .u32 0, .int .i64 i0, .slice d1 m1 k1, .slice d2 m2 k2] 92))).cell? ⟨W.heap.size + 1, 0, none⟩ = some (.int .i64 0) := cell_of_row _ _ 0 _ _ _ rR11_.out
  have R_1_ : ((w1.alloc (.cells #[.int .i32 0, .int .u32 0, .int .i64 i0, .slice d1 m1 k1, .slice d2 m2 k2] 92))).cell? ⟨W.heap.size + 1, 1, none⟩ = some (.slice none 0 0) := cell_of_row _ _ 1 _ _ _ rR11_.out
  have R_2_ : ((w1.alloc (.cells #[.int .i32 0, .int .u32 0, .int .i64 i0, .slice d1 m1 k1, .slice d2 m2 k2] 92))).cell? ⟨W.heap.size + 1, 2, none⟩ = some (.slice none 0 0) := cell_of_row _ _ 2 _ _ _ rR11_.out
  have Q_0_ : ((w1.alloc (.cells #[.int .i32 0, .int .u32 0, .int .i64 i0, .slice d1 m1 k1, .slice d2 m2 k2] 92))).cell? ⟨W.heap.size + 1 + 1, 0, none⟩ = some (.int .i64 0) := cell_of_row _ _ 0 _ _ _ rQ12_.out
  have Q_1_ : ((w1.alloc (.cells #[.int .i32 0, .int .u32 0, .int .i64 i0, .slice d1 m1 k1, .slice d2 m2 k2] 92))).cell? ⟨W.heap.size + 1 + 1, 1, none⟩ = some (.int .i64 0) := cell_of_row _ _ 1 _ _ _ rQ12_.out
  have Q_2_ : ((w1.alloc (.cells #[.int .i32 0, .int .u32 0, .int .i64 i0, .slice d1 m1 k1, .slice d2 m2 k2] 92))).cell? ⟨W.heap.size + 1 + 1, 2, none⟩ = some (.int .i64 0) := cell_of_row _ _ 2 _ _ _ rQ12_.out
  have Q_3_ : ((w1.alloc (.cells #[.int .i32 0, .int .u32 0, .int .i64 i0, .slice d1 m1 k1, .slice d2 m2 k2] 92))).cell? ⟨W.heap.size + 1 + 1, 3, none⟩ = some (.int .i64 0) := cell_of_row _ _ 3 _ _ _ rQ12_.out
  have Q_4_ : ((w1.alloc (.cells #[.int .i32 0, .int .u32 0, .int .i64 i0, .slice d1 m1 k1, .slice d2 m2 k2] 92))).cell? ⟨W.heap.size + 1 + 1, 4, none⟩ = some (.int .i64 0) := cell_of_row _ _ 4 _ _ _ rQ12_.out
  have Q_5_ : ((w1.alloc (.cells #[.int .i32 0, .int .u32 0, .int .i64 i0, .slice d1 m1 k1, .slice d2 m2 k2] 92))).cell? ⟨W.heap.size + 1 + 1, 5, none⟩ = some (.int .i64 0) := cell_of_row _ _ 5 _ _ _ rQ12_.out
  have Q_6_ : ((w1.alloc (.cells #[.int .i32 0, .int .u32 0, .int .i64 i0, .slice d1 m1 k1, .slice d2 m2 k2] 92))).cell? ⟨W.heap.size + 1 + 1, 6, none⟩ = some (.int .i64 0) := cell_of_row _ _ 6 _ _ _ rQ12_.out
  have Q_7_ : ((w1.alloc (.cells #[.int .i32 0, .int .u32 0, .int .i64 i0, .slice d1 m1 k1, .slice d2 m2 k2] 92))).cell? ⟨W.heap.size + 1 + 1, 7, none⟩ = some (.slice none 0 0) := cell_of_row _ _ 7 _ _ _ rQ12_.out
  have X_0_ : ((w1.alloc (.cells #[.int .i32 0, .int .u32 0, .int .i64 i0, .slice d1 m1 k1, .slice d2 m2 k2] 92))).cell? ⟨w1.heap.size, 0, none⟩ = some (.int .i32 0) := cell_of_row _ _ 0 _ _ _ rX15_.out
  have X_1_ : ((w1.alloc (.cells #[.int .i32 0, .int .u32 0, .int .i64 i0, .slice d1 m1 k1, .slice d2 m2 k2] 92))).cell? ⟨w1.heap.size, 1, none⟩ = some (.int .u32 0) := cell_of_row _ _ 1 _ _ _ rX15_.out
  have X_2_ : ((w1.alloc (.cells #[.int .i32 0, .int .u32 0, .int .i64 i0, .slice d1 m1 k1, .slice d2 m2 k2] 92))).cell? ⟨w1.heap.size, 2, none⟩ = some (.int .i64 i0) := cell_of_row _ _ 2 _ _ _ rX15_.out
  have X_3_ : ((w1.alloc (.cells #[.int .i32 0, .int .u32 0, .int .i64 i0, .slice d1 m1 k1, .slice d2 m2 k2] 92))).cell? ⟨w1.heap.size, 3, none⟩ = some (.slice d1 m1 k1) := cell_of_row _ _ 3 _ _ _ rX15_.out
  have X_4_ : ((w1.alloc (.cells #[.int .i32 0, .int .u32 0, .int .i64 i0, .slice d1 m1 k1, .slice d2 m2 k2] 92))).cell? ⟨w1.heap.size, 4, none⟩ = some (.slice d2 m2 k2) := cell_of_row _ _ 4 _ _ _ rX15_.out
  go_wp2_with fail
  go_at_call 64
  refine (((implVCall _ i0 _ _ xs ys id (kn : Int) (H1_.out.grow G14_.out) (H2_.out.grow G14_.out)).mono (bpost_yes HOK.out))).mono ?_
  rintro e w2 ⟨rfl, g⟩
  have szw2 := g.size
  try simp only [World.size_alloc] at szw2
  try simp only [World.size_setCell] at szw2
  clear A_0_ A_1_ A_2_ R_0_ R_1_ R_2_ Q_0_ Q_1_ Q_2_ Q_3_ Q_4_ Q_5_ Q_6_ Q_7_ X_0_ X_1_ X_2_ X_3_ X_4_
  have rA16_ := Lib.hid (show (w2).heap[W.heap.size]? = some (.cells #[.int .i64 i0, .slice a1 n1 c1, .slice a2 n2 c2] 26 (0, 0)) from row_held g rA10_.out)
  clear rA10_
  have rR17_ := Lib.hid (show (w2).heap[W.heap.size + 1]? = some (.cells #[.int .i64 0, .slice none 0 0, .slice none 0 0] 26 (0, 0)) from row_held g rR11_.out)
  clear rR11_
  have rQ18_ := Lib.hid (show (w2).heap[W.heap.size + 1 + 1]? = some (.cells #[.int .i64 0, .int .i64 0, .int .i64 0, .int .i64 0, .int .i64 0, .int .i64 0, .int .i64 0, .slice none 0 0] 29 (0, 0)) from row_held g rQ12_.out)
  clear rQ12_
  have rX19_ := Lib.hid (show (w2).heap[w1.heap.size]? = some (.cells #[.int .i32 0, .int .u32 0, .int .i64 i0, .slice d1 m1 k1, .slice d2 m2 k2] 92 (0, 0)) from row_held g rX15_.out)
  clear rX15_
  have oC20_ := Lib.hid (show OwU (w2) ((W.heap.size + 1 + 1 + 1)) (w1.heap.size) [] [own shB (.slice d1 m1 k1) xs, own shB (.slice d2 m2 k2) ys] from OwU.grow oC13_.out g)
  clear oC13_
  have G21_ := Lib.hid (show (W).grownBy (w2) none from gby_trans G14_.out g)
  clear g
  have A_0_ : (w2).cell? ⟨W.heap.size, 0, none⟩ = some (.int .i64 i0) := cell_of_row _ _ 0 _ _ _ rA16_.out
  have A_1_ : (w2).cell? ⟨W.heap.size, 1, none⟩ = some (.slice a1 n1 c1) := cell_of_row _ _ 1 _ _ _ rA16_.out
  have A_2_ : (w2).cell? ⟨W.heap.size, 2, none⟩ = some (.slice a2 n2 c2) := cell_of_row _ _ 2 _ _ _ rA16_.out
  have R_0_ : (w2).cell? ⟨W.heap.size + 1, 0, none⟩ = some (.int .i64 0) := cell_of_row _ _ 0 _ _ _ rR17_.out
  have R_1_ : (w2).cell? ⟨W.heap.size + 1, 1, none⟩ = some (.slice none 0 0) := cell_of_row _ _ 1 _ _ _ rR17_.out
  have R_2_ : (w2).cell? ⟨W.heap.size + 1, 2, none⟩ = some (.slice none 0 0) := cell_of_row _ _ 2 _ _ _ rR17_.out
  have Q_0_ : (w2).cell? ⟨W.heap.size + 1 + 1, 0, none⟩ = some (.int .i64 0) := cell_of_row _ _ 0 _ _ _ rQ18_.out
  have Q_1_ : (w2).cell? ⟨W.heap.size + 1 + 1, 1, none⟩ = some (.int .i64 0) := cell_of_row _ _ 1 _ _ _ rQ18_.out
  have Q_2_ : (w2).cell? ⟨W.heap.size + 1 + 1, 2, none⟩ = some (.int .i64 0) := cell_of_row _ _ 2 _ _ _ rQ18_.out
  have Q_3_ : (w2).cell? ⟨W.heap.size + 1 + 1, 3, none⟩ = some (.int .i64 0) := cell_of_row _ _ 3 _ _ _ rQ18_.out
  have Q_4_ : (w2).cell? ⟨W.heap.size + 1 + 1, 4, none⟩ = some (.int .i64 0) := cell_of_row _ _ 4 _ _ _ rQ18_.out
  have Q_5_ : (w2).cell? ⟨W.heap.size + 1 + 1, 5, none⟩ = some (.int .i64 0) := cell_of_row _ _ 5 _ _ _ rQ18_.out
  have Q_6_ : (w2).cell? ⟨W.heap.size + 1 + 1, 6, none⟩ = some (.int .i64 0) := cell_of_row _ _ 6 _ _ _ rQ18_.out
  have Q_7_ : (w2).cell? ⟨W.heap.size + 1 + 1, 7, none⟩ = some (.slice none 0 0) := cell_of_row _ _ 7 _ _ _ rQ18_.out
  have X_0_ : (w2).cell? ⟨w1.heap.size, 0, none⟩ = some (.int .i32 0) := cell_of_row _ _ 0 _ _ _ rX19_.out
  have X_1_ : (w2).cell? ⟨w1.heap.size, 1, none⟩ = some (.int .u32 0) := cell_of_row _ _ 1 _ _ _ rX19_.out
  have X_2_ : (w2).cell? ⟨w1.heap.size, 2, none⟩ = some (.int .i64 i0) := cell_of_row _ _ 2 _ _ _ rX19_.out
  have X_3_ : (w2).cell? ⟨w1.heap.size, 3, none⟩ = some (.slice d1 m1 k1) := cell_of_row _ _ 3 _ _ _ rX19_.out
  have X_4_ : (w2).cell? ⟨w1.heap.size, 4, none⟩ = some (.slice d2 m2 k2) := cell_of_row _ _ 4 _ _ _ rX19_.out
  clear A_0_ A_1_ A_2_ R_0_ R_1_ R_2_ Q_0_ Q_1_ Q_2_ Q_3_ Q_4_ Q_5_ Q_6_ Q_7_ X_0_ X_1_ X_2_ X_3_ X_4_
  go_wp2_with fail
  go_at_call 72
  refine (setm_call _ w1.heap.size (W.heap.size + 1 + 1 + 1) kn i0 id _ _ xs ys rX19_.out (OwU.wide (Nat.le_refl _) (by omega) oC20_.out) hkx (by omega) hy_ HM.out).mono ?_
  rintro e w3 ⟨x3, rfl, o, hrow, o3, gc⟩
  have gg_ : (w2).heap.size ≤ w3.heap.size := gc.size
  try simp only [World.size_alloc] at gg_
  obtain ⟨e1, e2, e3, hv_⟩ := RdL.form (OwU.rd o3)
  subst hv_
  unfold vPacket
  have NA_ := Lib.hid (show w3.heap[W.heap.size]? = some (.cells #[.int .i64 i0, .slice a1 n1 c1, .slice a2 n2 c2] 26 (0, 0)) from Chg.keep gc rA16_.out (by omega))
  have NR_ := Lib.hid (show w3.heap[W.heap.size + 1]? = some (.cells #[.int .i64 0, .slice none 0 0, .slice none 0 0] 26 (0, 0)) from Chg.keep gc rR17_.out (by omega))
  have NQ_ := Lib.hid (show w3.heap[W.heap.size + 1 + 1]? = some (.cells #[.int .i64 0, .int .i64 0, .int .i64 0, .int .i64 0, .int .i64 0, .int .i64 0, .int .i64 0, .slice none 0 0] 29 (0, 0)) from Chg.keep gc rQ18_.out (by omega))
  have NX_ := Lib.hid hrow
  have NO_ := Lib.hid (show OwU w3 (W.heap.size + 1 + 1 + 1) w3.heap.size [] [own shB (.slice d1 m1 k1) (xs.set kn false), own shB (.slice d2 m2 k2) (ys.set kn false), own shI (.slice e1 e2 e3) [(kn : Int)]] from OwU.app (ps := [own shB (.slice d1 m1 k1) (xs.set kn false), own shB (.slice d2 m2 k2) (ys.set kn false)]) (qs := [own shI (.slice e1 e2 e3) [(kn : Int)]]) (by omega) (by omega) o (OwU.wide (lo := (w2).heap.size) (by (try simp only [World.size_alloc]); omega) (Nat.le_refl _) o3))
  have NG_ := Lib.hid (show W.grownBy w3 none from gby_chg G21_.out gc (by omega))
  have hgl_ : w1.heap.size < w3.heap.size := lt_of_block hrow
  clear hrow o o3 gc
  clear rA16_
  clear rR17_
  clear rQ18_
  clear rX19_
  clear oC20_
  have G22_ := Lib.hid (show (W).grownBy (w3) none from NG_.out)
  have rA23_ := Lib.hid (show (w3).heap[W.heap.size]? = some (.cells #[.int .i64 i0, .slice a1 n1 c1, .slice a2 n2 c2] 26 (0, 0)) from NA_.out)
  have rR24_ := Lib.hid (show (w3).heap[W.heap.size + 1]? = some (.cells #[.int .i64 0, .slice none 0 0, .slice none 0 0] 26 (0, 0)) from NR_.out)
  have rQ25_ := Lib.hid (show (w3).heap[W.heap.size + 1 + 1]? = some (.cells #[.int .i64 0, .int .i64 0, .int .i64 0, .int .i64 0, .int .i64 0, .int .i64 0, .int .i64 0, .slice none 0 0] 29 (0, 0)) from NQ_.out)
  have rX26_ := Lib.hid (show (w3).heap[w1.heap.size]? = some (.cells #[.int .i32 0, .int .u32 0, .int .i64 i0, .slice d1 m1 k1, .slice d2 m2 k2] 92 (0, 0)) from NX_.out)
  have oC27_ := Lib.hid (show OwU (w3) ((W.heap.size + 1 + 1 + 1)) (w3.heap.size) [] [own shB (.slice d1 m1 k1) (xs.set kn false), own shB (.slice d2 m2 k2) (ys.set kn false), own shI (.slice e1 e2 e3) [(kn : Int)]] from NO_.out)
  have A_0_ : (w3).cell? ⟨W.heap.size, 0, none⟩ = some (.int .i64 i0) := cell_of_row _ _ 0 _ _ _ rA23_.out
  have A_1_ : (w3).cell? ⟨W.heap.size, 1, none⟩ = some (.slice a1 n1 c1) := cell_of_row _ _ 1 _ _ _ rA23_.out
  have A_2_ : (w3).cell? ⟨W.heap.size, 2, none⟩ = some (.slice a2 n2 c2) := cell_of_row _ _ 2 _ _ _ rA23_.out
  have R_0_ : (w3).cell? ⟨W.heap.size + 1, 0, none⟩ = some (.int .i64 0) := cell_of_row _ _ 0 _ _ _ rR24_.out
  have R_1_ : (w3).cell? ⟨W.heap.size + 1, 1, none⟩ = some (.slice none 0 0) := cell_of_row _ _ 1 _ _ _ rR24_.out
  have R_2_ : (w3).cell? ⟨W.heap.size + 1, 2, none⟩ = some (.slice none 0 0) := cell_of_row _ _ 2 _ _ _ rR24_.out
  have Q_0_ : (w3).cell? ⟨W.heap.size + 1 + 1, 0, none⟩ = some (.int .i64 0) := cell_of_row _ _ 0 _ _ _ rQ25_.out
  have Q_1_ : (w3).cell? ⟨W.heap.size + 1 + 1, 1, none⟩ = some (.int .i64 0) := cell_of_row _ _ 1 _ _ _ rQ25_.out
  have Q_2_ : (w3).cell? ⟨W.heap.size + 1 + 1, 2, none⟩ = some (.int .i64 0) := cell_of_row _ _ 2 _ _ _ rQ25_.out
  have Q_3_ : (w3).cell? ⟨W.heap.size + 1 + 1, 3, none⟩ = some (.int .i64 0) := cell_of_row _ _ 3 _ _ _ rQ25_.out
  have Q_4_ : (w3).cell? ⟨W.heap.size + 1 + 1, 4, none⟩ = some (.int .i64 0) := cell_of_row _ _ 4 _ _ _ rQ25_.out
  have Q_5_ : (w3).cell? ⟨W.heap.size + 1 + 1, 5, none⟩ = some (.int .i64 0) := cell_of_row _ _ 5 _ _ _ rQ25_.out
  have Q_6_ : (w3).cell? ⟨W.heap.size + 1 + 1, 6, none⟩ = some (.int .i64 0) := cell_of_row _ _ 6 _ _ _ rQ25_.out
  have Q_7_ : (w3).cell? ⟨W.heap.size + 1 + 1, 7, none⟩ = some (.slice none 0 0) := cell_of_row _ _ 7 _ _ _ rQ25_.out
  have X_0_ : (w3).cell? ⟨w1.heap.size, 0, none⟩ = some (.int .i32 0) := cell_of_row _ _ 0 _ _ _ rX26_.out
  have X_1_ : (w3).cell? ⟨w1.heap.size, 1, none⟩ = some (.int .u32 0) := cell_of_row _ _ 1 _ _ _ rX26_.out
  have X_2_ : (w3).cell? ⟨w1.heap.size, 2, none⟩ = some (.int .i64 i0) := cell_of_row _ _ 2 _ _ _ rX26_.out
  have X_3_ : (w3).cell? ⟨w1.heap.size, 3, none⟩ = some (.slice d1 m1 k1) := cell_of_row _ _ 3 _ _ _ rX26_.out
  have X_4_ : (w3).cell? ⟨w1.heap.size, 4, none⟩ = some (.slice d2 m2 k2) := cell_of_row _ _ 4 _ _ _ rX26_.out
  clear A_0_ A_1_ A_2_ R_0_ R_1_ R_2_ Q_0_ Q_1_ Q_2_ Q_3_ Q_4_ Q_5_ Q_6_ Q_7_ X_0_ X_1_ X_2_ X_3_ X_4_
  have al_ : (w3).grownBy ((w3).alloc (.cells #[.int .i64 1, .int .i64 id, .int .i64 0, .int .i64 i0, .int .i64 0, .int .i64 0, .int .i64 0, .slice e1 e2 e3] 29)) none := gby_alloc (gby_refl _ _) _
  have rA28_ := Lib.hid (show ((w3.alloc (.cells #[.int .i64 1, .int .i64 id, .int .i64 0, .int .i64 i0, .int .i64 0, .int .i64 0, .int .i64 0, .slice e1 e2 e3] 29))).heap[W.heap.size]? = some (.cells #[.int .i64 i0, .slice a1 n1 c1, .slice a2 n2 c2] 26 (0, 0)) from row_held al_ rA23_.out)
  clear rA23_
  have rR29_ := Lib.hid (show ((w3.alloc (.cells #[.int .i64 1, .int .i64 id, .int .i64 0, .int .i64 i0, .int .i64 0, .int .i64 0, .int .i64 0, .slice e1 e2 e3] 29))).heap[W.heap.size + 1]? = some (.cells #[.int .i64 0, .slice none 0 0, .slice none 0 0] 26 (0, 0)) from row_held al_ rR24_.out)
  clear rR24_
  have rQ30_ := Lib.hid (show ((w3.alloc (.cells #[.int .i64 1, .int .i64 id, .int .i64 0, .int .i64 i0, .int .i64 0, .int .i64 0, .int .i64 0, .slice e1 e2 e3] 29))).heap[W.heap.size + 1 + 1]? = some (.cells #[.int .i64 0, .int .i64 0, .int .i64 0, .int .i64 0, .int .i64 0, .int .i64 0, .int .i64 0, .slice none 0 0] 29 (0, 0)) from row_held al_ rQ25_.out)
  clear rQ25_
  have rX31_ := Lib.hid (show ((w3.alloc (.cells #[.int .i64 1, .int .i64 id, .int .i64 0, .int .i64 i0, .int .i64 0, .int .i64 0, .int .i64 0, .slice e1 e2 e3] 29))).heap[w1.heap.size]? = some (.cells #[.int .i32 0, .int .u32 0, .int .i64 i0, .slice d1 m1 k1, .slice d2 m2 k2] 92 (0, 0)) from row_held al_ rX26_.out)
  clear rX26_
  have oC32_ := Lib.hid (show OwU ((w3.alloc (.cells #[.int .i64 1, .int .i64 id, .int .i64 0, .int .i64 i0, .int .i64 0, .int .i64 0, .int .i64 0, .slice e1 e2 e3] 29))) ((W.heap.size + 1 + 1 + 1)) (w3.heap.size) [] [own shB (.slice d1 m1 k1) (xs.set kn false), own shB (.slice d2 m2 k2) (ys.set kn false), own shI (.slice e1 e2 e3) [(kn : Int)]] from OwU.grow oC27_.out al_)
  clear oC27_
  have G33_ := Lib.hid (show (W).grownBy ((w3.alloc (.cells #[.int .i64 1, .int .i64 id, .int .i64 0, .int .i64 i0, .int .i64 0, .int .i64 0, .int .i64 0, .slice e1 e2 e3] 29))) none from gby_trans G22_.out al_)
  have rK34_ := Lib.hid (show ((w3.alloc (.cells #[.int .i64 1, .int .i64 id, .int .i64 0, .int .i64 i0, .int .i64 0, .int .i64 0, .int .i64 0, .slice e1 e2 e3] 29))).heap[w3.heap.size]? = some (.cells #[.int .i64 1, .int .i64 id, .int .i64 0, .int .i64 i0, .int .i64 0, .int .i64 0, .int .i64 0, .slice e1 e2 e3] 29 (0, 0)) from by first | exact heap_alloc_new _ _ | exact heap_pair _ _ _ | exact heap_trip _ _ _ _)
  clear al_
  have A_0_ : ((w3.alloc (.cells #[.int .i64 1, .int .i64 id, .int .i64 0, .int .i64 i0, .int .i64 0, .int .i64 0, .int .i64 0, .slice e1 e2 e3] 29))).cell? ⟨W.heap.size, 0, none⟩ = some (.int .i64 i0) := cell_of_row _ _ 0 _ _ _ rA28_.out
  have A_1_ : ((w3.alloc (.cells #[.int .i64 1, .int .i64 id, .int .i64 0, .int .i64 i0, .int .i64 0, .int .i64 0, .int .i64 0, .slice e1 e2 e3] 29))).cell? ⟨W.heap.size, 1, none⟩ = some (.slice a1 n1 c1) := cell_of_row _ _ 1 _ _ _ rA28_.out
  have A_2_ : ((w3.alloc (.cells #[.int .i64 1, .int .i64 id, .int .i64 0, .int .i64 i0, .int .i64 0, .int .i64 0, .int .i64 0, .slice e1 e2 e3] 29))).cell? ⟨W.heap.size, 2, none⟩ = some (.slice a2 n2 c2) := cell_of_row _ _ 2 _ _ _ rA28_.out
  have R_0_ : ((w3.alloc (.cells #[.int .i64 1, .int .i64 id, .int .i64 0, .int .i64 i0, .int .i64 0, .int .i64 0, .int .i64 0, .slice e1 e2 e3] 29))).cell? ⟨W.heap.size + 1, 0, none⟩ = some (.int .i64 0) := cell_of_row _ _ 0 _ _ _ rR29_.out
  have R_1_ : ((w3.alloc (.cells #[.int .i64 1, .int .i64 id, .int .i64 0, .int .i64 i0, .int .i64 0, .int .i64 0, .int .i64 0, .slice e1 e2 e3] 29))).cell? ⟨W.heap.size + 1, 1, none⟩ = some (.slice none 0 0) := cell_of_row _ _ 1 _ _ _ rR29_.out
  have R_2_ : ((w3.alloc (.cells #[.int .i64 1, .int .i64 id, .int .i64 0, .int .i64 i0, .int .i64 0, .int .i64 0, .int .i64 0, .slice e1 e2 e3] 29))).cell? ⟨W.heap.size + 1, 2, none⟩ = some (.slice none 0 0) := cell_of_row _ _ 2 _ _ _ rR29_.out
  have Q_0_ : ((w3.alloc (.cells #[.int .i64 1, .int .i64 id, .int .i64 0, .int .i64 i0, .int .i64 0, .int .i64 0, .int .i64 0, .slice e1 e2 e3] 29))).cell? ⟨W.heap.size + 1 + 1, 0, none⟩ = some (.int .i64 0) := cell_of_row _ _ 0 _ _ _ rQ30_.out
  have Q_1_ : ((w3.alloc (.cells #[.int .i64 1, .int .i64 id, .int .i64 0, .int .i64 i0, .int .i64 0, .int .i64 0, .int .i64 0, .slice e1 e2 e3] 29))).cell? ⟨W.heap.size + 1 + 1, 1, none⟩ = some (.int .i64 0) := cell_of_row _ _ 1 _ _ _ rQ30_.out
  have Q_2_ : ((w3.alloc (.cells #[.int .i64 1, .int .i64 id, .int .i64 0, .int .i64 i0, .int .i64 0, .int .i64 0, .int .i64 0, .slice e1 e2 e3] 29))).cell? ⟨W.heap.size + 1 + 1, 2, none⟩ = some (.int .i64 0) := cell_of_row _ _ 2 _ _ _ rQ30_.out
  have Q_3_ : ((w3.alloc (.cells #[.int .i64 1, .int .i64 id, .int .i64 0, .int .i64 i0, .int .i64 0, .int .i64 0, .int .i64 0, .slice e1 e2 e3] 29))).cell? ⟨W.heap.size + 1 + 1, 3, none⟩ = some (.int .i64 0) := cell_of_row _ _ 3 _ _ _ rQ30_.out
  have Q_4_ : ((w3.alloc (.cells #[.int .i64 1, .int .i64 id, .int .i64 0, .int .i64 i0, .int .i64 0, .int .i64 0, .int .i64 0, .slice e1 e2 e3] 29))).cell? ⟨W.heap.size + 1 + 1, 4, none⟩ = some (.int .i64 0) := cell_of_row _ _ 4 _ _ _ rQ30_.out
  have Q_5_ : ((w3.alloc (.cells #[.int .i64 1, .int .i64 id, .int .i64 0, .int .i64 i0, .int .i64 0, .int .i64 0, .int .i64 0, .slice e1 e2 e3] 29))).cell? ⟨W.heap.size + 1 + 1, 5, none⟩ = some (.int .i64 0) := cell_of_row _ _ 5 _ _ _ rQ30_.out
  have Q_6_ : ((w3.alloc (.cells #[.int .i64 1, .int .i64 id, .int .i64 0, .int .i64 i0, .int .i64 0, .int .i64 0, .int .i64 0, .slice e1 e2 e3] 29))).cell? ⟨W.heap.size + 1 + 1, 6, none⟩ = some (.int .i64 0) := cell_of_row _ _ 6 _ _ _ rQ30_.out
  have Q_7_ : ((w3.alloc (.cells #[.int .i64 1, .int .i64 id, .int .i64 0, .int .i64 i0, .int .i64 0, .int .i64 0, .int .i64 0, .slice e1 e2 e3] 29))).cell? ⟨W.heap.size + 1 + 1, 7, none⟩ = some (.slice none 0 0) := cell_of_row _ _ 7 _ _ _ rQ30_.out
  have X_0_ : ((w3.alloc (.cells #[.int .i64 1, .int .i64 id, .int .i64 0, .int .i64 i0, .int .i64 0, .int .i64 0, .int .i64 0, .slice e1 e2 e3] 29))).cell? ⟨w1.heap.size, 0, none⟩ = some (.int .i32 0) := cell_of_row _ _ 0 _ _ _ rX31_.out
  have X_1_ : ((w3.alloc (.cells #[.int .i64 1, .int .i64 id, .int .i64 0, .int .i64 i0, .int .i64 0, .int .i64 0, .int .i64 0, .slice e1 e2 e3] 29))).cell? ⟨w1.heap.size, 1, none⟩ = some (.int .u32 0) := cell_of_row _ _ 1 _ _ _ rX31_.out
  have X_2_ : ((w3.alloc (.cells #[.int .i64 1, .int .i64 id, .int .i64 0, .int .i64 i0, .int .i64 0, .int .i64 0, .int .i64 0, .slice e1 e2 e3] 29))).cell? ⟨w1.heap.size, 2, none⟩ = some (.int .i64 i0) := cell_of_row _ _ 2 _ _ _ rX31_.out
  have X_3_ : ((w3.alloc (.cells #[.int .i64 1, .int .i64 id, .int .i64 0, .int .i64 i0, .int .i64 0, .int .i64 0, .int .i64 0, .slice e1 e2 e3] 29))).cell? ⟨w1.heap.size, 3, none⟩ = some (.slice d1 m1 k1) := cell_of_row _ _ 3 _ _ _ rX31_.out
  have X_4_ : ((w3.alloc (.cells #[.int .i64 1, .int .i64 id, .int .i64 0, .int .i64 i0, .int .i64 0, .int .i64 0, .int .i64 0, .slice e1 e2 e3] 29))).cell? ⟨w1.heap.size, 4, none⟩ = some (.slice d2 m2 k2) := cell_of_row _ _ 4 _ _ _ rX31_.out
  have K_0_ : ((w3.alloc (.cells #[.int .i64 1, .int .i64 id, .int .i64 0, .int .i64 i0, .int .i64 0, .int .i64 0, .int .i64 0, .slice e1 e2 e3] 29))).cell? ⟨w3.heap.size, 0, none⟩ = some (.int .i64 1) := cell_of_row _ _ 0 _ _ _ rK34_.out
  have K_1_ : ((w3.alloc (.cells #[.int .i64 1, .int .i64 id, .int .i64 0, .int .i64 i0, .int .i64 0, .int .i64 0, .int .i64 0, .slice e1 e2 e3] 29))).cell? ⟨w3.heap.size, 1, none⟩ = some (.int .i64 id) := cell_of_row _ _ 1 _ _ _ rK34_.out
  have K_2_ : ((w3.alloc (.cells #[.int .i64 1, .int .i64 id, .int .i64 0, .int .i64 i0, .int .i64 0, .int .i64 0, .int .i64 0, .slice e1 e2 e3] 29))).cell? ⟨w3.heap.size, 2, none⟩ = some (.int .i64 0) := cell_of_row _ _ 2 _ _ _ rK34_.out
  have K_3_ : ((w3.alloc (.cells #[.int .i64 1, .int .i64 id, .int .i64 0, .int .i64 i0, .int .i64 0, .int .i64 0, .int .i64 0, .slice e1 e2 e3] 29))).cell? ⟨w3.heap.size, 3, none⟩ = some (.int .i64 i0) := cell_of_row _ _ 3 _ _ _ rK34_.out
  have K_4_ : ((w3.alloc (.cells #[.int .i64 1, .int .i64 id, .int .i64 0, .int .i64 i0, .int .i64 0, .int .i64 0, .int .i64 0, .slice e1 e2 e3] 29))).cell? ⟨w3.heap.size, 4, none⟩ = some (.int .i64 0) := cell_of_row _ _ 4 _ _ _ rK34_.out
  have K_5_ : ((w3.alloc (.cells #[.int .i64 1, .int .i64 id, .int .i64 0, .int .i64 i0, .int .i64 0, .int .i64 0, .int .i64 0, .slice e1 e2 e3] 29))).cell? ⟨w3.heap.size, 5, none⟩ = some (.int .i64 0) := cell_of_row _ _ 5 _ _ _ rK34_.out
  have K_6_ : ((w3.alloc (.cells #[.int .i64 1, .int .i64 id, .int .i64 0, .int .i64 i0, .int .i64 0, .int .i64 0, .int .i64 0, .slice e1 e2 e3] 29))).cell? ⟨w3.heap.size, 6, none⟩ = some (.int .i64 0) := cell_of_row _ _ 6 _ _ _ rK34_.out
  have K_7_ : ((w3.alloc (.cells #[.int .i64 1, .int .i64 id, .int .i64 0, .int .i64 i0, .int .i64 0, .int .i64 0, .int .i64 0, .slice e1 e2 e3] 29))).cell? ⟨w3.heap.size, 7, none⟩ = some (.slice e1 e2 e3) := cell_of_row _ _ 7 _ _ _ rK34_.out
  have nb0_ : ¬ w1.heap.size = W.heap.size + 1 := by omega
  have nb1_ : ¬ W.heap.size + 1 = w1.heap.size := by omega
  have nb2_ : ¬ w1.heap.size = W.heap.size + 1 + 1 := by omega
  have nb3_ : ¬ W.heap.size + 1 + 1 = w1.heap.size := by omega
  have nb4_ : ¬ w3.heap.size = W.heap.size + 1 := by omega
  have nb5_ : ¬ W.heap.size + 1 = w3.heap.size := by omega
  have nb6_ : ¬ w3.heap.size = W.heap.size + 1 + 1 := by omega
  have nb7_ : ¬ W.heap.size + 1 + 1 = w3.heap.size := by omega
  clear A_0_ A_1_ A_2_ R_0_ R_1_ R_2_ Q_0_ Q_1_ Q_2_ Q_3_ Q_4_ Q_5_ Q_6_ Q_7_ X_0_ X_1_ X_2_ X_3_ X_4_ K_0_ K_1_ K_2_ K_3_ K_4_ K_5_ K_6_ K_7_
  have A_0_ : ((w3.alloc (.cells #[.int .i64 1, .int .i64 id, .int .i64 0, .int .i64 i0, .int .i64 0, .int .i64 0, .int .i64 0, .slice e1 e2 e3] 29))).cell? ⟨W.heap.size, 0, none⟩ = some (.int .i64 i0) := cell_of_row _ _ 0 _ _ _ rA28_.out
  have A_1_ : ((w3.alloc (.cells #[.int .i64 1, .int .i64 id, .int .i64 0, .int .i64 i0, .int .i64 0, .int .i64 0, .int .i64 0, .slice e1 e2 e3] 29))).cell? ⟨W.heap.size, 1, none⟩ = some (.slice a1 n1 c1) := cell_of_row _ _ 1 _ _ _ rA28_.out
  have A_2_ : ((w3.alloc (.cells #[.int .i64 1, .int .i64 id, .int .i64 0, .int .i64 i0, .int .i64 0, .int .i64 0, .int .i64 0, .slice e1 e2 e3] 29))).cell? ⟨W.heap.size, 2, none⟩ = some (.slice a2 n2 c2) := cell_of_row _ _ 2 _ _ _ rA28_.out
  have R_0_ : ((w3.alloc (.cells #[.int .i64 1, .int .i64 id, .int .i64 0, .int .i64 i0, .int .i64 0, .int .i64 0, .int .i64 0, .slice e1 e2 e3] 29))).cell? ⟨W.heap.size + 1, 0, none⟩ = some (.int .i64 0) := cell_of_row _ _ 0 _ _ _ rR29_.out
  have R_1_ : ((w3.alloc (.cells #[.int .i64 1, .int .i64 id, .int .i64 0, .int .i64 i0, .int .i64 0, .int .i64 0, .int .i64 0, .slice e1 e2 e3] 29))).cell? ⟨W.heap.size + 1, 1, none⟩ = some (.slice none 0 0) := cell_of_row _ _ 1 _ _ _ rR29_.out
  have R_2_ : ((w3.alloc (.cells #[.int .i64 1, .int .i64 id, .int .i64 0, .int .i64 i0, .int .i64 0, .int .i64 0, .int .i64 0, .slice e1 e2 e3] 29))).cell? ⟨W.heap.size + 1, 2, none⟩ = some (.slice none 0 0) := cell_of_row _ _ 2 _ _ _ rR29_.out
  have Rf0_ : ((w3.alloc (.cells #[.int .i64 1, .int .i64 id, .int .i64 0, .int .i64 i0, .int .i64 0, .int .i64 0, .int .i64 0, .slice e1 e2 e3] 29))).frozen? ⟨W.heap.size + 1, 0, none⟩ = false := frozen_of_row _ _ 0 _ _ rR29_.out
  have Rf1_ : ((w3.alloc (.cells #[.int .i64 1, .int .i64 id, .int .i64 0, .int .i64 i0, .int .i64 0, .int .i64 0, .int .i64 0, .slice e1 e2 e3] 29))).frozen? ⟨W.heap.size + 1, 1, none⟩ = false := frozen_of_row _ _ 1 _ _ rR29_.out
  have Rf2_ : ((w3.alloc (.cells #[.int .i64 1, .int .i64 id, .int .i64 0, .int .i64 i0, .int .i64 0, .int .i64 0, .int .i64 0, .slice e1 e2 e3] 29))).frozen? ⟨W.heap.size + 1, 2, none⟩ = false := frozen_of_row _ _ 2 _ _ rR29_.out
  have Q_0_ : ((w3.alloc (.cells #[.int .i64 1, .int .i64 id, .int .i64 0, .int .i64 i0, .int .i64 0, .int .i64 0, .int .i64 0, .slice e1 e2 e3] 29))).cell? ⟨W.heap.size + 1 + 1, 0, none⟩ = some (.int .i64 0) := cell_of_row _ _ 0 _ _ _ rQ30_.out
  have Q_1_ : ((w3.alloc (.cells #[.int .i64 1, .int .i64 id, .int .i64 0, .int .i64 i0, .int .i64 0, .int .i64 0, .int .i64 0, .slice e1 e2 e3] 29))).cell? ⟨W.heap.size + 1 + 1, 1, none⟩ = some (.int .i64 0) := cell_of_row _ _ 1 _ _ _ rQ30_.out
  have Q_2_ : ((w3.alloc (.cells #[.int .i64 1, .int .i64 id, .int .i64 0, .int .i64 i0, .int .i64 0, .int .i64 0, .int .i64 0, .slice e1 e2 e3] 29))).cell? ⟨W.heap.size + 1 + 1, 2, none⟩ = some (.int .i64 0) := cell_of_row _ _ 2 _ _ _ rQ30_.out
  have Q_3_ : ((w3.alloc (.cells #[.int .i64 1, .int .i64 id, .int .i64 0, .int .i64 i0, .int .i64 0, .int .i64 0, .int .i64 0, .slice e1 e2 e3] 29))).cell? ⟨W.heap.size + 1 + 1, 3, none⟩ = some (.int .i64 0) := cell_of_row _ _ 3 _ _ _ rQ30_.out
  have Q_4_ : ((w3.alloc (.cells #[.int .i64 1, .int .i64 id, .int .i64 0, .int .i64 i0, .int .i64 0, .int .i64 0, .int .i64 0, .slice e1 e2 e3] 29))).cell? ⟨W.heap.size + 1 + 1, 4, none⟩ = some (.int .i64 0) := cell_of_row _ _ 4 _ _ _ rQ30_.out
  have Q_5_ : ((w3.alloc (.cells #[.int .i64 1, .int .i64 id, .int .i64 0, .int .i64 i0, .int .i64 0, .int .i64 0, .int .i64 0, .slice e1 e2 e3] 29))).cell? ⟨W.heap.size + 1 + 1, 5, none⟩ = some (.int .i64 0) := cell_of_row _ _ 5 _ _ _ rQ30_.out
  have Q_6_ : ((w3.alloc (.cells #[.int .i64 1, .int .i64 id, .int .i64 0, .int .i64 i0, .int .i64 0, .int .i64 0, .int .i64 0, .slice e1 e2 e3] 29))).cell? ⟨W.heap.size + 1 + 1, 6, none⟩ = some (.int .i64 0) := cell_of_row _ _ 6 _ _ _ rQ30_.out
  have Q_7_ : ((w3.alloc (.cells #[.int .i64 1, .int .i64 id, .int .i64 0, .int .i64 i0, .int .i64 0, .int .i64 0, .int .i64 0, .slice e1 e2 e3] 29))).cell? ⟨W.heap.size + 1 + 1, 7, none⟩ = some (.slice none 0 0) := cell_of_row _ _ 7 _ _ _ rQ30_.out
  have Qf0_ : ((w3.alloc (.cells #[.int .i64 1, .int .i64 id, .int .i64 0, .int .i64 i0, .int .i64 0, .int .i64 0, .int .i64 0, .slice e1 e2 e3] 29))).frozen? ⟨W.heap.size + 1 + 1, 0, none⟩ = false := frozen_of_row _ _ 0 _ _ rQ30_.out
  have Qf1_ : ((w3.alloc (.cells #[.int .i64 1, .int .i64 id, .int .i64 0, .int .i64 i0, .int .i64 0, .int .i64 0, .int .i64 0, .slice e1 e2 e3] 29))).frozen? ⟨W.heap.size + 1 + 1, 1, none⟩ = false := frozen_of_row _ _ 1 _ _ rQ30_.out
  have Qf2_ : ((w3.alloc (.cells #[.int .i64 1, .int .i64 id, .int .i64 0, .int .i64 i0, .int .i64 0, .int .i64 0, .int .i64 0, .slice e1 e2 e3] 29))).frozen? ⟨W.heap.size + 1 + 1, 2, none⟩ = false := frozen_of_row _ _ 2 _ _ rQ30_.out
  have Qf3_ : ((w3.alloc (.cells #[.int .i64 1, .int .i64 id, .int .i64 0, .int .i64 i0, .int .i64 0, .int .i64 0, .int .i64 0, .slice e1 e2 e3] 29))).frozen? ⟨W.heap.size + 1 + 1, 3, none⟩ = false := frozen_of_row _ _ 3 _ _ rQ30_.out
  have Qf4_ : ((w3.alloc (.cells #[.int .i64 1, .int .i64 id, .int .i64 0, .int .i64 i0, .int .i64 0, .int .i64 0, .int .i64 0, .slice e1 e2 e3] 29))).frozen? ⟨W.heap.size + 1 + 1, 4, none⟩ = false := frozen_of_row _ _ 4 _ _ rQ30_.out
  have Qf5_ : ((w3.alloc (.cells #[.int .i64 1, .int .i64 id, .int .i64 0, .int .i64 i0, .int .i64 0, .int .i64 0, .int .i64 0, .slice e1 e2 e3] 29))).frozen? ⟨W.heap.size + 1 + 1, 5, none⟩ = false := frozen_of_row _ _ 5 _ _ rQ30_.out
  have Qf6_ : ((w3.alloc (.cells #[.int .i64 1, .int .i64 id, .int .i64 0, .int .i64 i0, .int .i64 0, .int .i64 0, .int .i64 0, .slice e1 e2 e3] 29))).frozen? ⟨W.heap.size + 1 + 1, 6, none⟩ = false := frozen_of_row _ _ 6 _ _ rQ30_.out
  have Qf7_ : ((w3.alloc (.cells #[.int .i64 1, .int .i64 id, .int .i64 0, .int .i64 i0, .int .i64 0, .int .i64 0, .int .i64 0, .slice e1 e2 e3] 29))).frozen? ⟨W.heap.size + 1 + 1, 7, none⟩ = false := frozen_of_row _ _ 7 _ _ rQ30_.out
  have X_0_ : ((w3.alloc (.cells #[.int .i64 1, .int .i64 id, .int .i64 0, .int .i64 i0, .int .i64 0, .int .i64 0, .int .i64 0, .slice e1 e2 e3] 29))).cell? ⟨w1.heap.size, 0, none⟩ = some (.int .i32 0) := cell_of_row _ _ 0 _ _ _ rX31_.out
  have X_1_ : ((w3.alloc (.cells #[.int .i64 1, .int .i64 id, .int .i64 0, .int .i64 i0, .int .i64 0, .int .i64 0, .int .i64 0, .slice e1 e2 e3] 29))).cell? ⟨w1.heap.size, 1, none⟩ = some (.int .u32 0) := cell_of_row _ _ 1 _ _ _ rX31_.out
  have X_2_ : ((w3.alloc (.cells #[.int .i64 1, .int .i64 id, .int .i64 0, .int .i64 i0, .int .i64 0, .int .i64 0, .int .i64 0, .slice e1 e2 e3] 29))).cell? ⟨w1.heap.size, 2, none⟩ = some (.int .i64 i0) := cell_of_row _ _ 2 _ _ _ rX31_.out
  have X_3_ : ((w3.alloc (.cells #[.int .i64 1, .int .i64 id, .int .i64 0, .int .i64 i0, .int .i64 0, .int .i64 0, .int .i64 0, .slice e1 e2 e3] 29))).cell? ⟨w1.heap.size, 3, none⟩ = some (.slice d1 m1 k1) := cell_of_row _ _ 3 _ _ _ rX31_.out
  have X_4_ : ((w3.alloc (.cells #[.int .i64 1, .int .i64 id, .int .i64 0, .int .i64 i0, .int .i64 0, .int .i64 0, .int .i64 0, .slice e1 e2 e3] 29))).cell? ⟨w1.heap.size, 4, none⟩ = some (.slice d2 m2 k2) := cell_of_row _ _ 4 _ _ _ rX31_.out
  have K_0_ : ((w3.alloc (.cells #[.int .i64 1, .int .i64 id, .int .i64 0, .int .i64 i0, .int .i64 0, .int .i64 0, .int .i64 0, .slice e1 e2 e3] 29))).cell? ⟨w3.heap.size, 0, none⟩ = some (.int .i64 1) := cell_of_row _ _ 0 _ _ _ rK34_.out
  have K_1_ : ((w3.alloc (.cells #[.int .i64 1, .int .i64 id, .int .i64 0, .int .i64 i0, .int .i64 0, .int .i64 0, .int .i64 0, .slice e1 e2 e3] 29))).cell? ⟨w3.heap.size, 1, none⟩ = some (.int .i64 id) := cell_of_row _ _ 1 _ _ _ rK34_.out
  have K_2_ : ((w3.alloc (.cells #[.int .i64 1, .int .i64 id, .int .i64 0, .int .i64 i0, .int .i64 0, .int .i64 0, .int .i64 0, .slice e1 e2 e3] 29))).cell? ⟨w3.heap.size, 2, none⟩ = some (.int .i64 0) := cell_of_row _ _ 2 _ _ _ rK34_.out
  have K_3_ : ((w3.alloc (.cells #[.int .i64 1, .int .i64 id, .int .i64 0, .int .i64 i0, .int .i64 0, .int .i64 0, .int .i64 0, .slice e1 e2 e3] 29))).cell? ⟨w3.heap.size, 3, none⟩ = some (.int .i64 i0) := cell_of_row _ _ 3 _ _ _ rK34_.out
  have K_4_ : ((w3.alloc (.cells #[.int .i64 1, .int .i64 id, .int .i64 0, .int .i64 i0, .int .i64 0, .int .i64 0, .int .i64 0, .slice e1 e2 e3] 29))).cell? ⟨w3.heap.size, 4, none⟩ = some (.int .i64 0) := cell_of_row _ _ 4 _ _ _ rK34_.out
  have K_5_ : ((w3.alloc (.cells #[.int .i64 1, .int .i64 id, .int .i64 0, .int .i64 i0, .int .i64 0, .int .i64 0, .int .i64 0, .slice e1 e2 e3] 29))).cell? ⟨w3.heap.size, 5, none⟩ = some (.int .i64 0) := cell_of_row _ _ 5 _ _ _ rK34_.out
  have K_6_ : ((w3.alloc (.cells #[.int .i64 1, .int .i64 id, .int .i64 0, .int .i64 i0, .int .i64 0, .int .i64 0, .int .i64 0, .slice e1 e2 e3] 29))).cell? ⟨w3.heap.size, 6, none⟩ = some (.int .i64 0) := cell_of_row _ _ 6 _ _ _ rK34_.out
  have K_7_ : ((w3.alloc (.cells #[.int .i64 1, .int .i64 id, .int .i64 0, .int .i64 i0, .int .i64 0, .int .i64 0, .int .i64 0, .slice e1 e2 e3] 29))).cell? ⟨w3.heap.size, 7, none⟩ = some (.slice e1 e2 e3) := cell_of_row _ _ 7 _ _ _ rK34_.out
  have yr_ := Lib.hid (show (((((((((((((w3.alloc (.cells #[.int .i64 1, .int .i64 id, .int .i64 0, .int .i64 i0, .int .i64 0, .int .i64 0, .int .i64 0, .slice e1 e2 e3] 29)).setCell ⟨W.heap.size + 1, 0, none⟩ (.int .i64 i0)).setCell ⟨W.heap.size + 1, 1, none⟩ (.slice d1 m1 k1)).setCell ⟨W.heap.size + 1, 2, none⟩ (.slice d2 m2 k2)).setCell ⟨W.heap.size + 1 + 1, 0, none⟩ (.int .i64 1)).setCell ⟨W.heap.size + 1 + 1, 1, none⟩ (.int .i64 id)).setCell ⟨W.heap.size + 1 + 1, 2, none⟩ (.int .i64 0)).setCell ⟨W.heap.size + 1 + 1, 3, none⟩ (.int .i64 i0)).setCell ⟨W.heap.size + 1 + 1, 4, none⟩ (.int .i64 0)).setCell ⟨W.heap.size + 1 + 1, 5, none⟩ (.int .i64 0)).setCell ⟨W.heap.size + 1 + 1, 6, none⟩ (.int .i64 0)).setCell ⟨W.heap.size + 1 + 1, 7, none⟩ (.slice e1 e2 e3))).heap[W.heap.size + 1]? = some (.cells #[.int .i64 i0, .slice d1 m1 k1, .slice d2 m2 k2] 26 (0, 0)) from (set_far (set_far (set_far (set_far (set_far (set_far (set_far (set_far (heap_setCell_same _ _ 2 _ _ _ (heap_setCell_same _ _ 1 _ _ _ (heap_setCell_same _ _ 0 _ _ _ rR29_.out))) (by dsimp only; omega)) (by dsimp only; omega)) (by dsimp only; omega)) (by dsimp only; omega)) (by dsimp only; omega)) (by dsimp only; omega)) (by dsimp only; omega)) (by dsimp only; omega)))
  have yq_ := Lib.hid (show (((((((((((((w3.alloc (.cells #[.int .i64 1, .int .i64 id, .int .i64 0, .int .i64 i0, .int .i64 0, .int .i64 0, .int .i64 0, .slice e1 e2 e3] 29)).setCell ⟨W.heap.size + 1, 0, none⟩ (.int .i64 i0)).setCell ⟨W.heap.size + 1, 1, none⟩ (.slice d1 m1 k1)).setCell ⟨W.heap.size + 1, 2, none⟩ (.slice d2 m2 k2)).setCell ⟨W.heap.size + 1 + 1, 0, none⟩ (.int .i64 1)).setCell ⟨W.heap.size + 1 + 1, 1, none⟩ (.int .i64 id)).setCell ⟨W.heap.size + 1 + 1, 2, none⟩ (.int .i64 0)).setCell ⟨W.heap.size + 1 + 1, 3, none⟩ (.int .i64 i0)).setCell ⟨W.heap.size + 1 + 1, 4, none⟩ (.int .i64 0)).setCell ⟨W.heap.size + 1 + 1, 5, none⟩ (.int .i64 0)).setCell ⟨W.heap.size + 1 + 1, 6, none⟩ (.int .i64 0)).setCell ⟨W.heap.size + 1 + 1, 7, none⟩ (.slice e1 e2 e3))).heap[W.heap.size + 1 + 1]? = some (.cells #[.int .i64 1, .int .i64 id, .int .i64 0, .int .i64 i0, .int .i64 0, .int .i64 0, .int .i64 0, .slice e1 e2 e3] 29 (0, 0)) from (heap_setCell_same _ _ 7 _ _ _ (heap_setCell_same _ _ 6 _ _ _ (heap_setCell_same _ _ 5 _ _ _ (heap_setCell_same _ _ 4 _ _ _ (heap_setCell_same _ _ 3 _ _ _ (heap_setCell_same _ _ 2 _ _ _ (heap_setCell_same _ _ 1 _ _ _ (heap_setCell_same _ _ 0 _ _ _ (set_far (set_far (set_far rQ30_.out (by dsimp only; omega)) (by dsimp only; omega)) (by dsimp only; omega)))))))))))
  have z0_ : (((((((((((((w3.alloc (.cells #[.int .i64 1, .int .i64 id, .int .i64 0, .int .i64 i0, .int .i64 0, .int .i64 0, .int .i64 0, .slice e1 e2 e3] 29)).setCell ⟨W.heap.size + 1, 0, none⟩ (.int .i64 i0)).setCell ⟨W.heap.size + 1, 1, none⟩ (.slice d1 m1 k1)).setCell ⟨W.heap.size + 1, 2, none⟩ (.slice d2 m2 k2)).setCell ⟨W.heap.size + 1 + 1, 0, none⟩ (.int .i64 1)).setCell ⟨W.heap.size + 1 + 1, 1, none⟩ (.int .i64 id)).setCell ⟨W.heap.size + 1 + 1, 2, none⟩ (.int .i64 0)).setCell ⟨W.heap.size + 1 + 1, 3, none⟩ (.int .i64 i0)).setCell ⟨W.heap.size + 1 + 1, 4, none⟩ (.int .i64 0)).setCell ⟨W.heap.size + 1 + 1, 5, none⟩ (.int .i64 0)).setCell ⟨W.heap.size + 1 + 1, 6, none⟩ (.int .i64 0)).setCell ⟨W.heap.size + 1 + 1, 7, none⟩ (.slice e1 e2 e3))).cell? ⟨W.heap.size + 1, 0, none⟩ = some (.int .i64 i0) := cell_of_row _ _ 0 _ _ _ yr_.out
  have z1_ : (((((((((((((w3.alloc (.cells #[.int .i64 1, .int .i64 id, .int .i64 0, .int .i64 i0, .int .i64 0, .int .i64 0, .int .i64 0, .slice e1 e2 e3] 29)).setCell ⟨W.heap.size + 1, 0, none⟩ (.int .i64 i0)).setCell ⟨W.heap.size + 1, 1, none⟩ (.slice d1 m1 k1)).setCell ⟨W.heap.size + 1, 2, none⟩ (.slice d2 m2 k2)).setCell ⟨W.heap.size + 1 + 1, 0, none⟩ (.int .i64 1)).setCell ⟨W.heap.size + 1 + 1, 1, none⟩ (.int .i64 id)).setCell ⟨W.heap.size + 1 + 1, 2, none⟩ (.int .i64 0)).setCell ⟨W.heap.size + 1 + 1, 3, none⟩ (.int .i64 i0)).setCell ⟨W.heap.size + 1 + 1, 4, none⟩ (.int .i64 0)).setCell ⟨W.heap.size + 1 + 1, 5, none⟩ (.int .i64 0)).setCell ⟨W.heap.size + 1 + 1, 6, none⟩ (.int .i64 0)).setCell ⟨W.heap.size + 1 + 1, 7, none⟩ (.slice e1 e2 e3))).cell? ⟨W.heap.size + 1, 1, none⟩ = some (.slice d1 m1 k1) := cell_of_row _ _ 1 _ _ _ yr_.out
  have z2_ : (((((((((((((w3.alloc (.cells #[.int .i64 1, .int .i64 id, .int .i64 0, .int .i64 i0, .int .i64 0, .int .i64 0, .int .i64 0, .slice e1 e2 e3] 29)).setCell ⟨W.heap.size + 1, 0, none⟩ (.int .i64 i0)).setCell ⟨W.heap.size + 1, 1, none⟩ (.slice d1 m1 k1)).setCell ⟨W.heap.size + 1, 2, none⟩ (.slice d2 m2 k2)).setCell ⟨W.heap.size + 1 + 1, 0, none⟩ (.int .i64 1)).setCell ⟨W.heap.size + 1 + 1, 1, none⟩ (.int .i64 id)).setCell ⟨W.heap.size + 1 + 1, 2, none⟩ (.int .i64 0)).setCell ⟨W.heap.size + 1 + 1, 3, none⟩ (.int .i64 i0)).setCell ⟨W.heap.size + 1 + 1, 4, none⟩ (.int .i64 0)).setCell ⟨W.heap.size + 1 + 1, 5, none⟩ (.int .i64 0)).setCell ⟨W.heap.size + 1 + 1, 6, none⟩ (.int .i64 0)).setCell ⟨W.heap.size + 1 + 1, 7, none⟩ (.slice e1 e2 e3))).cell? ⟨W.heap.size + 1, 2, none⟩ = some (.slice d2 m2 k2) := cell_of_row _ _ 2 _ _ _ yr_.out
  have y0_ : (((((((((((((w3.alloc (.cells #[.int .i64 1, .int .i64 id, .int .i64 0, .int .i64 i0, .int .i64 0, .int .i64 0, .int .i64 0, .slice e1 e2 e3] 29)).setCell ⟨W.heap.size + 1, 0, none⟩ (.int .i64 i0)).setCell ⟨W.heap.size + 1, 1, none⟩ (.slice d1 m1 k1)).setCell ⟨W.heap.size + 1, 2, none⟩ (.slice d2 m2 k2)).setCell ⟨W.heap.size + 1 + 1, 0, none⟩ (.int .i64 1)).setCell ⟨W.heap.size + 1 + 1, 1, none⟩ (.int .i64 id)).setCell ⟨W.heap.size + 1 + 1, 2, none⟩ (.int .i64 0)).setCell ⟨W.heap.size + 1 + 1, 3, none⟩ (.int .i64 i0)).setCell ⟨W.heap.size + 1 + 1, 4, none⟩ (.int .i64 0)).setCell ⟨W.heap.size + 1 + 1, 5, none⟩ (.int .i64 0)).setCell ⟨W.heap.size + 1 + 1, 6, none⟩ (.int .i64 0)).setCell ⟨W.heap.size + 1 + 1, 7, none⟩ (.slice e1 e2 e3))).cell? ⟨W.heap.size + 1 + 1, 0, none⟩ = some (.int .i64 1) := cell_of_row _ _ 0 _ _ _ yq_.out
  have y1_ : (((((((((((((w3.alloc (.cells #[.int .i64 1, .int .i64 id, .int .i64 0, .int .i64 i0, .int .i64 0, .int .i64 0, .int .i64 0, .slice e1 e2 e3] 29)).setCell ⟨W.heap.size + 1, 0, none⟩ (.int .i64 i0)).setCell ⟨W.heap.size + 1, 1, none⟩ (.slice d1 m1 k1)).setCell ⟨W.heap.size + 1, 2, none⟩ (.slice d2 m2 k2)).setCell ⟨W.heap.size + 1 + 1, 0, none⟩ (.int .i64 1)).setCell ⟨W.heap.size + 1 + 1, 1, none⟩ (.int .i64 id)).setCell ⟨W.heap.size + 1 + 1, 2, none⟩ (.int .i64 0)).setCell ⟨W.heap.size + 1 + 1, 3, none⟩ (.int .i64 i0)).setCell ⟨W.heap.size + 1 + 1, 4, none⟩ (.int .i64 0)).setCell ⟨W.heap.size + 1 + 1, 5, none⟩ (.int .i64 0)).setCell ⟨W.heap.size + 1 + 1, 6, none⟩ (.int .i64 0)).setCell ⟨W.heap.size + 1 + 1, 7, none⟩ (.slice e1 e2 e3))).cell? ⟨W.heap.size + 1 + 1, 1, none⟩ = some (.int .i64 id) := cell_of_row _ _ 1 _ _ _ yq_.out
  have y2_ : (((((((((((((w3.alloc (.cells #[.int .i64 1, .int .i64 id, .int .i64 0, .int .i64 i0, .int .i64 0, .int .i64 0, .int .i64 0, .slice e1 e2 e3] 29)).setCell ⟨W.heap.size + 1, 0, none⟩ (.int .i64 i0)).setCell ⟨W.heap.size + 1, 1, none⟩ (.slice d1 m1 k1)).setCell ⟨W.heap.size + 1, 2, none⟩ (.slice d2 m2 k2)).setCell ⟨W.heap.size + 1 + 1, 0, none⟩ (.int .i64 1)).setCell ⟨W.heap.size + 1 + 1, 1, none⟩ (.int .i64 id)).setCell ⟨W.heap.size + 1 + 1, 2, none⟩ (.int .i64 0)).setCell ⟨W.heap.size + 1 + 1, 3, none⟩ (.int .i64 i0)).setCell ⟨W.heap.size + 1 + 1, 4, none⟩ (.int .i64 0)).setCell ⟨W.heap.size + 1 + 1, 5, none⟩ (.int .i64 0)).setCell ⟨W.heap.size + 1 + 1, 6, none⟩ (.int .i64 0)).setCell ⟨W.heap.size + 1 + 1, 7, none⟩ (.slice e1 e2 e3))).cell? ⟨W.heap.size + 1 + 1, 2, none⟩ = some (.int .i64 0) := cell_of_row _ _ 2 _ _ _ yq_.out
  have y3_ : (((((((((((((w3.alloc (.cells #[.int .i64 1, .int .i64 id, .int .i64 0, .int .i64 i0, .int .i64 0, .int .i64 0, .int .i64 0, .slice e1 e2 e3] 29)).setCell ⟨W.heap.size + 1, 0, none⟩ (.int .i64 i0)).setCell ⟨W.heap.size + 1, 1, none⟩ (.slice d1 m1 k1)).setCell ⟨W.heap.size + 1, 2, none⟩ (.slice d2 m2 k2)).setCell ⟨W.heap.size + 1 + 1, 0, none⟩ (.int .i64 1)).setCell ⟨W.heap.size + 1 + 1, 1, none⟩ (.int .i64 id)).setCell ⟨W.heap.size + 1 + 1, 2, none⟩ (.int .i64 0)).setCell ⟨W.heap.size + 1 + 1, 3, none⟩ (.int .i64 i0)).setCell ⟨W.heap.size + 1 + 1, 4, none⟩ (.int .i64 0)).setCell ⟨W.heap.size + 1 + 1, 5, none⟩ (.int .i64 0)).setCell ⟨W.heap.size + 1 + 1, 6, none⟩ (.int .i64 0)).setCell ⟨W.heap.size + 1 + 1, 7, none⟩ (.slice e1 e2 e3))).cell? ⟨W.heap.size + 1 + 1, 3, none⟩ = some (.int .i64 i0) := cell_of_row _ _ 3 _ _ _ yq_.out
  have y4_ : (((((((((((((w3.alloc (.cells #[.int .i64 1, .int .i64 id, .int .i64 0, .int .i64 i0, .int .i64 0, .int .i64 0, .int .i64 0, .slice e1 e2 e3] 29)).setCell ⟨W.heap.size + 1, 0, none⟩ (.int .i64 i0)).setCell ⟨W.heap.size + 1, 1, none⟩ (.slice d1 m1 k1)).setCell ⟨W.heap.size + 1, 2, none⟩ (.slice d2 m2 k2)).setCell ⟨W.heap.size + 1 + 1, 0, none⟩ (.int .i64 1)).setCell ⟨W.heap.size + 1 + 1, 1, none⟩ (.int .i64 id)).setCell ⟨W.heap.size + 1 + 1, 2, none⟩ (.int .i64 0)).setCell ⟨W.heap.size + 1 + 1, 3, none⟩ (.int .i64 i0)).setCell ⟨W.heap.size + 1 + 1, 4, none⟩ (.int .i64 0)).setCell ⟨W.heap.size + 1 + 1, 5, none⟩ (.int .i64 0)).setCell ⟨W.heap.size + 1 + 1, 6, none⟩ (.int .i64 0)).setCell ⟨W.heap.size + 1 + 1, 7, none⟩ (.slice e1 e2 e3))).cell? ⟨W.heap.size + 1 + 1, 4, none⟩ = some (.int .i64 0) := cell_of_row _ _ 4 _ _ _ yq_.out
  have y5_ : (((((((((((((w3.alloc (.cells #[.int .i64 1, .int .i64 id, .int .i64 0, .int .i64 i0, .int .i64 0, .int .i64 0, .int .i64 0, .slice e1 e2 e3] 29)).setCell ⟨W.heap.size + 1, 0, none⟩ (.int .i64 i0)).setCell ⟨W.heap.size + 1, 1, none⟩ (.slice d1 m1 k1)).setCell ⟨W.heap.size + 1, 2, none⟩ (.slice d2 m2 k2)).setCell ⟨W.heap.size + 1 + 1, 0, none⟩ (.int .i64 1)).setCell ⟨W.heap.size + 1 + 1, 1, none⟩ (.int .i64 id)).setCell ⟨W.heap.size + 1 + 1, 2, none⟩ (.int .i64 0)).setCell ⟨W.heap.size + 1 + 1, 3, none⟩ (.int .i64 i0)).setCell ⟨W.heap.size + 1 + 1, 4, none⟩ (.int .i64 0)).setCell ⟨W.heap.size + 1 + 1, 5, none⟩ (.int .i64 0)).setCell ⟨W.heap.size + 1 + 1, 6, none⟩ (.int .i64 0)).setCell ⟨W.heap.size + 1 + 1, 7, none⟩ (.slice e1 e2 e3))).cell? ⟨W.heap.size + 1 + 1, 5, none⟩ = some (.int .i64 0) := cell_of_row _ _ 5 _ _ _ yq_.out
  have y6_ : (((((((((((((w3.alloc (.cells #[.int .i64 1, .int .i64 id, .int .i64 0, .int .i64 i0, .int .i64 0, .int .i64 0, .int .i64 0, .slice e1 e2 e3] 29)).setCell ⟨W.heap.size + 1, 0, none⟩ (.int .i64 i0)).setCell ⟨W.heap.size + 1, 1, none⟩ (.slice d1 m1 k1)).setCell ⟨W.heap.size + 1, 2, none⟩ (.slice d2 m2 k2)).setCell ⟨W.heap.size + 1 + 1, 0, none⟩ (.int .i64 1)).setCell ⟨W.heap.size + 1 + 1, 1, none⟩ (.int .i64 id)).setCell ⟨W.heap.size + 1 + 1, 2, none⟩ (.int .i64 0)).setCell ⟨W.heap.size + 1 + 1, 3, none⟩ (.int .i64 i0)).setCell ⟨W.heap.size + 1 + 1, 4, none⟩ (.int .i64 0)).setCell ⟨W.heap.size + 1 + 1, 5, none⟩ (.int .i64 0)).setCell ⟨W.heap.size + 1 + 1, 6, none⟩ (.int .i64 0)).setCell ⟨W.heap.size + 1 + 1, 7, none⟩ (.slice e1 e2 e3))).cell? ⟨W.heap.size + 1 + 1, 6, none⟩ = some (.int .i64 0) := cell_of_row _ _ 6 _ _ _ yq_.out
  have y7_ : (((((((((((((w3.alloc (.cells #[.int .i64 1, .int .i64 id, .int .i64 0, .int .i64 i0, .int .i64 0, .int .i64 0, .int .i64 0, .slice e1 e2 e3] 29)).setCell ⟨W.heap.size + 1, 0, none⟩ (.int .i64 i0)).setCell ⟨W.heap.size + 1, 1, none⟩ (.slice d1 m1 k1)).setCell ⟨W.heap.size + 1, 2, none⟩ (.slice d2 m2 k2)).setCell ⟨W.heap.size + 1 + 1, 0, none⟩ (.int .i64 1)).setCell ⟨W.heap.size + 1 + 1, 1, none⟩ (.int .i64 id)).setCell ⟨W.heap.size + 1 + 1, 2, none⟩ (.int .i64 0)).setCell ⟨W.heap.size + 1 + 1, 3, none⟩ (.int .i64 i0)).setCell ⟨W.heap.size + 1 + 1, 4, none⟩ (.int .i64 0)).setCell ⟨W.heap.size + 1 + 1, 5, none⟩ (.int .i64 0)).setCell ⟨W.heap.size + 1 + 1, 6, none⟩ (.int .i64 0)).setCell ⟨W.heap.size + 1 + 1, 7, none⟩ (.slice e1 e2 e3))).cell? ⟨W.heap.size + 1 + 1, 7, none⟩ = some (.slice e1 e2 e3) := cell_of_row _ _ 7 _ _ _ yq_.out
  go_wp2_with fail
  go_region_with (fail)
  all_goals
    go_wp2
    refine bodyPost_ret (v := .tuple #[.agg #[.int .i64 i0, .slice d1 m1 k1, .slice d2 m2 k2], .agg #[.int .i64 1, .int .i64 id, .int .i64 0, .int .i64 i0, .int .i64 0, .int .i64 0, .int .i64 0, .slice e1 e2 e3], .bool true]) (by simp [results, go_sem, z0_, z1_, z2_, y0_, y1_, y2_, y3_, y4_, y5_, y6_, y7_]) rfl ⟨_, _, _, rfl, ?_, ?_⟩
    · exact OwU.wide (lo := (W.heap.size + 1 + 1 + 1)) (by omega) (by simp only [World.size_drew, World.size_setCell, World.size_alloc]; omega) (OwU.grow (OwU.keep (chg_one _ _ _ _) (by omega) (OwU.keep (chg_one _ _ _ _) (by omega) (OwU.keep (chg_one _ _ _ _) (by omega) (OwU.keep (chg_one _ _ _ _) (by omega) (OwU.keep (chg_one _ _ _ _) (by omega) (OwU.keep (chg_one _ _ _ _) (by omega) (OwU.keep (chg_one _ _ _ _) (by omega) (OwU.keep (chg_one _ _ _ _) (by omega) (OwU.keep (chg_one _ _ _ _) (by omega) (OwU.keep (chg_one _ _ _ _) (by omega) (OwU.keep (chg_one _ _ _ _) (by omega) oC32_.out))))))))))) (gby_drew (gby_refl _ _)))
    · exact gby_drew (gby_setnew (gby_setnew (gby_setnew (gby_setnew (gby_setnew (gby_setnew (gby_setnew (gby_setnew (gby_setnew (gby_setnew (gby_setnew G33_.out _ (by dsimp only; omega) _) _ (by dsimp only; omega) _) _ (by dsimp only; omega) _) _ (by dsimp only; omega) _) _ (by dsimp only; omega) _) _ (by dsimp only; omega) _) _ (by dsimp only; omega) _) _ (by dsimp only; omega) _) _ (by dsimp only; omega) _) _ (by dsimp only; omega) _) _ (by dsimp only; omega) _)

end Go.Proofs.Ytomiicegkdogkaa
