/-
  Acts on both sides: valid or not.
-/
import Derived.Test.YtjkjodcgpdhldaaQAct
import Derived.Test.YtjkjodcgpdhldaaRActOk
import Derived.Test.YtjkjodcgpdhldaaBits2Impl
import Derived.Test.YtjkjodcgpdhldaaBPost0
namespace Go.Proofs.Ytjkjodcgpdhldaa
open Go Go.RowKit
set_option linter.unusedVariables false

/-- a valid act -/
def ActP (k n a b : Int) : Prop := (0 ≤ n ∧ n ≤ 11) ∧ ((k = 1 ∧ (0 ≤ a ∧ a ≤ 65535) ∧ (0 ≤ b ∧ b ≤ 65535)) ∨ (k = 2 ∧ (0 ≤ a ∧ a ≤ 65535) ∧ b = 0) ∨ ((k = 3 ∨ k = 4) ∧ a = 0 ∧ b = 0))
theorem iff_no {p : Prop} (h : ¬ p) : false = true ↔ p := ⟨fun q => (by cases q), fun q => absurd q h⟩
theorem iff_yes {p : Prop} (h : p) : true = true ↔ p := ⟨fun _ => h, fun _ => rfl⟩
theorem inr_or (x a b : Int) : (a ≤ x ∧ x ≤ b) ∨ (x < a ∨ b < x) := by omega

set_option maxRecDepth 8000 in
set_option maxHeartbeats 2000000 in
theorem specAct (W : World) (k n a b : Int) : Calls Try.prog 31 #[vAct k n a b] W (BPost (ActP k n a b) W) := by
  unfold vAct
  rcases inr_or n 0 11 with ⟨n1, n2⟩ | hb
  rotate_left
  · have HB := Lib.hid hb
    clear hb
    go_enter Try.func31, Try.ntmps31
    have rA1_ := Lib.hid (show ((W.alloc (.cells #[.int .i64 k, .int .i64 n, .int .i64 a, .int .i64 b] 45))).heap[W.heap.size]? = some (.cells #[.int .i64 k, .int .i64 n, .int .i64 a, .int .i64 b] 45 (0, 0)) from by exact heap_alloc_new _ _)
    have G2_ := Lib.hid (show (W).grownBy ((W.alloc (.cells #[.int .i64 k, .int .i64 n, .int .i64 a, .int .i64 b] 45))) none from (gby_alloc (gby_refl _ _) _))
    have A_0_ : ((W.alloc (.cells #[.int .i64 k, .int .i64 n, .int .i64 a, .int .i64 b] 45))).cell? ⟨W.heap.size, 0, none⟩ = some (.int .i64 k) := cell_of_row _ _ 0 _ _ _ rA1_.out
    have A_1_ : ((W.alloc (.cells #[.int .i64 k, .int .i64 n, .int .i64 a, .int .i64 b] 45))).cell? ⟨W.heap.size, 1, none⟩ = some (.int .i64 n) := cell_of_row _ _ 1 _ _ _ rA1_.out
    have A_2_ : ((W.alloc (.cells #[.int .i64 k, .int .i64 n, .int .i64 a, .int .i64 b] 45))).cell? ⟨W.heap.size, 2, none⟩ = some (.int .i64 a) := cell_of_row _ _ 2 _ _ _ rA1_.out
    have A_3_ : ((W.alloc (.cells #[.int .i64 k, .int .i64 n, .int .i64 a, .int .i64 b] 45))).cell? ⟨W.heap.size, 3, none⟩ = some (.int .i64 b) := cell_of_row _ _ 3 _ _ _ rA1_.out
    go_wp2_with fail
    go_at_call 49
    refine (in_no _ _ _ _ HB.out).mono ?_
    rintro e w1_ ⟨rfl, rfl⟩
    go_wp2
    go_ret
    exact ⟨false, rfl, iff_no (fun q => by have q_ := q.1; have := HB.out; omega), G2_.out⟩
  by_cases hk1 : k = 1
  · subst hk1
    rcases inr_or a 0 65535 with ⟨a1, a2⟩ | hb
    rotate_left
    · have HB := Lib.hid hb
      clear hb
      go_enter Try.func31, Try.ntmps31
      have rA1_ := Lib.hid (show ((W.alloc (.cells #[.int .i64 1, .int .i64 n, .int .i64 a, .int .i64 b] 45))).heap[W.heap.size]? = some (.cells #[.int .i64 1, .int .i64 n, .int .i64 a, .int .i64 b] 45 (0, 0)) from by exact heap_alloc_new _ _)
      have G2_ := Lib.hid (show (W).grownBy ((W.alloc (.cells #[.int .i64 1, .int .i64 n, .int .i64 a, .int .i64 b] 45))) none from (gby_alloc (gby_refl _ _) _))
      have A_0_ : ((W.alloc (.cells #[.int .i64 1, .int .i64 n, .int .i64 a, .int .i64 b] 45))).cell? ⟨W.heap.size, 0, none⟩ = some (.int .i64 1) := cell_of_row _ _ 0 _ _ _ rA1_.out
      have A_1_ : ((W.alloc (.cells #[.int .i64 1, .int .i64 n, .int .i64 a, .int .i64 b] 45))).cell? ⟨W.heap.size, 1, none⟩ = some (.int .i64 n) := cell_of_row _ _ 1 _ _ _ rA1_.out
      have A_2_ : ((W.alloc (.cells #[.int .i64 1, .int .i64 n, .int .i64 a, .int .i64 b] 45))).cell? ⟨W.heap.size, 2, none⟩ = some (.int .i64 a) := cell_of_row _ _ 2 _ _ _ rA1_.out
      have A_3_ : ((W.alloc (.cells #[.int .i64 1, .int .i64 n, .int .i64 a, .int .i64 b] 45))).cell? ⟨W.heap.size, 3, none⟩ = some (.int .i64 b) := cell_of_row _ _ 3 _ _ _ rA1_.out
      go_wp2_with fail
      go_at_call 49
      refine (in_yes _ _ _ _ (by omega) (by omega)).mono ?_
      rintro e w1_ ⟨rfl, rfl⟩
      go_wp2_with fail
      go_at_call 49
      refine (in_no _ _ _ _ HB.out).mono ?_
      rintro e w2_ ⟨rfl, rfl⟩
      go_wp2
      go_ret
      exact ⟨false, rfl, iff_no (fun q => by have q_ := q.2; have := HB.out; omega), G2_.out⟩
    rcases inr_or b 0 65535 with ⟨b1, b2⟩ | hb
    rotate_left
    · have HB := Lib.hid hb
      clear hb
      go_enter Try.func31, Try.ntmps31
      have rA1_ := Lib.hid (show ((W.alloc (.cells #[.int .i64 1, .int .i64 n, .int .i64 a, .int .i64 b] 45))).heap[W.heap.size]? = some (.cells #[.int .i64 1, .int .i64 n, .int .i64 a, .int .i64 b] 45 (0, 0)) from by exact heap_alloc_new _ _)
      have G2_ := Lib.hid (show (W).grownBy ((W.alloc (.cells #[.int .i64 1, .int .i64 n, .int .i64 a, .int .i64 b] 45))) none from (gby_alloc (gby_refl _ _) _))
      have A_0_ : ((W.alloc (.cells #[.int .i64 1, .int .i64 n, .int .i64 a, .int .i64 b] 45))).cell? ⟨W.heap.size, 0, none⟩ = some (.int .i64 1) := cell_of_row _ _ 0 _ _ _ rA1_.out
      have A_1_ : ((W.alloc (.cells #[.int .i64 1, .int .i64 n, .int .i64 a, .int .i64 b] 45))).cell? ⟨W.heap.size, 1, none⟩ = some (.int .i64 n) := cell_of_row _ _ 1 _ _ _ rA1_.out
      have A_2_ : ((W.alloc (.cells #[.int .i64 1, .int .i64 n, .int .i64 a, .int .i64 b] 45))).cell? ⟨W.heap.size, 2, none⟩ = some (.int .i64 a) := cell_of_row _ _ 2 _ _ _ rA1_.out
      have A_3_ : ((W.alloc (.cells #[.int .i64 1, .int .i64 n, .int .i64 a, .int .i64 b] 45))).cell? ⟨W.heap.size, 3, none⟩ = some (.int .i64 b) := cell_of_row _ _ 3 _ _ _ rA1_.out
      go_wp2_with fail
      go_at_call 49
      refine (in_yes _ _ _ _ (by omega) (by omega)).mono ?_
      rintro e w1_ ⟨rfl, rfl⟩
      go_wp2_with fail
      go_at_call 49
      refine (in_yes _ _ _ _ (by omega) (by omega)).mono ?_
      rintro e w2_ ⟨rfl, rfl⟩
      go_wp2_with fail
      go_at_call 49
      refine (in_no _ _ _ _ HB.out).mono ?_
      rintro e w3_ ⟨rfl, rfl⟩
      go_wp2
      go_ret
      exact ⟨false, rfl, iff_no (fun q => by have q_ := q.2; have := HB.out; omega), G2_.out⟩
    go_enter Try.func31, Try.ntmps31
    have rA1_ := Lib.hid (show ((W.alloc (.cells #[.int .i64 1, .int .i64 n, .int .i64 a, .int .i64 b] 45))).heap[W.heap.size]? = some (.cells #[.int .i64 1, .int .i64 n, .int .i64 a, .int .i64 b] 45 (0, 0)) from by exact heap_alloc_new _ _)
    have G2_ := Lib.hid (show (W).grownBy ((W.alloc (.cells #[.int .i64 1, .int .i64 n, .int .i64 a, .int .i64 b] 45))) none from (gby_alloc (gby_refl _ _) _))
    have A_0_ : ((W.alloc (.cells #[.int .i64 1, .int .i64 n, .int .i64 a, .int .i64 b] 45))).cell? ⟨W.heap.size, 0, none⟩ = some (.int .i64 1) := cell_of_row _ _ 0 _ _ _ rA1_.out
    have A_1_ : ((W.alloc (.cells #[.int .i64 1, .int .i64 n, .int .i64 a, .int .i64 b] 45))).cell? ⟨W.heap.size, 1, none⟩ = some (.int .i64 n) := cell_of_row _ _ 1 _ _ _ rA1_.out
    have A_2_ : ((W.alloc (.cells #[.int .i64 1, .int .i64 n, .int .i64 a, .int .i64 b] 45))).cell? ⟨W.heap.size, 2, none⟩ = some (.int .i64 a) := cell_of_row _ _ 2 _ _ _ rA1_.out
    have A_3_ : ((W.alloc (.cells #[.int .i64 1, .int .i64 n, .int .i64 a, .int .i64 b] 45))).cell? ⟨W.heap.size, 3, none⟩ = some (.int .i64 b) := cell_of_row _ _ 3 _ _ _ rA1_.out
    go_wp2_with fail
    go_at_call 49
    refine (in_yes _ _ _ _ (by omega) (by omega)).mono ?_
    rintro e w1_ ⟨rfl, rfl⟩
    go_wp2_with fail
    go_at_call 49
    refine (in_yes _ _ _ _ (by omega) (by omega)).mono ?_
    rintro e w2_ ⟨rfl, rfl⟩
    go_wp2_with fail
    go_at_call 49
    refine (in_yes _ _ _ _ (by omega) (by omega)).mono ?_
    rintro e w3_ ⟨rfl, rfl⟩
    go_wp2
    go_ret
    exact ⟨true, rfl, iff_yes ⟨⟨n1, n2⟩, by omega⟩, G2_.out⟩
  have hkb1 : (k == 1) = false := by simpa using hk1
  have HK1 := Lib.hid hk1
  clear hk1
  by_cases hk2 : k = 2
  · subst hk2
    rcases inr_or a 0 65535 with ⟨a1, a2⟩ | hb
    rotate_left
    · have HB := Lib.hid hb
      clear hb
      go_enter Try.func31, Try.ntmps31
      have rA1_ := Lib.hid (show ((W.alloc (.cells #[.int .i64 2, .int .i64 n, .int .i64 a, .int .i64 b] 45))).heap[W.heap.size]? = some (.cells #[.int .i64 2, .int .i64 n, .int .i64 a, .int .i64 b] 45 (0, 0)) from by exact heap_alloc_new _ _)
      have G2_ := Lib.hid (show (W).grownBy ((W.alloc (.cells #[.int .i64 2, .int .i64 n, .int .i64 a, .int .i64 b] 45))) none from (gby_alloc (gby_refl _ _) _))
      have A_0_ : ((W.alloc (.cells #[.int .i64 2, .int .i64 n, .int .i64 a, .int .i64 b] 45))).cell? ⟨W.heap.size, 0, none⟩ = some (.int .i64 2) := cell_of_row _ _ 0 _ _ _ rA1_.out
      have A_1_ : ((W.alloc (.cells #[.int .i64 2, .int .i64 n, .int .i64 a, .int .i64 b] 45))).cell? ⟨W.heap.size, 1, none⟩ = some (.int .i64 n) := cell_of_row _ _ 1 _ _ _ rA1_.out
      have A_2_ : ((W.alloc (.cells #[.int .i64 2, .int .i64 n, .int .i64 a, .int .i64 b] 45))).cell? ⟨W.heap.size, 2, none⟩ = some (.int .i64 a) := cell_of_row _ _ 2 _ _ _ rA1_.out
      have A_3_ : ((W.alloc (.cells #[.int .i64 2, .int .i64 n, .int .i64 a, .int .i64 b] 45))).cell? ⟨W.heap.size, 3, none⟩ = some (.int .i64 b) := cell_of_row _ _ 3 _ _ _ rA1_.out
      go_wp2_with fail
      go_at_call 49
      refine (in_yes _ _ _ _ (by omega) (by omega)).mono ?_
      rintro e w1_ ⟨rfl, rfl⟩
      go_wp2_with fail
      go_at_call 49
      refine (in_no _ _ _ _ HB.out).mono ?_
      rintro e w2_ ⟨rfl, rfl⟩
      go_wp2
      go_ret
      exact ⟨false, rfl, iff_no (fun q => by have q_ := q.2; have := HB.out; omega), G2_.out⟩
    by_cases hb : b = 0
    · subst hb
      go_enter Try.func31, Try.ntmps31
      have rA1_ := Lib.hid (show ((W.alloc (.cells #[.int .i64 2, .int .i64 n, .int .i64 a, .int .i64 0] 45))).heap[W.heap.size]? = some (.cells #[.int .i64 2, .int .i64 n, .int .i64 a, .int .i64 0] 45 (0, 0)) from by exact heap_alloc_new _ _)
      have G2_ := Lib.hid (show (W).grownBy ((W.alloc (.cells #[.int .i64 2, .int .i64 n, .int .i64 a, .int .i64 0] 45))) none from (gby_alloc (gby_refl _ _) _))
      have A_0_ : ((W.alloc (.cells #[.int .i64 2, .int .i64 n, .int .i64 a, .int .i64 0] 45))).cell? ⟨W.heap.size, 0, none⟩ = some (.int .i64 2) := cell_of_row _ _ 0 _ _ _ rA1_.out
      have A_1_ : ((W.alloc (.cells #[.int .i64 2, .int .i64 n, .int .i64 a, .int .i64 0] 45))).cell? ⟨W.heap.size, 1, none⟩ = some (.int .i64 n) := cell_of_row _ _ 1 _ _ _ rA1_.out
      have A_2_ : ((W.alloc (.cells #[.int .i64 2, .int .i64 n, .int .i64 a, .int .i64 0] 45))).cell? ⟨W.heap.size, 2, none⟩ = some (.int .i64 a) := cell_of_row _ _ 2 _ _ _ rA1_.out
      have A_3_ : ((W.alloc (.cells #[.int .i64 2, .int .i64 n, .int .i64 a, .int .i64 0] 45))).cell? ⟨W.heap.size, 3, none⟩ = some (.int .i64 0) := cell_of_row _ _ 3 _ _ _ rA1_.out
      go_wp2_with fail
      go_at_call 49
      refine (in_yes _ _ _ _ (by omega) (by omega)).mono ?_
      rintro e w1_ ⟨rfl, rfl⟩
      go_wp2_with fail
      go_at_call 49
      refine (in_yes _ _ _ _ (by omega) (by omega)).mono ?_
      rintro e w2_ ⟨rfl, rfl⟩
      go_wp2
      go_ret
      exact ⟨true, rfl, iff_yes ⟨⟨n1, n2⟩, by omega⟩, G2_.out⟩
    · have hbb : (b == 0) = false := by simpa using hb
      have HB := Lib.hid hb
      clear hb
      go_enter Try.func31, Try.ntmps31
      have rA1_ := Lib.hid (show ((W.alloc (.cells #[.int .i64 2, .int .i64 n, .int .i64 a, .int .i64 b] 45))).heap[W.heap.size]? = some (.cells #[.int .i64 2, .int .i64 n, .int .i64 a, .int .i64 b] 45 (0, 0)) from by exact heap_alloc_new _ _)
      have G2_ := Lib.hid (show (W).grownBy ((W.alloc (.cells #[.int .i64 2, .int .i64 n, .int .i64 a, .int .i64 b] 45))) none from (gby_alloc (gby_refl _ _) _))
      have A_0_ : ((W.alloc (.cells #[.int .i64 2, .int .i64 n, .int .i64 a, .int .i64 b] 45))).cell? ⟨W.heap.size, 0, none⟩ = some (.int .i64 2) := cell_of_row _ _ 0 _ _ _ rA1_.out
      have A_1_ : ((W.alloc (.cells #[.int .i64 2, .int .i64 n, .int .i64 a, .int .i64 b] 45))).cell? ⟨W.heap.size, 1, none⟩ = some (.int .i64 n) := cell_of_row _ _ 1 _ _ _ rA1_.out
      have A_2_ : ((W.alloc (.cells #[.int .i64 2, .int .i64 n, .int .i64 a, .int .i64 b] 45))).cell? ⟨W.heap.size, 2, none⟩ = some (.int .i64 a) := cell_of_row _ _ 2 _ _ _ rA1_.out
      have A_3_ : ((W.alloc (.cells #[.int .i64 2, .int .i64 n, .int .i64 a, .int .i64 b] 45))).cell? ⟨W.heap.size, 3, none⟩ = some (.int .i64 b) := cell_of_row _ _ 3 _ _ _ rA1_.out
      go_wp2_with fail
      go_at_call 49
      refine (in_yes _ _ _ _ (by omega) (by omega)).mono ?_
      rintro e w1_ ⟨rfl, rfl⟩
      go_wp2_with fail
      go_at_call 49
      refine (in_yes _ _ _ _ (by omega) (by omega)).mono ?_
      rintro e w2_ ⟨rfl, rfl⟩
      go_wp2
      go_ret
      exact ⟨false, rfl, iff_no (fun q => by have q_ := q.2; have := HB.out; omega), G2_.out⟩
  have hkb2 : (k == 2) = false := by simpa using hk2
  have HK2 := Lib.hid hk2
  clear hk2
  by_cases hk3 : k = 3
  · subst hk3
    clear hkb1 hkb2
    by_cases ha : a = 0
    rotate_left
    · have hab : (a == 0) = false := by simpa using ha
      have HB := Lib.hid ha
      clear ha
      go_enter Try.func31, Try.ntmps31
      have rA1_ := Lib.hid (show ((W.alloc (.cells #[.int .i64 3, .int .i64 n, .int .i64 a, .int .i64 b] 45))).heap[W.heap.size]? = some (.cells #[.int .i64 3, .int .i64 n, .int .i64 a, .int .i64 b] 45 (0, 0)) from by exact heap_alloc_new _ _)
      have G2_ := Lib.hid (show (W).grownBy ((W.alloc (.cells #[.int .i64 3, .int .i64 n, .int .i64 a, .int .i64 b] 45))) none from (gby_alloc (gby_refl _ _) _))
      have A_0_ : ((W.alloc (.cells #[.int .i64 3, .int .i64 n, .int .i64 a, .int .i64 b] 45))).cell? ⟨W.heap.size, 0, none⟩ = some (.int .i64 3) := cell_of_row _ _ 0 _ _ _ rA1_.out
      have A_1_ : ((W.alloc (.cells #[.int .i64 3, .int .i64 n, .int .i64 a, .int .i64 b] 45))).cell? ⟨W.heap.size, 1, none⟩ = some (.int .i64 n) := cell_of_row _ _ 1 _ _ _ rA1_.out
      have A_2_ : ((W.alloc (.cells #[.int .i64 3, .int .i64 n, .int .i64 a, .int .i64 b] 45))).cell? ⟨W.heap.size, 2, none⟩ = some (.int .i64 a) := cell_of_row _ _ 2 _ _ _ rA1_.out
      have A_3_ : ((W.alloc (.cells #[.int .i64 3, .int .i64 n, .int .i64 a, .int .i64 b] 45))).cell? ⟨W.heap.size, 3, none⟩ = some (.int .i64 b) := cell_of_row _ _ 3 _ _ _ rA1_.out
      go_wp2_with fail
      go_at_call 49
      refine (in_yes _ _ _ _ (by omega) (by omega)).mono ?_
      rintro e w1_ ⟨rfl, rfl⟩
      go_wp2
      go_ret
      exact ⟨false, rfl, iff_no (fun q => by have q_ := q.2; have := HB.out; omega), G2_.out⟩
    subst ha
    by_cases hb : b = 0
    · subst hb
      go_enter Try.func31, Try.ntmps31
      have rA1_ := Lib.hid (show ((W.alloc (.cells #[.int .i64 3, .int .i64 n, .int .i64 0, .int .i64 0] 45))).heap[W.heap.size]? = some (.cells #[.int .i64 3, .int .i64 n, .int .i64 0, .int .i64 0] 45 (0, 0)) from by exact heap_alloc_new _ _)
      have G2_ := Lib.hid (show (W).grownBy ((W.alloc (.cells #[.int .i64 3, .int .i64 n, .int .i64 0, .int .i64 0] 45))) none from (gby_alloc (gby_refl _ _) _))
      have A_0_ : ((W.alloc (.cells #[.int .i64 3, .int .i64 n, .int .i64 0, .int .i64 0] 45))).cell? ⟨W.heap.size, 0, none⟩ = some (.int .i64 3) := cell_of_row _ _ 0 _ _ _ rA1_.out
      have A_1_ : ((W.alloc (.cells #[.int .i64 3, .int .i64 n, .int .i64 0, .int .i64 0] 45))).cell? ⟨W.heap.size, 1, none⟩ = some (.int .i64 n) := cell_of_row _ _ 1 _ _ _ rA1_.out
      have A_2_ : ((W.alloc (.cells #[.int .i64 3, .int .i64 n, .int .i64 0, .int .i64 0] 45))).cell? ⟨W.heap.size, 2, none⟩ = some (.int .i64 0) := cell_of_row _ _ 2 _ _ _ rA1_.out
      have A_3_ : ((W.alloc (.cells #[.int .i64 3, .int .i64 n, .int .i64 0, .int .i64 0] 45))).cell? ⟨W.heap.size, 3, none⟩ = some (.int .i64 0) := cell_of_row _ _ 3 _ _ _ rA1_.out
      go_wp2_with fail
      go_at_call 49
      refine (in_yes _ _ _ _ (by omega) (by omega)).mono ?_
      rintro e w1_ ⟨rfl, rfl⟩
      go_wp2
      go_ret
      exact ⟨true, rfl, iff_yes ⟨⟨n1, n2⟩, by omega⟩, G2_.out⟩
    · have hbb : (b == 0) = false := by simpa using hb
      have HB := Lib.hid hb
      clear hb
      go_enter Try.func31, Try.ntmps31
      have rA1_ := Lib.hid (show ((W.alloc (.cells #[.int .i64 3, .int .i64 n, .int .i64 0, .int .i64 b] 45))).heap[W.heap.size]? = some (.cells #[.int .i64 3, .int .i64 n, .int .i64 0, .int .i64 b] 45 (0, 0)) from by exact heap_alloc_new _ _)
      have G2_ := Lib.hid (show (W).grownBy ((W.alloc (.cells #[.int .i64 3, .int .i64 n, .int .i64 0, .int .i64 b] 45))) none from (gby_alloc (gby_refl _ _) _))
      have A_0_ : ((W.alloc (.cells #[.int .i64 3, .int .i64 n, .int .i64 0, .int .i64 b] 45))).cell? ⟨W.heap.size, 0, none⟩ = some (.int .i64 3) := cell_of_row _ _ 0 _ _ _ rA1_.out
      have A_1_ : ((W.alloc (.cells #[.int .i64 3, .int .i64 n, .int .i64 0, .int .i64 b] 45))).cell? ⟨W.heap.size, 1, none⟩ = some (.int .i64 n) := cell_of_row _ _ 1 _ _ _ rA1_.out
      have A_2_ : ((W.alloc (.cells #[.int .i64 3, .int .i64 n, .int .i64 0, .int .i64 b] 45))).cell? ⟨W.heap.size, 2, none⟩ = some (.int .i64 0) := cell_of_row _ _ 2 _ _ _ rA1_.out
      have A_3_ : ((W.alloc (.cells #[.int .i64 3, .int .i64 n, .int .i64 0, .int .i64 b] 45))).cell? ⟨W.heap.size, 3, none⟩ = some (.int .i64 b) := cell_of_row _ _ 3 _ _ _ rA1_.out
      go_wp2_with fail
      go_at_call 49
      refine (in_yes _ _ _ _ (by omega) (by omega)).mono ?_
      rintro e w1_ ⟨rfl, rfl⟩
      go_wp2
      go_ret
      exact ⟨false, rfl, iff_no (fun q => by have q_ := q.2; have := HB.out; omega), G2_.out⟩
  have hkb3 : (k == 3) = false := by simpa using hk3
  have HK3 := Lib.hid hk3
  clear hk3
  by_cases hk4 : k = 4
  · subst hk4
    clear hkb1 hkb2 hkb3
    by_cases ha : a = 0
    rotate_left
    · have hab : (a == 0) = false := by simpa using ha
      have HB := Lib.hid ha
      clear ha
      go_enter Try.func31, Try.ntmps31
      have rA1_ := Lib.hid (show ((W.alloc (.cells #[.int .i64 4, .int .i64 n, .int .i64 a, .int .i64 b] 45))).heap[W.heap.size]? = some (.cells #[.int .i64 4, .int .i64 n, .int .i64 a, .int .i64 b] 45 (0, 0)) from by exact heap_alloc_new _ _)
      have G2_ := Lib.hid (show (W).grownBy ((W.alloc (.cells #[.int .i64 4, .int .i64 n, .int .i64 a, .int .i64 b] 45))) none from (gby_alloc (gby_refl _ _) _))
      have A_0_ : ((W.alloc (.cells #[.int .i64 4, .int .i64 n, .int .i64 a, .int .i64 b] 45))).cell? ⟨W.heap.size, 0, none⟩ = some (.int .i64 4) := cell_of_row _ _ 0 _ _ _ rA1_.out
      have A_1_ : ((W.alloc (.cells #[.int .i64 4, .int .i64 n, .int .i64 a, .int .i64 b] 45))).cell? ⟨W.heap.size, 1, none⟩ = some (.int .i64 n) := cell_of_row _ _ 1 _ _ _ rA1_.out
      have A_2_ : ((W.alloc (.cells #[.int .i64 4, .int .i64 n, .int .i64 a, .int .i64 b] 45))).cell? ⟨W.heap.size, 2, none⟩ = some (.int .i64 a) := cell_of_row _ _ 2 _ _ _ rA1_.out
      have A_3_ : ((W.alloc (.cells #[.int .i64 4, .int .i64 n, .int .i64 a, .int .i64 b] 45))).cell? ⟨W.heap.size, 3, none⟩ = some (.int .i64 b) := cell_of_row _ _ 3 _ _ _ rA1_.out
      go_wp2_with fail
      go_at_call 49
      refine (in_yes _ _ _ _ (by omega) (by omega)).mono ?_
      rintro e w1_ ⟨rfl, rfl⟩
      go_wp2
      go_ret
      exact ⟨false, rfl, iff_no (fun q => by have q_ := q.2; have := HB.out; omega), G2_.out⟩
    subst ha
    by_cases hb : b = 0
    · subst hb
      go_enter Try.func31, Try.ntmps31
      have rA1_ := Lib.hid (show ((W.alloc (.cells #[.int .i64 4, .int .i64 n, .int .i64 0, .int .i64 0] 45))).heap[W.heap.size]? = some (.cells #[.int .i64 4, .int .i64 n, .int .i64 0, .int .i64 0] 45 (0, 0)) from by exact heap_alloc_new _ _)
      have G2_ := Lib.hid (show (W).grownBy ((W.alloc (.cells #[.int .i64 4, .int .i64 n, .int .i64 0, .int .i64 0] 45))) none from (gby_alloc (gby_refl _ _) _))
      have A_0_ : ((W.alloc (.cells #[.int .i64 4, .int .i64 n, .int .i64 0, .int .i64 0] 45))).cell? ⟨W.heap.size, 0, none⟩ = some (.int .i64 4) := cell_of_row _ _ 0 _ _ _ rA1_.out
      have A_1_ : ((W.alloc (.cells #[.int .i64 4, .int .i64 n, .int .i64 0, .int .i64 0] 45))).cell? ⟨W.heap.size, 1, none⟩ = some (.int .i64 n) := cell_of_row _ _ 1 _ _ _ rA1_.out
      have A_2_ : ((W.alloc (.cells #[.int .i64 4, .int .i64 n, .int .i64 0, .int .i64 0] 45))).cell? ⟨W.heap.size, 2, none⟩ = some (.int .i64 0) := cell_of_row _ _ 2 _ _ _ rA1_.out
      have A_3_ : ((W.alloc (.cells #[.int .i64 4, .int .i64 n, .int .i64 0, .int .i64 0] 45))).cell? ⟨W.heap.size, 3, none⟩ = some (.int .i64 0) := cell_of_row _ _ 3 _ _ _ rA1_.out
      go_wp2_with fail
      go_at_call 49
      refine (in_yes _ _ _ _ (by omega) (by omega)).mono ?_
      rintro e w1_ ⟨rfl, rfl⟩
      go_wp2
      go_ret
      exact ⟨true, rfl, iff_yes ⟨⟨n1, n2⟩, by omega⟩, G2_.out⟩
    · have hbb : (b == 0) = false := by simpa using hb
      have HB := Lib.hid hb
      clear hb
      go_enter Try.func31, Try.ntmps31
      have rA1_ := Lib.hid (show ((W.alloc (.cells #[.int .i64 4, .int .i64 n, .int .i64 0, .int .i64 b] 45))).heap[W.heap.size]? = some (.cells #[.int .i64 4, .int .i64 n, .int .i64 0, .int .i64 b] 45 (0, 0)) from by exact heap_alloc_new _ _)
      have G2_ := Lib.hid (show (W).grownBy ((W.alloc (.cells #[.int .i64 4, .int .i64 n, .int .i64 0, .int .i64 b] 45))) none from (gby_alloc (gby_refl _ _) _))
      have A_0_ : ((W.alloc (.cells #[.int .i64 4, .int .i64 n, .int .i64 0, .int .i64 b] 45))).cell? ⟨W.heap.size, 0, none⟩ = some (.int .i64 4) := cell_of_row _ _ 0 _ _ _ rA1_.out
      have A_1_ : ((W.alloc (.cells #[.int .i64 4, .int .i64 n, .int .i64 0, .int .i64 b] 45))).cell? ⟨W.heap.size, 1, none⟩ = some (.int .i64 n) := cell_of_row _ _ 1 _ _ _ rA1_.out
      have A_2_ : ((W.alloc (.cells #[.int .i64 4, .int .i64 n, .int .i64 0, .int .i64 b] 45))).cell? ⟨W.heap.size, 2, none⟩ = some (.int .i64 0) := cell_of_row _ _ 2 _ _ _ rA1_.out
      have A_3_ : ((W.alloc (.cells #[.int .i64 4, .int .i64 n, .int .i64 0, .int .i64 b] 45))).cell? ⟨W.heap.size, 3, none⟩ = some (.int .i64 b) := cell_of_row _ _ 3 _ _ _ rA1_.out
      go_wp2_with fail
      go_at_call 49
      refine (in_yes _ _ _ _ (by omega) (by omega)).mono ?_
      rintro e w1_ ⟨rfl, rfl⟩
      go_wp2
      go_ret
      exact ⟨false, rfl, iff_no (fun q => by have q_ := q.2; have := HB.out; omega), G2_.out⟩
  have hkb4 : (k == 4) = false := by simpa using hk4
  have HK4 := Lib.hid hk4
  clear hk4
  go_enter Try.func31, Try.ntmps31
  have rA1_ := Lib.hid (show ((W.alloc (.cells #[.int .i64 k, .int .i64 n, .int .i64 a, .int .i64 b] 45))).heap[W.heap.size]? = some (.cells #[.int .i64 k, .int .i64 n, .int .i64 a, .int .i64 b] 45 (0, 0)) from by exact heap_alloc_new _ _)
  have G2_ := Lib.hid (show (W).grownBy ((W.alloc (.cells #[.int .i64 k, .int .i64 n, .int .i64 a, .int .i64 b] 45))) none from (gby_alloc (gby_refl _ _) _))
  have A_0_ : ((W.alloc (.cells #[.int .i64 k, .int .i64 n, .int .i64 a, .int .i64 b] 45))).cell? ⟨W.heap.size, 0, none⟩ = some (.int .i64 k) := cell_of_row _ _ 0 _ _ _ rA1_.out
  have A_1_ : ((W.alloc (.cells #[.int .i64 k, .int .i64 n, .int .i64 a, .int .i64 b] 45))).cell? ⟨W.heap.size, 1, none⟩ = some (.int .i64 n) := cell_of_row _ _ 1 _ _ _ rA1_.out
  have A_2_ : ((W.alloc (.cells #[.int .i64 k, .int .i64 n, .int .i64 a, .int .i64 b] 45))).cell? ⟨W.heap.size, 2, none⟩ = some (.int .i64 a) := cell_of_row _ _ 2 _ _ _ rA1_.out
  have A_3_ : ((W.alloc (.cells #[.int .i64 k, .int .i64 n, .int .i64 a, .int .i64 b] 45))).cell? ⟨W.heap.size, 3, none⟩ = some (.int .i64 b) := cell_of_row _ _ 3 _ _ _ rA1_.out
  go_wp2_with fail
  go_at_call 49
  refine (in_yes _ _ _ _ (by omega) (by omega)).mono ?_
  rintro e w1_ ⟨rfl, rfl⟩
  go_wp2
  go_ret
  exact ⟨false, rfl, iff_no (fun q => by have q_ := q.2; have := HK1.out; have := HK2.out; have := HK3.out; have := HK4.out; omega), G2_.out⟩

set_option maxRecDepth 8000 in
set_option maxHeartbeats 2000000 in
theorem implAct (W : World) (k n a b : Int) : Calls Try.prog 33 #[vAct k n a b] W (BPost (ActP k n a b) W) := by
  unfold vAct
  rcases inr_or n 0 11 with ⟨n1, n2⟩ | hb
  rotate_left
  · have HB := Lib.hid hb
    clear hb
    go_enter Try.func33, Try.ntmps33
    have rA1_ := Lib.hid (show ((W.alloc (.cells #[.int .i64 k, .int .i64 n, .int .i64 a, .int .i64 b] 45))).heap[W.heap.size]? = some (.cells #[.int .i64 k, .int .i64 n, .int .i64 a, .int .i64 b] 45 (0, 0)) from by exact heap_alloc_new _ _)
    have G2_ := Lib.hid (show (W).grownBy ((W.alloc (.cells #[.int .i64 k, .int .i64 n, .int .i64 a, .int .i64 b] 45))) none from (gby_alloc (gby_refl _ _) _))
    have A_0_ : ((W.alloc (.cells #[.int .i64 k, .int .i64 n, .int .i64 a, .int .i64 b] 45))).cell? ⟨W.heap.size, 0, none⟩ = some (.int .i64 k) := cell_of_row _ _ 0 _ _ _ rA1_.out
    have A_1_ : ((W.alloc (.cells #[.int .i64 k, .int .i64 n, .int .i64 a, .int .i64 b] 45))).cell? ⟨W.heap.size, 1, none⟩ = some (.int .i64 n) := cell_of_row _ _ 1 _ _ _ rA1_.out
    have A_2_ : ((W.alloc (.cells #[.int .i64 k, .int .i64 n, .int .i64 a, .int .i64 b] 45))).cell? ⟨W.heap.size, 2, none⟩ = some (.int .i64 a) := cell_of_row _ _ 2 _ _ _ rA1_.out
    have A_3_ : ((W.alloc (.cells #[.int .i64 k, .int .i64 n, .int .i64 a, .int .i64 b] 45))).cell? ⟨W.heap.size, 3, none⟩ = some (.int .i64 b) := cell_of_row _ _ 3 _ _ _ rA1_.out
    go_wp2_with fail
    go_at_call 50
    refine (rng_no _ _ _ _ HB.out).mono ?_
    rintro e w1_ ⟨rfl, rfl⟩
    go_wp2
    go_ret
    exact ⟨false, rfl, iff_no (fun q => by have q_ := q.1; have := HB.out; omega), G2_.out⟩
  by_cases hk1 : k = 1
  · subst hk1
    rcases inr_or a 0 65535 with ⟨a1, a2⟩ | hb
    rotate_left
    · have HB := Lib.hid hb
      clear hb
      go_enter Try.func33, Try.ntmps33
      have rA1_ := Lib.hid (show ((W.alloc (.cells #[.int .i64 1, .int .i64 n, .int .i64 a, .int .i64 b] 45))).heap[W.heap.size]? = some (.cells #[.int .i64 1, .int .i64 n, .int .i64 a, .int .i64 b] 45 (0, 0)) from by exact heap_alloc_new _ _)
      have G2_ := Lib.hid (show (W).grownBy ((W.alloc (.cells #[.int .i64 1, .int .i64 n, .int .i64 a, .int .i64 b] 45))) none from (gby_alloc (gby_refl _ _) _))
      have A_0_ : ((W.alloc (.cells #[.int .i64 1, .int .i64 n, .int .i64 a, .int .i64 b] 45))).cell? ⟨W.heap.size, 0, none⟩ = some (.int .i64 1) := cell_of_row _ _ 0 _ _ _ rA1_.out
      have A_1_ : ((W.alloc (.cells #[.int .i64 1, .int .i64 n, .int .i64 a, .int .i64 b] 45))).cell? ⟨W.heap.size, 1, none⟩ = some (.int .i64 n) := cell_of_row _ _ 1 _ _ _ rA1_.out
      have A_2_ : ((W.alloc (.cells #[.int .i64 1, .int .i64 n, .int .i64 a, .int .i64 b] 45))).cell? ⟨W.heap.size, 2, none⟩ = some (.int .i64 a) := cell_of_row _ _ 2 _ _ _ rA1_.out
      have A_3_ : ((W.alloc (.cells #[.int .i64 1, .int .i64 n, .int .i64 a, .int .i64 b] 45))).cell? ⟨W.heap.size, 3, none⟩ = some (.int .i64 b) := cell_of_row _ _ 3 _ _ _ rA1_.out
      go_wp2_with fail
      go_at_call 50
      refine (rng_yes _ _ _ _ (by omega) (by omega)).mono ?_
      rintro e w1_ ⟨rfl, rfl⟩
      go_wp2_with fail
      go_at_call 50
      refine (rng_no _ _ _ _ HB.out).mono ?_
      rintro e w2_ ⟨rfl, rfl⟩
      go_wp2
      go_ret
      exact ⟨false, rfl, iff_no (fun q => by have q_ := q.2; have := HB.out; omega), G2_.out⟩
    rcases inr_or b 0 65535 with ⟨b1, b2⟩ | hb
    rotate_left
    · have HB := Lib.hid hb
      clear hb
      go_enter Try.func33, Try.ntmps33
      have rA1_ := Lib.hid (show ((W.alloc (.cells #[.int .i64 1, .int .i64 n, .int .i64 a, .int .i64 b] 45))).heap[W.heap.size]? = some (.cells #[.int .i64 1, .int .i64 n, .int .i64 a, .int .i64 b] 45 (0, 0)) from by exact heap_alloc_new _ _)
      have G2_ := Lib.hid (show (W).grownBy ((W.alloc (.cells #[.int .i64 1, .int .i64 n, .int .i64 a, .int .i64 b] 45))) none from (gby_alloc (gby_refl _ _) _))
      have A_0_ : ((W.alloc (.cells #[.int .i64 1, .int .i64 n, .int .i64 a, .int .i64 b] 45))).cell? ⟨W.heap.size, 0, none⟩ = some (.int .i64 1) := cell_of_row _ _ 0 _ _ _ rA1_.out
      have A_1_ : ((W.alloc (.cells #[.int .i64 1, .int .i64 n, .int .i64 a, .int .i64 b] 45))).cell? ⟨W.heap.size, 1, none⟩ = some (.int .i64 n) := cell_of_row _ _ 1 _ _ _ rA1_.out
      have A_2_ : ((W.alloc (.cells #[.int .i64 1, .int .i64 n, .int .i64 a, .int .i64 b] 45))).cell? ⟨W.heap.size, 2, none⟩ = some (.int .i64 a) := cell_of_row _ _ 2 _ _ _ rA1_.out
      have A_3_ : ((W.alloc (.cells #[.int .i64 1, .int .i64 n, .int .i64 a, .int .i64 b] 45))).cell? ⟨W.heap.size, 3, none⟩ = some (.int .i64 b) := cell_of_row _ _ 3 _ _ _ rA1_.out
      go_wp2_with fail
      go_at_call 50
      refine (rng_yes _ _ _ _ (by omega) (by omega)).mono ?_
      rintro e w1_ ⟨rfl, rfl⟩
      go_wp2_with fail
      go_at_call 50
      refine (rng_yes _ _ _ _ (by omega) (by omega)).mono ?_
      rintro e w2_ ⟨rfl, rfl⟩
      go_wp2_with fail
      go_at_call 57
      refine (word_no _ _ HB.out).mono ?_
      rintro e w3_ ⟨rfl, rfl⟩
      go_wp2
      go_ret
      exact ⟨false, rfl, iff_no (fun q => by have q_ := q.2; have := HB.out; omega), G2_.out⟩
    go_enter Try.func33, Try.ntmps33
    have rA1_ := Lib.hid (show ((W.alloc (.cells #[.int .i64 1, .int .i64 n, .int .i64 a, .int .i64 b] 45))).heap[W.heap.size]? = some (.cells #[.int .i64 1, .int .i64 n, .int .i64 a, .int .i64 b] 45 (0, 0)) from by exact heap_alloc_new _ _)
    have G2_ := Lib.hid (show (W).grownBy ((W.alloc (.cells #[.int .i64 1, .int .i64 n, .int .i64 a, .int .i64 b] 45))) none from (gby_alloc (gby_refl _ _) _))
    have A_0_ : ((W.alloc (.cells #[.int .i64 1, .int .i64 n, .int .i64 a, .int .i64 b] 45))).cell? ⟨W.heap.size, 0, none⟩ = some (.int .i64 1) := cell_of_row _ _ 0 _ _ _ rA1_.out
    have A_1_ : ((W.alloc (.cells #[.int .i64 1, .int .i64 n, .int .i64 a, .int .i64 b] 45))).cell? ⟨W.heap.size, 1, none⟩ = some (.int .i64 n) := cell_of_row _ _ 1 _ _ _ rA1_.out
    have A_2_ : ((W.alloc (.cells #[.int .i64 1, .int .i64 n, .int .i64 a, .int .i64 b] 45))).cell? ⟨W.heap.size, 2, none⟩ = some (.int .i64 a) := cell_of_row _ _ 2 _ _ _ rA1_.out
    have A_3_ : ((W.alloc (.cells #[.int .i64 1, .int .i64 n, .int .i64 a, .int .i64 b] 45))).cell? ⟨W.heap.size, 3, none⟩ = some (.int .i64 b) := cell_of_row _ _ 3 _ _ _ rA1_.out
    go_wp2_with fail
    go_at_call 50
    refine (rng_yes _ _ _ _ (by omega) (by omega)).mono ?_
    rintro e w1_ ⟨rfl, rfl⟩
    go_wp2_with fail
    go_at_call 50
    refine (rng_yes _ _ _ _ (by omega) (by omega)).mono ?_
    rintro e w2_ ⟨rfl, rfl⟩
    go_wp2_with fail
    go_at_call 57
    refine (word_yes _ _ (by omega) (by omega)).mono ?_
    rintro e w3_ ⟨rfl, rfl⟩
    go_wp2
    go_ret
    exact ⟨true, rfl, iff_yes ⟨⟨n1, n2⟩, by omega⟩, G2_.out⟩
  have hkb1 : (k == 1) = false := by simpa using hk1
  have HK1 := Lib.hid hk1
  clear hk1
  by_cases hk2 : k = 2
  · subst hk2
    rcases inr_or a 0 65535 with ⟨a1, a2⟩ | hb
    rotate_left
    · have HB := Lib.hid hb
      clear hb
      go_enter Try.func33, Try.ntmps33
      have rA1_ := Lib.hid (show ((W.alloc (.cells #[.int .i64 2, .int .i64 n, .int .i64 a, .int .i64 b] 45))).heap[W.heap.size]? = some (.cells #[.int .i64 2, .int .i64 n, .int .i64 a, .int .i64 b] 45 (0, 0)) from by exact heap_alloc_new _ _)
      have G2_ := Lib.hid (show (W).grownBy ((W.alloc (.cells #[.int .i64 2, .int .i64 n, .int .i64 a, .int .i64 b] 45))) none from (gby_alloc (gby_refl _ _) _))
      have A_0_ : ((W.alloc (.cells #[.int .i64 2, .int .i64 n, .int .i64 a, .int .i64 b] 45))).cell? ⟨W.heap.size, 0, none⟩ = some (.int .i64 2) := cell_of_row _ _ 0 _ _ _ rA1_.out
      have A_1_ : ((W.alloc (.cells #[.int .i64 2, .int .i64 n, .int .i64 a, .int .i64 b] 45))).cell? ⟨W.heap.size, 1, none⟩ = some (.int .i64 n) := cell_of_row _ _ 1 _ _ _ rA1_.out
      have A_2_ : ((W.alloc (.cells #[.int .i64 2, .int .i64 n, .int .i64 a, .int .i64 b] 45))).cell? ⟨W.heap.size, 2, none⟩ = some (.int .i64 a) := cell_of_row _ _ 2 _ _ _ rA1_.out
      have A_3_ : ((W.alloc (.cells #[.int .i64 2, .int .i64 n, .int .i64 a, .int .i64 b] 45))).cell? ⟨W.heap.size, 3, none⟩ = some (.int .i64 b) := cell_of_row _ _ 3 _ _ _ rA1_.out
      go_wp2_with fail
      go_at_call 50
      refine (rng_yes _ _ _ _ (by omega) (by omega)).mono ?_
      rintro e w1_ ⟨rfl, rfl⟩
      go_wp2_with fail
      go_at_call 50
      refine (rng_no _ _ _ _ HB.out).mono ?_
      rintro e w2_ ⟨rfl, rfl⟩
      go_wp2
      go_ret
      exact ⟨false, rfl, iff_no (fun q => by have q_ := q.2; have := HB.out; omega), G2_.out⟩
    by_cases hb : b = 0
    · subst hb
      go_enter Try.func33, Try.ntmps33
      have rA1_ := Lib.hid (show ((W.alloc (.cells #[.int .i64 2, .int .i64 n, .int .i64 a, .int .i64 0] 45))).heap[W.heap.size]? = some (.cells #[.int .i64 2, .int .i64 n, .int .i64 a, .int .i64 0] 45 (0, 0)) from by exact heap_alloc_new _ _)
      have G2_ := Lib.hid (show (W).grownBy ((W.alloc (.cells #[.int .i64 2, .int .i64 n, .int .i64 a, .int .i64 0] 45))) none from (gby_alloc (gby_refl _ _) _))
      have A_0_ : ((W.alloc (.cells #[.int .i64 2, .int .i64 n, .int .i64 a, .int .i64 0] 45))).cell? ⟨W.heap.size, 0, none⟩ = some (.int .i64 2) := cell_of_row _ _ 0 _ _ _ rA1_.out
      have A_1_ : ((W.alloc (.cells #[.int .i64 2, .int .i64 n, .int .i64 a, .int .i64 0] 45))).cell? ⟨W.heap.size, 1, none⟩ = some (.int .i64 n) := cell_of_row _ _ 1 _ _ _ rA1_.out
      have A_2_ : ((W.alloc (.cells #[.int .i64 2, .int .i64 n, .int .i64 a, .int .i64 0] 45))).cell? ⟨W.heap.size, 2, none⟩ = some (.int .i64 a) := cell_of_row _ _ 2 _ _ _ rA1_.out
      have A_3_ : ((W.alloc (.cells #[.int .i64 2, .int .i64 n, .int .i64 a, .int .i64 0] 45))).cell? ⟨W.heap.size, 3, none⟩ = some (.int .i64 0) := cell_of_row _ _ 3 _ _ _ rA1_.out
      go_wp2_with fail
      go_at_call 50
      refine (rng_yes _ _ _ _ (by omega) (by omega)).mono ?_
      rintro e w1_ ⟨rfl, rfl⟩
      go_wp2_with fail
      go_at_call 50
      refine (rng_yes _ _ _ _ (by omega) (by omega)).mono ?_
      rintro e w2_ ⟨rfl, rfl⟩
      go_wp2
      go_ret
      exact ⟨true, rfl, iff_yes ⟨⟨n1, n2⟩, by omega⟩, G2_.out⟩
    · have hbb : (b == 0) = false := by simpa using hb
      have HB := Lib.hid hb
      clear hb
      go_enter Try.func33, Try.ntmps33
      have rA1_ := Lib.hid (show ((W.alloc (.cells #[.int .i64 2, .int .i64 n, .int .i64 a, .int .i64 b] 45))).heap[W.heap.size]? = some (.cells #[.int .i64 2, .int .i64 n, .int .i64 a, .int .i64 b] 45 (0, 0)) from by exact heap_alloc_new _ _)
      have G2_ := Lib.hid (show (W).grownBy ((W.alloc (.cells #[.int .i64 2, .int .i64 n, .int .i64 a, .int .i64 b] 45))) none from (gby_alloc (gby_refl _ _) _))
      have A_0_ : ((W.alloc (.cells #[.int .i64 2, .int .i64 n, .int .i64 a, .int .i64 b] 45))).cell? ⟨W.heap.size, 0, none⟩ = some (.int .i64 2) := cell_of_row _ _ 0 _ _ _ rA1_.out
      have A_1_ : ((W.alloc (.cells #[.int .i64 2, .int .i64 n, .int .i64 a, .int .i64 b] 45))).cell? ⟨W.heap.size, 1, none⟩ = some (.int .i64 n) := cell_of_row _ _ 1 _ _ _ rA1_.out
      have A_2_ : ((W.alloc (.cells #[.int .i64 2, .int .i64 n, .int .i64 a, .int .i64 b] 45))).cell? ⟨W.heap.size, 2, none⟩ = some (.int .i64 a) := cell_of_row _ _ 2 _ _ _ rA1_.out
      have A_3_ : ((W.alloc (.cells #[.int .i64 2, .int .i64 n, .int .i64 a, .int .i64 b] 45))).cell? ⟨W.heap.size, 3, none⟩ = some (.int .i64 b) := cell_of_row _ _ 3 _ _ _ rA1_.out
      go_wp2_with fail
      go_at_call 50
      refine (rng_yes _ _ _ _ (by omega) (by omega)).mono ?_
      rintro e w1_ ⟨rfl, rfl⟩
      go_wp2_with fail
      go_at_call 50
      refine (rng_yes _ _ _ _ (by omega) (by omega)).mono ?_
      rintro e w2_ ⟨rfl, rfl⟩
      go_wp2
      go_ret
      exact ⟨false, rfl, iff_no (fun q => by have q_ := q.2; have := HB.out; omega), G2_.out⟩
  have hkb2 : (k == 2) = false := by simpa using hk2
  have HK2 := Lib.hid hk2
  clear hk2
  by_cases hk3 : k = 3
  · subst hk3
    clear hkb1 hkb2
    by_cases ha : a = 0
    rotate_left
    · have hab : (a == 0) = false := by simpa using ha
      have HB := Lib.hid ha
      clear ha
      go_enter Try.func33, Try.ntmps33
      have rA1_ := Lib.hid (show ((W.alloc (.cells #[.int .i64 3, .int .i64 n, .int .i64 a, .int .i64 b] 45))).heap[W.heap.size]? = some (.cells #[.int .i64 3, .int .i64 n, .int .i64 a, .int .i64 b] 45 (0, 0)) from by exact heap_alloc_new _ _)
      have G2_ := Lib.hid (show (W).grownBy ((W.alloc (.cells #[.int .i64 3, .int .i64 n, .int .i64 a, .int .i64 b] 45))) none from (gby_alloc (gby_refl _ _) _))
      have A_0_ : ((W.alloc (.cells #[.int .i64 3, .int .i64 n, .int .i64 a, .int .i64 b] 45))).cell? ⟨W.heap.size, 0, none⟩ = some (.int .i64 3) := cell_of_row _ _ 0 _ _ _ rA1_.out
      have A_1_ : ((W.alloc (.cells #[.int .i64 3, .int .i64 n, .int .i64 a, .int .i64 b] 45))).cell? ⟨W.heap.size, 1, none⟩ = some (.int .i64 n) := cell_of_row _ _ 1 _ _ _ rA1_.out
      have A_2_ : ((W.alloc (.cells #[.int .i64 3, .int .i64 n, .int .i64 a, .int .i64 b] 45))).cell? ⟨W.heap.size, 2, none⟩ = some (.int .i64 a) := cell_of_row _ _ 2 _ _ _ rA1_.out
      have A_3_ : ((W.alloc (.cells #[.int .i64 3, .int .i64 n, .int .i64 a, .int .i64 b] 45))).cell? ⟨W.heap.size, 3, none⟩ = some (.int .i64 b) := cell_of_row _ _ 3 _ _ _ rA1_.out
      go_wp2_with fail
      go_at_call 50
      refine (rng_yes _ _ _ _ (by omega) (by omega)).mono ?_
      rintro e w1_ ⟨rfl, rfl⟩
      go_wp2
      go_ret
      exact ⟨false, rfl, iff_no (fun q => by have q_ := q.2; have := HB.out; omega), G2_.out⟩
    subst ha
    by_cases hb : b = 0
    · subst hb
      go_enter Try.func33, Try.ntmps33
      have rA1_ := Lib.hid (show ((W.alloc (.cells #[.int .i64 3, .int .i64 n, .int .i64 0, .int .i64 0] 45))).heap[W.heap.size]? = some (.cells #[.int .i64 3, .int .i64 n, .int .i64 0, .int .i64 0] 45 (0, 0)) from by exact heap_alloc_new _ _)
      have G2_ := Lib.hid (show (W).grownBy ((W.alloc (.cells #[.int .i64 3, .int .i64 n, .int .i64 0, .int .i64 0] 45))) none from (gby_alloc (gby_refl _ _) _))
      have A_0_ : ((W.alloc (.cells #[.int .i64 3, .int .i64 n, .int .i64 0, .int .i64 0] 45))).cell? ⟨W.heap.size, 0, none⟩ = some (.int .i64 3) := cell_of_row _ _ 0 _ _ _ rA1_.out
      have A_1_ : ((W.alloc (.cells #[.int .i64 3, .int .i64 n, .int .i64 0, .int .i64 0] 45))).cell? ⟨W.heap.size, 1, none⟩ = some (.int .i64 n) := cell_of_row _ _ 1 _ _ _ rA1_.out
      have A_2_ : ((W.alloc (.cells #[.int .i64 3, .int .i64 n, .int .i64 0, .int .i64 0] 45))).cell? ⟨W.heap.size, 2, none⟩ = some (.int .i64 0) := cell_of_row _ _ 2 _ _ _ rA1_.out
      have A_3_ : ((W.alloc (.cells #[.int .i64 3, .int .i64 n, .int .i64 0, .int .i64 0] 45))).cell? ⟨W.heap.size, 3, none⟩ = some (.int .i64 0) := cell_of_row _ _ 3 _ _ _ rA1_.out
      go_wp2_with fail
      go_at_call 50
      refine (rng_yes _ _ _ _ (by omega) (by omega)).mono ?_
      rintro e w1_ ⟨rfl, rfl⟩
      go_wp2
      go_ret
      exact ⟨true, rfl, iff_yes ⟨⟨n1, n2⟩, by omega⟩, G2_.out⟩
    · have hbb : (b == 0) = false := by simpa using hb
      have HB := Lib.hid hb
      clear hb
      go_enter Try.func33, Try.ntmps33
      have rA1_ := Lib.hid (show ((W.alloc (.cells #[.int .i64 3, .int .i64 n, .int .i64 0, .int .i64 b] 45))).heap[W.heap.size]? = some (.cells #[.int .i64 3, .int .i64 n, .int .i64 0, .int .i64 b] 45 (0, 0)) from by exact heap_alloc_new _ _)
      have G2_ := Lib.hid (show (W).grownBy ((W.alloc (.cells #[.int .i64 3, .int .i64 n, .int .i64 0, .int .i64 b] 45))) none from (gby_alloc (gby_refl _ _) _))
      have A_0_ : ((W.alloc (.cells #[.int .i64 3, .int .i64 n, .int .i64 0, .int .i64 b] 45))).cell? ⟨W.heap.size, 0, none⟩ = some (.int .i64 3) := cell_of_row _ _ 0 _ _ _ rA1_.out
      have A_1_ : ((W.alloc (.cells #[.int .i64 3, .int .i64 n, .int .i64 0, .int .i64 b] 45))).cell? ⟨W.heap.size, 1, none⟩ = some (.int .i64 n) := cell_of_row _ _ 1 _ _ _ rA1_.out
      have A_2_ : ((W.alloc (.cells #[.int .i64 3, .int .i64 n, .int .i64 0, .int .i64 b] 45))).cell? ⟨W.heap.size, 2, none⟩ = some (.int .i64 0) := cell_of_row _ _ 2 _ _ _ rA1_.out
      have A_3_ : ((W.alloc (.cells #[.int .i64 3, .int .i64 n, .int .i64 0, .int .i64 b] 45))).cell? ⟨W.heap.size, 3, none⟩ = some (.int .i64 b) := cell_of_row _ _ 3 _ _ _ rA1_.out
      go_wp2_with fail
      go_at_call 50
      refine (rng_yes _ _ _ _ (by omega) (by omega)).mono ?_
      rintro e w1_ ⟨rfl, rfl⟩
      go_wp2
      go_ret
      exact ⟨false, rfl, iff_no (fun q => by have q_ := q.2; have := HB.out; omega), G2_.out⟩
  have hkb3 : (k == 3) = false := by simpa using hk3
  have HK3 := Lib.hid hk3
  clear hk3
  by_cases hk4 : k = 4
  · subst hk4
    clear hkb1 hkb2 hkb3
    by_cases ha : a = 0
    rotate_left
    · have hab : (a == 0) = false := by simpa using ha
      have HB := Lib.hid ha
      clear ha
      go_enter Try.func33, Try.ntmps33
      have rA1_ := Lib.hid (show ((W.alloc (.cells #[.int .i64 4, .int .i64 n, .int .i64 a, .int .i64 b] 45))).heap[W.heap.size]? = some (.cells #[.int .i64 4, .int .i64 n, .int .i64 a, .int .i64 b] 45 (0, 0)) from by exact heap_alloc_new _ _)
      have G2_ := Lib.hid (show (W).grownBy ((W.alloc (.cells #[.int .i64 4, .int .i64 n, .int .i64 a, .int .i64 b] 45))) none from (gby_alloc (gby_refl _ _) _))
      have A_0_ : ((W.alloc (.cells #[.int .i64 4, .int .i64 n, .int .i64 a, .int .i64 b] 45))).cell? ⟨W.heap.size, 0, none⟩ = some (.int .i64 4) := cell_of_row _ _ 0 _ _ _ rA1_.out
      have A_1_ : ((W.alloc (.cells #[.int .i64 4, .int .i64 n, .int .i64 a, .int .i64 b] 45))).cell? ⟨W.heap.size, 1, none⟩ = some (.int .i64 n) := cell_of_row _ _ 1 _ _ _ rA1_.out
      have A_2_ : ((W.alloc (.cells #[.int .i64 4, .int .i64 n, .int .i64 a, .int .i64 b] 45))).cell? ⟨W.heap.size, 2, none⟩ = some (.int .i64 a) := cell_of_row _ _ 2 _ _ _ rA1_.out
      have A_3_ : ((W.alloc (.cells #[.int .i64 4, .int .i64 n, .int .i64 a, .int .i64 b] 45))).cell? ⟨W.heap.size, 3, none⟩ = some (.int .i64 b) := cell_of_row _ _ 3 _ _ _ rA1_.out
      go_wp2_with fail
      go_at_call 50
      refine (rng_yes _ _ _ _ (by omega) (by omega)).mono ?_
      rintro e w1_ ⟨rfl, rfl⟩
      go_wp2
      go_ret
      exact ⟨false, rfl, iff_no (fun q => by have q_ := q.2; have := HB.out; omega), G2_.out⟩
    subst ha
    by_cases hb : b = 0
    · subst hb
      go_enter Try.func33, Try.ntmps33
      have rA1_ := Lib.hid (show ((W.alloc (.cells #[.int .i64 4, .int .i64 n, .int .i64 0, .int .i64 0] 45))).heap[W.heap.size]? = some (.cells #[.int .i64 4, .int .i64 n, .int .i64 0, .int .i64 0] 45 (0, 0)) from by exact heap_alloc_new _ _)
      have G2_ := Lib.hid (show (W).grownBy ((W.alloc (.cells #[.int .i64 4, .int .i64 n, .int .i64 0, .int .i64 0] 45))) none from (gby_alloc (gby_refl _ _) _))
      have A_0_ : ((W.alloc (.cells #[.int .i64 4, .int .i64 n, .int .i64 0, .int .i64 0] 45))).cell? ⟨W.heap.size, 0, none⟩ = some (.int .i64 4) := cell_of_row _ _ 0 _ _ _ rA1_.out
      have A_1_ : ((W.alloc (.cells #[.int .i64 4, .int .i64 n, .int .i64 0, .int .i64 0] 45))).cell? ⟨W.heap.size, 1, none⟩ = some (.int .i64 n) := cell_of_row _ _ 1 _ _ _ rA1_.out
      have A_2_ : ((W.alloc (.cells #[.int .i64 4, .int .i64 n, .int .i64 0, .int .i64 0] 45))).cell? ⟨W.heap.size, 2, none⟩ = some (.int .i64 0) := cell_of_row _ _ 2 _ _ _ rA1_.out
      have A_3_ : ((W.alloc (.cells #[.int .i64 4, .int .i64 n, .int .i64 0, .int .i64 0] 45))).cell? ⟨W.heap.size, 3, none⟩ = some (.int .i64 0) := cell_of_row _ _ 3 _ _ _ rA1_.out
      go_wp2_with fail
      go_at_call 50
      refine (rng_yes _ _ _ _ (by omega) (by omega)).mono ?_
      rintro e w1_ ⟨rfl, rfl⟩
      go_wp2
      go_ret
      exact ⟨true, rfl, iff_yes ⟨⟨n1, n2⟩, by omega⟩, G2_.out⟩
    · have hbb : (b == 0) = false := by simpa using hb
      have HB := Lib.hid hb
      clear hb
      go_enter Try.func33, Try.ntmps33
      have rA1_ := Lib.hid (show ((W.alloc (.cells #[.int .i64 4, .int .i64 n, .int .i64 0, .int .i64 b] 45))).heap[W.heap.size]? = some (.cells #[.int .i64 4, .int .i64 n, .int .i64 0, .int .i64 b] 45 (0, 0)) from by exact heap_alloc_new _ _)
      have G2_ := Lib.hid (show (W).grownBy ((W.alloc (.cells #[.int .i64 4, .int .i64 n, .int .i64 0, .int .i64 b] 45))) none from (gby_alloc (gby_refl _ _) _))
      have A_0_ : ((W.alloc (.cells #[.int .i64 4, .int .i64 n, .int .i64 0, .int .i64 b] 45))).cell? ⟨W.heap.size, 0, none⟩ = some (.int .i64 4) := cell_of_row _ _ 0 _ _ _ rA1_.out
      have A_1_ : ((W.alloc (.cells #[.int .i64 4, .int .i64 n, .int .i64 0, .int .i64 b] 45))).cell? ⟨W.heap.size, 1, none⟩ = some (.int .i64 n) := cell_of_row _ _ 1 _ _ _ rA1_.out
      have A_2_ : ((W.alloc (.cells #[.int .i64 4, .int .i64 n, .int .i64 0, .int .i64 b] 45))).cell? ⟨W.heap.size, 2, none⟩ = some (.int .i64 0) := cell_of_row _ _ 2 _ _ _ rA1_.out
      have A_3_ : ((W.alloc (.cells #[.int .i64 4, .int .i64 n, .int .i64 0, .int .i64 b] 45))).cell? ⟨W.heap.size, 3, none⟩ = some (.int .i64 b) := cell_of_row _ _ 3 _ _ _ rA1_.out
      go_wp2_with fail
      go_at_call 50
      refine (rng_yes _ _ _ _ (by omega) (by omega)).mono ?_
      rintro e w1_ ⟨rfl, rfl⟩
      go_wp2
      go_ret
      exact ⟨false, rfl, iff_no (fun q => by have q_ := q.2; have := HB.out; omega), G2_.out⟩
  have hkb4 : (k == 4) = false := by simpa using hk4
  have HK4 := Lib.hid hk4
  clear hk4
  go_enter Try.func33, Try.ntmps33
  have rA1_ := Lib.hid (show ((W.alloc (.cells #[.int .i64 k, .int .i64 n, .int .i64 a, .int .i64 b] 45))).heap[W.heap.size]? = some (.cells #[.int .i64 k, .int .i64 n, .int .i64 a, .int .i64 b] 45 (0, 0)) from by exact heap_alloc_new _ _)
  have G2_ := Lib.hid (show (W).grownBy ((W.alloc (.cells #[.int .i64 k, .int .i64 n, .int .i64 a, .int .i64 b] 45))) none from (gby_alloc (gby_refl _ _) _))
  have A_0_ : ((W.alloc (.cells #[.int .i64 k, .int .i64 n, .int .i64 a, .int .i64 b] 45))).cell? ⟨W.heap.size, 0, none⟩ = some (.int .i64 k) := cell_of_row _ _ 0 _ _ _ rA1_.out
  have A_1_ : ((W.alloc (.cells #[.int .i64 k, .int .i64 n, .int .i64 a, .int .i64 b] 45))).cell? ⟨W.heap.size, 1, none⟩ = some (.int .i64 n) := cell_of_row _ _ 1 _ _ _ rA1_.out
  have A_2_ : ((W.alloc (.cells #[.int .i64 k, .int .i64 n, .int .i64 a, .int .i64 b] 45))).cell? ⟨W.heap.size, 2, none⟩ = some (.int .i64 a) := cell_of_row _ _ 2 _ _ _ rA1_.out
  have A_3_ : ((W.alloc (.cells #[.int .i64 k, .int .i64 n, .int .i64 a, .int .i64 b] 45))).cell? ⟨W.heap.size, 3, none⟩ = some (.int .i64 b) := cell_of_row _ _ 3 _ _ _ rA1_.out
  go_wp2_with fail
  go_at_call 50
  refine (rng_yes _ _ _ _ (by omega) (by omega)).mono ?_
  rintro e w1_ ⟨rfl, rfl⟩
  go_wp2
  go_ret
  exact ⟨false, rfl, iff_no (fun q => by have q_ := q.2; have := HK1.out; have := HK2.out; have := HK3.out; have := HK4.out; omega), G2_.out⟩

theorem actOk_both (i0_0 i0_1 i0_2 i0_3 : Int) : ∃ br0 : Bool, (∀ (W : World), Calls Try.prog 31 #[.agg #[.int .i64 i0_0, .int .i64 i0_1, .int .i64 i0_2, .int .i64 i0_3]] W (ResSActOk br0 W)) ∧ ∀ (W : World), Calls Try.prog 33 #[.agg #[.int .i64 i0_0, .int .i64 i0_1, .int .i64 i0_2, .int .i64 i0_3]] W (ResIActOk br0 W) := by
  by_cases h : ActP i0_0 i0_1 i0_2 i0_3
  · exact ⟨true, fun W => (specAct W _ _ _ _).mono (bpost_yes h), fun W => (implAct W _ _ _ _).mono (bpost_yes h)⟩
  · exact ⟨false, fun W => (specAct W _ _ _ _).mono (bpost_no h), fun W => (implAct W _ _ _ _).mono (bpost_no h)⟩

end Go.Proofs.Ytjkjodcgpdhldaa
