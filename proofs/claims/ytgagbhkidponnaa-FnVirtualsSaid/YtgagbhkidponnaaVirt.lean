/-
  Virtual functions, on both sides.
-/
import Derived.Test.YtgagbhkidponnaaIdNum
import Derived.Test.YtgagbhkidponnaaQVirtual
import Derived.Deep.RegionHeld3
import Derived.Deep.QuietTactic
import Derived.Laws.EntriesVeiled
namespace Go.Proofs.Ytgagbhkidponnaa
open Go Go.RowKit
set_option linter.unusedVariables false

theorem rnga_yes {x a b : Int} (h1 : a ≤ x) (h2 : x ≤ b) (W : World) : Calls Try.prog 62 #[.int .i64 x, .int .i64 a, .int .i64 b] W (Ans (.bool true) W) :=
  (rng_yes x a b W h1 h2).mono (by rintro e w ⟨rfl, rfl⟩; exact ⟨rfl, Drew.refl _⟩)
theorem rnga_no {x a b : Int} (h : x < a ∨ b < x) (W : World) : Calls Try.prog 62 #[.int .i64 x, .int .i64 a, .int .i64 b] W (Ans (.bool false) W) :=
  (rng_no x a b W h).mono (by rintro e w ⟨rfl, rfl⟩; exact ⟨rfl, Drew.refl _⟩)
theorem ina_yes {x a b : Int} (h1 : a ≤ x) (h2 : x ≤ b) (W : World) : Calls Try.prog 75 #[.int .i64 x, .int .i64 a, .int .i64 b] W (Ans (.bool true) W) :=
  (in_yes x a b W h1 h2).mono (by rintro e w ⟨rfl, rfl⟩; exact ⟨rfl, Drew.refl _⟩)
theorem ina_no {x a b : Int} (h : x < a ∨ b < x) (W : World) : Calls Try.prog 75 #[.int .i64 x, .int .i64 a, .int .i64 b] W (Ans (.bool false) W) :=
  (in_no x a b W h).mono (by rintro e w ⟨rfl, rfl⟩; exact ⟨rfl, Drew.refl _⟩)

/-- a layout of virtual functions -/
def VOk (a s c : Int) : Prop := (1 ≤ a ∧ a ≤ 255) ∧ (1 ≤ s ∧ s ≤ 255) ∧ (0 ≤ c ∧ c ≤ 64)
theorem vok_no {a s c : Int} (h : ¬ VOk a s c) : (a < 1 ∨ 255 < a) ∨ ((1 ≤ a ∧ a ≤ 255) ∧ (s < 1 ∨ 255 < s)) ∨ ((1 ≤ a ∧ a ≤ 255) ∧ (1 ≤ s ∧ s ≤ 255) ∧ (c < 0 ∨ 64 < c)) := by unfold VOk at h; omega

set_option maxHeartbeats 1000000 in
theorem implVOk_yes (a s c : Int) (W : World) (h : VOk a s c) : Calls Try.prog 37 #[(vVirtual a s c)] W (AnsN (.bool true) W) := by
  obtain ⟨⟨a1, a2⟩, ⟨s1, s2⟩, ⟨c1, c2⟩⟩ := h
  unfold vVirtual
  go_enter Try.func37, Try.ntmps37
  have rA1_ := Lib.hid (show ((W.alloc (.cells #[.int .i64 a, .int .i64 s, .int .i64 c] 48))).heap[W.heap.size]? = some (.cells #[.int .i64 a, .int .i64 s, .int .i64 c] 48 (0, 0)) from by exact heap_alloc_new _ _)
  have G2_ := Lib.hid (show (W).grownBy ((W.alloc (.cells #[.int .i64 a, .int .i64 s, .int .i64 c] 48))) none from (gby_alloc (gby_refl _ _) _))
  have A_0_ : ((W.alloc (.cells #[.int .i64 a, .int .i64 s, .int .i64 c] 48))).cell? ⟨W.heap.size, 0, none⟩ = some (.int .i64 a) := cell_of_row _ _ 0 _ _ _ rA1_.out
  have A_1_ : ((W.alloc (.cells #[.int .i64 a, .int .i64 s, .int .i64 c] 48))).cell? ⟨W.heap.size, 1, none⟩ = some (.int .i64 s) := cell_of_row _ _ 1 _ _ _ rA1_.out
  have A_2_ : ((W.alloc (.cells #[.int .i64 a, .int .i64 s, .int .i64 c] 48))).cell? ⟨W.heap.size, 2, none⟩ = some (.int .i64 c) := cell_of_row _ _ 2 _ _ _ rA1_.out
  go_wp2_with fail
  go_at_call 62
  refine (rng_yes _ _ _ _ (by omega) (by omega)).mono ?_
  rintro e w1_ ⟨rfl, rfl⟩
  go_wp2_with fail
  go_at_call 62
  refine (rng_yes _ _ _ _ (by omega) (by omega)).mono ?_
  rintro e w2_ ⟨rfl, rfl⟩
  go_wp2_with fail
  go_at_call 62
  refine (rng_yes _ _ _ _ (by omega) (by omega)).mono ?_
  rintro e w3_ ⟨rfl, rfl⟩
  go_wp2
  go_ret
  exact ⟨rfl, G2_.out⟩
set_option maxHeartbeats 1000000 in
theorem implVOk_no (a s c : Int) (W : World) (h : ¬ VOk a s c) : Calls Try.prog 37 #[(vVirtual a s c)] W (AnsN (.bool false) W) := by
  unfold vVirtual
  rcases vok_no h with q | ⟨⟨a1, a2⟩, q⟩ | ⟨⟨a1, a2⟩, ⟨s1, s2⟩, q⟩ <;> have HN := Lib.hid q <;> clear q h
  · skip
    go_enter Try.func37, Try.ntmps37
    have rA1_ := Lib.hid (show ((W.alloc (.cells #[.int .i64 a, .int .i64 s, .int .i64 c] 48))).heap[W.heap.size]? = some (.cells #[.int .i64 a, .int .i64 s, .int .i64 c] 48 (0, 0)) from by exact heap_alloc_new _ _)
    have G2_ := Lib.hid (show (W).grownBy ((W.alloc (.cells #[.int .i64 a, .int .i64 s, .int .i64 c] 48))) none from (gby_alloc (gby_refl _ _) _))
    have A_0_ : ((W.alloc (.cells #[.int .i64 a, .int .i64 s, .int .i64 c] 48))).cell? ⟨W.heap.size, 0, none⟩ = some (.int .i64 a) := cell_of_row _ _ 0 _ _ _ rA1_.out
    have A_1_ : ((W.alloc (.cells #[.int .i64 a, .int .i64 s, .int .i64 c] 48))).cell? ⟨W.heap.size, 1, none⟩ = some (.int .i64 s) := cell_of_row _ _ 1 _ _ _ rA1_.out
    have A_2_ : ((W.alloc (.cells #[.int .i64 a, .int .i64 s, .int .i64 c] 48))).cell? ⟨W.heap.size, 2, none⟩ = some (.int .i64 c) := cell_of_row _ _ 2 _ _ _ rA1_.out
    go_wp2_with fail
    go_at_call 62
    refine (rng_no _ _ _ _ HN.out).mono ?_
    rintro e w1_ ⟨rfl, rfl⟩
    go_wp2
    go_ret
    exact ⟨rfl, G2_.out⟩
  · skip
    go_enter Try.func37, Try.ntmps37
    have rA1_ := Lib.hid (show ((W.alloc (.cells #[.int .i64 a, .int .i64 s, .int .i64 c] 48))).heap[W.heap.size]? = some (.cells #[.int .i64 a, .int .i64 s, .int .i64 c] 48 (0, 0)) from by exact heap_alloc_new _ _)
    have G2_ := Lib.hid (show (W).grownBy ((W.alloc (.cells #[.int .i64 a, .int .i64 s, .int .i64 c] 48))) none from (gby_alloc (gby_refl _ _) _))
    have A_0_ : ((W.alloc (.cells #[.int .i64 a, .int .i64 s, .int .i64 c] 48))).cell? ⟨W.heap.size, 0, none⟩ = some (.int .i64 a) := cell_of_row _ _ 0 _ _ _ rA1_.out
    have A_1_ : ((W.alloc (.cells #[.int .i64 a, .int .i64 s, .int .i64 c] 48))).cell? ⟨W.heap.size, 1, none⟩ = some (.int .i64 s) := cell_of_row _ _ 1 _ _ _ rA1_.out
    have A_2_ : ((W.alloc (.cells #[.int .i64 a, .int .i64 s, .int .i64 c] 48))).cell? ⟨W.heap.size, 2, none⟩ = some (.int .i64 c) := cell_of_row _ _ 2 _ _ _ rA1_.out
    go_wp2_with fail
    go_at_call 62
    refine (rng_yes _ _ _ _ (by omega) (by omega)).mono ?_
    rintro e w1_ ⟨rfl, rfl⟩
    go_wp2_with fail
    go_at_call 62
    refine (rng_no _ _ _ _ HN.out).mono ?_
    rintro e w2_ ⟨rfl, rfl⟩
    go_wp2
    go_ret
    exact ⟨rfl, G2_.out⟩
  · skip
    go_enter Try.func37, Try.ntmps37
    have rA1_ := Lib.hid (show ((W.alloc (.cells #[.int .i64 a, .int .i64 s, .int .i64 c] 48))).heap[W.heap.size]? = some (.cells #[.int .i64 a, .int .i64 s, .int .i64 c] 48 (0, 0)) from by exact heap_alloc_new _ _)
    have G2_ := Lib.hid (show (W).grownBy ((W.alloc (.cells #[.int .i64 a, .int .i64 s, .int .i64 c] 48))) none from (gby_alloc (gby_refl _ _) _))
    have A_0_ : ((W.alloc (.cells #[.int .i64 a, .int .i64 s, .int .i64 c] 48))).cell? ⟨W.heap.size, 0, none⟩ = some (.int .i64 a) := cell_of_row _ _ 0 _ _ _ rA1_.out
    have A_1_ : ((W.alloc (.cells #[.int .i64 a, .int .i64 s, .int .i64 c] 48))).cell? ⟨W.heap.size, 1, none⟩ = some (.int .i64 s) := cell_of_row _ _ 1 _ _ _ rA1_.out
    have A_2_ : ((W.alloc (.cells #[.int .i64 a, .int .i64 s, .int .i64 c] 48))).cell? ⟨W.heap.size, 2, none⟩ = some (.int .i64 c) := cell_of_row _ _ 2 _ _ _ rA1_.out
    go_wp2_with fail
    go_at_call 62
    refine (rng_yes _ _ _ _ (by omega) (by omega)).mono ?_
    rintro e w1_ ⟨rfl, rfl⟩
    go_wp2_with fail
    go_at_call 62
    refine (rng_yes _ _ _ _ (by omega) (by omega)).mono ?_
    rintro e w2_ ⟨rfl, rfl⟩
    go_wp2_with fail
    go_at_call 62
    refine (rng_no _ _ _ _ HN.out).mono ?_
    rintro e w3_ ⟨rfl, rfl⟩
    go_wp2
    go_ret
    exact ⟨rfl, G2_.out⟩

/-- the id of a virtual function -/
def VIn (b a s c k : Int) : Prop := (0 ≤ b ∧ b ≤ 255) ∧ VOk a s c ∧ (0 ≤ k ∧ k ≤ c - 1) ∧ b + a + k * s ≤ 255
theorem vin_no {b a s c k : Int} (h : ¬ VIn b a s c k) : (b < 0 ∨ 255 < b) ∨ ((0 ≤ b ∧ b ≤ 255) ∧ ¬ VOk a s c) ∨ ((0 ≤ b ∧ b ≤ 255) ∧ VOk a s c ∧ (k < 0 ∨ c - 1 < k)) ∨ ((0 ≤ b ∧ b ≤ 255) ∧ VOk a s c ∧ (0 ≤ k ∧ k ≤ c - 1) ∧ 255 < b + a + k * s) := by
  unfold VIn at h
  by_cases h1 : 0 ≤ b ∧ b ≤ 255
  · by_cases h2 : VOk a s c
    · by_cases h3 : 0 ≤ k ∧ k ≤ c - 1
      · exact .inr (.inr (.inr ⟨h1, h2, h3, by
          rcases Int.lt_or_le 255 (b + a + k * s) with q | q
          · exact q
          · exact absurd ⟨h1, h2, h3, q⟩ h⟩))
      · exact .inr (.inr (.inl ⟨h1, h2, by omega⟩))
    · exact .inr (.inl ⟨h1, h2⟩)
  · exact .inl (by omega)
theorem mul_bound {k s : Int} (h0 : 0 ≤ k) (h1 : k ≤ 63) (s1 : 1 ≤ s) (s2 : s ≤ 255) : 0 ≤ k * s ∧ k * s ≤ 16065 := by
  refine ⟨Int.mul_nonneg h0 (by omega), ?_⟩
  have h2 : k * s ≤ 63 * s := Int.mul_le_mul_of_nonneg_right h1 (by omega)
  omega

set_option maxHeartbeats 1000000 in
theorem implVId_b (b a s c k : Int) (W : World) (hn : b < 0 ∨ 255 < b) : Calls Try.prog 36 #[.int .i64 b, (vVirtual a s c), .int .i64 k] W (AnsN (.int .i64 (-1)) W) := by
  have HN := Lib.hid hn
  clear hn
  unfold vVirtual
  go_enter Try.func36, Try.ntmps36
  have rA1_ := Lib.hid (show ((W.alloc (.cells #[.int .i64 a, .int .i64 s, .int .i64 c] 48))).heap[W.heap.size]? = some (.cells #[.int .i64 a, .int .i64 s, .int .i64 c] 48 (0, 0)) from by exact heap_alloc_new _ _)
  have G2_ := Lib.hid (show (W).grownBy ((W.alloc (.cells #[.int .i64 a, .int .i64 s, .int .i64 c] 48))) none from (gby_alloc (gby_refl _ _) _))
  have A_0_ : ((W.alloc (.cells #[.int .i64 a, .int .i64 s, .int .i64 c] 48))).cell? ⟨W.heap.size, 0, none⟩ = some (.int .i64 a) := cell_of_row _ _ 0 _ _ _ rA1_.out
  have A_1_ : ((W.alloc (.cells #[.int .i64 a, .int .i64 s, .int .i64 c] 48))).cell? ⟨W.heap.size, 1, none⟩ = some (.int .i64 s) := cell_of_row _ _ 1 _ _ _ rA1_.out
  have A_2_ : ((W.alloc (.cells #[.int .i64 a, .int .i64 s, .int .i64 c] 48))).cell? ⟨W.heap.size, 2, none⟩ = some (.int .i64 c) := cell_of_row _ _ 2 _ _ _ rA1_.out
  go_wp2_with fail
  go_at_call 66
  refine (implIsId_no _ _ HN.out).mono ?_
  rintro e w1 ⟨rfl, hd⟩
  have g := hd.gby none
  clear hd
  clear A_0_ A_1_ A_2_
  have rA3_ := Lib.hid (show (w1).heap[W.heap.size]? = some (.cells #[.int .i64 a, .int .i64 s, .int .i64 c] 48 (0, 0)) from row_held g rA1_.out)
  clear rA1_
  have G4_ := Lib.hid (show (W).grownBy (w1) none from gby_trans G2_.out g)
  clear g
  have A_0_ : (w1).cell? ⟨W.heap.size, 0, none⟩ = some (.int .i64 a) := cell_of_row _ _ 0 _ _ _ rA3_.out
  have A_1_ : (w1).cell? ⟨W.heap.size, 1, none⟩ = some (.int .i64 s) := cell_of_row _ _ 1 _ _ _ rA3_.out
  have A_2_ : (w1).cell? ⟨W.heap.size, 2, none⟩ = some (.int .i64 c) := cell_of_row _ _ 2 _ _ _ rA3_.out
  go_wp2
  go_ret
  exact ⟨rfl, G4_.out⟩

set_option maxHeartbeats 1000000 in
theorem implVId_v (b a s c k : Int) (W : World) (h0 : 0 ≤ b) (h1 : b ≤ 255) (hv : ¬ VOk a s c) : Calls Try.prog 36 #[.int .i64 b, (vVirtual a s c), .int .i64 k] W (AnsN (.int .i64 (-1)) W) := by
  have HV := Lib.hid hv
  clear hv
  have HW := Lib.hid (fun W => implVOk_no a s c W HV.out)
  unfold vVirtual at HW ⊢
  go_enter Try.func36, Try.ntmps36
  have rA1_ := Lib.hid (show ((W.alloc (.cells #[.int .i64 a, .int .i64 s, .int .i64 c] 48))).heap[W.heap.size]? = some (.cells #[.int .i64 a, .int .i64 s, .int .i64 c] 48 (0, 0)) from by exact heap_alloc_new _ _)
  have G2_ := Lib.hid (show (W).grownBy ((W.alloc (.cells #[.int .i64 a, .int .i64 s, .int .i64 c] 48))) none from (gby_alloc (gby_refl _ _) _))
  have A_0_ : ((W.alloc (.cells #[.int .i64 a, .int .i64 s, .int .i64 c] 48))).cell? ⟨W.heap.size, 0, none⟩ = some (.int .i64 a) := cell_of_row _ _ 0 _ _ _ rA1_.out
  have A_1_ : ((W.alloc (.cells #[.int .i64 a, .int .i64 s, .int .i64 c] 48))).cell? ⟨W.heap.size, 1, none⟩ = some (.int .i64 s) := cell_of_row _ _ 1 _ _ _ rA1_.out
  have A_2_ : ((W.alloc (.cells #[.int .i64 a, .int .i64 s, .int .i64 c] 48))).cell? ⟨W.heap.size, 2, none⟩ = some (.int .i64 c) := cell_of_row _ _ 2 _ _ _ rA1_.out
  go_wp2_with fail
  go_at_call 66
  refine (implIsId_yes _ _ (by omega) (by omega)).mono ?_
  rintro e w1 ⟨rfl, hd⟩
  have g := hd.gby none
  clear hd
  clear A_0_ A_1_ A_2_
  have rA3_ := Lib.hid (show (w1).heap[W.heap.size]? = some (.cells #[.int .i64 a, .int .i64 s, .int .i64 c] 48 (0, 0)) from row_held g rA1_.out)
  clear rA1_
  have G4_ := Lib.hid (show (W).grownBy (w1) none from gby_trans G2_.out g)
  clear g
  have A_0_ : (w1).cell? ⟨W.heap.size, 0, none⟩ = some (.int .i64 a) := cell_of_row _ _ 0 _ _ _ rA3_.out
  have A_1_ : (w1).cell? ⟨W.heap.size, 1, none⟩ = some (.int .i64 s) := cell_of_row _ _ 1 _ _ _ rA3_.out
  have A_2_ : (w1).cell? ⟨W.heap.size, 2, none⟩ = some (.int .i64 c) := cell_of_row _ _ 2 _ _ _ rA3_.out
  go_wp2_with fail
  go_at_call 37
  refine (HW.out _).mono ?_
  rintro e w2 ⟨rfl, g⟩
  clear A_0_ A_1_ A_2_
  have rA5_ := Lib.hid (show (w2).heap[W.heap.size]? = some (.cells #[.int .i64 a, .int .i64 s, .int .i64 c] 48 (0, 0)) from row_held g rA3_.out)
  clear rA3_
  have G6_ := Lib.hid (show (W).grownBy (w2) none from gby_trans G4_.out g)
  clear g
  have A_0_ : (w2).cell? ⟨W.heap.size, 0, none⟩ = some (.int .i64 a) := cell_of_row _ _ 0 _ _ _ rA5_.out
  have A_1_ : (w2).cell? ⟨W.heap.size, 1, none⟩ = some (.int .i64 s) := cell_of_row _ _ 1 _ _ _ rA5_.out
  have A_2_ : (w2).cell? ⟨W.heap.size, 2, none⟩ = some (.int .i64 c) := cell_of_row _ _ 2 _ _ _ rA5_.out
  go_wp2
  go_ret
  exact ⟨rfl, G6_.out⟩

set_option maxHeartbeats 1000000 in
theorem implVId_k (b a s c k : Int) (W : World) (h0 : 0 ≤ b) (h1 : b ≤ 255) (hv : VOk a s c) (hn : k < 0 ∨ c - 1 < k) : Calls Try.prog 36 #[.int .i64 b, (vVirtual a s c), .int .i64 k] W (AnsN (.int .i64 (-1)) W) := by
  have HN := Lib.hid hn
  clear hn
  have HV := Lib.hid hv
  obtain ⟨⟨a1, a2⟩, ⟨s1, s2⟩, ⟨c1, c2⟩⟩ := hv
  have HW := Lib.hid (fun W => implVOk_yes a s c W HV.out)
  have hc1 : IntKind.i64.wrap (c - 1) = c - 1 := IntWalk.i64_in _ (by omega)
  unfold vVirtual at HW ⊢
  go_enter Try.func36, Try.ntmps36
  have rA1_ := Lib.hid (show ((W.alloc (.cells #[.int .i64 a, .int .i64 s, .int .i64 c] 48))).heap[W.heap.size]? = some (.cells #[.int .i64 a, .int .i64 s, .int .i64 c] 48 (0, 0)) from by exact heap_alloc_new _ _)
  have G2_ := Lib.hid (show (W).grownBy ((W.alloc (.cells #[.int .i64 a, .int .i64 s, .int .i64 c] 48))) none from (gby_alloc (gby_refl _ _) _))
  have A_0_ : ((W.alloc (.cells #[.int .i64 a, .int .i64 s, .int .i64 c] 48))).cell? ⟨W.heap.size, 0, none⟩ = some (.int .i64 a) := cell_of_row _ _ 0 _ _ _ rA1_.out
  have A_1_ : ((W.alloc (.cells #[.int .i64 a, .int .i64 s, .int .i64 c] 48))).cell? ⟨W.heap.size, 1, none⟩ = some (.int .i64 s) := cell_of_row _ _ 1 _ _ _ rA1_.out
  have A_2_ : ((W.alloc (.cells #[.int .i64 a, .int .i64 s, .int .i64 c] 48))).cell? ⟨W.heap.size, 2, none⟩ = some (.int .i64 c) := cell_of_row _ _ 2 _ _ _ rA1_.out
  go_wp2_with fail
  go_at_call 66
  refine (implIsId_yes _ _ (by omega) (by omega)).mono ?_
  rintro e w1 ⟨rfl, hd⟩
  have g := hd.gby none
  clear hd
  clear A_0_ A_1_ A_2_
  have rA3_ := Lib.hid (show (w1).heap[W.heap.size]? = some (.cells #[.int .i64 a, .int .i64 s, .int .i64 c] 48 (0, 0)) from row_held g rA1_.out)
  clear rA1_
  have G4_ := Lib.hid (show (W).grownBy (w1) none from gby_trans G2_.out g)
  clear g
  have A_0_ : (w1).cell? ⟨W.heap.size, 0, none⟩ = some (.int .i64 a) := cell_of_row _ _ 0 _ _ _ rA3_.out
  have A_1_ : (w1).cell? ⟨W.heap.size, 1, none⟩ = some (.int .i64 s) := cell_of_row _ _ 1 _ _ _ rA3_.out
  have A_2_ : (w1).cell? ⟨W.heap.size, 2, none⟩ = some (.int .i64 c) := cell_of_row _ _ 2 _ _ _ rA3_.out
  go_wp2_with fail
  go_at_call 37
  refine (HW.out _).mono ?_
  rintro e w2 ⟨rfl, g⟩
  clear A_0_ A_1_ A_2_
  have rA5_ := Lib.hid (show (w2).heap[W.heap.size]? = some (.cells #[.int .i64 a, .int .i64 s, .int .i64 c] 48 (0, 0)) from row_held g rA3_.out)
  clear rA3_
  have G6_ := Lib.hid (show (W).grownBy (w2) none from gby_trans G4_.out g)
  clear g
  have A_0_ : (w2).cell? ⟨W.heap.size, 0, none⟩ = some (.int .i64 a) := cell_of_row _ _ 0 _ _ _ rA5_.out
  have A_1_ : (w2).cell? ⟨W.heap.size, 1, none⟩ = some (.int .i64 s) := cell_of_row _ _ 1 _ _ _ rA5_.out
  have A_2_ : (w2).cell? ⟨W.heap.size, 2, none⟩ = some (.int .i64 c) := cell_of_row _ _ 2 _ _ _ rA5_.out
  go_wp2_with fail
  go_at_call 62
  refine (rng_no _ _ _ _ HN.out).mono ?_
  rintro e w3_ ⟨rfl, rfl⟩
  go_wp2
  go_ret
  exact ⟨rfl, G6_.out⟩

/-- a layout: the function that gives the offsets, and its variable -/
def LayP (a s c : Int) (W : World) (e : Ending) (w' : World) : Prop := e = .returned (.agg #[.func (.func 93) #[] #[.pointer (some ⟨W.heap.size, 0, none⟩)]]) ∧ w'.heap[W.heap.size]? = some (.cells #[.int .i64 a, .int .i64 s, .int .i64 c] 48 (0, 0)) ∧ W.grownBy w' none
theorem run_layoutField (w : World) (v : Value) : (Instr.field 90 (.agg #[v]) 0).run Try.prog w = .ok v w := by
  simp [Instr.field, run_underlying Try.underlying90, part, asAgg, isAgg, go_sem]
theorem layout_any (a s c : Int) (W : World) : Calls Try.prog 67 #[.agg #[.int .i64 a, .int .i64 s, .int .i64 c]] W (LayP a s c W) := by
  go_enter Try.func67, Try.ntmps67
  go_wp2
  exact bodyPost_ret (v := .agg #[.func (.func 93) #[] #[.pointer (some ⟨W.heap.size, 0, none⟩)]]) (by simp [results, go_sem]) rfl ⟨rfl, by rw [heap_alloc_old _ _ (by simp only [World.size_alloc]; omega)]; exact heap_alloc_new _ _, gby_alloc (gby_alloc (gby_refl _ _) _) _⟩
theorem offset_any (a s c k : Int) (b : Nat) (W : World) (h : W.heap[b]? = some (.cells #[.int .i64 a, .int .i64 s, .int .i64 c] 48 (0, 0))) (a1 : 1 ≤ a) (a2 : a ≤ 255) (m1 : 0 ≤ k * s) (m2 : k * s ≤ 16065) : Calls Try.prog 93 #[.int .i64 k, .pointer (some ⟨b, 0, none⟩)] W (Ans (.int .i64 (a + k * s)) W) := by
  have c0 : W.cell? ⟨b, 0, none⟩ = some (.int .i64 a) := cell_of_row W b 0 _ _ _ h
  have c1 : W.cell? ⟨b, 1, none⟩ = some (.int .i64 s) := cell_of_row W b 1 _ _ _ h
  clear h
  go_enter Try.func93, Try.ntmps93
  go_wp2
  go_ret
  exact ⟨rfl, Drew.refl _⟩

set_option maxHeartbeats 1000000 in
theorem implVId_yes (b a s c k : Int) (W : World) (h0 : 0 ≤ b) (h1 : b ≤ 255) (hv : VOk a s c) (k0 : 0 ≤ k) (k1 : k ≤ c - 1) (hx : b + a + k * s ≤ 255) : Calls Try.prog 36 #[.int .i64 b, (vVirtual a s c), .int .i64 k] W (AnsN (.int .i64 (b + a + k * s)) W) := by
  have HV := Lib.hid hv
  obtain ⟨⟨a1, a2⟩, ⟨s1, s2⟩, ⟨c1, c2⟩⟩ := hv
  have HW := Lib.hid (fun W => implVOk_yes a s c W HV.out)
  have hc1 : IntKind.i64.wrap (c - 1) = c - 1 := IntWalk.i64_in _ (by omega)
  unfold vVirtual at HW ⊢
  obtain ⟨m1, m2⟩ := mul_bound k0 (show k ≤ 63 by omega) s1 s2
  go_enter Try.func36, Try.ntmps36
  have rA1_ := Lib.hid (show ((W.alloc (.cells #[.int .i64 a, .int .i64 s, .int .i64 c] 48))).heap[W.heap.size]? = some (.cells #[.int .i64 a, .int .i64 s, .int .i64 c] 48 (0, 0)) from by exact heap_alloc_new _ _)
  have G2_ := Lib.hid (show (W).grownBy ((W.alloc (.cells #[.int .i64 a, .int .i64 s, .int .i64 c] 48))) none from (gby_alloc (gby_refl _ _) _))
  have A_0_ : ((W.alloc (.cells #[.int .i64 a, .int .i64 s, .int .i64 c] 48))).cell? ⟨W.heap.size, 0, none⟩ = some (.int .i64 a) := cell_of_row _ _ 0 _ _ _ rA1_.out
  have A_1_ : ((W.alloc (.cells #[.int .i64 a, .int .i64 s, .int .i64 c] 48))).cell? ⟨W.heap.size, 1, none⟩ = some (.int .i64 s) := cell_of_row _ _ 1 _ _ _ rA1_.out
  have A_2_ : ((W.alloc (.cells #[.int .i64 a, .int .i64 s, .int .i64 c] 48))).cell? ⟨W.heap.size, 2, none⟩ = some (.int .i64 c) := cell_of_row _ _ 2 _ _ _ rA1_.out
  go_wp2_with fail
  go_at_call 66
  refine (implIsId_yes _ _ (by omega) (by omega)).mono ?_
  rintro e w1 ⟨rfl, hd⟩
  have g := hd.gby none
  clear hd
  clear A_0_ A_1_ A_2_
  have rA3_ := Lib.hid (show (w1).heap[W.heap.size]? = some (.cells #[.int .i64 a, .int .i64 s, .int .i64 c] 48 (0, 0)) from row_held g rA1_.out)
  clear rA1_
  have G4_ := Lib.hid (show (W).grownBy (w1) none from gby_trans G2_.out g)
  clear g
  have A_0_ : (w1).cell? ⟨W.heap.size, 0, none⟩ = some (.int .i64 a) := cell_of_row _ _ 0 _ _ _ rA3_.out
  have A_1_ : (w1).cell? ⟨W.heap.size, 1, none⟩ = some (.int .i64 s) := cell_of_row _ _ 1 _ _ _ rA3_.out
  have A_2_ : (w1).cell? ⟨W.heap.size, 2, none⟩ = some (.int .i64 c) := cell_of_row _ _ 2 _ _ _ rA3_.out
  go_wp2_with fail
  go_at_call 37
  refine (HW.out _).mono ?_
  rintro e w2 ⟨rfl, g⟩
  clear A_0_ A_1_ A_2_
  have rA5_ := Lib.hid (show (w2).heap[W.heap.size]? = some (.cells #[.int .i64 a, .int .i64 s, .int .i64 c] 48 (0, 0)) from row_held g rA3_.out)
  clear rA3_
  have G6_ := Lib.hid (show (W).grownBy (w2) none from gby_trans G4_.out g)
  clear g
  have A_0_ : (w2).cell? ⟨W.heap.size, 0, none⟩ = some (.int .i64 a) := cell_of_row _ _ 0 _ _ _ rA5_.out
  have A_1_ : (w2).cell? ⟨W.heap.size, 1, none⟩ = some (.int .i64 s) := cell_of_row _ _ 1 _ _ _ rA5_.out
  have A_2_ : (w2).cell? ⟨W.heap.size, 2, none⟩ = some (.int .i64 c) := cell_of_row _ _ 2 _ _ _ rA5_.out
  go_wp2_with fail
  go_at_call 62
  refine (rng_yes _ _ _ _ (by omega) (by omega)).mono ?_
  rintro e w3_ ⟨rfl, rfl⟩
  go_wp2_with fail
  go_at_call 67
  refine (layout_any a s c _).mono ?_
  rintro e w4 ⟨rfl, hl_, g⟩
  clear A_0_ A_1_ A_2_
  have rA7_ := Lib.hid (show (w4).heap[W.heap.size]? = some (.cells #[.int .i64 a, .int .i64 s, .int .i64 c] 48 (0, 0)) from row_held g rA5_.out)
  clear rA5_
  have G8_ := Lib.hid (show (W).grownBy (w4) none from gby_trans G6_.out g)
  have rL9_ := Lib.hid (show (w4).heap[w2.heap.size]? = some (.cells #[.int .i64 a, .int .i64 s, .int .i64 c] 48 (0, 0)) from hl_)
  clear g hl_
  have A_0_ : (w4).cell? ⟨W.heap.size, 0, none⟩ = some (.int .i64 a) := cell_of_row _ _ 0 _ _ _ rA7_.out
  have A_1_ : (w4).cell? ⟨W.heap.size, 1, none⟩ = some (.int .i64 s) := cell_of_row _ _ 1 _ _ _ rA7_.out
  have A_2_ : (w4).cell? ⟨W.heap.size, 2, none⟩ = some (.int .i64 c) := cell_of_row _ _ 2 _ _ _ rA7_.out
  have L_0_ : (w4).cell? ⟨w2.heap.size, 0, none⟩ = some (.int .i64 a) := cell_of_row _ _ 0 _ _ _ rL9_.out
  have L_1_ : (w4).cell? ⟨w2.heap.size, 1, none⟩ = some (.int .i64 s) := cell_of_row _ _ 1 _ _ _ rL9_.out
  have L_2_ : (w4).cell? ⟨w2.heap.size, 2, none⟩ = some (.int .i64 c) := cell_of_row _ _ 2 _ _ _ rL9_.out
  have hlf_ := run_layoutField w4 (.func (.func 93) #[] #[.pointer (some ⟨w2.heap.size, 0, none⟩)])
  go_wp2_with fail
  go_at_call 93
  refine (offset_any a s c k _ _ rL9_.out a1 a2 m1 m2).mono ?_
  rintro e w5 ⟨rfl, hd⟩
  have g := hd.gby none
  clear hd
  clear A_0_ A_1_ A_2_ L_0_ L_1_ L_2_
  have rA10_ := Lib.hid (show (w5).heap[W.heap.size]? = some (.cells #[.int .i64 a, .int .i64 s, .int .i64 c] 48 (0, 0)) from row_held g rA7_.out)
  clear rA7_
  have rL11_ := Lib.hid (show (w5).heap[w2.heap.size]? = some (.cells #[.int .i64 a, .int .i64 s, .int .i64 c] 48 (0, 0)) from row_held g rL9_.out)
  clear rL9_
  have G12_ := Lib.hid (show (W).grownBy (w5) none from gby_trans G8_.out g)
  clear g
  have A_0_ : (w5).cell? ⟨W.heap.size, 0, none⟩ = some (.int .i64 a) := cell_of_row _ _ 0 _ _ _ rA10_.out
  have A_1_ : (w5).cell? ⟨W.heap.size, 1, none⟩ = some (.int .i64 s) := cell_of_row _ _ 1 _ _ _ rA10_.out
  have A_2_ : (w5).cell? ⟨W.heap.size, 2, none⟩ = some (.int .i64 c) := cell_of_row _ _ 2 _ _ _ rA10_.out
  have L_0_ : (w5).cell? ⟨w2.heap.size, 0, none⟩ = some (.int .i64 a) := cell_of_row _ _ 0 _ _ _ rL11_.out
  have L_1_ : (w5).cell? ⟨w2.heap.size, 1, none⟩ = some (.int .i64 s) := cell_of_row _ _ 1 _ _ _ rL11_.out
  have L_2_ : (w5).cell? ⟨w2.heap.size, 2, none⟩ = some (.int .i64 c) := cell_of_row _ _ 2 _ _ _ rL11_.out
  go_wp2_with fail
  go_at_call 66
  refine (implIsId_yes _ _ (by omega) (by omega)).mono ?_
  rintro e w6 ⟨rfl, hd⟩
  have g := hd.gby none
  clear hd
  clear A_0_ A_1_ A_2_ L_0_ L_1_ L_2_
  have rA13_ := Lib.hid (show (w6).heap[W.heap.size]? = some (.cells #[.int .i64 a, .int .i64 s, .int .i64 c] 48 (0, 0)) from row_held g rA10_.out)
  clear rA10_
  have rL14_ := Lib.hid (show (w6).heap[w2.heap.size]? = some (.cells #[.int .i64 a, .int .i64 s, .int .i64 c] 48 (0, 0)) from row_held g rL11_.out)
  clear rL11_
  have G15_ := Lib.hid (show (W).grownBy (w6) none from gby_trans G12_.out g)
  clear g
  have A_0_ : (w6).cell? ⟨W.heap.size, 0, none⟩ = some (.int .i64 a) := cell_of_row _ _ 0 _ _ _ rA13_.out
  have A_1_ : (w6).cell? ⟨W.heap.size, 1, none⟩ = some (.int .i64 s) := cell_of_row _ _ 1 _ _ _ rA13_.out
  have A_2_ : (w6).cell? ⟨W.heap.size, 2, none⟩ = some (.int .i64 c) := cell_of_row _ _ 2 _ _ _ rA13_.out
  have L_0_ : (w6).cell? ⟨w2.heap.size, 0, none⟩ = some (.int .i64 a) := cell_of_row _ _ 0 _ _ _ rL14_.out
  have L_1_ : (w6).cell? ⟨w2.heap.size, 1, none⟩ = some (.int .i64 s) := cell_of_row _ _ 1 _ _ _ rL14_.out
  have L_2_ : (w6).cell? ⟨w2.heap.size, 2, none⟩ = some (.int .i64 c) := cell_of_row _ _ 2 _ _ _ rL14_.out
  go_wp2
  go_ret
  exact ⟨ret_i64 (by omega), G15_.out⟩

set_option maxHeartbeats 1000000 in
theorem implVId_out (b a s c k : Int) (W : World) (h0 : 0 ≤ b) (h1 : b ≤ 255) (hv : VOk a s c) (k0 : 0 ≤ k) (k1 : k ≤ c - 1) (hx : 255 < b + a + k * s) : Calls Try.prog 36 #[.int .i64 b, (vVirtual a s c), .int .i64 k] W (AnsN (.int .i64 (-1)) W) := by
  have HV := Lib.hid hv
  obtain ⟨⟨a1, a2⟩, ⟨s1, s2⟩, ⟨c1, c2⟩⟩ := hv
  have HW := Lib.hid (fun W => implVOk_yes a s c W HV.out)
  have hc1 : IntKind.i64.wrap (c - 1) = c - 1 := IntWalk.i64_in _ (by omega)
  unfold vVirtual at HW ⊢
  obtain ⟨m1, m2⟩ := mul_bound k0 (show k ≤ 63 by omega) s1 s2
  go_enter Try.func36, Try.ntmps36
  have rA1_ := Lib.hid (show ((W.alloc (.cells #[.int .i64 a, .int .i64 s, .int .i64 c] 48))).heap[W.heap.size]? = some (.cells #[.int .i64 a, .int .i64 s, .int .i64 c] 48 (0, 0)) from by exact heap_alloc_new _ _)
  have G2_ := Lib.hid (show (W).grownBy ((W.alloc (.cells #[.int .i64 a, .int .i64 s, .int .i64 c] 48))) none from (gby_alloc (gby_refl _ _) _))
  have A_0_ : ((W.alloc (.cells #[.int .i64 a, .int .i64 s, .int .i64 c] 48))).cell? ⟨W.heap.size, 0, none⟩ = some (.int .i64 a) := cell_of_row _ _ 0 _ _ _ rA1_.out
  have A_1_ : ((W.alloc (.cells #[.int .i64 a, .int .i64 s, .int .i64 c] 48))).cell? ⟨W.heap.size, 1, none⟩ = some (.int .i64 s) := cell_of_row _ _ 1 _ _ _ rA1_.out
  have A_2_ : ((W.alloc (.cells #[.int .i64 a, .int .i64 s, .int .i64 c] 48))).cell? ⟨W.heap.size, 2, none⟩ = some (.int .i64 c) := cell_of_row _ _ 2 _ _ _ rA1_.out
  go_wp2_with fail
  go_at_call 66
  refine (implIsId_yes _ _ (by omega) (by omega)).mono ?_
  rintro e w1 ⟨rfl, hd⟩
  have g := hd.gby none
  clear hd
  clear A_0_ A_1_ A_2_
  have rA3_ := Lib.hid (show (w1).heap[W.heap.size]? = some (.cells #[.int .i64 a, .int .i64 s, .int .i64 c] 48 (0, 0)) from row_held g rA1_.out)
  clear rA1_
  have G4_ := Lib.hid (show (W).grownBy (w1) none from gby_trans G2_.out g)
  clear g
  have A_0_ : (w1).cell? ⟨W.heap.size, 0, none⟩ = some (.int .i64 a) := cell_of_row _ _ 0 _ _ _ rA3_.out
  have A_1_ : (w1).cell? ⟨W.heap.size, 1, none⟩ = some (.int .i64 s) := cell_of_row _ _ 1 _ _ _ rA3_.out
  have A_2_ : (w1).cell? ⟨W.heap.size, 2, none⟩ = some (.int .i64 c) := cell_of_row _ _ 2 _ _ _ rA3_.out
  go_wp2_with fail
  go_at_call 37
  refine (HW.out _).mono ?_
  rintro e w2 ⟨rfl, g⟩
  clear A_0_ A_1_ A_2_
  have rA5_ := Lib.hid (show (w2).heap[W.heap.size]? = some (.cells #[.int .i64 a, .int .i64 s, .int .i64 c] 48 (0, 0)) from row_held g rA3_.out)
  clear rA3_
  have G6_ := Lib.hid (show (W).grownBy (w2) none from gby_trans G4_.out g)
  clear g
  have A_0_ : (w2).cell? ⟨W.heap.size, 0, none⟩ = some (.int .i64 a) := cell_of_row _ _ 0 _ _ _ rA5_.out
  have A_1_ : (w2).cell? ⟨W.heap.size, 1, none⟩ = some (.int .i64 s) := cell_of_row _ _ 1 _ _ _ rA5_.out
  have A_2_ : (w2).cell? ⟨W.heap.size, 2, none⟩ = some (.int .i64 c) := cell_of_row _ _ 2 _ _ _ rA5_.out
  go_wp2_with fail
  go_at_call 62
  refine (rng_yes _ _ _ _ (by omega) (by omega)).mono ?_
  rintro e w3_ ⟨rfl, rfl⟩
  go_wp2_with fail
  go_at_call 67
  refine (layout_any a s c _).mono ?_
  rintro e w4 ⟨rfl, hl_, g⟩
  clear A_0_ A_1_ A_2_
  have rA7_ := Lib.hid (show (w4).heap[W.heap.size]? = some (.cells #[.int .i64 a, .int .i64 s, .int .i64 c] 48 (0, 0)) from row_held g rA5_.out)
  clear rA5_
  have G8_ := Lib.hid (show (W).grownBy (w4) none from gby_trans G6_.out g)
  have rL9_ := Lib.hid (show (w4).heap[w2.heap.size]? = some (.cells #[.int .i64 a, .int .i64 s, .int .i64 c] 48 (0, 0)) from hl_)
  clear g hl_
  have A_0_ : (w4).cell? ⟨W.heap.size, 0, none⟩ = some (.int .i64 a) := cell_of_row _ _ 0 _ _ _ rA7_.out
  have A_1_ : (w4).cell? ⟨W.heap.size, 1, none⟩ = some (.int .i64 s) := cell_of_row _ _ 1 _ _ _ rA7_.out
  have A_2_ : (w4).cell? ⟨W.heap.size, 2, none⟩ = some (.int .i64 c) := cell_of_row _ _ 2 _ _ _ rA7_.out
  have L_0_ : (w4).cell? ⟨w2.heap.size, 0, none⟩ = some (.int .i64 a) := cell_of_row _ _ 0 _ _ _ rL9_.out
  have L_1_ : (w4).cell? ⟨w2.heap.size, 1, none⟩ = some (.int .i64 s) := cell_of_row _ _ 1 _ _ _ rL9_.out
  have L_2_ : (w4).cell? ⟨w2.heap.size, 2, none⟩ = some (.int .i64 c) := cell_of_row _ _ 2 _ _ _ rL9_.out
  have hlf_ := run_layoutField w4 (.func (.func 93) #[] #[.pointer (some ⟨w2.heap.size, 0, none⟩)])
  go_wp2_with fail
  go_at_call 93
  refine (offset_any a s c k _ _ rL9_.out a1 a2 m1 m2).mono ?_
  rintro e w5 ⟨rfl, hd⟩
  have g := hd.gby none
  clear hd
  clear A_0_ A_1_ A_2_ L_0_ L_1_ L_2_
  have rA10_ := Lib.hid (show (w5).heap[W.heap.size]? = some (.cells #[.int .i64 a, .int .i64 s, .int .i64 c] 48 (0, 0)) from row_held g rA7_.out)
  clear rA7_
  have rL11_ := Lib.hid (show (w5).heap[w2.heap.size]? = some (.cells #[.int .i64 a, .int .i64 s, .int .i64 c] 48 (0, 0)) from row_held g rL9_.out)
  clear rL9_
  have G12_ := Lib.hid (show (W).grownBy (w5) none from gby_trans G8_.out g)
  clear g
  have A_0_ : (w5).cell? ⟨W.heap.size, 0, none⟩ = some (.int .i64 a) := cell_of_row _ _ 0 _ _ _ rA10_.out
  have A_1_ : (w5).cell? ⟨W.heap.size, 1, none⟩ = some (.int .i64 s) := cell_of_row _ _ 1 _ _ _ rA10_.out
  have A_2_ : (w5).cell? ⟨W.heap.size, 2, none⟩ = some (.int .i64 c) := cell_of_row _ _ 2 _ _ _ rA10_.out
  have L_0_ : (w5).cell? ⟨w2.heap.size, 0, none⟩ = some (.int .i64 a) := cell_of_row _ _ 0 _ _ _ rL11_.out
  have L_1_ : (w5).cell? ⟨w2.heap.size, 1, none⟩ = some (.int .i64 s) := cell_of_row _ _ 1 _ _ _ rL11_.out
  have L_2_ : (w5).cell? ⟨w2.heap.size, 2, none⟩ = some (.int .i64 c) := cell_of_row _ _ 2 _ _ _ rL11_.out
  go_wp2_with fail
  go_at_call 66
  refine (implIsId_no _ _ (by omega)).mono ?_
  rintro e w6 ⟨rfl, hd⟩
  have g := hd.gby none
  clear hd
  clear A_0_ A_1_ A_2_ L_0_ L_1_ L_2_
  have rA13_ := Lib.hid (show (w6).heap[W.heap.size]? = some (.cells #[.int .i64 a, .int .i64 s, .int .i64 c] 48 (0, 0)) from row_held g rA10_.out)
  clear rA10_
  have rL14_ := Lib.hid (show (w6).heap[w2.heap.size]? = some (.cells #[.int .i64 a, .int .i64 s, .int .i64 c] 48 (0, 0)) from row_held g rL11_.out)
  clear rL11_
  have G15_ := Lib.hid (show (W).grownBy (w6) none from gby_trans G12_.out g)
  clear g
  have A_0_ : (w6).cell? ⟨W.heap.size, 0, none⟩ = some (.int .i64 a) := cell_of_row _ _ 0 _ _ _ rA13_.out
  have A_1_ : (w6).cell? ⟨W.heap.size, 1, none⟩ = some (.int .i64 s) := cell_of_row _ _ 1 _ _ _ rA13_.out
  have A_2_ : (w6).cell? ⟨W.heap.size, 2, none⟩ = some (.int .i64 c) := cell_of_row _ _ 2 _ _ _ rA13_.out
  have L_0_ : (w6).cell? ⟨w2.heap.size, 0, none⟩ = some (.int .i64 a) := cell_of_row _ _ 0 _ _ _ rL14_.out
  have L_1_ : (w6).cell? ⟨w2.heap.size, 1, none⟩ = some (.int .i64 s) := cell_of_row _ _ 1 _ _ _ rL14_.out
  have L_2_ : (w6).cell? ⟨w2.heap.size, 2, none⟩ = some (.int .i64 c) := cell_of_row _ _ 2 _ _ _ rL14_.out
  go_wp2
  go_ret
  exact ⟨rfl, G15_.out⟩

/-- .. as a number -/
def vidN (b a s c k : Int) (r : Int) : Prop := (VIn b a s c k ∧ r = b + a + k * s) ∨ (¬ VIn b a s c k ∧ r = -1)

theorem implVId_any (b a s c k r : Int) (h : vidN b a s c k r) (W : World) : Calls Try.prog 36 #[.int .i64 b, (vVirtual a s c), .int .i64 k] W (AnsN (.int .i64 r) W) := by
  rcases h with ⟨⟨⟨h0, h1⟩, hv, ⟨k0, k1⟩, hx⟩, rfl⟩ | ⟨h, rfl⟩
  · exact implVId_yes b a s c k W h0 h1 hv k0 k1 hx
  · rcases vin_no h with q | ⟨⟨h0, h1⟩, q⟩ | ⟨⟨h0, h1⟩, hv, q⟩ | ⟨⟨h0, h1⟩, hv, ⟨k0, k1⟩, q⟩
    · exact implVId_b b a s c k W q
    · exact implVId_v b a s c k W h0 h1 q
    · exact implVId_k b a s c k W h0 h1 hv q
    · exact implVId_out b a s c k W h0 h1 hv k0 k1 q

theorem vidN_ex (b a s c k : Int) : ∃ r, vidN b a s c k r := by
  by_cases h : VIn b a s c k
  · exact ⟨_, .inl ⟨h, rfl⟩⟩
  · exact ⟨_, .inr ⟨h, rfl⟩⟩

end Go.Proofs.Ytgagbhkidponnaa
