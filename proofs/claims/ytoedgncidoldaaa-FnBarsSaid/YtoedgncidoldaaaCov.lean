/-
  Windows that cover an address, on both sides.
-/
import Derived.Test.YtoedgncidoldaaaBar
import Derived.Test.YtoedgncidoldaaaDraw
import Derived.Deep.RegionHeld3
import Derived.Deep.QuietTactic
namespace Go.Proofs.Ytoedgncidoldaaa
open Go Go.RowKit
set_option linter.unusedVariables false

/-- the window of size s at b covers x -/
def SpansP (s b x : Int) : Prop := 0 < s ∧ b ≤ x ∧ IntKind.u64.wrap (IntKind.u64.wrap x - IntKind.u64.wrap b) < IntKind.u64.wrap s
instance (s b x : Int) : Decidable (SpansP s b x) := by unfold SpansP; infer_instance
theorem spans_in {s b x : Int} (hb0 : 0 ≤ b) (hs : s ≤ 65536) (hx : I64 x) : SpansP s b x ↔ 0 < s ∧ b ≤ x ∧ x ≤ b + s - 1 := by
  obtain ⟨x1, x2⟩ := hx
  unfold SpansP
  simp only [IntKind.wrap_u64]
  constructor
  · rintro ⟨h1, h2, h3⟩
    exact ⟨h1, h2, by omega⟩
  · rintro ⟨h1, h2, h3⟩
    exact ⟨h1, h2, by omega⟩

theorem implSpans (s b x : Int) (W : World) : Calls Try.prog 55 #[.agg #[.int .i64 s, .int .i64 b], .int .i64 x] W (AnsN (.bool (decide (SpansP s b x))) W) := by
  by_cases h1 : 0 < s
  · by_cases h2 : b ≤ x
    · have hx : x ≥ b := h2
      obtain ⟨X, hX⟩ : ∃ X, IntKind.u64.wrap x = X := ⟨_, rfl⟩
      obtain ⟨B, hB⟩ : ∃ B, IntKind.u64.wrap b = B := ⟨_, rfl⟩
      obtain ⟨S, hS⟩ : ∃ S, IntKind.u64.wrap s = S := ⟨_, rfl⟩
      obtain ⟨D, hD⟩ : ∃ D, IntKind.u64.wrap (X - B) = D := ⟨_, rfl⟩
      rw [show decide (SpansP s b x) = decide (D < S) from decide_eq_decide.2 (by unfold SpansP; rw [hX, hB, hS, hD]; exact ⟨fun q => q.2.2, fun q => ⟨h1, h2, q⟩⟩)]
      go_enter Try.func55, Try.ntmps55
      have rA1_ := Lib.hid (show ((W.alloc (.cells #[.int .i64 s, .int .i64 b] 30))).heap[W.heap.size]? = some (.cells #[.int .i64 s, .int .i64 b] 30 (0, 0)) from by exact heap_alloc_new _ _)
      have G2_ := Lib.hid (show (W).grownBy ((W.alloc (.cells #[.int .i64 s, .int .i64 b] 30))) none from (gby_alloc (gby_refl _ _) _))
      have A_0_ : ((W.alloc (.cells #[.int .i64 s, .int .i64 b] 30))).cell? ⟨W.heap.size, 0, none⟩ = some (.int .i64 s) := cell_of_row _ _ 0 _ _ _ rA1_.out
      have A_1_ : ((W.alloc (.cells #[.int .i64 s, .int .i64 b] 30))).cell? ⟨W.heap.size, 1, none⟩ = some (.int .i64 b) := cell_of_row _ _ 1 _ _ _ rA1_.out
      go_wp2
      go_ret
      exact ⟨rfl, G2_.out⟩
    · have hx : ¬ x ≥ b := h2
      rw [show decide (SpansP s b x) = false from decide_eq_false (fun q => h2 q.2.1)]
      go_enter Try.func55, Try.ntmps55
      have rA1_ := Lib.hid (show ((W.alloc (.cells #[.int .i64 s, .int .i64 b] 30))).heap[W.heap.size]? = some (.cells #[.int .i64 s, .int .i64 b] 30 (0, 0)) from by exact heap_alloc_new _ _)
      have G2_ := Lib.hid (show (W).grownBy ((W.alloc (.cells #[.int .i64 s, .int .i64 b] 30))) none from (gby_alloc (gby_refl _ _) _))
      have A_0_ : ((W.alloc (.cells #[.int .i64 s, .int .i64 b] 30))).cell? ⟨W.heap.size, 0, none⟩ = some (.int .i64 s) := cell_of_row _ _ 0 _ _ _ rA1_.out
      have A_1_ : ((W.alloc (.cells #[.int .i64 s, .int .i64 b] 30))).cell? ⟨W.heap.size, 1, none⟩ = some (.int .i64 b) := cell_of_row _ _ 1 _ _ _ rA1_.out
      go_wp2
      go_ret
      exact ⟨rfl, G2_.out⟩
  · rw [show decide (SpansP s b x) = false from decide_eq_false (fun q => h1 q.1)]
    go_enter Try.func55, Try.ntmps55
    have rA1_ := Lib.hid (show ((W.alloc (.cells #[.int .i64 s, .int .i64 b] 30))).heap[W.heap.size]? = some (.cells #[.int .i64 s, .int .i64 b] 30 (0, 0)) from by exact heap_alloc_new _ _)
    have G2_ := Lib.hid (show (W).grownBy ((W.alloc (.cells #[.int .i64 s, .int .i64 b] 30))) none from (gby_alloc (gby_refl _ _) _))
    have A_0_ : ((W.alloc (.cells #[.int .i64 s, .int .i64 b] 30))).cell? ⟨W.heap.size, 0, none⟩ = some (.int .i64 s) := cell_of_row _ _ 0 _ _ _ rA1_.out
    have A_1_ : ((W.alloc (.cells #[.int .i64 s, .int .i64 b] 30))).cell? ⟨W.heap.size, 1, none⟩ = some (.int .i64 b) := cell_of_row _ _ 1 _ _ _ rA1_.out
    go_wp2
    go_ret
    exact ⟨rfl, G2_.out⟩

theorem specFar (x b : Int) (W : World) : Calls Try.prog 67 #[.int .i64 b, .int .i64 x] W (Ans (.int .u64 (IntKind.u64.wrap (IntKind.u64.wrap x - IntKind.u64.wrap b))) W) := by
  obtain ⟨X, hX⟩ : ∃ X, IntKind.u64.wrap x = X := ⟨_, rfl⟩
  obtain ⟨B, hB⟩ : ∃ B, IntKind.u64.wrap b = B := ⟨_, rfl⟩
  rw [hX, hB]
  obtain ⟨D, hD⟩ : ∃ D, IntKind.u64.wrap (X - B) = D := ⟨_, rfl⟩
  rw [hD]
  go_enter Try.func67, Try.ntmps67
  go_wp2
  go_ret
  exact ⟨rfl, Drew.refl _⟩

set_option maxHeartbeats 2000000 in
theorem specCov (s b x : Int) (W : World) : Calls Try.prog 60 #[.agg #[.int .i64 s, .int .i64 b], .int .i64 x] W (AnsN (.bool (decide (SpansP s b x))) W) := by
  have hrA := Lib.hid (heap_alloc_new W (.cells #[.int .i64 s, .int .i64 b] 30))
  have k0 : (W.alloc (.cells #[.int .i64 s, .int .i64 b] 30)).cell? ⟨W.heap.size, 0, none⟩ = some (.int .i64 s) := cell_of_row _ _ 0 _ _ _ hrA.out
  have k1 : (W.alloc (.cells #[.int .i64 s, .int .i64 b] 30)).cell? ⟨W.heap.size, 1, none⟩ = some (.int .i64 b) := cell_of_row _ _ 1 _ _ _ hrA.out
  by_cases h1 : 0 < s
  · by_cases h2 : b ≤ x
    · have hx : x ≥ b := h2
      have HF := Lib.hid (specFar x b)
      obtain ⟨X, hX⟩ : ∃ X, IntKind.u64.wrap x = X := ⟨_, rfl⟩
      obtain ⟨B, hB⟩ : ∃ B, IntKind.u64.wrap b = B := ⟨_, rfl⟩
      obtain ⟨S, hS⟩ : ∃ S, IntKind.u64.wrap s = S := ⟨_, rfl⟩
      obtain ⟨D, hD⟩ : ∃ D, IntKind.u64.wrap (X - B) = D := ⟨_, rfl⟩
      rw [show decide (SpansP s b x) = decide (D < S) from decide_eq_decide.2 (by unfold SpansP; rw [hX, hB, hS, hD]; exact ⟨fun q => q.2.2, fun q => ⟨h1, h2, q⟩⟩)]
      rw [hX, hB, hD] at HF
      clear hX hB hD
      go_enter Try.func60, Try.ntmps60
      go_wp2
      go_quiet ((go_at_call 67; exact ans_quiet HF.out))
      go_wp2
      go_ret
      exact ⟨rfl, by repeat (first | exact gby_alloc (gby_refl W none) _ | with_reducible refine gby_drewN ?_ _)⟩
    · have hx : ¬ x ≥ b := h2
      have hd2 : decide (b ≤ x) = false := decide_eq_false h2
      rw [show decide (SpansP s b x) = false from decide_eq_false (fun q => h2 q.2.1)]
      go_enter Try.func60, Try.ntmps60
      go_wp2
      go_quiet (fail)
      go_wp2
      go_ret
      exact ⟨rfl, by repeat (first | exact gby_alloc (gby_refl W none) _ | with_reducible refine gby_drewN ?_ _)⟩
  · have hd1 : decide (0 < s) = false := decide_eq_false h1
    rw [show decide (SpansP s b x) = false from decide_eq_false (fun q => h1 q.1)]
    go_enter Try.func60, Try.ntmps60
    go_wp2
    go_quiet (fail)
    go_wp2
    go_ret
    exact ⟨rfl, by repeat (first | exact gby_alloc (gby_refl W none) _ | with_reducible refine gby_drewN ?_ _)⟩

theorem covers_both (s b x : Int) (hx : I64 x) : ∃ r : Bool, (∀ W : World, Calls Try.prog 29 #[.agg #[.int .i64 s, .int .i64 b], .int .i64 x] W (AnsN (.bool r) W)) ∧ ∀ W : World, Calls Try.prog 30 #[.agg #[.int .i64 s, .int .i64 b], .int .i64 x] W (AnsN (.bool r) W) := by
  by_cases h : BOk s b
  · have HB := Lib.hid h
    have hb : (s = 0 ∧ b = 0) ∨ (16 ≤ s ∧ s ≤ 32768 ∧ 0 ≤ b ∧ b ≤ 65536 - s) := by
      rcases h with q | ⟨q, ⟨q1, q2⟩, _⟩
      · exact .inl q
      · exact .inr ⟨q.2.1, q.2.2, q1, q2⟩
    have hsp := spans_in (s := s) (b := b) (x := x) (by omega) (by omega) hx
    refine ⟨decide (SpansP s b x), fun W => ?_, fun W => ?_⟩
    · by_cases h0 : 0 < s
      · have hgt : s > 0 := h0
        by_cases hi : b ≤ x ∧ x ≤ b + s - 1
        · rw [show decide (SpansP s b x) = true from decide_eq_true (hsp.2 ⟨h0, hi⟩)]
          clear h hsp hx
          go_enter Try.func29, Try.ntmps29
          have rA1_ := Lib.hid (show ((W.alloc (.cells #[.int .i64 s, .int .i64 b] 30))).heap[W.heap.size]? = some (.cells #[.int .i64 s, .int .i64 b] 30 (0, 0)) from by exact heap_alloc_new _ _)
          have G2_ := Lib.hid (show (W).grownBy ((W.alloc (.cells #[.int .i64 s, .int .i64 b] 30))) none from (gby_alloc (gby_refl _ _) _))
          have A_0_ : ((W.alloc (.cells #[.int .i64 s, .int .i64 b] 30))).cell? ⟨W.heap.size, 0, none⟩ = some (.int .i64 s) := cell_of_row _ _ 0 _ _ _ rA1_.out
          have A_1_ : ((W.alloc (.cells #[.int .i64 s, .int .i64 b] 30))).cell? ⟨W.heap.size, 1, none⟩ = some (.int .i64 b) := cell_of_row _ _ 1 _ _ _ rA1_.out
          go_wp2_with fail
          go_at_call 21
          refine (specBarOk_yes _ _ _ HB.out).mono ?_
          rintro e w1 ⟨rfl, hd⟩
          have g := hd
          clear hd
          clear A_0_ A_1_
          have rA3_ := Lib.hid (show (w1).heap[W.heap.size]? = some (.cells #[.int .i64 s, .int .i64 b] 30 (0, 0)) from row_held g rA1_.out)
          clear rA1_
          have G4_ := Lib.hid (show (W).grownBy (w1) none from gby_trans G2_.out g)
          clear g
          have A_0_ : (w1).cell? ⟨W.heap.size, 0, none⟩ = some (.int .i64 s) := cell_of_row _ _ 0 _ _ _ rA3_.out
          have A_1_ : (w1).cell? ⟨W.heap.size, 1, none⟩ = some (.int .i64 b) := cell_of_row _ _ 1 _ _ _ rA3_.out
          go_wp2_with fail
          go_at_call 51
          refine (in_yes _ _ _ _ (by omega) (by omega)).mono ?_
          rintro e w2 ⟨rfl, rfl⟩
          go_wp2
          go_ret
          exact ⟨rfl, G4_.out⟩
        · rw [show decide (SpansP s b x) = false from decide_eq_false (fun q => hi (hsp.1 q).2)]
          clear h hsp hx
          go_enter Try.func29, Try.ntmps29
          have rA1_ := Lib.hid (show ((W.alloc (.cells #[.int .i64 s, .int .i64 b] 30))).heap[W.heap.size]? = some (.cells #[.int .i64 s, .int .i64 b] 30 (0, 0)) from by exact heap_alloc_new _ _)
          have G2_ := Lib.hid (show (W).grownBy ((W.alloc (.cells #[.int .i64 s, .int .i64 b] 30))) none from (gby_alloc (gby_refl _ _) _))
          have A_0_ : ((W.alloc (.cells #[.int .i64 s, .int .i64 b] 30))).cell? ⟨W.heap.size, 0, none⟩ = some (.int .i64 s) := cell_of_row _ _ 0 _ _ _ rA1_.out
          have A_1_ : ((W.alloc (.cells #[.int .i64 s, .int .i64 b] 30))).cell? ⟨W.heap.size, 1, none⟩ = some (.int .i64 b) := cell_of_row _ _ 1 _ _ _ rA1_.out
          go_wp2_with fail
          go_at_call 21
          refine (specBarOk_yes _ _ _ HB.out).mono ?_
          rintro e w1 ⟨rfl, hd⟩
          have g := hd
          clear hd
          clear A_0_ A_1_
          have rA3_ := Lib.hid (show (w1).heap[W.heap.size]? = some (.cells #[.int .i64 s, .int .i64 b] 30 (0, 0)) from row_held g rA1_.out)
          clear rA1_
          have G4_ := Lib.hid (show (W).grownBy (w1) none from gby_trans G2_.out g)
          clear g
          have A_0_ : (w1).cell? ⟨W.heap.size, 0, none⟩ = some (.int .i64 s) := cell_of_row _ _ 0 _ _ _ rA3_.out
          have A_1_ : (w1).cell? ⟨W.heap.size, 1, none⟩ = some (.int .i64 b) := cell_of_row _ _ 1 _ _ _ rA3_.out
          go_wp2_with fail
          go_at_call 51
          refine (in_no _ _ _ _ (by omega)).mono ?_
          rintro e w2 ⟨rfl, rfl⟩
          go_wp2
          go_ret
          exact ⟨rfl, G4_.out⟩
      · obtain ⟨rfl, rfl⟩ : s = 0 ∧ b = 0 := by omega
        rw [show decide (SpansP 0 0 x) = false from decide_eq_false (fun q => h0 q.1)]
        clear h hsp hx hb
        go_enter Try.func29, Try.ntmps29
        have rA1_ := Lib.hid (show ((W.alloc (.cells #[.int .i64 0, .int .i64 0] 30))).heap[W.heap.size]? = some (.cells #[.int .i64 0, .int .i64 0] 30 (0, 0)) from by exact heap_alloc_new _ _)
        have G2_ := Lib.hid (show (W).grownBy ((W.alloc (.cells #[.int .i64 0, .int .i64 0] 30))) none from (gby_alloc (gby_refl _ _) _))
        have A_0_ : ((W.alloc (.cells #[.int .i64 0, .int .i64 0] 30))).cell? ⟨W.heap.size, 0, none⟩ = some (.int .i64 0) := cell_of_row _ _ 0 _ _ _ rA1_.out
        have A_1_ : ((W.alloc (.cells #[.int .i64 0, .int .i64 0] 30))).cell? ⟨W.heap.size, 1, none⟩ = some (.int .i64 0) := cell_of_row _ _ 1 _ _ _ rA1_.out
        go_wp2_with fail
        go_at_call 21
        refine (specBarOk_yes _ _ _ HB.out).mono ?_
        rintro e w1 ⟨rfl, hd⟩
        have g := hd
        clear hd
        clear A_0_ A_1_
        have rA3_ := Lib.hid (show (w1).heap[W.heap.size]? = some (.cells #[.int .i64 0, .int .i64 0] 30 (0, 0)) from row_held g rA1_.out)
        clear rA1_
        have G4_ := Lib.hid (show (W).grownBy (w1) none from gby_trans G2_.out g)
        clear g
        have A_0_ : (w1).cell? ⟨W.heap.size, 0, none⟩ = some (.int .i64 0) := cell_of_row _ _ 0 _ _ _ rA3_.out
        have A_1_ : (w1).cell? ⟨W.heap.size, 1, none⟩ = some (.int .i64 0) := cell_of_row _ _ 1 _ _ _ rA3_.out
        go_wp2
        go_ret
        exact ⟨rfl, G4_.out⟩
    · clear h hsp hx hb
      go_enter Try.func30, Try.ntmps30
      have rA1_ := Lib.hid (show ((W.alloc (.cells #[.int .i64 s, .int .i64 b] 30))).heap[W.heap.size]? = some (.cells #[.int .i64 s, .int .i64 b] 30 (0, 0)) from by exact heap_alloc_new _ _)
      have G2_ := Lib.hid (show (W).grownBy ((W.alloc (.cells #[.int .i64 s, .int .i64 b] 30))) none from (gby_alloc (gby_refl _ _) _))
      have A_0_ : ((W.alloc (.cells #[.int .i64 s, .int .i64 b] 30))).cell? ⟨W.heap.size, 0, none⟩ = some (.int .i64 s) := cell_of_row _ _ 0 _ _ _ rA1_.out
      have A_1_ : ((W.alloc (.cells #[.int .i64 s, .int .i64 b] 30))).cell? ⟨W.heap.size, 1, none⟩ = some (.int .i64 b) := cell_of_row _ _ 1 _ _ _ rA1_.out
      go_wp2_with fail
      go_at_call 23
      refine (implBarOk_yes _ _ _ HB.out).mono ?_
      rintro e w1 ⟨rfl, hd⟩
      have g := hd
      clear hd
      clear A_0_ A_1_
      have rA3_ := Lib.hid (show (w1).heap[W.heap.size]? = some (.cells #[.int .i64 s, .int .i64 b] 30 (0, 0)) from row_held g rA1_.out)
      clear rA1_
      have G4_ := Lib.hid (show (W).grownBy (w1) none from gby_trans G2_.out g)
      clear g
      have A_0_ : (w1).cell? ⟨W.heap.size, 0, none⟩ = some (.int .i64 s) := cell_of_row _ _ 0 _ _ _ rA3_.out
      have A_1_ : (w1).cell? ⟨W.heap.size, 1, none⟩ = some (.int .i64 b) := cell_of_row _ _ 1 _ _ _ rA3_.out
      go_wp2_with fail
      go_at_call 55
      refine (implSpans _ _ _ _).mono ?_
      rintro e w2 ⟨rfl, hd⟩
      have g := hd
      clear hd
      clear A_0_ A_1_
      have rA5_ := Lib.hid (show (w2).heap[W.heap.size]? = some (.cells #[.int .i64 s, .int .i64 b] 30 (0, 0)) from row_held g rA3_.out)
      clear rA3_
      have G6_ := Lib.hid (show (W).grownBy (w2) none from gby_trans G4_.out g)
      clear g
      have A_0_ : (w2).cell? ⟨W.heap.size, 0, none⟩ = some (.int .i64 s) := cell_of_row _ _ 0 _ _ _ rA5_.out
      have A_1_ : (w2).cell? ⟨W.heap.size, 1, none⟩ = some (.int .i64 b) := cell_of_row _ _ 1 _ _ _ rA5_.out
      go_wp2
      go_ret
      exact ⟨rfl, G6_.out⟩
  · have HB := Lib.hid h
    clear h
    refine ⟨false, fun W => ?_, fun W => ?_⟩
    · skip
      go_enter Try.func29, Try.ntmps29
      have rA1_ := Lib.hid (show ((W.alloc (.cells #[.int .i64 s, .int .i64 b] 30))).heap[W.heap.size]? = some (.cells #[.int .i64 s, .int .i64 b] 30 (0, 0)) from by exact heap_alloc_new _ _)
      have G2_ := Lib.hid (show (W).grownBy ((W.alloc (.cells #[.int .i64 s, .int .i64 b] 30))) none from (gby_alloc (gby_refl _ _) _))
      have A_0_ : ((W.alloc (.cells #[.int .i64 s, .int .i64 b] 30))).cell? ⟨W.heap.size, 0, none⟩ = some (.int .i64 s) := cell_of_row _ _ 0 _ _ _ rA1_.out
      have A_1_ : ((W.alloc (.cells #[.int .i64 s, .int .i64 b] 30))).cell? ⟨W.heap.size, 1, none⟩ = some (.int .i64 b) := cell_of_row _ _ 1 _ _ _ rA1_.out
      go_wp2_with fail
      go_at_call 21
      refine (specBarOk_no _ _ _ HB.out).mono ?_
      rintro e w1 ⟨rfl, hd⟩
      have g := hd
      clear hd
      clear A_0_ A_1_
      have rA3_ := Lib.hid (show (w1).heap[W.heap.size]? = some (.cells #[.int .i64 s, .int .i64 b] 30 (0, 0)) from row_held g rA1_.out)
      clear rA1_
      have G4_ := Lib.hid (show (W).grownBy (w1) none from gby_trans G2_.out g)
      clear g
      have A_0_ : (w1).cell? ⟨W.heap.size, 0, none⟩ = some (.int .i64 s) := cell_of_row _ _ 0 _ _ _ rA3_.out
      have A_1_ : (w1).cell? ⟨W.heap.size, 1, none⟩ = some (.int .i64 b) := cell_of_row _ _ 1 _ _ _ rA3_.out
      go_wp2
      go_ret
      exact ⟨rfl, G4_.out⟩
    · skip
      go_enter Try.func30, Try.ntmps30
      have rA1_ := Lib.hid (show ((W.alloc (.cells #[.int .i64 s, .int .i64 b] 30))).heap[W.heap.size]? = some (.cells #[.int .i64 s, .int .i64 b] 30 (0, 0)) from by exact heap_alloc_new _ _)
      have G2_ := Lib.hid (show (W).grownBy ((W.alloc (.cells #[.int .i64 s, .int .i64 b] 30))) none from (gby_alloc (gby_refl _ _) _))
      have A_0_ : ((W.alloc (.cells #[.int .i64 s, .int .i64 b] 30))).cell? ⟨W.heap.size, 0, none⟩ = some (.int .i64 s) := cell_of_row _ _ 0 _ _ _ rA1_.out
      have A_1_ : ((W.alloc (.cells #[.int .i64 s, .int .i64 b] 30))).cell? ⟨W.heap.size, 1, none⟩ = some (.int .i64 b) := cell_of_row _ _ 1 _ _ _ rA1_.out
      go_wp2_with fail
      go_at_call 23
      refine (implBarOk_no _ _ _ HB.out).mono ?_
      rintro e w1 ⟨rfl, hd⟩
      have g := hd
      clear hd
      clear A_0_ A_1_
      have rA3_ := Lib.hid (show (w1).heap[W.heap.size]? = some (.cells #[.int .i64 s, .int .i64 b] 30 (0, 0)) from row_held g rA1_.out)
      clear rA1_
      have G4_ := Lib.hid (show (W).grownBy (w1) none from gby_trans G2_.out g)
      clear g
      have A_0_ : (w1).cell? ⟨W.heap.size, 0, none⟩ = some (.int .i64 s) := cell_of_row _ _ 0 _ _ _ rA3_.out
      have A_1_ : (w1).cell? ⟨W.heap.size, 1, none⟩ = some (.int .i64 b) := cell_of_row _ _ 1 _ _ _ rA3_.out
      go_wp2
      go_ret
      exact ⟨rfl, G4_.out⟩

end Go.Proofs.Ytoedgncidoldaaa
