/-
  Windows that cover an address, on both sides.
-/
import Derived.Test.YtdddidnibelmhaaBar
import Derived.Test.YtdddidnibelmhaaI64
import Derived.Deep.RegionHeld3
import Derived.Deep.QuietTactic
namespace Go.Proofs.Ytdddidnibelmhaa
open Go Go.RowKit
set_option linter.unusedVariables false

/-- the window of size s at b covers x -/
def SpansP (s b x : Int) : Prop := 0 < s ∧ b ≤ x ∧ IntKind.u64.wrap (IntKind.u64.wrap x - IntKind.u64.wrap b) < IntKind.u64.wrap s
instance (s b x : Int) : Decidable (SpansP s b x) := by unfold SpansP; infer_instance
theorem spans_in {s b x : Int} (hb0 : 0 ≤ b) (hs : s ≤ 65536) (hx : I64 x) : SpansP s b x ↔ 0 < s ∧ b ≤ x ∧ x ≤ b + s - 1 := by
  obtain ⟨x1, x2⟩ := hx
  unfold SpansP
  simp only [IntKind.wrap_u64]
  constructor
  · rintro ⟨h1, h2, h3⟩
    exact ⟨h1, h2, by omega⟩
  · rintro ⟨h1, h2, h3⟩
    exact ⟨h1, h2, by omega⟩

theorem implSpans (s b x : Int) (W : World) : Calls Try.prog 42 #[.agg #[.int .i64 s, .int .i64 b], .int .i64 x] W (AnsN (.bool (decide (SpansP s b x))) W) := by
  by_cases h1 : 0 < s
  · by_cases h2 : b ≤ x
    · have hx : x ≥ b := h2
      obtain ⟨X, hX⟩ : ∃ X, IntKind.u64.wrap x = X := ⟨_, rfl⟩
      obtain ⟨B, hB⟩ : ∃ B, IntKind.u64.wrap b = B := ⟨_, rfl⟩
      obtain ⟨S, hS⟩ : ∃ S, IntKind.u64.wrap s = S := ⟨_, rfl⟩
      obtain ⟨D, hD⟩ : ∃ D, IntKind.u64.wrap (X - B) = D := ⟨_, rfl⟩
      rw [show decide (SpansP s b x) = decide (D < S) from decide_eq_decide.2 (by unfold SpansP; rw [hX, hB, hS, hD]; exact ⟨fun q => q.2.2, fun q => ⟨h1, h2, q⟩⟩)]
      go_enter Try.func42, Try.ntmps42
      have rA1_ := Lib.hid (show ((W.alloc (.cells #[.int .i64 s, .int .i64 b] 46))).heap[W.heap.size]? = some (.cells #[.int .i64 s, .int .i64 b] 46 (0, 0)) from by exact heap_alloc_new _ _)
      have G2_ := Lib.hid (show (W).grownBy ((W.alloc (.cells #[.int .i64 s, .int .i64 b] 46))) none from (gby_alloc (gby_refl _ _) _))
      have A_0_ : ((W.alloc (.cells #[.int .i64 s, .int .i64 b] 46))).cell? ⟨W.heap.size, 0, none⟩ = some (.int .i64 s) := cell_of_row _ _ 0 _ _ _ rA1_.out
      have A_1_ : ((W.alloc (.cells #[.int .i64 s, .int .i64 b] 46))).cell? ⟨W.heap.size, 1, none⟩ = some (.int .i64 b) := cell_of_row _ _ 1 _ _ _ rA1_.out
      go_wp2
      go_ret
      exact ⟨rfl, G2_.out⟩
    · have hx : ¬ x ≥ b := h2
      rw [show decide (SpansP s b x) = false from decide_eq_false (fun q => h2 q.2.1)]
      go_enter Try.func42, Try.ntmps42
      have rA1_ := Lib.hid (show ((W.alloc (.cells #[.int .i64 s, .int .i64 b] 46))).heap[W.heap.size]? = some (.cells #[.int .i64 s, .int .i64 b] 46 (0, 0)) from by exact heap_alloc_new _ _)
      have G2_ := Lib.hid (show (W).grownBy ((W.alloc (.cells #[.int .i64 s, .int .i64 b] 46))) none from (gby_alloc (gby_refl _ _) _))
      have A_0_ : ((W.alloc (.cells #[.int .i64 s, .int .i64 b] 46))).cell? ⟨W.heap.size, 0, none⟩ = some (.int .i64 s) := cell_of_row _ _ 0 _ _ _ rA1_.out
      have A_1_ : ((W.alloc (.cells #[.int .i64 s, .int .i64 b] 46))).cell? ⟨W.heap.size, 1, none⟩ = some (.int .i64 b) := cell_of_row _ _ 1 _ _ _ rA1_.out
      go_wp2
      go_ret
      exact ⟨rfl, G2_.out⟩
  · rw [show decide (SpansP s b x) = false from decide_eq_false (fun q => h1 q.1)]
    go_enter Try.func42, Try.ntmps42
    have rA1_ := Lib.hid (show ((W.alloc (.cells #[.int .i64 s, .int .i64 b] 46))).heap[W.heap.size]? = some (.cells #[.int .i64 s, .int .i64 b] 46 (0, 0)) from by exact heap_alloc_new _ _)
    have G2_ := Lib.hid (show (W).grownBy ((W.alloc (.cells #[.int .i64 s, .int .i64 b] 46))) none from (gby_alloc (gby_refl _ _) _))
    have A_0_ : ((W.alloc (.cells #[.int .i64 s, .int .i64 b] 46))).cell? ⟨W.heap.size, 0, none⟩ = some (.int .i64 s) := cell_of_row _ _ 0 _ _ _ rA1_.out
    have A_1_ : ((W.alloc (.cells #[.int .i64 s, .int .i64 b] 46))).cell? ⟨W.heap.size, 1, none⟩ = some (.int .i64 b) := cell_of_row _ _ 1 _ _ _ rA1_.out
    go_wp2
    go_ret
    exact ⟨rfl, G2_.out⟩

theorem specFar (x b : Int) (W : World) : Calls Try.prog 27 #[.int .i64 b, .int .i64 x] W (Ans (.int .u64 (IntKind.u64.wrap (IntKind.u64.wrap x - IntKind.u64.wrap b))) W) := by
  obtain ⟨X, hX⟩ : ∃ X, IntKind.u64.wrap x = X := ⟨_, rfl⟩
  obtain ⟨B, hB⟩ : ∃ B, IntKind.u64.wrap b = B := ⟨_, rfl⟩
  rw [hX, hB]
  obtain ⟨D, hD⟩ : ∃ D, IntKind.u64.wrap (X - B) = D := ⟨_, rfl⟩
  rw [hD]
  go_enter Try.func27, Try.ntmps27
  go_wp2
  go_ret
  exact ⟨rfl, Drew.refl _⟩

set_option maxHeartbeats 2000000 in
theorem specCov (s b x : Int) (W : World) : Calls Try.prog 35 #[.agg #[.int .i64 s, .int .i64 b], .int .i64 x] W (AnsN (.bool (decide (SpansP s b x))) W) := by
  have hrA := Lib.hid (heap_alloc_new W (.cells #[.int .i64 s, .int .i64 b] 46))
  have k0 : (W.alloc (.cells #[.int .i64 s, .int .i64 b] 46)).cell? ⟨W.heap.size, 0, none⟩ = some (.int .i64 s) := cell_of_row _ _ 0 _ _ _ hrA.out
  have k1 : (W.alloc (.cells #[.int .i64 s, .int .i64 b] 46)).cell? ⟨W.heap.size, 1, none⟩ = some (.int .i64 b) := cell_of_row _ _ 1 _ _ _ hrA.out
  by_cases h1 : 0 < s
  · by_cases h2 : b ≤ x
    · have hx : x ≥ b := h2
      have HF := Lib.hid (specFar x b)
      obtain ⟨X, hX⟩ : ∃ X, IntKind.u64.wrap x = X := ⟨_, rfl⟩
      obtain ⟨B, hB⟩ : ∃ B, IntKind.u64.wrap b = B := ⟨_, rfl⟩
      obtain ⟨S, hS⟩ : ∃ S, IntKind.u64.wrap s = S := ⟨_, rfl⟩
      obtain ⟨D, hD⟩ : ∃ D, IntKind.u64.wrap (X - B) = D := ⟨_, rfl⟩
      rw [show decide (SpansP s b x) = decide (D < S) from decide_eq_decide.2 (by unfold SpansP; rw [hX, hB, hS, hD]; exact ⟨fun q => q.2.2, fun q => ⟨h1, h2, q⟩⟩)]
      rw [hX, hB, hD] at HF
      clear hX hB hD
      go_enter Try.func35, Try.ntmps35
      go_wp2
      go_quiet ((go_at_call 27; exact ans_quiet HF.out))
      go_wp2
      go_ret
      exact ⟨rfl, by repeat (first | exact gby_alloc (gby_refl W none) _ | with_reducible refine gby_drewN ?_ _)⟩
    · have hx : ¬ x ≥ b := h2
      have hd2 : decide (b ≤ x) = false := decide_eq_false h2
      rw [show decide (SpansP s b x) = false from decide_eq_false (fun q => h2 q.2.1)]
      go_enter Try.func35, Try.ntmps35
      go_wp2
      go_quiet (fail)
      go_wp2
      go_ret
      exact ⟨rfl, by repeat (first | exact gby_alloc (gby_refl W none) _ | with_reducible refine gby_drewN ?_ _)⟩
  · have hd1 : decide (0 < s) = false := decide_eq_false h1
    rw [show decide (SpansP s b x) = false from decide_eq_false (fun q => h1 q.1)]
    go_enter Try.func35, Try.ntmps35
    go_wp2
    go_quiet (fail)
    go_wp2
    go_ret
    exact ⟨rfl, by repeat (first | exact gby_alloc (gby_refl W none) _ | with_reducible refine gby_drewN ?_ _)⟩

end Go.Proofs.Ytdddidnibelmhaa
