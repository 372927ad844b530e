/-
  Contracts of the program's bit fields.
-/
import Derived.Test.YtgagbhkidponnadBitsSpec
import Derived.Deep.RegionWith
namespace Go.Proofs.Ytgagbhkidponnad
open Go Go.RowKit

theorem rng_any (x a b : Int) (W : World) : Calls Try.prog 50 #[.int .i64 x, .int .i64 a, .int .i64 b] W fun e w' => e = .returned (.bool (decide (a ≤ x) && decide (x ≤ b))) ∧ W = w' := by
  by_cases h1 : a ≤ x
  · by_cases h2 : x ≤ b
    · go_enter Try.func50, Try.ntmps50
      go_wp2
      go_ret
      exact ⟨by simp [h1, h2], rfl⟩
    · go_enter Try.func50, Try.ntmps50
      go_wp2
      go_ret
      exact ⟨ret_bool (by simp; omega), rfl⟩
  · go_enter Try.func50, Try.ntmps50
    go_wp2
    go_ret
    exact ⟨ret_bool (by simp; omega), rfl⟩

theorem rng_yes (x a b : Int) (W : World) (h1 : a ≤ x) (h2 : x ≤ b) : Calls Try.prog 50 #[.int .i64 x, .int .i64 a, .int .i64 b] W fun e w' => e = .returned (.bool true) ∧ W = w' := by
  refine (rng_any x a b W).mono ?_
  rintro e w' ⟨rfl, rfl⟩
  exact ⟨ret_bool (by simp [h1, h2]), rfl⟩

theorem rng_no (x a b : Int) (W : World) (h : x < a ∨ b < x) : Calls Try.prog 50 #[.int .i64 x, .int .i64 a, .int .i64 b] W fun e w' => e = .returned (.bool false) ∧ W = w' := by
  refine (rng_any x a b W).mono ?_
  rintro e w' ⟨rfl, rfl⟩
  exact ⟨ret_bool (by simp; omega), rfl⟩

theorem word_yes (x : Int) (W : World) (h1 : 0 ≤ x) (h2 : x ≤ 65535) : Calls Try.prog 52 #[.int .i64 x] W fun e w' => e = .returned (.bool true) ∧ W = w' := by
  go_enter Try.func52, Try.ntmps52
  go_wp2_with (go_at_call 50; refine (rng_yes _ _ _ _ h1 h2).mono ?_; rintro e w' ⟨rfl, rfl⟩)
  go_ret
  exact ⟨rfl, rfl⟩

theorem word_no (x : Int) (W : World) (h : x < 0 ∨ 65535 < x) : Calls Try.prog 52 #[.int .i64 x] W fun e w' => e = .returned (.bool false) ∧ W = w' := by
  go_enter Try.func52, Try.ntmps52
  go_wp2_with (go_at_call 50; refine (rng_no _ _ _ _ h).mono ?_; rintro e w' ⟨rfl, rfl⟩)
  go_ret
  exact ⟨rfl, rfl⟩

theorem place_yes (low w : Int) (W : World) (h3 : 0 ≤ low) (h4 : low ≤ 15) (h5 : 1 ≤ w) (h6 : w ≤ 16 - low) : Calls Try.prog 68 #[.int .i64 low, .int .i64 w] W fun e w' => e = .returned (.bool true) ∧ W = w' := by
  go_enter Try.func68, Try.ntmps68
  go_wp2
  go_ret
  exact ⟨rfl, rfl⟩

theorem place_no (low w : Int) (W : World) (h : ¬ (0 ≤ low ∧ low ≤ 15 ∧ 1 ≤ w ∧ w ≤ 16 - low)) : Calls Try.prog 68 #[.int .i64 low, .int .i64 w] W fun e w' => e = .returned (.bool false) ∧ W = w' := by
  by_cases h3 : 0 ≤ low
  case' pos =>
    by_cases h4 : low ≤ 15
    case' pos =>
      by_cases h5 : 1 ≤ w
      case' pos => have h6 : 16 - low < w := by omega
  all_goals
    clear h
    go_enter Try.func68, Try.ntmps68
    go_wp2
    go_ret
    first
      | exact ⟨rfl, rfl⟩
      | exact ⟨ret_bool (by simp; omega), rfl⟩

/-- a mask of w ones -/
theorem fmask_any (w : Nat) (W : World) (hw : w ≤ 62) : Calls Try.prog 69 #[.int .i64 (w : Int)] W (Ans (.int .i64 (wrap64 (wrap64 (2 ^ w) - 1))) W) := by
  have i3 : (0 : Int) ≤ (w : Int) := by omega
  have i5 : (w : Int) ≤ 64 := by omega
  have n2 : ((w : Int)).toNat = w := by omega
  go_enter Try.func69, Try.ntmps69
  go_wp2
  try go_quiet (fail)
  go_wp2
  go_ret
  exact ⟨rfl, by repeat (first | exact Drew.refl _ | apply Drew.drewN)⟩

end Go.Proofs.Ytgagbhkidponnad
