/-
  Contracts of the program's bit fields.
-/
import Derived.Test.YtnighnkkeiegnabBitsSpec
import Derived.Deep.RegionWith
namespace Go.Proofs.Ytnighnkkeiegnab
open Go Go.RowKit

theorem rng_any (x a b : Int) (W : World) : Calls Try.prog 79 #[.int .i64 x, .int .i64 a, .int .i64 b] W fun e w' => e = .returned (.bool (decide (a ≤ x) && decide (x ≤ b))) ∧ W = w' := by
  by_cases h1 : a ≤ x
  · by_cases h2 : x ≤ b
    · go_enter Try.func79, Try.ntmps79
      go_wp2
      go_ret
      exact ⟨by simp [h1, h2], rfl⟩
    · go_enter Try.func79, Try.ntmps79
      go_wp2
      go_ret
      exact ⟨ret_bool (by simp; omega), rfl⟩
  · go_enter Try.func79, Try.ntmps79
    go_wp2
    go_ret
    exact ⟨ret_bool (by simp; omega), rfl⟩

theorem rng_yes (x a b : Int) (W : World) (h1 : a ≤ x) (h2 : x ≤ b) : Calls Try.prog 79 #[.int .i64 x, .int .i64 a, .int .i64 b] W fun e w' => e = .returned (.bool true) ∧ W = w' := by
  refine (rng_any x a b W).mono ?_
  rintro e w' ⟨rfl, rfl⟩
  exact ⟨ret_bool (by simp [h1, h2]), rfl⟩

theorem rng_no (x a b : Int) (W : World) (h : x < a ∨ b < x) : Calls Try.prog 79 #[.int .i64 x, .int .i64 a, .int .i64 b] W fun e w' => e = .returned (.bool false) ∧ W = w' := by
  refine (rng_any x a b W).mono ?_
  rintro e w' ⟨rfl, rfl⟩
  exact ⟨ret_bool (by simp; omega), rfl⟩

theorem word_yes (x : Int) (W : World) (h1 : 0 ≤ x) (h2 : x ≤ 65535) : Calls Try.prog 121 #[.int .i64 x] W fun e w' => e = .returned (.bool true) ∧ W = w' := by
  go_enter Try.func121, Try.ntmps121
  go_wp2_with (go_at_call 79; refine (rng_yes _ _ _ _ h1 h2).mono ?_; rintro e w' ⟨rfl, rfl⟩)
  go_ret
  exact ⟨rfl, rfl⟩

theorem word_no (x : Int) (W : World) (h : x < 0 ∨ 65535 < x) : Calls Try.prog 121 #[.int .i64 x] W fun e w' => e = .returned (.bool false) ∧ W = w' := by
  go_enter Try.func121, Try.ntmps121
  go_wp2_with (go_at_call 79; refine (rng_no _ _ _ _ h).mono ?_; rintro e w' ⟨rfl, rfl⟩)
  go_ret
  exact ⟨rfl, rfl⟩

end Go.Proofs.Ytnighnkkeiegnab
