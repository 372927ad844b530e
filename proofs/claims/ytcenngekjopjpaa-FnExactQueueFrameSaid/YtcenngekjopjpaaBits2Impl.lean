/-
  Contracts of the program's bit fields.
-/
import Derived.Test.YtcenngekjopjpaaBitsSpec
import Derived.Deep.RegionWith
namespace Go.Proofs.Ytcenngekjopjpaa
open Go Go.RowKit

theorem rng_any (x a b : Int) (W : World) : Calls Try.prog 38 #[.int .i64 x, .int .i64 a, .int .i64 b] W fun e w' => e = .returned (.bool (decide (a ≤ x) && decide (x ≤ b))) ∧ W = w' := by
  by_cases h1 : a ≤ x
  · by_cases h2 : x ≤ b
    · go_enter Try.func38, Try.ntmps38
      go_wp2
      go_ret
      exact ⟨by simp [h1, h2], rfl⟩
    · go_enter Try.func38, Try.ntmps38
      go_wp2
      go_ret
      exact ⟨ret_bool (by simp; omega), rfl⟩
  · go_enter Try.func38, Try.ntmps38
    go_wp2
    go_ret
    exact ⟨ret_bool (by simp; omega), rfl⟩

theorem rng_yes (x a b : Int) (W : World) (h1 : a ≤ x) (h2 : x ≤ b) : Calls Try.prog 38 #[.int .i64 x, .int .i64 a, .int .i64 b] W fun e w' => e = .returned (.bool true) ∧ W = w' := by
  refine (rng_any x a b W).mono ?_
  rintro e w' ⟨rfl, rfl⟩
  exact ⟨ret_bool (by simp [h1, h2]), rfl⟩

theorem rng_no (x a b : Int) (W : World) (h : x < a ∨ b < x) : Calls Try.prog 38 #[.int .i64 x, .int .i64 a, .int .i64 b] W fun e w' => e = .returned (.bool false) ∧ W = w' := by
  refine (rng_any x a b W).mono ?_
  rintro e w' ⟨rfl, rfl⟩
  exact ⟨ret_bool (by simp; omega), rfl⟩

end Go.Proofs.Ytcenngekjopjpaa
