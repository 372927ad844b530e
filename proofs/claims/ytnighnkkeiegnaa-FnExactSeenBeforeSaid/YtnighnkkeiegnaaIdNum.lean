/-
  Contracts of ids: the numbers.
-/
import Derived.Test.YtnighnkkeiegnaaBits3Impl
namespace Go.Proofs.Ytnighnkkeiegnaa
open Go Go.RowKit

theorem isId_any (x : Int) (W : World) : Calls Try.prog 124 #[.int .i64 x] W (Ans (.bool (decide (0 ≤ x) && decide (x ≤ 255))) W) := by
  go_enter Try.func124, Try.ntmps124
  go_wp2_with (go_at_call 69; refine (in_any _ _ _ _).mono ?_; rintro e w' ⟨rfl, rfl⟩)
  go_ret
  exact ⟨rfl, Drew.refl _⟩

theorem valid_any (x : Int) (W : World) : Calls Try.prog 137 #[.int .i64 x] W (Ans (.bool (decide (0 ≤ x) && decide (x ≤ 255))) W) := by
  go_enter Try.func137, Try.ntmps137
  go_wp2_with (go_at_call 111; refine (rng_any _ _ _ _).mono ?_; rintro e w' ⟨rfl, rfl⟩)
  go_ret
  exact ⟨rfl, Drew.refl _⟩

theorem implIsId_any (x : Int) (W : World) : Calls Try.prog 129 #[.int .i64 x] W (Ans (.bool (decide (0 ≤ x) && decide (x ≤ 255))) W) := by
  go_enter Try.func129, Try.ntmps129
  go_wp2_with (go_at_call 137; refine (valid_any _ _).mono ?_; rintro e w1 ⟨rfl, d1⟩; have D1 := Lib.hid d1; clear d1)
  go_ret
  exact ⟨rfl, D1.out⟩

theorem ok_in {x : Int} (h0 : 0 ≤ x) (h1 : x ≤ 255) : (decide (0 ≤ x) && decide (x ≤ 255)) = true := by simp [h0, h1]

theorem ok_out {x : Int} (h : x < 0 ∨ 255 < x) : (decide (0 ≤ x) && decide (x ≤ 255)) = false := by simp; omega

theorem isId_yes (x : Int) (W : World) (h0 : 0 ≤ x) (h1 : x ≤ 255) : Calls Try.prog 124 #[.int .i64 x] W (Ans (.bool true) W) := by have := isId_any x W; rw [ok_in h0 h1] at this; exact this

theorem isId_no (x : Int) (W : World) (h : x < 0 ∨ 255 < x) : Calls Try.prog 124 #[.int .i64 x] W (Ans (.bool false) W) := by have := isId_any x W; rw [ok_out h] at this; exact this

theorem valid_yes (x : Int) (W : World) (h0 : 0 ≤ x) (h1 : x ≤ 255) : Calls Try.prog 137 #[.int .i64 x] W (Ans (.bool true) W) := by have := valid_any x W; rw [ok_in h0 h1] at this; exact this

theorem valid_no (x : Int) (W : World) (h : x < 0 ∨ 255 < x) : Calls Try.prog 137 #[.int .i64 x] W (Ans (.bool false) W) := by have := valid_any x W; rw [ok_out h] at this; exact this

theorem implIsId_yes (x : Int) (W : World) (h0 : 0 ≤ x) (h1 : x ≤ 255) : Calls Try.prog 129 #[.int .i64 x] W (Ans (.bool true) W) := by have := implIsId_any x W; rw [ok_in h0 h1] at this; exact this

theorem implIsId_no (x : Int) (W : World) (h : x < 0 ∨ 255 < x) : Calls Try.prog 129 #[.int .i64 x] W (Ans (.bool false) W) := by have := implIsId_any x W; rw [ok_out h] at this; exact this

end Go.Proofs.Ytnighnkkeiegnaa
