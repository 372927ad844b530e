/-
  Base address registers on both sides.
-/
import Derived.Test.YtjkjodcgpdhldacBits4Impl
import Derived.Test.YtjkjodcgpdhldacQBar
import Derived.Deep.RegionHeld3
import Derived.Deep.QuietTactic
namespace Go.Proofs.Ytjkjodcgpdhldac
open Go Go.RowKit
set_option linter.unusedVariables false

theorem specPower_yes (x : Int) (W : World) (h : IsPow x) : Calls Try.prog 64 #[.int .i64 x] W (Ans (.bool true) W) :=
  (specPower_any x W).mono (by rintro e w ⟨h1 | h1, hd⟩; exact ⟨h1.2, hd⟩; exact absurd h h1.1)
theorem specPower_no (x : Int) (W : World) (h : ¬ IsPow x) : Calls Try.prog 64 #[.int .i64 x] W (Ans (.bool false) W) :=
  (specPower_any x W).mono (by rintro e w ⟨h1 | h1, hd⟩; exact absurd h1.1 h; exact ⟨h1.2, hd⟩)

/-- a size of a register -/
def BSz (n : Int) : Prop := IsPow n ∧ 16 ≤ n ∧ n ≤ 32768
/-- a register -/
def BOk (s b : Int) : Prop := s = 0 ∧ b = 0 ∨ BSz s ∧ (0 ≤ b ∧ b ≤ 65536 - s) ∧ b % s = 0

theorem implBSz_yes (n : Int) (W : World) (h : BSz n) : Calls Try.prog 66 #[.int .i64 n] W (Ans (.bool true) W) := by
  obtain ⟨hp, h1, h2⟩ := h
  have HP := Lib.hid hp
  clear hp
  go_enter Try.func66, Try.ntmps66
  go_wp2_with fail
  go_at_call 54
  refine (rng_yes _ _ _ _ (by omega) (by omega)).mono ?_
  rintro e w1 ⟨rfl, rfl⟩
  go_wp2_with fail
  go_at_call 84
  refine (implPower_yes _ _ HP.out).mono ?_
  rintro e w2 ⟨rfl, hd⟩
  have HD2 := Lib.hid hd
  clear hd
  go_wp2
  go_ret
  exact ⟨rfl, HD2.out⟩

theorem implBSz_no (n : Int) (W : World) (h : ¬ BSz n) : Calls Try.prog 66 #[.int .i64 n] W (Ans (.bool false) W) := by
  by_cases hr : 16 ≤ n ∧ n ≤ 32768
  · have HP := Lib.hid (fun q : IsPow n => h ⟨q, hr⟩)
    clear h
    go_enter Try.func66, Try.ntmps66
    go_wp2_with fail
    go_at_call 54
    refine (rng_yes _ _ _ _ (by omega) (by omega)).mono ?_
    rintro e w1 ⟨rfl, rfl⟩
    go_wp2_with fail
    go_at_call 84
    refine (implPower_no _ _ HP.out).mono ?_
    rintro e w2 ⟨rfl, hd⟩
    have HD := Lib.hid hd
    clear hd
    go_wp2
    go_ret
    exact ⟨rfl, HD.out⟩
  · clear h
    go_enter Try.func66, Try.ntmps66
    go_wp2_with fail
    go_at_call 54
    refine (rng_no _ _ _ _ (by omega)).mono ?_
    rintro e w1 ⟨rfl, rfl⟩
    go_wp2
    go_ret
    exact ⟨rfl, Drew.refl _⟩

end Go.Proofs.Ytjkjodcgpdhldac
