/-
  The walks of FnExactCountOnes, FnExactIsPower, FnExactRoundUp.
-/
import Derived.Test.YteaaobklfhlgiaaBits4Impl
namespace Go.Proofs.Yteaaobklfhlgiaa
open Go Go.RowKit

theorem sameCountOnes (x : Int) : ∃ r : Int, (∀ W : World, Calls Try.prog 24 #[.int .i64 x] W (Ans (.int .i64 r) W)) ∧ ∀ W : World, Calls Try.prog 20 #[.int .i64 x] W (Ans (.int .i64 r) W) := by
  by_cases h : 0 ≤ x ∧ x ≤ 65535
  · obtain ⟨n, rfl⟩ : ∃ n : Nat, x = n := ⟨x.toNat, by omega⟩
    exact ⟨_, fun W => specCount_in n W (by omega), fun W => implCount_in n W (by omega)⟩
  · exact ⟨_, fun W => specCount_out x W (by omega), fun W => implCount_out x W (by omega)⟩

theorem walk_exactCountOnes (x : Int) (W : World) :
    Calls Try.prog 6 #[.int .i64 x] W fun e w' => e = .returned (.bool true) ∧ Below W.heap.size W w' := by
  obtain ⟨r, h1, h2⟩ := sameCountOnes x
  have H1 := Lib.hid h1
  have H2 := Lib.hid h2
  clear h1 h2
  go_enter Try.func6, Try.ntmps6
  go_wp2_with fail
  go_at_call 24
  refine (H1.out _).mono ?_
  rintro e w1 ⟨rfl, d1⟩
  have D1 := Lib.hid d1
  clear d1
  go_wp2_with fail
  go_at_call 20
  refine (H2.out _).mono ?_
  rintro e w2 ⟨rfl, d2⟩
  have D2 := Lib.hid d2
  clear d2
  go_wp2
  go_ret
  exact ⟨rfl, gby_below ((D1.out.trans D2.out).gby none)⟩

theorem specPower_yes (x : Int) (W : World) (h : IsPow x) : Calls Try.prog 25 #[.int .i64 x] W (Ans (.bool true) W) := by
  refine (specPower_any x W).mono ?_
  rintro e w ⟨⟨_, rfl⟩ | ⟨hn, _⟩, hd⟩
  · exact ⟨rfl, hd⟩
  · exact absurd h hn

theorem specPower_no (x : Int) (W : World) (h : ¬ IsPow x) : Calls Try.prog 25 #[.int .i64 x] W (Ans (.bool false) W) := by
  refine (specPower_any x W).mono ?_
  rintro e w ⟨⟨hy, _⟩ | ⟨_, rfl⟩, hd⟩
  · exact absurd hy h
  · exact ⟨rfl, hd⟩

theorem sameIsPower (x : Int) : ∃ r : Bool, (∀ W : World, Calls Try.prog 25 #[.int .i64 x] W (Ans (.bool r) W)) ∧ ∀ W : World, Calls Try.prog 21 #[.int .i64 x] W (Ans (.bool r) W) := by
  by_cases h : IsPow x
  · exact ⟨_, fun W => specPower_yes x W h, fun W => implPower_yes x W h⟩
  · exact ⟨_, fun W => specPower_no x W h, fun W => implPower_no x W h⟩

theorem walk_exactIsPower (x : Int) (W : World) :
    Calls Try.prog 7 #[.int .i64 x] W fun e w' => e = .returned (.bool true) ∧ Below W.heap.size W w' := by
  obtain ⟨r, h1, h2⟩ := sameIsPower x
  cases r
  all_goals
    have H1 := Lib.hid h1
    have H2 := Lib.hid h2
    clear h1 h2
    go_enter Try.func7, Try.ntmps7
    go_wp2_with fail
    go_at_call 25
    refine (H1.out _).mono ?_
    rintro e w1 ⟨rfl, d1⟩
    have D1 := Lib.hid d1
    clear d1
    go_wp2_with fail
    go_at_call 21
    refine (H2.out _).mono ?_
    rintro e w2 ⟨rfl, d2⟩
    have D2 := Lib.hid d2
    clear d2
    go_wp2
    go_ret
    exact ⟨rfl, gby_below ((D1.out.trans D2.out).gby none)⟩

theorem sameRoundUp (x s : Int) : ∃ r : Int, (∀ W : World, Calls Try.prog 26 #[.int .i64 x, .int .i64 s] W (Ans (.int .i64 r) W)) ∧ ∀ W : World, Calls Try.prog 19 #[.int .i64 x, .int .i64 s] W (Ans (.int .i64 r) W) := by
  by_cases h : 0 ≤ x ∧ x ≤ 1048576 ∧ IsPow s
  · exact ⟨_, fun W => specRound_in x s W h.1 h.2.1 h.2.2, fun W => implRound_in x s W h.1 h.2.1 h.2.2⟩
  · have h' : x < 0 ∨ 1048576 < x ∨ ¬ IsPow s := by
      by_cases hp : IsPow s
      · have : ¬ (0 ≤ x ∧ x ≤ 1048576) := fun q => h ⟨q.1, q.2, hp⟩
        omega
      · exact .inr (.inr hp)
    exact ⟨_, fun W => specRound_out x s W h', fun W => implRound_out x s W h'⟩

theorem walk_exactRoundUp (x s : Int) (W : World) :
    Calls Try.prog 8 #[.int .i64 x, .int .i64 s] W fun e w' => e = .returned (.bool true) ∧ Below W.heap.size W w' := by
  obtain ⟨r, h1, h2⟩ := sameRoundUp x s
  have H1 := Lib.hid h1
  have H2 := Lib.hid h2
  clear h1 h2
  go_enter Try.func8, Try.ntmps8
  go_wp2_with fail
  go_at_call 26
  refine (H1.out _).mono ?_
  rintro e w1 ⟨rfl, d1⟩
  have D1 := Lib.hid d1
  clear d1
  go_wp2_with fail
  go_at_call 19
  refine (H2.out _).mono ?_
  rintro e w2 ⟨rfl, d2⟩
  have D2 := Lib.hid d2
  clear d2
  go_wp2
  go_ret
  exact ⟨rfl, gby_below ((D1.out.trans D2.out).gby none)⟩

end Go.Proofs.Yteaaobklfhlgiaa
