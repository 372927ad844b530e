/-
  The walks of the laws on bit fields: FnExactFieldOf, FnExactWithField, FnExactCountOnes, FnExactIsPower, FnExactRoundUp.
-/
import Derived.Test.YteaaobklfhlgiaaBits3Impl
import Derived.Test.YteaaobklfhlgiaaBits4Impl
namespace Go.Proofs.Yteaaobklfhlgiaa
open Go Go.RowKit

theorem nat_fit {x low w : Int} (h : FitsF x low w) : ∃ a b c : Nat, x = a ∧ low = b ∧ w = c ∧ a ≤ 65535 ∧ b ≤ 15 ∧ 1 ≤ c ∧ c + b ≤ 16 := by
  unfold FitsF at h
  exact ⟨x.toNat, low.toNat, w.toNat, by omega, by omega, by omega, by omega, by omega, by omega, by omega⟩

/-- two functions that answer the same -/
theorem fieldOf_same (x low w : Int) : ∃ r : Int, (∀ W : World, Calls Try.prog 22 #[.int .i64 x, .int .i64 low, .int .i64 w] W (Ans (.int .i64 r) W)) ∧ ∀ W : World, Calls Try.prog 18 #[.int .i64 x, .int .i64 low, .int .i64 w] W (Ans (.int .i64 r) W) := by
  by_cases h : FitsF x low w
  · obtain ⟨a, b, c, rfl, rfl, rfl, h1, h2, h3, h4⟩ := nat_fit h
    exact ⟨_, fun W => specFieldOf_in a b c W h1 h2 h3 h4, fun W => implFieldOf_in a b c W h1 h2 h3 h4⟩
  · exact ⟨_, fun W => specFieldOf_out _ _ _ W h, fun W => implFieldOf_out _ _ _ W h⟩

theorem walk_exactFieldOf (x low w : Int) (W : World) :
    Calls Try.prog 4 #[.int .i64 x, .int .i64 low, .int .i64 w] W fun e w' => e = .returned (.bool true) ∧ Below W.heap.size W w' := by
  obtain ⟨r, h1, h2⟩ := fieldOf_same x low w
  have H1 := Lib.hid h1
  have H2 := Lib.hid h2
  clear h1 h2
  go_enter Try.func4, Try.ntmps4
  go_wp2_with fail
  go_at_call 22
  refine (H1.out _).mono ?_
  rintro e w1 ⟨rfl, d1⟩
  have D1 := Lib.hid d1
  clear d1
  go_wp2_with fail
  go_at_call 18
  refine (H2.out _).mono ?_
  rintro e w2 ⟨rfl, d2⟩
  have D2 := Lib.hid d2
  clear d2
  go_wp2
  go_ret
  exact ⟨rfl, gby_below ((D1.out.trans D2.out).gby none)⟩

theorem withField_same (x low w v : Int) : ∃ (r : Int) (b : Bool), (∀ W : World, Calls Try.prog 23 #[.int .i64 x, .int .i64 low, .int .i64 w, .int .i64 v] W (Ans (.tuple #[.int .i64 r, .bool b]) W)) ∧ ∀ W : World, Calls Try.prog 17 #[.int .i64 x, .int .i64 low, .int .i64 w, .int .i64 v] W (Ans (.tuple #[.int .i64 r, .bool b]) W) := by
  by_cases h : FitsF x low w
  · obtain ⟨a, b, c, rfl, rfl, rfl, h1, h2, h3, h4⟩ := nat_fit h
    have hp : 1 ≤ (2 : Nat) ^ c := Nat.one_le_two_pow
    by_cases hv : v < 0 ∨ ((2 ^ c - 1 : Nat) : Int) < v
    · exact ⟨_, _, fun W => specWithField_big a b c v W h1 h2 h3 h4 hv, fun W => implWithField_big a b c v W h1 h2 h3 h4 hv⟩
    · obtain ⟨n, rfl⟩ : ∃ n : Nat, v = n := ⟨v.toNat, by omega⟩
      have hn : n < 2 ^ c := by omega
      exact ⟨_, _, fun W => specWithField_in a b c n W h1 h2 h3 h4 hn, fun W => implWithField_in a b c n W h1 h2 h3 h4 hn⟩
  · exact ⟨_, _, fun W => specWithField_out _ _ _ _ W h, fun W => implWithField_out _ _ _ _ W h⟩

theorem walk_exactWithField (x low w v : Int) (W : World) :
    Calls Try.prog 5 #[.int .i64 x, .int .i64 low, .int .i64 w, .int .i64 v] W fun e w' => e = .returned (.bool true) ∧ Below W.heap.size W w' := by
  obtain ⟨r, b, h1, h2⟩ := withField_same x low w v
  have H1 := Lib.hid h1
  have H2 := Lib.hid h2
  clear h1 h2
  go_enter Try.func5, Try.ntmps5
  go_wp2_with fail
  go_at_call 23
  refine (H1.out _).mono ?_
  rintro e w1 ⟨rfl, d1⟩
  have D1 := Lib.hid d1
  clear d1
  go_wp2_with fail
  go_at_call 17
  refine (H2.out _).mono ?_
  rintro e w2 ⟨rfl, d2⟩
  have D2 := Lib.hid d2
  clear d2
  go_wp2
  go_ret
  exact ⟨rfl, gby_below ((D1.out.trans D2.out).gby none)⟩

end Go.Proofs.Yteaaobklfhlgiaa
