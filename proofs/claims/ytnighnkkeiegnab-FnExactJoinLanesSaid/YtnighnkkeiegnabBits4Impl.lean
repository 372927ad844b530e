/-
  Contracts of the program's CountOnes, IsPower and RoundUp.
-/
import Derived.Test.YtnighnkkeiegnabBits2Impl
namespace Go.Proofs.Ytnighnkkeiegnab
open Go Go.RowKit

theorem bv_nat64 (a : Nat) (h : a < 18446744073709551616) : (BitVec.ofInt 64 (a : Int)).toNat = a := by
  rw [BitVec.ofInt_natCast, BitVec.toNat_ofNat]; exact Nat.mod_eq_of_lt (by omega)

theorem wrap_u64 (x : Int) (h0 : 0 ≤ x) (h1 : x < 18446744073709551616) : IntKind.u64.wrap x = x := by rw [IntKind.wrap_u64]; omega

theorem and_u64 (a b : Nat) (ha : a < 18446744073709551616) (hb : b < 18446744073709551616) : bits .and .u64 (a : Int) (b : Int) = ((a &&& b : Nat) : Int) := by
  show IntKind.u64.wrap ((BitVec.ofInt 64 (a : Int) &&& BitVec.ofInt 64 (b : Int)).toNat : Int) = _
  rw [BitVec.toNat_and, bv_nat64 a ha, bv_nat64 b hb]
  have : a &&& b ≤ a := Nat.and_le_left
  exact wrap_u64 _ (by omega) (by omega)

/-- a halving step of the library's sum -/
theorem sum_step (a k m : Nat) (ha : a ≤ 1000000) (hk : a / k ≤ 1000000) (hm : m < 18446744073709551616) :
    IntKind.u64.wrap (bits .and .u64 ((a : Int) / (k : Int)) (m : Int) + bits .and .u64 (a : Int) (m : Int)) = (((a / k &&& m) + (a &&& m) : Nat) : Int) := by
  have e : (a : Int) / (k : Int) = ((a / k : Nat) : Int) := by rw [Int.natCast_ediv]
  have h1 : a / k &&& m ≤ a / k := Nat.and_le_left
  have h2 : a &&& m ≤ a := Nat.and_le_left
  rw [e, and_u64 _ m (by omega) hm, and_u64 a m (by omega) hm, ← Int.natCast_add, wrap_u64 _ (by omega) (by omega)]

theorem low_bit (x : Int) (h1 : 1 ≤ x) (h2 : x ≤ 1048576) : ∃ q : Int, bits .and .i64 x (x - 1) = q ∧ (q = 0 ↔ IsPow x) := by
  obtain ⟨n, rfl⟩ : ∃ n : Nat, x = n := ⟨x.toNat, by omega⟩
  refine ⟨((n &&& (n - 1) : Nat) : Int), ?_, ?_⟩
  · rw [show (n : Int) - 1 = ((n - 1 : Nat) : Int) by omega]; exact and_nat _ _ (by omega) (by omega)
  · have := power_iff n (by omega) (by omega)
    unfold IsPow
    constructor
    · intro h
      obtain ⟨k, hk, e⟩ := this.1 (by omega)
      exact ⟨k, hk, by rw [← e]⟩
    · rintro ⟨k, hk, e⟩
      have := this.2 ⟨k, hk, by omega⟩
      omega

theorem implPower_yes (x : Int) (W : World) (h : IsPow x) :
    Calls Try.prog 102 #[.int .i64 x] W (Ans (.bool true) W) := by
  obtain ⟨s1, s2⟩ := pow_bounds h
  obtain ⟨q, hq, hi⟩ := low_bit x s1 s2
  have hz : (q == 0) = true := by simpa using hi.2 h
  clear h hi
  go_enter Try.func102, Try.ntmps102
  go_wp2_with fail
  go_at_call 79
  refine (rng_yes _ _ _ _ (by omega) (by omega)).mono ?_
  rintro e w' ⟨rfl, rfl⟩
  go_wp2
  go_ret
  exact ⟨ret_bool (by simp), Drew.refl _⟩

theorem implPower_no (x : Int) (W : World) (h : ¬ IsPow x) :
    Calls Try.prog 102 #[.int .i64 x] W (Ans (.bool false) W) := by
  by_cases hx : 1 ≤ x ∧ x ≤ 1048576
  · obtain ⟨s1, s2⟩ := hx
    obtain ⟨q, hq, hi⟩ := low_bit x s1 s2
    have hz : (q == 0) = false := by
      rw [beq_eq_false_iff_ne]; exact fun e => h (hi.1 e)
    clear h hi
    go_enter Try.func102, Try.ntmps102
    go_wp2_with fail
    go_at_call 79
    refine (rng_yes _ _ _ _ (by omega) (by omega)).mono ?_
    rintro e w' ⟨rfl, rfl⟩
    go_wp2
    go_ret
    exact ⟨ret_bool (by simp), Drew.refl _⟩
  · have HX := Lib.hid hx
    clear h hx
    go_enter Try.func102, Try.ntmps102
    go_wp2_with fail
    go_at_call 79
    refine (rng_no _ _ _ _ (by have := HX.out; omega)).mono ?_
    rintro e w' ⟨rfl, rfl⟩
    go_wp2
    go_ret
    exact ⟨rfl, Drew.refl _⟩

theorem upTo_bits (x s : Int) (h0 : 0 ≤ x) (h1 : x ≤ 1048576) (hs : IsPow s) : bits .andNot .i64 (x + s - 1) (s - 1) = upTo x s := by
  obtain ⟨k, hk, rfl⟩ := hs
  obtain ⟨n, rfl⟩ : ∃ n : Nat, x = n := ⟨x.toNat, by omega⟩
  have hp : (2 : Nat) ^ k ≤ 2 ^ 20 := Nat.pow_le_pow_right (by omega) hk
  have h2 : 1 ≤ (2 : Nat) ^ k := Nat.one_le_two_pow
  unfold upTo
  rw [show (n : Int) + ((2 ^ k : Nat) : Int) - 1 = ((n + 2 ^ k - 1 : Nat) : Int) by omega, show ((2 ^ k : Nat) : Int) - 1 = ((2 ^ k - 1 : Nat) : Int) by omega, andNot_nat _ _ (by omega) (by omega), cut_low _ k (by omega) (by omega), Int.natCast_mul, Int.natCast_ediv]

end Go.Proofs.Ytnighnkkeiegnab
