/-
  Contracts of the program's CountOnes, IsPower and RoundUp.
-/
import Derived.Test.YtgmpehccklifdaaBits2Impl
namespace Go.Proofs.Ytgmpehccklifdaa
open Go Go.RowKit

theorem bv_nat64 (a : Nat) (h : a < 18446744073709551616) : (BitVec.ofInt 64 (a : Int)).toNat = a := by
  rw [BitVec.ofInt_natCast, BitVec.toNat_ofNat]; exact Nat.mod_eq_of_lt (by omega)

theorem wrap_u64 (x : Int) (h0 : 0 ≤ x) (h1 : x < 18446744073709551616) : IntKind.u64.wrap x = x := by rw [IntKind.wrap_u64]; omega

theorem and_u64 (a b : Nat) (ha : a < 18446744073709551616) (hb : b < 18446744073709551616) : bits .and .u64 (a : Int) (b : Int) = ((a &&& b : Nat) : Int) := by
  show IntKind.u64.wrap ((BitVec.ofInt 64 (a : Int) &&& BitVec.ofInt 64 (b : Int)).toNat : Int) = _
  rw [BitVec.toNat_and, bv_nat64 a ha, bv_nat64 b hb]
  have : a &&& b ≤ a := Nat.and_le_left
  exact wrap_u64 _ (by omega) (by omega)

/-- a halving step of the library's sum -/
theorem sum_step (a k m : Nat) (ha : a ≤ 1000000) (hk : a / k ≤ 1000000) (hm : m < 18446744073709551616) :
    IntKind.u64.wrap (bits .and .u64 ((a : Int) / (k : Int)) (m : Int) + bits .and .u64 (a : Int) (m : Int)) = (((a / k &&& m) + (a &&& m) : Nat) : Int) := by
  have e : (a : Int) / (k : Int) = ((a / k : Nat) : Int) := by rw [Int.natCast_ediv]
  have h1 : a / k &&& m ≤ a / k := Nat.and_le_left
  have h2 : a &&& m ≤ a := Nat.and_le_left
  rw [e, and_u64 _ m (by omega) hm, and_u64 a m (by omega) hm, ← Int.natCast_add, wrap_u64 _ (by omega) (by omega)]

set_option maxHeartbeats 1000000 in
theorem ones64_any (x : Nat) (W : World) (h : x ≤ 65535) :
    Calls Try.prog 76 #[.int .u64 (x : Int)] W (Ans (.int .i64 (onesTo x 16 : Int)) W) := by
  have l1 : swar1 x ≤ x / 2 + x := Nat.add_le_add Nat.and_le_left Nat.and_le_left
  have l2 : swar2 (swar1 x) ≤ swar1 x / 4 + swar1 x := Nat.add_le_add Nat.and_le_left Nat.and_le_left
  have l3 : swar3 (swar2 (swar1 x)) ≤ swar2 (swar1 x) / 16 + swar2 (swar1 x) := Nat.and_le_left
  have h1 : IntKind.u64.wrap (bits .and .u64 ((x : Int) / 2) 6148914691236517205 + bits .and .u64 (x : Int) 6148914691236517205) = (swar1 x : Int) := sum_step x 2 6148914691236517205 (by omega) (by omega) (by decide)
  have h2 : IntKind.u64.wrap (bits .and .u64 ((swar1 x : Int) / 4) 3689348814741910323 + bits .and .u64 (swar1 x : Int) 3689348814741910323) = (swar2 (swar1 x) : Int) := sum_step (swar1 x) 4 3689348814741910323 (by omega) (by omega) (by decide)
  have h3 : bits .and .u64 (IntKind.u64.wrap ((swar2 (swar1 x) : Int) / 16 + (swar2 (swar1 x) : Int))) 1085102592571150095 = (swar3 (swar2 (swar1 x)) : Int) := by
    rw [show ((swar2 (swar1 x) : Int) / 16 + (swar2 (swar1 x) : Int)) = ((swar2 (swar1 x) / 16 + swar2 (swar1 x) : Nat) : Int) by omega, wrap_u64 _ (by omega) (by omega)]
    exact and_u64 _ 1085102592571150095 (by omega) (by decide)
  obtain ⟨s1, s2⟩ := swar_ones x h
  have h4 : IntKind.u64.wrap ((swar3 (swar2 (swar1 x)) : Int) + (swar3 (swar2 (swar1 x)) : Int) / 256) = (swar x : Int) := by
    have e : swar x = swar3 (swar2 (swar1 x)) + swar3 (swar2 (swar1 x)) / 256 := rfl
    rw [wrap_u64 _ (by omega) (by omega)]; omega
  have h5 : IntKind.u64.wrap ((swar x : Int) + (swar x : Int) / 65536) = (swar x : Int) := by rw [wrap_u64 _ (by omega) (by omega)]; omega
  have h6 : IntKind.u64.wrap ((swar x : Int) + (swar x : Int) / 4294967296) = (swar x : Int) := by rw [wrap_u64 _ (by omega) (by omega)]; omega
  have h7 : IntKind.i64.wrap (swar x : Int) = (swar x : Int) := wrap_small _ (by omega) (by omega)
  have h8 : bits .and .i64 (swar x : Int) 127 = (onesTo x 16 : Int) := by
    have := mask_nat (swar x) 7 (by omega) (by omega)
    rw [show (2 : Nat) ^ 7 = 128 from rfl, s1] at this
    exact this
  obtain ⟨y1, e1⟩ : ∃ y : Int, y = (swar1 x : Int) := ⟨_, rfl⟩
  obtain ⟨y2, e2⟩ : ∃ y : Int, y = (swar2 (swar1 x) : Int) := ⟨_, rfl⟩
  obtain ⟨y3, e3⟩ : ∃ y : Int, y = (swar3 (swar2 (swar1 x)) : Int) := ⟨_, rfl⟩
  obtain ⟨y4, e4⟩ : ∃ y : Int, y = (swar x : Int) := ⟨_, rfl⟩
  rw [← e1] at h1 h2
  rw [← e2] at h2 h3
  rw [← e3] at h3 h4
  rw [← e4] at h4 h5 h6 h7 h8
  obtain ⟨r, hr⟩ : ∃ r : Int, r = (onesTo x 16 : Int) := ⟨_, rfl⟩
  rw [← hr] at h8 ⊢
  clear e1 e2 e3 e4 hr s1 s2 l1 l2 l3
  go_enter Try.func76, Try.ntmps76
  go_wp2
  go_ret
  exact ⟨rfl, Drew.refl _⟩

theorem onesW_any (x : Nat) (W : World) (h : x ≤ 65535) :
    Calls Try.prog 69 #[.int .u64 (x : Int)] W (Ans (.int .i64 (onesTo x 16 : Int)) W) := by
  have HO := Lib.hid (fun W : World => ones64_any x W h)
  have hu : IntKind.u64.wrap (x : Int) = (x : Int) := wrap_u64 _ (by omega) (by omega)
  go_enter Try.func69, Try.ntmps69
  go_wp2_with (go_at_call 76; refine (HO.out _).mono ?_; rintro e w1 ⟨rfl, d1⟩; have D1 := Lib.hid d1; clear d1)
  go_ret
  exact ⟨rfl, D1.out⟩

theorem implCount_in (x : Nat) (W : World) (h : x ≤ 65535) :
    Calls Try.prog 57 #[.int .i64 (x : Int)] W (Ans (.int .i64 (onesTo x 16 : Int)) W) := by
  have HO := Lib.hid (fun W : World => onesW_any x W h)
  have hu : IntKind.u64.wrap (x : Int) = (x : Int) := wrap_u64 _ (by omega) (by omega)
  go_enter Try.func57, Try.ntmps57
  go_wp2_with fail
  go_at_call 68
  refine (word_yes _ _ (by omega) (by omega)).mono ?_
  rintro e w' ⟨rfl, rfl⟩
  go_wp2_with (go_at_call 69; refine (HO.out _).mono ?_; rintro e w1 ⟨rfl, d1⟩; have D1 := Lib.hid d1; clear d1)
  go_ret
  exact ⟨rfl, D1.out⟩

theorem implCount_out (x : Int) (W : World) (h : x < 0 ∨ 65535 < x) :
    Calls Try.prog 57 #[.int .i64 x] W (Ans (.int .i64 (-1)) W) := by
  have H := Lib.hid h
  clear h
  go_enter Try.func57, Try.ntmps57
  go_wp2_with fail
  go_at_call 68
  refine (word_no _ _ H.out).mono ?_
  rintro e w' ⟨rfl, rfl⟩
  go_wp2
  go_ret
  exact ⟨rfl, Drew.refl _⟩

theorem low_bit (x : Int) (h1 : 1 ≤ x) (h2 : x ≤ 1048576) : ∃ q : Int, bits .and .i64 x (x - 1) = q ∧ (q = 0 ↔ IsPow x) := by
  obtain ⟨n, rfl⟩ : ∃ n : Nat, x = n := ⟨x.toNat, by omega⟩
  refine ⟨((n &&& (n - 1) : Nat) : Int), ?_, ?_⟩
  · rw [show (n : Int) - 1 = ((n - 1 : Nat) : Int) by omega]; exact and_nat _ _ (by omega) (by omega)
  · have := power_iff n (by omega) (by omega)
    unfold IsPow
    constructor
    · intro h
      obtain ⟨k, hk, e⟩ := this.1 (by omega)
      exact ⟨k, hk, by rw [← e]⟩
    · rintro ⟨k, hk, e⟩
      have := this.2 ⟨k, hk, by omega⟩
      omega

theorem implPower_yes (x : Int) (W : World) (h : IsPow x) :
    Calls Try.prog 49 #[.int .i64 x] W (Ans (.bool true) W) := by
  obtain ⟨s1, s2⟩ := pow_bounds h
  obtain ⟨q, hq, hi⟩ := low_bit x s1 s2
  have hz : (q == 0) = true := by simpa using hi.2 h
  clear h hi
  go_enter Try.func49, Try.ntmps49
  go_wp2_with fail
  go_at_call 48
  refine (rng_yes _ _ _ _ (by omega) (by omega)).mono ?_
  rintro e w' ⟨rfl, rfl⟩
  go_wp2
  go_ret
  exact ⟨ret_bool (by simp), Drew.refl _⟩

theorem implPower_no (x : Int) (W : World) (h : ¬ IsPow x) :
    Calls Try.prog 49 #[.int .i64 x] W (Ans (.bool false) W) := by
  by_cases hx : 1 ≤ x ∧ x ≤ 1048576
  · obtain ⟨s1, s2⟩ := hx
    obtain ⟨q, hq, hi⟩ := low_bit x s1 s2
    have hz : (q == 0) = false := by
      rw [beq_eq_false_iff_ne]; exact fun e => h (hi.1 e)
    clear h hi
    go_enter Try.func49, Try.ntmps49
    go_wp2_with fail
    go_at_call 48
    refine (rng_yes _ _ _ _ (by omega) (by omega)).mono ?_
    rintro e w' ⟨rfl, rfl⟩
    go_wp2
    go_ret
    exact ⟨ret_bool (by simp), Drew.refl _⟩
  · have HX := Lib.hid hx
    clear h hx
    go_enter Try.func49, Try.ntmps49
    go_wp2_with fail
    go_at_call 48
    refine (rng_no _ _ _ _ (by have := HX.out; omega)).mono ?_
    rintro e w' ⟨rfl, rfl⟩
    go_wp2
    go_ret
    exact ⟨rfl, Drew.refl _⟩

theorem upTo_bits (x s : Int) (h0 : 0 ≤ x) (h1 : x ≤ 1048576) (hs : IsPow s) : bits .andNot .i64 (x + s - 1) (s - 1) = upTo x s := by
  obtain ⟨k, hk, rfl⟩ := hs
  obtain ⟨n, rfl⟩ : ∃ n : Nat, x = n := ⟨x.toNat, by omega⟩
  have hp : (2 : Nat) ^ k ≤ 2 ^ 20 := Nat.pow_le_pow_right (by omega) hk
  have h2 : 1 ≤ (2 : Nat) ^ k := Nat.one_le_two_pow
  unfold upTo
  rw [show (n : Int) + ((2 ^ k : Nat) : Int) - 1 = ((n + 2 ^ k - 1 : Nat) : Int) by omega, show ((2 ^ k : Nat) : Int) - 1 = ((2 ^ k - 1 : Nat) : Int) by omega, andNot_nat _ _ (by omega) (by omega), cut_low _ k (by omega) (by omega), Int.natCast_mul, Int.natCast_ediv]

end Go.Proofs.Ytgmpehccklifdaa
