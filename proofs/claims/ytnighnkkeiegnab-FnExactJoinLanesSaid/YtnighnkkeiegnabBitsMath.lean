/-
  Plain facts on bit fields of numbers.
-/
import Derived.Test.YtnighnkkeiegnabPlain
namespace Go.Proofs.Ytnighnkkeiegnab
open Go Go.RowKit

theorem bv_nat (a : Nat) (h : a < 9223372036854775808) : (BitVec.ofInt 64 (a : Int)).toNat = a := by
  rw [BitVec.ofInt_natCast, BitVec.toNat_ofNat]; exact Nat.mod_eq_of_lt (by omega)
theorem and_nat (a b : Nat) (ha : a < 9223372036854775808) (hb : b < 9223372036854775808) : bits .and .i64 (a : Int) (b : Int) = ((a &&& b : Nat) : Int) := by
  show IntKind.i64.wrap ((BitVec.ofInt 64 (a : Int) &&& BitVec.ofInt 64 (b : Int)).toNat : Int) = _
  rw [BitVec.toNat_and, bv_nat a ha, bv_nat b hb]
  have : a &&& b ≤ a := Nat.and_le_left
  exact wrap_small _ (by omega) (by omega)
theorem or_nat (a b : Nat) (ha : a < 9223372036854775808) (hb : b < 9223372036854775808) : bits .or .i64 (a : Int) (b : Int) = ((a ||| b : Nat) : Int) := by
  show IntKind.i64.wrap ((BitVec.ofInt 64 (a : Int) ||| BitVec.ofInt 64 (b : Int)).toNat : Int) = _
  rw [BitVec.toNat_or, bv_nat a ha, bv_nat b hb]
  have : a ||| b < 2 ^ 63 := Nat.or_lt_two_pow (by omega) (by omega)
  exact wrap_small _ (by omega) (by omega)
/-- a mask of w ones -/
theorem mask_nat (a w : Nat) (ha : a < 9223372036854775808) (hw : w ≤ 62) : bits .and .i64 (a : Int) ((2 ^ w - 1 : Nat) : Int) = ((a % 2 ^ w : Nat) : Int) := by
  have h2 : (2 : Nat) ^ w ≤ 2 ^ 62 := Nat.pow_le_pow_right (by omega) hw
  rw [and_nat a _ ha (by omega), Nat.and_two_pow_sub_one_eq_mod]

/-- the field of x from low on, w bits -/
def getF (x low w : Nat) : Nat := x / 2 ^ low % 2 ^ w
/-- x with this field replaced -/
def setF (x low w v : Nat) : Nat := x / 2 ^ (low + w) * 2 ^ (low + w) + v * 2 ^ low + x % 2 ^ low

theorem getF_lt (x low w : Nat) : getF x low w < 2 ^ w := Nat.mod_lt _ (Nat.two_pow_pos w)

theorem split_field (x low w : Nat) : x = x / 2 ^ (low + w) * 2 ^ (low + w) + getF x low w * 2 ^ low + x % 2 ^ low := by
  unfold getF
  have h1 := Nat.div_add_mod x (2 ^ low)
  have h2 := Nat.div_add_mod (x / 2 ^ low) (2 ^ w)
  rw [Nat.pow_add, ← Nat.div_div_eq_div_mul]
  generalize x / 2 ^ low / 2 ^ w = c at h2 ⊢
  generalize x / 2 ^ low % 2 ^ w = d at h2 ⊢
  rw [← h2] at h1
  rw [Nat.mul_add] at h1
  rw [show c * (2 ^ low * 2 ^ w) = 2 ^ low * (2 ^ w * c) by ac_rfl, Nat.mul_comm d (2 ^ low)]
  exact h1.symm

theorem setF_same (x low w : Nat) : setF x low w (getF x low w) = x := (split_field x low w).symm

theorem setF_low (x low w v : Nat) : setF x low w v % 2 ^ low = x % 2 ^ low := by
  unfold setF
  rw [Nat.pow_add, show x / (2 ^ low * 2 ^ w) * (2 ^ low * 2 ^ w) + v * 2 ^ low + x % 2 ^ low = x % 2 ^ low + 2 ^ low * (x / (2 ^ low * 2 ^ w) * 2 ^ w + v) by rw [Nat.mul_add]; ac_rfl, Nat.add_mul_mod_self_left]
  exact Nat.mod_mod _ _

theorem setF_div (x low w v : Nat) : setF x low w v / 2 ^ low = x / 2 ^ (low + w) * 2 ^ w + v := by
  unfold setF
  have hp := Nat.two_pow_pos low
  rw [Nat.pow_add, show x / (2 ^ low * 2 ^ w) * (2 ^ low * 2 ^ w) + v * 2 ^ low + x % 2 ^ low = x % 2 ^ low + 2 ^ low * (x / (2 ^ low * 2 ^ w) * 2 ^ w + v) by rw [Nat.mul_add]; ac_rfl, Nat.add_mul_div_left _ _ hp, Nat.div_eq_of_lt (Nat.mod_lt _ hp), Nat.zero_add]

theorem getF_setF (x low w v : Nat) (hv : v < 2 ^ w) : getF (setF x low w v) low w = v := by
  unfold getF
  rw [setF_div, Nat.mul_comm, Nat.add_comm, Nat.add_mul_mod_self_left, Nat.mod_eq_of_lt hv]

theorem setF_high (x low w v : Nat) (hv : v < 2 ^ w) : setF x low w v / 2 ^ (low + w) = x / 2 ^ (low + w) := by
  have : setF x low w v / 2 ^ (low + w) = setF x low w v / 2 ^ low / 2 ^ w := by rw [Nat.div_div_eq_div_mul, Nat.pow_add]
  rw [this, setF_div, Nat.mul_comm, Nat.add_comm, Nat.add_mul_div_left _ _ (Nat.two_pow_pos w), Nat.div_eq_of_lt hv, Nat.zero_add]

/-- putting the old field back gives the number back -/
theorem setF_back (x low w v : Nat) (hv : v < 2 ^ w) : setF (setF x low w v) low w (getF x low w) = x := by
  conv => rhs; rw [split_field x low w]
  unfold setF
  have h1 := setF_high x low w v hv
  have h2 := setF_low x low w v
  unfold setF at h1 h2
  rw [h1, h2]

theorem setF_lt (x low w v n : Nat) (hx : x < 2 ^ n) (hv : v < 2 ^ w) (hn : low + w ≤ n) : setF x low w v < 2 ^ n := by
  have h1 := setF_high x low w v hv
  have h2 : x / 2 ^ (low + w) < 2 ^ (n - (low + w)) := by
    rw [Nat.div_lt_iff_lt_mul (Nat.two_pow_pos _), ← Nat.pow_add, show n - (low + w) + (low + w) = n by omega]; exact hx
  rw [← h1, Nat.div_lt_iff_lt_mul (Nat.two_pow_pos _), ← Nat.pow_add, show n - (low + w) + (low + w) = n by omega] at h2
  exact h2

/-- how many of the first k bits are set -/
def onesTo (x : Nat) : Nat → Nat
  | 0 => 0
  | k + 1 => onesTo x k + x / 2 ^ k % 2

theorem onesTo_add (x a : Nat) : ∀ b, onesTo x (a + b) = onesTo x a + onesTo (x / 2 ^ a) b := by
  intro b
  induction b with
  | zero => rfl
  | succ b ih =>
    rw [← Nat.add_assoc]
    show onesTo x (a + b) + x / 2 ^ (a + b) % 2 = onesTo x a + (onesTo (x / 2 ^ a) b + x / 2 ^ a / 2 ^ b % 2)
    rw [ih, Nat.div_div_eq_div_mul, ← Nat.pow_add]; omega

theorem onesTo_mod (x w : Nat) : ∀ k, k ≤ w → onesTo (x % 2 ^ w) k = onesTo x k := by
  intro k
  induction k with
  | zero => intro _; rfl
  | succ k ih =>
    intro hk
    show onesTo (x % 2 ^ w) k + x % 2 ^ w / 2 ^ k % 2 = onesTo x k + x / 2 ^ k % 2
    rw [ih (by omega)]
    have : x % 2 ^ w / 2 ^ k % 2 = x / 2 ^ k % 2 := by
      have e : (2 : Nat) ^ w = 2 ^ k * 2 ^ (w - k) := by rw [← Nat.pow_add]; congr 1; omega
      rw [e, Nat.mod_mul_right_div_self]
      have e2 : (2 : Nat) ^ (w - k) = 2 * 2 ^ (w - k - 1) := by rw [← Nat.pow_succ']; congr 1; omega
      rw [e2, Nat.mod_mul_right_mod]
    rw [this]

theorem onesTo_zero : ∀ k, onesTo 0 k = 0 := by
  intro k; induction k with
  | zero => rfl
  | succ k ih => show onesTo 0 k + 0 / 2 ^ k % 2 = 0; rw [ih]; simp

/-- a field has no more ones than the whole -/
theorem ones_field (x low w : Nat) (h : low + w ≤ 16) : onesTo (getF x low w) 16 ≤ onesTo x 16 := by
  have h1 : onesTo (getF x low w) 16 = onesTo (x / 2 ^ low) w := by
    have e : 16 = w + (16 - w) := by omega
    conv => lhs; rw [e]
    rw [onesTo_add, show getF x low w / 2 ^ w = 0 from Nat.div_eq_of_lt (getF_lt x low w), onesTo_zero, Nat.add_zero]
    exact onesTo_mod _ w w (Nat.le_refl _)
  have h2 : onesTo x 16 = onesTo x low + (onesTo (x / 2 ^ low) w + onesTo (x / 2 ^ low / 2 ^ w) (16 - low - w)) := by
    have e : 16 = low + (w + (16 - low - w)) := by omega
    conv => lhs; rw [e]
    rw [onesTo_add, onesTo_add]
  omega

theorem andNot_nat (a b : Nat) (ha : a < 9223372036854775808) (hb : b < 9223372036854775808) : bits .andNot .i64 (a : Int) (b : Int) = ((a &&& (2 ^ 64 - (b + 1)) : Nat) : Int) := by
  show IntKind.i64.wrap ((BitVec.ofInt 64 (a : Int) &&& ~~~ BitVec.ofInt 64 (b : Int)).toNat : Int) = _
  rw [BitVec.toNat_and, BitVec.toNat_not, bv_nat a ha, bv_nat b hb]
  have h1 : a &&& (2 ^ 64 - 1 - b) ≤ a := Nat.and_le_left
  rw [show 2 ^ 64 - (b + 1) = 2 ^ 64 - 1 - b by omega]
  exact wrap_small _ (by omega) (by omega)

/-- a field cut out and another put in, bit by bit -/
theorem setF_bits (x low w v : Nat) (hx : x < 2 ^ 16) (hv : v < 2 ^ w) (h : low + w ≤ 16) : (x &&& (2 ^ 64 - ((2 ^ w - 1) * 2 ^ low + 1))) ||| (v * 2 ^ low) = setF x low w v := by
  have hw : (2 : Nat) ^ w ≤ 2 ^ 16 := Nat.pow_le_pow_right (by omega) (by omega)
  have hl : (2 : Nat) ^ low ≤ 2 ^ 16 := Nat.pow_le_pow_right (by omega) (by omega)
  have hM : (2 ^ w - 1) * 2 ^ low < 2 ^ 64 := Nat.lt_of_le_of_lt (Nat.mul_le_mul (show 2 ^ w - 1 ≤ 2 ^ 16 by omega) hl) (by decide)
  have hin : 2 ^ low * v + x % 2 ^ low < 2 ^ (low + w) := by
    have h1 := Nat.mod_lt x (Nat.two_pow_pos low)
    have h2 : 2 ^ low * (v + 1) ≤ 2 ^ low * 2 ^ w := Nat.mul_le_mul_left _ hv
    rw [Nat.pow_add]; rw [Nat.mul_add] at h2; omega
  have es : setF x low w v = 2 ^ (low + w) * (x / 2 ^ (low + w)) + (2 ^ low * v + x % 2 ^ low) := by unfold setF; rw [Nat.mul_comm (x / _), Nat.mul_comm v]; omega
  rw [es]
  apply Nat.eq_of_testBit_eq
  intro i
  rw [Nat.testBit_or, Nat.testBit_and, Nat.testBit_two_pow_sub_succ hM, Nat.testBit_mul_two_pow, Nat.testBit_mul_two_pow, Nat.testBit_two_pow_sub_one, Nat.testBit_two_pow_mul_add _ hin, Nat.testBit_two_pow_mul_add _ (Nat.mod_lt x (Nat.two_pow_pos low)), Nat.testBit_div_two_pow, Nat.testBit_mod_two_pow]
  by_cases h1 : i < low
  · have a1 : ¬ i ≥ low := by omega
    have a2 : i < low + w := by omega
    have a3 : i < 64 := by omega
    simp [h1, a1, a2, a3]
  · by_cases h2 : i < low + w
    · have a1 : i ≥ low := by omega
      have a3 : i < 64 := by omega
      have a4 : i - low < w := by omega
      simp [h1, h2, a1, a3, a4]
    · have a1 : i ≥ low := by omega
      have a4 : ¬ i - low < w := by omega
      have a5 : v.testBit (i - low) = false := Nat.testBit_lt_two_pow (Nat.lt_of_lt_of_le hv (Nat.pow_le_pow_right (by omega) (by omega)))
      have a6 : i - (low + w) + (low + w) = i := by omega
      have a7 : low + w + (i - (low + w)) = i := by omega
      by_cases a3 : i < 64
      · simp [h2, a1, a3, a4, a5, a6]
      · have a8 : x.testBit i = false := Nat.testBit_lt_two_pow (Nat.lt_of_lt_of_le hx (Nat.pow_le_pow_right (by omega) (by omega)))
        simp [h2, a1, a3, a4, a5, a6, a8]

/-- the sum of a word's bits as the library makes it, step by step -/
def swar1 (x : Nat) : Nat := Nat.add (Nat.land (Nat.div x 2) 6148914691236517205) (Nat.land x 6148914691236517205)

def swar2 (x : Nat) : Nat := Nat.add (Nat.land (Nat.div x 4) 3689348814741910323) (Nat.land x 3689348814741910323)

def swar3 (x : Nat) : Nat := Nat.land (Nat.add (Nat.div x 16) x) 1085102592571150095

def swar4 (x : Nat) : Nat := Nat.add x (Nat.div x 256)

def swar (x : Nat) : Nat := swar4 (swar3 (swar2 (swar1 x)))

/-- every number that has the high bits b and n low bits more, and s ones above them, is summed right -/
def okAll : Nat → Nat → Nat → Bool
  | 0, b, s => and (Nat.beq (Nat.mod (swar b) 128) s) (Nat.ble (swar b) 65535)
  | d + 1, b, s => and (okAll d (Nat.mul 2 b) s) (okAll d (Nat.add (Nat.mul 2 b) 1) (Nat.add s 1))

theorem okAll_says : ∀ (d b s : Nat), okAll d b s = true → ∀ i, i < 2 ^ d → swar (b * 2 ^ d + i) % 128 = s + onesTo i d ∧ swar (b * 2 ^ d + i) ≤ 65535 := by
  intro d
  induction d with
  | zero =>
    intro b s h i hi
    obtain rfl : i = 0 := by simpa using hi
    simp only [okAll, Bool.and_eq_true] at h
    have h1 := Nat.eq_of_beq_eq_true h.1
    have h2 := Nat.le_of_ble_eq_true h.2
    simpa [onesTo] using ⟨h1, h2⟩
  | succ d ih =>
    intro b s h i hi
    simp only [okAll, Bool.and_eq_true] at h
    by_cases hl : i < 2 ^ d
    · have := ih _ _ h.1 i hl
      have e : b * 2 ^ (d + 1) + i = Nat.mul 2 b * 2 ^ d + i := by show _ = 2 * b * 2 ^ d + i; rw [Nat.pow_succ]; ac_rfl
      rw [e]
      refine ⟨?_, this.2⟩
      show _ = s + (onesTo i d + i / 2 ^ d % 2)
      rw [this.1, Nat.div_eq_of_lt hl]; simp
    · obtain ⟨j, rfl⟩ : ∃ j, i = 2 ^ d + j := ⟨i - 2 ^ d, by omega⟩
      have hj : j < 2 ^ d := by rw [Nat.pow_succ] at hi; omega
      have := ih _ _ h.2 j hj
      have e : b * 2 ^ (d + 1) + (2 ^ d + j) = Nat.add (Nat.mul 2 b) 1 * 2 ^ d + j := by show _ = (2 * b + 1) * 2 ^ d + j; rw [Nat.pow_succ, Nat.add_mul, Nat.one_mul, Nat.add_assoc]; congr 1; ac_rfl
      rw [e]
      refine ⟨?_, this.2⟩
      show _ = s + (onesTo (2 ^ d + j) d + (2 ^ d + j) / 2 ^ d % 2)
      have h1 : (2 ^ d + j) / 2 ^ d % 2 = 1 := by
        rw [Nat.add_div_left _ (Nat.two_pow_pos d), Nat.div_eq_of_lt hj]
      have h2 : onesTo (2 ^ d + j) d = onesTo j d := by
        rw [← onesTo_mod (2 ^ d + j) d d (Nat.le_refl _), Nat.add_mod_left, Nat.mod_eq_of_lt hj]
      rw [this.1, h1, h2]
      show s + 1 + _ = _
      omega

theorem okAll16 : okAll 16 0 0 = true := by decide +kernel

theorem swar_ones (x : Nat) (h : x ≤ 65535) : swar x % 128 = onesTo x 16 ∧ swar x ≤ 65535 := by
  have := okAll_says 16 0 0 okAll16 x (by omega)
  simpa using this

theorem power_iff (x : Nat) (h1 : 1 ≤ x) (h2 : x ≤ 1048576) : x &&& (x - 1) = 0 ↔ ∃ k, k ≤ 20 ∧ x = 2 ^ k := by
  rw [Nat.and_sub_one_eq_zero_iff_isPowerOfTwo (by omega)]
  constructor
  · rintro ⟨k, rfl⟩
    refine ⟨k, ?_, rfl⟩
    rcases Nat.lt_or_ge 20 k with h | h
    · have : (2 : Nat) ^ 21 ≤ 2 ^ k := Nat.pow_le_pow_right (by omega) h
      omega
    · exact h
  · rintro ⟨k, _, rfl⟩; exact ⟨k, rfl⟩

/-- the low bits cut off -/
theorem cut_low (a k : Nat) (ha : a < 2 ^ 64) (hk : k ≤ 64) : a &&& (2 ^ 64 - (2 ^ k - 1 + 1)) = a / 2 ^ k * 2 ^ k := by
  have h1 : 1 ≤ (2 : Nat) ^ k := Nat.one_le_two_pow
  have h2 : (2 : Nat) ^ k ≤ 2 ^ 64 := Nat.pow_le_pow_right (by omega) hk
  apply Nat.eq_of_testBit_eq
  intro i
  rw [Nat.testBit_and, Nat.testBit_two_pow_sub_succ (by omega), Nat.testBit_mul_two_pow, Nat.testBit_two_pow_sub_one, Nat.testBit_div_two_pow]
  by_cases h3 : i < k
  · have : ¬ k ≤ i := by omega
    simp [h3, this]
  · have e : i - k + k = i := by omega
    by_cases h4 : i < 64
    · simp [h3, h4, e]; intro _; omega
    · have a8 : a.testBit i = false := Nat.testBit_lt_two_pow (Nat.lt_of_lt_of_le ha (Nat.pow_le_pow_right (by omega) (by omega)))
      simp [h3, h4, e, a8]

end Go.Proofs.Ytnighnkkeiegnab
