/-
  Facts on logs as numbers and lists.
-/
import Derived.Test.YtgagbhkidponnadClear
import Derived.Test.YtgagbhkidponnadWorst
import Derived.Test.YtgagbhkidponnadReport
namespace Go.Proofs.Ytgagbhkidponnad
open Go Go.RowKit
set_option linter.unusedVariables false

theorem bit_test (x k : Nat) : bitB x k = x.testBit k := by rw [Nat.testBit_eq_decide_div_mod_eq]; rfl

theorem clS_test (s b i : Nat) (hb : b ≤ 65535) : (clS s b).testBit i = (s.testBit i && (decide (i < 64) && !b.testBit i)) := by
  unfold clS
  rw [Nat.testBit_and, Nat.testBit_two_pow_sub_succ (by omega)]

theorem far_test {s i : Nat} (hs : s ≤ 65535) (hi : ¬ i < 64) : s.testBit i = false := Nat.testBit_lt_two_pow (Nat.lt_of_lt_of_le (show s < 2 ^ 64 by omega) (Nat.pow_le_pow_right (by omega) (by omega)))

theorem clS_and (s b : Nat) (hb : b ≤ 65535) : clS s b &&& b = 0 := by
  apply Nat.eq_of_testBit_eq; intro i
  rw [Nat.testBit_and, clS_test s b i hb, Nat.zero_testBit]
  cases s.testBit i <;> cases b.testBit i <;> simp

theorem clS_or (s b : Nat) (hs : s ≤ 65535) (hb : b ≤ 65535) : clS s b ||| b = s ||| b := by
  apply Nat.eq_of_testBit_eq; intro i
  rw [Nat.testBit_or, Nat.testBit_or, clS_test s b i hb]
  by_cases hi : i < 64
  · rw [decide_eq_true hi]; cases s.testBit i <;> cases b.testBit i <;> rfl
  · rw [far_test hs hi]; simp

theorem clS_twice (s b : Nat) (hb : b ≤ 65535) : clS (clS s b) b = clS s b := by
  apply Nat.eq_of_testBit_eq; intro i
  rw [clS_test _ b i hb, clS_test s b i hb]
  cases s.testBit i <;> cases b.testBit i <;> cases decide (i < 64) <;> rfl

theorem clS_all (s : Nat) (hs : s ≤ 65535) : clS s 65535 = 0 := by
  apply Nat.eq_of_testBit_eq; intro i
  rw [clS_test s _ i (by omega), Nat.zero_testBit]
  by_cases hi : i < 16
  · have : Nat.testBit 65535 i = true := by
      rw [show (65535 : Nat) = 2 ^ 16 - 1 by rfl, Nat.testBit_two_pow_sub_one]; simpa using hi
    rw [this]; simp
  · rw [Nat.testBit_lt_two_pow (Nat.lt_of_lt_of_le (show s < 2 ^ 16 by omega) (Nat.pow_le_pow_right (by omega) (by omega)))]; simp

theorem dwn_bit {s : Nat} : ∀ m, m ≤ 16 → dwn s m = -1 ∨ ∃ k : Nat, k ≤ 15 ∧ dwn s m = (k : Int) ∧ bitB s k = true
  | 0, _ => .inl rfl
  | m + 1, hm => by
    unfold dwn
    split
    · next q => exact .inr ⟨15 - m, by omega, rfl, q⟩
    · exact dwn_bit m (by omega)

theorem clear_ok {s : Nat} {ma fi : Int} {xs : List Int} (h : LOk (s : Int) ma fi xs) (b : Nat) : LOk (clS s b : Nat) ma (clF (clS s b) fi) xs := by
  have hs : s ≤ 65535 := by have := h.1; omega
  have hle := clS_le s b
  refine ⟨⟨by omega, by omega⟩, h.2.1, h.2.2.1, h.2.2.2.1, ?_, ?_⟩
  · intro e
    rw [show clS s b = 0 by omega]; exact clF_zero
  · intro e
    have e0 : ¬ clS s b = 0 := by omega
    rw [Int.toNat_natCast]
    unfold clF
    split
    · next q => exact ⟨q.1, q.2.1, q.2.2⟩
    · rcases dwn_bit (s := clS s b) 16 (Nat.le_refl _) with q | ⟨k, hk, q, hb⟩
      · exact absurd q (dwn_ne e0 (by omega))
      · rw [q]; exact ⟨by omega, by omega, by rw [Int.toNat_natCast]; exact hb⟩

theorem worst_zero (ma : Nat) (xs : List Int) : ∀ n, worst 0 ma xs n = -1
  | 0 => rfl
  | n + 1 => by unfold worst; rw [if_neg (fun q => by have := q.1; simp [bitB] at this), worst_zero ma xs n]
/-- an error more -/
def rpS (s k : Nat) : Nat := s ||| 2 ^ k

theorem rp_pow {k : Nat} (hk : k ≤ 15) : 2 ^ k ≤ 32768 := Nat.pow_le_pow_right (show 0 < 2 by omega) (show k ≤ 15 from hk)

theorem rpS_le {s k : Nat} (hs : s ≤ 65535) (hk : k ≤ 15) : rpS s k ≤ 65535 := by
  have := Nat.or_lt_two_pow (n := 16) (x := s) (y := 2 ^ k) (by omega) (by have := rp_pow hk; omega)
  unfold rpS; omega

theorem rpS_bit (s k : Nat) : bitB (rpS s k) k = true := by rw [bit_test]; unfold rpS; rw [Nat.testBit_or, Nat.testBit_two_pow_self]; simp

theorem rpS_keep {s i : Nat} (k : Nat) (h : bitB s i = true) : bitB (rpS s k) i = true := by rw [bit_test] at h ⊢; unfold rpS; rw [Nat.testBit_or, h]; rfl

theorem rpS_ne (s k : Nat) : ¬ rpS s k = 0 := by intro e; have := rpS_bit s k; rw [e] at this; simp [bitB] at this

theorem rpS_or (s k : Nat) : rpS s k ||| s = rpS s k := by
  apply Nat.eq_of_testBit_eq; intro i
  unfold rpS
  rw [Nat.testBit_or, Nat.testBit_or]; cases s.testBit i <;> cases (2 ^ k).testBit i <;> rfl

theorem report_ok {s : Nat} {ma fi : Int} {xs : List Int} (h : LOk (s : Int) ma fi xs) {k : Nat} (hk : k ≤ 15) (f : Int) (hf : s = 0 ∧ f = (k : Int) ∨ ¬ s = 0 ∧ f = fi) : LOk (rpS s k : Nat) ma f xs := by
  have hs : s ≤ 65535 := by have := h.1; omega
  have hle := rpS_le hs hk
  refine ⟨⟨by omega, by omega⟩, h.2.1, h.2.2.1, h.2.2.2.1, ?_, ?_⟩
  · intro e; exact absurd (by omega) (rpS_ne s k)
  · intro _
    rw [Int.toNat_natCast]
    rcases hf with ⟨_, rfl⟩ | ⟨h0, rfl⟩
    · exact ⟨by omega, by omega, by rw [Int.toNat_natCast]; exact rpS_bit s k⟩
    · obtain ⟨q1, q2, q3⟩ := h.2.2.2.2.2 (by omega)
      rw [Int.toNat_natCast] at q3
      exact ⟨q1, q2, rpS_keep k q3⟩

theorem worst_mono {s t ma : Nat} {xs : List Int} (h : ∀ i, bitB s i = true → bitB t i = true) : ∀ n, worst s ma xs n ≤ worst t ma xs n
  | 0 => by simp [worst]
  | n + 1 => by
    have ih := worst_mono (ma := ma) (xs := xs) h n
    unfold worst
    by_cases q : bitB s n = true ∧ bitB ma n = false
    · have q2 : bitB t n = true ∧ bitB ma n = false := ⟨h n q.1, q.2⟩
      rw [if_pos q, if_pos q2]; split <;> split <;> omega
    · rw [if_neg q]; split
      · split <;> omega
      · exact ih

theorem worst_has {s ma : Nat} {xs : List Int} {k : Nat} (h1 : bitB s k = true) (h2 : bitB ma k = false) : ∀ n, k < n → xs.getD k 0 ≤ worst s ma xs n
  | 0, h => by omega
  | n + 1, h => by
    unfold worst
    by_cases e : k = n
    · subst e; rw [if_pos ⟨h1, h2⟩]; split <;> omega
    · have ih := worst_has (s := s) (ma := ma) (xs := xs) h1 h2 n (by omega)
      split
      · split <;> omega
      · exact ih

theorem rep_bits {s k : Nat} (hs : s ≤ 65535) (hk : k ≤ 15) : bits .or .i64 (s : Int) (wrap64 (2 ^ k)) = ((rpS s k : Nat) : Int) := by
  have hp := rp_pow hk
  have e : wrap64 ((2 : Int) ^ k) = ((2 ^ k : Nat) : Int) := by
    have e1 : ((2 : Int) ^ k) = ((2 ^ k : Nat) : Int) := by rw [Int.natCast_pow]; rfl
    rw [e1]
    generalize 2 ^ k = p at hp ⊢
    unfold wrap64
    omega
  rw [e, or_nat _ _ (by omega) (by omega)]; rfl

end Go.Proofs.Ytgagbhkidponnad
