/-
  Plain facts: the checksum by a table of 256 remainders; distances of bytes; a frame that is valid.
-/
import Derived.Test.YtokpmbagidokkacCrcSpec
namespace Go.Proofs.Ytokpmbagidokkac
open Go Go.RowKit

/-- what eight doublings make of a byte multiplied by 256 -/
def tab (b : Nat) : Nat := cbits 8 (b * 256)

theorem tab_lt (b : Nat) (h : b < 256) : tab b < 65536 := cbits_lt 8 _ (by omega)
theorem tab_zero : tab 0 = 0 := by decide
theorem tab_step : ∀ b, b < 256 → tab b = if b % 2 = 1 then cbit (tab (b / 2)) ^^^ 4129 else cbit (tab (b / 2)) := by decide +kernel

theorem cbyte_tab (x b : Nat) (hx : x < 65536) (hb : b < 256) : cbyte x b = (x % 256 * 256) ^^^ tab ((x / 256) ^^^ b) := by
  have hh : (x / 256) ^^^ b < 256 := Nat.xor_lt_two_pow (n := 8) (by omega) hb
  have e1 : x = (x / 256) * 256 ^^^ x % 256 := by
    rw [high_low _ _ (Nat.mod_lt _ (by decide))]; omega
  have e2 : ((x / 256) ^^^ b) * 256 = (x / 256) * 256 ^^^ b * 256 := by
    have := Nat.shiftLeft_xor_distrib (i := 8) (a := x / 256) (b := b)
    simpa [Nat.shiftLeft_eq] using this
  have e3 : x ^^^ b * 256 = (x % 256) ^^^ ((x / 256) ^^^ b) * 256 := by
    rw [e2]
    conv => lhs; rw [e1]
    rw [Nat.xor_comm ((x / 256) * 256), Nat.xor_assoc]
  unfold cbyte tab
  rw [e3, cbits_xor 8 _ _ (by omega) (by omega), cbits_byte _ (Nat.mod_lt _ (by decide))]

/-- the number of changed bits in the first k bytes -/
def distTo (l m : List Nat) : Nat → Nat
  | 0 => 0
  | k + 1 => distTo l m k + onesTo (l.getD k 0 ^^^ m.getD k 0) 16

theorem distTo_le (l m : List Nat) : ∀ k, distTo l m k ≤ 16 * k := by
  intro k
  induction k with
  | zero => exact Nat.le_refl _
  | succ k ih =>
    have := onesTo_le (l.getD k 0 ^^^ m.getD k 0) 16
    show distTo l m k + _ ≤ _
    omega

theorem distTo_comm (l m : List Nat) : ∀ k, distTo l m k = distTo m l k := by
  intro k
  induction k with
  | zero => rfl
  | succ k ih =>
    show distTo l m k + _ = distTo m l k + _
    rw [ih, Nat.xor_comm]

theorem distTo_self (l : List Nat) : ∀ k, distTo l l k = 0 := by
  intro k
  induction k with
  | zero => rfl
  | succ k ih =>
    show distTo l l k + _ = 0
    rw [ih, Nat.xor_self, onesTo_zero]

theorem ones_xor (x y : Nat) : ∀ k, onesTo (x ^^^ y) k ≤ onesTo x k + onesTo y k := by
  intro k
  induction k with
  | zero => exact Nat.zero_le _
  | succ k ih =>
    have e : (x ^^^ y) / 2 ^ k % 2 ≤ x / 2 ^ k % 2 + y / 2 ^ k % 2 := by
      have t1 := Nat.testBit_eq_decide_div_mod_eq (x := x) (i := k)
      have t2 := Nat.testBit_eq_decide_div_mod_eq (x := y) (i := k)
      have t3 := Nat.testBit_eq_decide_div_mod_eq (x := x ^^^ y) (i := k)
      rw [Nat.testBit_xor, t1, t2] at t3
      have m1 := Nat.mod_lt (x / 2 ^ k) (show 0 < 2 by decide)
      have m2 := Nat.mod_lt (y / 2 ^ k) (show 0 < 2 by decide)
      have m3 := Nat.mod_lt ((x ^^^ y) / 2 ^ k) (show 0 < 2 by decide)
      generalize x / 2 ^ k % 2 = a at *
      generalize y / 2 ^ k % 2 = b at *
      generalize (x ^^^ y) / 2 ^ k % 2 = c at *
      match a, b, c, m1, m2, m3 with
      | 0, 0, 0, _, _, _ => decide
      | 0, 0, 1, _, _, _ => simp at t3
      | 0, 1, _, _, _, _ => omega
      | 1, 0, _, _, _, _ => omega
      | 1, 1, _, _, _, _ => omega
    show onesTo (x ^^^ y) k + _ ≤ (onesTo x k + _) + (onesTo y k + _)
    omega

theorem distTo_tri (l m n : List Nat) : ∀ k, distTo l n k ≤ distTo l m k + distTo m n k := by
  intro k
  induction k with
  | zero => exact Nat.le_refl _
  | succ k ih =>
    have h := ones_xor (l.getD k 0 ^^^ m.getD k 0) (m.getD k 0 ^^^ n.getD k 0) 16
    have e : (l.getD k 0 ^^^ m.getD k 0) ^^^ (m.getD k 0 ^^^ n.getD k 0) = l.getD k 0 ^^^ n.getD k 0 := by
      rw [Nat.xor_assoc, ← Nat.xor_assoc (m.getD k 0), Nat.xor_self, Nat.zero_xor]
    rw [e] at h
    show distTo l n k + _ ≤ (distTo l m k + _) + (distTo m n k + _)
    omega

theorem ones_bit : ∀ b, b < 8 → onesTo (2 ^ b) 16 = 1 := by decide

theorem distTo_flip (l : List Nat) (p : Nat) : ∀ k, k ≤ l.length → distTo l (flipL l p) k = if p / 8 < k then 1 else 0 := by
  intro k
  induction k with
  | zero => intro _; rfl
  | succ k ih =>
    intro hk
    show distTo l (flipL l p) k + _ = _
    rw [ih (by omega)]
    by_cases e : p / 8 = k
    · have e2 : (flipL l p).getD k 0 = l.getD k 0 ^^^ 2 ^ (p % 8) := by
        unfold flipL
        rw [e, List.getD_eq_getElem?_getD, List.getElem?_set_self (by omega)]; rfl
      rw [e2, ← Nat.xor_assoc, Nat.xor_self, Nat.zero_xor, ones_bit _ (by omega), if_neg (by omega), if_pos (by omega)]
    · have e2 : (flipL l p).getD k 0 = l.getD k 0 := by
        unfold flipL
        rw [List.getD_eq_getElem?_getD, List.getElem?_set_ne (by omega), ← List.getD_eq_getElem?_getD]
      rw [e2, Nat.xor_self, onesTo_zero]
      by_cases h : p / 8 < k
      · rw [if_pos h, if_pos (by omega)]
      · rw [if_neg h, if_neg (by omega)]

theorem ones_none (x : Nat) : ∀ k, onesTo x k = 0 → ∀ i, i < k → x.testBit i = false := by
  intro k
  induction k with
  | zero => intro _ i h; omega
  | succ k ih =>
    intro h i hi
    have h' : onesTo x k + x / 2 ^ k % 2 = 0 := h
    rcases Nat.lt_or_ge i k with q | q
    · exact ih (by omega) i q
    · obtain rfl : i = k := by omega
      rw [Nat.testBit_eq_decide_div_mod_eq]
      simp; omega

theorem distTo_zero (l m : List Nat) (hl : ∀ b ∈ l, b < 256) (hm : ∀ b ∈ m, b < 256) : ∀ k, distTo l m k = 0 → ∀ i, i < k → l.getD i 0 = m.getD i 0 := by
  intro k
  induction k with
  | zero => intro _ i h; omega
  | succ k ih =>
    intro h i hi
    have h' : distTo l m k + onesTo (l.getD k 0 ^^^ m.getD k 0) 16 = 0 := h
    rcases Nat.lt_or_ge i k with q | q
    · exact ih (by omega) i q
    · obtain rfl : i = k := by omega
      have B : ∀ (n : List Nat), (∀ b ∈ n, b < 256) → n.getD i 0 < 2 ^ 16 := by
        intro n hn
        rw [List.getD_eq_getElem?_getD]
        cases hq : n[i]? with
        | none => simp
        | some c => have := hn c (List.mem_of_getElem? hq); simp; omega
      have hx : l.getD i 0 ^^^ m.getD i 0 < 2 ^ 16 := Nat.xor_lt_two_pow (B l hl) (B m hm)
      have hz : l.getD i 0 ^^^ m.getD i 0 = 0 := by
        apply Nat.eq_of_testBit_eq
        intro j
        rw [Nat.zero_testBit]
        rcases Nat.lt_or_ge j 16 with q2 | q2
        · exact ones_none _ 16 (by omega) j q2
        · exact Nat.testBit_lt_two_pow (Nat.lt_of_lt_of_le hx (Nat.pow_le_pow_right (n := 2) (by decide) q2))
      exact xor_same hz

/-- a frame with its checksum -/
def FrameOk (xs : List Int) : Prop := AreB xs ∧ 2 ≤ xs.length ∧ crc 65535 (toN xs) = 0
instance (xs : List Int) : Decidable (FrameOk xs) := inferInstanceAs (Decidable (AreB xs ∧ _))

/-- the bytes with their checksum behind them -/
def addC (xs : List Int) : List Int := xs ++ [((crc 65535 (toN xs) / 256 : Nat) : Int), ((crc 65535 (toN xs) % 256 : Nat) : Int)]
theorem addC_length (xs : List Int) : (addC xs).length = xs.length + 2 := by simp [addC]

theorem toN_back {xs : List Int} (h : ∀ x ∈ xs, 0 ≤ x ∧ x ≤ 255) : (toN xs).map (fun n : Nat => (n : Int)) = xs := by
  unfold toN
  rw [List.map_map]
  conv => rhs; rw [← List.map_id xs]
  apply List.map_congr_left
  intro x hx
  have := h x hx
  simp; omega

theorem addC_ok {xs : List Int} (h : AreB xs) (hl : xs.length ≤ 38) : FrameOk (addC xs) := by
  have hc := crc_lt (toN xs) 65535 (by decide) (toN_byte h.1)
  have hb : ∀ x ∈ addC xs, 0 ≤ x ∧ x ≤ 255 := by
    intro x hx
    rcases List.mem_append.1 hx with hx | hx
    · exact h.1 x hx
    · simp at hx
      omega
  refine ⟨⟨hb, by rw [addC_length]; omega⟩, by rw [addC_length]; omega, ?_⟩
  have e : toN (addC xs) = toN xs ++ [crc 65535 (toN xs) / 256, crc 65535 (toN xs) % 256] := by
    unfold addC toN
    rw [List.map_append]
    simp
    omega
  rw [e, crc_valid _ _ _ (toN_byte h.1) (by omega) (by omega)]
  omega

/-- a frame is valid exactly if it is its own beginning with that one's checksum -/
theorem frameOk_iff (xs : List Int) (h2 : 2 ≤ xs.length) (hb : AreB xs) : FrameOk xs ↔ crc 65535 (toN (xs.take (xs.length - 2))) = (xs.getD (xs.length - 2) 0).toNat * 256 + (xs.getD (xs.length - 1) 0).toNat := by
  have b1 := areB_at hb (k := xs.length - 2) (by omega)
  have b2 := areB_at hb (k := xs.length - 1) (by omega)
  have e : toN xs = toN (xs.take (xs.length - 2)) ++ [(xs.getD (xs.length - 2) 0).toNat, (xs.getD (xs.length - 1) 0).toNat] := by
    have t1 := toN_take_snoc xs (xs.length - 2) (by omega)
    have t2 := toN_take_snoc xs (xs.length - 1) (by omega)
    rw [show xs.length - 1 + 1 = xs.length by omega, List.take_length] at t2
    rw [show xs.length - 2 + 1 = xs.length - 1 by omega] at t1
    rw [t2, t1, List.append_assoc]; rfl
  constructor
  · intro h
    have hz := h.2.2
    rw [e, crc_valid _ _ _ (toN_byte (fun x hx => hb.1 x (List.mem_of_mem_take hx))) (by omega) (by omega)] at hz
    exact hz
  · intro hz
    refine ⟨hb, h2, ?_⟩
    rw [e, crc_valid _ _ _ (toN_byte (fun x hx => hb.1 x (List.mem_of_mem_take hx))) (by omega) (by omega)]
    exact hz

/-- .. and exactly if adding the checksum to its beginning gives it again -/
theorem frameOk_add (xs : List Int) (h2 : 2 ≤ xs.length) : FrameOk xs ↔ (AreB (xs.take (xs.length - 2)) ∧ xs.length ≤ 40 ∧ addC (xs.take (xs.length - 2)) = xs) := by
  have split : xs = xs.take (xs.length - 2) ++ [xs.getD (xs.length - 2) 0, xs.getD (xs.length - 1) 0] := by
    have t1 := List.take_succ_eq_append_getElem (l := xs) (i := xs.length - 2) (by omega)
    have t2 := List.take_succ_eq_append_getElem (l := xs) (i := xs.length - 1) (by omega)
    rw [show xs.length - 1 + 1 = xs.length by omega, List.take_length] at t2
    rw [show xs.length - 2 + 1 = xs.length - 1 by omega] at t1
    rw [t1, List.append_assoc] at t2
    rw [List.getD_eq_getElem?_getD, List.getD_eq_getElem?_getD, List.getElem?_eq_getElem (show xs.length - 2 < xs.length by omega), List.getElem?_eq_getElem (show xs.length - 1 < xs.length by omega)]
    exact t2
  constructor
  · intro h
    have hz := (frameOk_iff xs h2 h.1).1 h
    have b1 := areB_at h.1 (k := xs.length - 2) (by omega)
    have b2 := areB_at h.1 (k := xs.length - 1) (by omega)
    refine ⟨⟨fun x hx => h.1.1 x (List.mem_of_mem_take hx), by rw [List.length_take]; have := h.1.2; omega⟩, h.1.2, ?_⟩
    unfold addC
    rw [hz]
    conv => rhs; rw [split]
    congr 1
    have e1 : (((xs.getD (xs.length - 2) 0).toNat * 256 + (xs.getD (xs.length - 1) 0).toNat) / 256 : Nat) = (xs.getD (xs.length - 2) 0).toNat := by omega
    have e2 : (((xs.getD (xs.length - 2) 0).toNat * 256 + (xs.getD (xs.length - 1) 0).toNat) % 256 : Nat) = (xs.getD (xs.length - 1) 0).toNat := by omega
    rw [e1, e2, Int.toNat_of_nonneg b1.1, Int.toNat_of_nonneg b2.1]
  · rintro ⟨ha, hl, he⟩
    rw [← he]
    exact addC_ok ha (by rw [List.length_take]; omega)

/-- a bit of a list changed -/
def flipI (xs : List Int) (p : Nat) : List Int := xs.set (p / 8) ((((xs.getD (p / 8) 0).toNat ^^^ 2 ^ (p % 8) : Nat)) : Int)
theorem flipI_length (xs : List Int) (p : Nat) : (flipI xs p).length = xs.length := by simp [flipI]
theorem toN_flip (xs : List Int) (p : Nat) : toN (flipI xs p) = flipL (toN xs) p := by
  unfold flipI flipL toN
  rw [List.map_set]
  congr 1
  simp only [List.getD_eq_getElem?_getD, List.getElem?_map]
  have e (n : Nat) : ((n : Int)).toNat = n := by omega
  cases xs[p / 8]? with
  | none => exact e _
  | some c => exact e _

theorem flipI_byte {xs : List Int} (h : AreB xs) (p : Nat) : AreB (flipI xs p) := by
  refine ⟨?_, by rw [flipI_length]; exact h.2⟩
  intro x hx
  rcases List.mem_or_eq_of_mem_set hx with hx | rfl
  · exact h.1 x hx
  · have hb : (xs.getD (p / 8) 0).toNat < 256 := by
      rw [List.getD_eq_getElem?_getD]
      cases hq : xs[p / 8]? with
      | none => simp
      | some c => have := h.1 c (List.mem_of_getElem? hq); simp; omega
    have : (xs.getD (p / 8) 0).toNat ^^^ 2 ^ (p % 8) < 2 ^ 8 := Nat.xor_lt_two_pow hb (bit_lt p)
    omega

end Go.Proofs.Ytokpmbagidokkac
