/-
  Plain facts on reading decimal text: the value of digits, and that a number's own text is read back.
-/
import Derived.Test.YteaaobklfhlgiaaDoorFmtMath
import Derived.Lib.AtoiAll
import Derived.Lib.ItoaMem
import Derived.PlainAid
namespace Go.Proofs.YteaaobklfhlgiaaDoor
open Go Go.RowKit Go.Lib Go.PlainAid

/-- a digit's byte -/
def IsDig (c : UInt8) : Prop := 48 ≤ c.toNat ∧ c.toNat ≤ 57
/-- the value of digits, behind what is there -/
def valD (acc : Nat) (l : List UInt8) : Nat := l.foldl (fun a c => 10 * a + (c.toNat - 48)) acc
theorem valD_snoc (acc : Nat) (l : List UInt8) (c : UInt8) : valD acc (l ++ [c]) = 10 * valD acc l + (c.toNat - 48) := by simp [valD]
theorem valD_cons (acc : Nat) (l : List UInt8) (c : UInt8) : valD acc (c :: l) = valD (10 * acc + (c.toNat - 48)) l := by unfold valD; rw [List.foldl_cons]
theorem valD_ge (l : List UInt8) : ∀ acc, acc ≤ valD acc l := by
  induction l with
  | nil => intro acc; exact Nat.le_refl _
  | cons c l ih => intro acc; rw [valD_cons]; have := ih (10 * acc + (c.toNat - 48)); omega

theorem digit_byte (d : Nat) (h : d < 10) : (UInt8.ofNat (48 + d)).toNat = 48 + d := by
  rw [UInt8.toNat_ofNat']; omega

theorem decDigits_dig (u : Nat) : ∀ c ∈ decDigits u, IsDig c := by
  induction u using Nat.strongRecOn with
  | _ u ih =>
    rw [decDigits]
    by_cases h : u < 10
    · rw [dif_pos h]; intro c hc
      obtain rfl := List.mem_singleton.1 hc
      unfold IsDig; rw [digit_byte u h]; omega
    · rw [dif_neg h]; intro c hc
      rcases List.mem_append.1 hc with hc | hc
      · exact ih (u / 10) (by omega) c hc
      · obtain rfl := List.mem_singleton.1 hc
        unfold IsDig; rw [digit_byte (u % 10) (by omega)]; omega

theorem decDigits_val (u : Nat) : valD 0 (decDigits u) = u := by
  induction u using Nat.strongRecOn with
  | _ u ih =>
    rw [decDigits]
    by_cases h : u < 10
    · rw [dif_pos h]; show 10 * 0 + ((UInt8.ofNat (48 + u)).toNat - 48) = u
      rw [digit_byte u h]; omega
    · rw [dif_neg h, valD_snoc, ih (u / 10) (by omega), digit_byte (u % 10) (by omega)]; omega

theorem decDigits_ne (u : Nat) : decDigits u ≠ [] := by
  rw [decDigits]; split <;> simp

theorem nDigits_le (u : Nat) (h : u ≤ 1000000000) : (decDigits u).length ≤ 10 := by
  have step : ∀ k u : Nat, u < 10 ^ (k + 1) → (decDigits u).length ≤ k + 1 := by
    intro k
    induction k with
    | zero => intro u hu; rw [decDigits, dif_pos (by omega)]; simp
    | succ k ih =>
      intro u hu
      rw [decDigits]
      by_cases h : u < 10
      · rw [dif_pos h]; simp
      · rw [dif_neg h]
        have := ih (u / 10) (by rw [Nat.pow_succ] at hu; omega)
        simp only [List.length_append, List.length_cons, List.length_nil]; omega
  exact step 9 u (by omega)

theorem parse_digits (l : List UInt8) : ∀ acc, (∀ c ∈ l, IsDig c) → valD acc l < 18446744073709551616 → parseUint10 acc l = .ok (valD acc l) := by
  induction l with
  | nil => intro acc _ _; rfl
  | cons c l ih =>
    intro acc hd hv
    have hc : IsDig c := hd c (List.mem_cons_self ..)
    unfold IsDig at hc
    rw [valD_cons] at hv ⊢
    have hge := valD_ge l (10 * acc + (c.toNat - 48))
    unfold parseUint10
    rw [if_pos hc, if_neg (by omega), if_neg (by omega), show acc * 10 + (c.toNat - 48) = 10 * acc + (c.toNat - 48) by omega]
    exact ih _ (fun x hx => hd x (List.mem_cons_of_mem _ hx)) hv

theorem atoi_own (u : Nat) (h : u ≤ 1000000000) : atoiAll (decDigits u) = .ok (u : Int) := by
  have hp := parse_digits (decDigits u) 0 (decDigits_dig u) (by rw [decDigits_val]; omega)
  rw [decDigits_val] at hp
  have hd := decDigits_dig u
  cases hl : decDigits u with
  | nil => exact absurd hl (decDigits_ne u)
  | cons c r =>
    rw [hl] at hp hd
    have hc : IsDig c := hd c (List.mem_cons_self ..)
    unfold IsDig at hc
    have h43 : ¬ (c.toNat = 43 ∨ c.toNat = 45) := by omega
    have h45 : ¬ c.toNat = 45 := by omega
    have hmag : parseMag (c :: r) = .ok u := by unfold parseMag; rw [if_neg (by simp)]; exact hp
    unfold atoiAll
    simp only [if_neg h43, hmag]
    rw [if_neg (by omega), if_neg (by omega), if_neg h45]

/-- the text of a number up to the limit -/
def Canon (l : List UInt8) (n : Nat) : Prop := n ≤ 1000000000 ∧ decDigits n = l
theorem canon_val {l : List UInt8} {n : Nat} (h : Canon l n) : valD 0 l = n := by rw [← h.2]; exact decDigits_val n
theorem canon_one {l : List UInt8} {n m : Nat} (h : Canon l n) (k : Canon l m) : n = m := (canon_val h).symm.trans (canon_val k)

theorem valD_lt (l : List UInt8) (h : ∀ c ∈ l, IsDig c) : valD 0 l < 10 ^ l.length := by
  have gen : ∀ (l : List UInt8) (acc b : Nat), (∀ c ∈ l, IsDig c) → acc < b → valD acc l < b * 10 ^ l.length := by
    intro l
    induction l with
    | nil => intro acc b _ hb; simpa [valD] using hb
    | cons c l ih =>
      intro acc b hd hb
      have hc : IsDig c := hd c (List.mem_cons_self ..)
      unfold IsDig at hc
      rw [valD_cons, List.length_cons, Nat.pow_succ, Nat.mul_comm (10 ^ l.length) 10, ← Nat.mul_assoc]
      exact ih _ _ (fun x hx => hd x (List.mem_cons_of_mem _ hx)) (by omega)
  have := gen l 0 1 h (by omega)
  simpa using this

/-- the bytes of a string, from its numbers -/
theorem bt_dig (s : ByteArray) (k : Nat) (hk : k < s.size) : bt s k = (s[k].toNat : Int) := by unfold bt; rw [dif_pos hk]

end Go.Proofs.YteaaobklfhlgiaaDoor
