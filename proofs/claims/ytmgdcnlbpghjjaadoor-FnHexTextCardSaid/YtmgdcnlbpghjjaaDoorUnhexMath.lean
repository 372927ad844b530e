/-
  Plain facts on reading hexadecimal text: the value of a digit, and the bytes that pairs of digits stand for.
-/
import Derived.Test.YtmgdcnlbpghjjaaDoorHexMath
import Derived.PlainAid
import Derived.Lib.Bytealg
namespace Go.Proofs.YtmgdcnlbpghjjaaDoor
open Go Go.RowKit Go.PlainAid

/-- the value of a digit's byte, or -1 -/
def valI (n : Int) : Int := if 48 ≤ n ∧ n ≤ 57 then n - 48 else if 97 ≤ n ∧ n ≤ 102 then n - 87 else -1
theorem valI_lt (n : Int) : -1 ≤ valI n ∧ valI n ≤ 15 := by unfold valI; (repeat' split) <;> omega
theorem valI_val (n : Int) : 0 ≤ valI n ∨ valI n = -1 := by unfold valI; (repeat' split) <;> omega

theorem index_digit_fin : ∀ m : Fin 256, Go.Lib.indexByte digits16.data.toList ((m.val : Int).toNat.toUInt8) = valI (m.val : Int) := by decide +kernel
theorem index_digit (n : Int) (h0 : 0 ≤ n) (h1 : n ≤ 255) : Go.Lib.indexByte digits16.data.toList n.toNat.toUInt8 = valI n := by
  obtain ⟨m, rfl⟩ := Int.eq_ofNat_of_zero_le h0
  exact index_digit_fin ⟨m, by omega⟩

/-- high half and low half put together -/
theorem or_fin : ∀ p q : Fin 16, bits .or .i64 ((p.val : Int) * 16) (q.val : Int) = 16 * (p.val : Int) + (q.val : Int) := by decide +kernel
theorem or_halves (h l : Int) (h0 : 0 ≤ h) (h1 : h ≤ 15) (l0 : 0 ≤ l) (l1 : l ≤ 15) : bits .or .i64 (h * 16) l = 16 * h + l := by
  obtain ⟨m, rfl⟩ := Int.eq_ofNat_of_zero_le h0
  obtain ⟨n, rfl⟩ := Int.eq_ofNat_of_zero_le l0
  exact or_fin ⟨m, by omega⟩ ⟨n, by omega⟩

/-- pair j of the text -/
def hiV (s : ByteArray) (j : Nat) : Int := valI (bt s (2 * j))
def loV (s : ByteArray) (j : Nat) : Int := valI (bt s (2 * j + 1))
def pairs (s : ByteArray) (k : Nat) : List Int := (List.range k).map fun j => 16 * hiV s j + loV s j
theorem pairs_succ (s : ByteArray) (k : Nat) : pairs s (k + 1) = pairs s k ++ [16 * hiV s k + loV s k] := by simp [pairs, List.range_succ]
theorem pairs_length (s : ByteArray) (k : Nat) : (pairs s k).length = k := by simp [pairs]
/-- the first k pairs are digits -/
def goodTo (s : ByteArray) (k : Nat) : Prop := ∀ j, j < k → 0 ≤ hiV s j ∧ 0 ≤ loV s j
theorem goodTo_succ {s : ByteArray} {k : Nat} (h : goodTo s k) (h1 : 0 ≤ hiV s k) (h2 : 0 ≤ loV s k) : goodTo s (k + 1) := by
  intro j hj
  by_cases e : j = k
  · subst e; exact ⟨h1, h2⟩
  · exact h j (by omega)
theorem not_good {s : ByteArray} {k n : Nat} (hk : k < n) (h : hiV s k < 0 ∨ loV s k < 0) : ¬ goodTo s n := fun g => by have := g k hk; omega

/-- the text or nothing, and whether there is one -/
def Decoded (s : ByteArray) (w : World) (e : Ending) (w' : World) : Prop :=
  ((goodTo s (s.size / 2) ∧ e = .returned (.tuple #[.string (strOfNums (pairs s (s.size / 2))), .bool true])) ∨
   (¬ goodTo s (s.size / 2) ∧ e = .returned (.tuple #[.string ByteArray.empty, .bool false]))) ∧ Below w.heap.size w w'

end Go.Proofs.YtmgdcnlbpghjjaaDoor
