/-
  The pieces of a range.
-/
import Derived.Test.YtdieobfkdbeiiaaDPiece
import Derived.Test.YtdieobfkdbeiiaaPlainRow
import Derived.Test.YtdieobfkdbeiiaaBitsSpec
namespace Go.Proofs.Ytdieobfkdbeiiaa
open Go Go.RowKit

/-- the length of the first piece -/
def pieceLen (a l p : Int) : Int := if l < p - a % p then l else p - a % p
def piecesF : Nat → Int → Int → Int → List DPiece
  | 0, _, _, _ => []
  | f + 1, a, l, p => if l ≤ 0 then [] else ⟨a, pieceLen a l p⟩ :: piecesF f (a + pieceLen a l p) (l - pieceLen a l p) p

def IsPay (n : Int) : Prop := n = 1 ∨ n = 2 ∨ n = 4 ∨ n = 8
/-- what can be split -/
def CanSplit (a l p : Int) : Prop := IsPay p ∧ (1 ≤ l ∧ l ≤ 64) ∧ 0 ≤ a ∧ a ≤ 65536 - l
theorem isPay_pow {p : Int} (h : IsPay p) : IsPow p := by
  rcases h with rfl | rfl | rfl | rfl
  · exact ⟨0, by omega, rfl⟩
  · exact ⟨1, by omega, rfl⟩
  · exact ⟨2, by omega, rfl⟩
  · exact ⟨3, by omega, rfl⟩
theorem pow_isPay {p : Int} (h : IsPow p) (h8 : p ≤ 8) : IsPay p := by
  obtain ⟨k, hk, rfl⟩ := h
  rcases k with _ | _ | _ | _ | k
  · exact .inl rfl
  · exact .inr (.inl rfl)
  · exact .inr (.inr (.inl rfl))
  · exact .inr (.inr (.inr rfl))
  · have : 2 ^ 4 ≤ 2 ^ (k + 1 + 1 + 1 + 1) := Nat.pow_le_pow_right (by omega) (by omega)
    omega
theorem piece_bounds {a l p : Int} (hp : IsPay p) (_ : 0 ≤ a) (hl : 0 < l) : 1 ≤ pieceLen a l p ∧ pieceLen a l p ≤ l ∧ pieceLen a l p ≤ 8 ∧ 0 ≤ a % p ∧ a % p < p ∧ 1 ≤ p ∧ p ≤ 8 := by
  have h1 : 1 ≤ p ∧ p ≤ 8 := by rcases hp with rfl | rfl | rfl | rfl <;> omega
  have h2 := Int.emod_nonneg a (show p ≠ 0 by omega)
  have h3 := Int.emod_lt_of_pos a (show 0 < p by omega)
  unfold pieceLen
  split <;> omega
/-- .. by rounding up -/
theorem piece_up {a l p : Int} (hp : IsPay p) (ha : 0 ≤ a) (hl : 0 < l) : (if upTo (a + 1) p < a + l then upTo (a + 1) p else a + l) = a + pieceLen a l p := by
  obtain ⟨h1, h2, h3, h4, h5, h6, h7⟩ := piece_bounds hp ha hl
  have e : upTo (a + 1) p = a - a % p + p := by
    unfold upTo
    rw [show a + 1 + p - 1 = a + p * 1 by omega, Int.add_mul_ediv_left _ _ (by omega), Int.add_mul, Int.one_mul]
    have := Int.mul_ediv_add_emod a p
    rw [Int.mul_comm] at this
    omega
  rw [e]
  unfold pieceLen
  split <;> split <;> omega

end Go.Proofs.Ytdieobfkdbeiiaa
