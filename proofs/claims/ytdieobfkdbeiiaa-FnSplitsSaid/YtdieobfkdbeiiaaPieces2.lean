/-
  The pieces of a range: how many, and where each lies.
-/
import Derived.Test.YtdieobfkdbeiiaaPieces
namespace Go.Proofs.Ytdieobfkdbeiiaa
open Go Go.RowKit

theorem pc_aligned {m : Int} (hm : IsPay m) : ∀ (f : Nat) (a l : Int), a % m = 0 → 0 ≤ l → l ≤ (f : Int) → ((piecesF f a l m).length : Int) = (l + m - 1) / m
  | 0, a, l, _, h0, h1 => by
    obtain rfl : l = 0 := by omega
    rcases hm with rfl | rfl | rfl | rfl <;> simp [piecesF]
  | f + 1, a, l, ha, h0, h1 => by
    unfold piecesF
    by_cases hl : l ≤ 0
    · rw [if_pos hl]
      obtain rfl : l = 0 := by omega
      rcases hm with rfl | rfl | rfl | rfl <;> simp
    · rw [if_neg hl, List.length_cons]
      have hp : pieceLen a l m = if l < m then l else m := by unfold pieceLen; rw [ha, Int.sub_zero]
      have hm1 : 1 ≤ m ∧ m ≤ 8 := by rcases hm with rfl | rfl | rfl | rfl <;> omega
      by_cases hlm : l < m
      · rw [hp, if_pos hlm, Int.sub_self]
        have : (piecesF f (a + l) 0 m).length = 0 := by cases f <;> simp [piecesF]
        rw [this]
        rcases hm with rfl | rfl | rfl | rfl <;> omega
      · rw [hp, if_neg hlm]
        have ih := pc_aligned hm f (a + m) (l - m) (by rw [Int.add_emod_right]; exact ha) (by omega) (by omega)
        push_cast
        rw [ih]
        rcases hm with rfl | rfl | rfl | rfl <;> omega
theorem pc_bound {m : Int} (hm : IsPay m) (f : Nat) (a l : Int) (ha : 0 ≤ a) (h0 : 0 ≤ l) (h1 : l ≤ (f : Int)) : ((piecesF f a l m).length : Int) ≤ l / m + 2 := by
  have hm1 : 1 ≤ m ∧ m ≤ 8 := by rcases hm with rfl | rfl | rfl | rfl <;> omega
  cases f with
  | zero =>
    have : 0 ≤ l / m := Int.ediv_nonneg h0 (by omega)
    simp [piecesF]; omega
  | succ f =>
    unfold piecesF
    by_cases hl : l ≤ 0
    · have : 0 ≤ l / m := Int.ediv_nonneg h0 (by omega)
      rw [if_pos hl]; simp; omega
    · rw [if_neg hl, List.length_cons]
      obtain ⟨b1, b2, _⟩ := piece_bounds hm ha (by omega : 0 < l)
      by_cases he : pieceLen a l m = l
      · rw [he, Int.sub_self]
        have : (piecesF f (a + l) 0 m).length = 0 := by cases f <;> simp [piecesF]
        have : 0 ≤ l / m := Int.ediv_nonneg h0 (by omega)
        omega
      · have hq : pieceLen a l m = m - a % m := by
          unfold pieceLen at he ⊢
          split
          · next q => rw [if_pos q] at he; exact absurd rfl he
          · rfl
        have hal : (a + pieceLen a l m) % m = 0 := by
          rw [hq]
          rcases hm with rfl | rfl | rfl | rfl <;> omega
        have ih := pc_aligned hm f (a + pieceLen a l m) (l - pieceLen a l m) hal (by omega) (by omega)
        push_cast
        rw [ih]
        generalize pieceLen a l m = n at b1 b2
        rcases hm with rfl | rfl | rfl | rfl <;> omega
theorem pc_block {m a l : Int} (hm : IsPay m) (ha : 0 ≤ a) (hl : 0 < l) : pieceLen a l m ≤ m ∧ a / m = (a + pieceLen a l m - 1) / m := by
  obtain ⟨b1, b2, _, b4, b5, b6, b7⟩ := piece_bounds hm ha hl
  have hq : pieceLen a l m ≤ m - a % m := by unfold pieceLen; split <;> omega
  generalize pieceLen a l m = n at b1 b2 hq
  rcases hm with rfl | rfl | rfl | rfl <;> exact ⟨by omega, by omega⟩

end Go.Proofs.Ytdieobfkdbeiiaa
