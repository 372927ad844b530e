/-
  Rows of things that own no memory.
-/
import Derived.Test.YtnighnkkeiegnabShp2
namespace Go.Proofs.Ytnighnkkeiegnab
open Go Go.RowKit
set_option linter.unusedVariables false

theorem flat_at {α : Type} [Inhabited α] (c : α → List Value) (n : Nat) (hc : ∀ x, (c x).length = n) : ∀ (xs : List α) (k j : Nat), k < xs.length → j < n → (xs.flatMap c)[k * n + j]? = (c (xs.getD k default))[j]?
  | [], k, _, h, _ => absurd h (Nat.not_lt_zero _)
  | x :: xs, 0, j, _, hj => by
    rw [List.flatMap_cons, Nat.zero_mul, Nat.zero_add, List.getElem?_append_left (by rw [hc]; exact hj)]
    rfl
  | x :: xs, k + 1, j, h, hj => by
    have ih := flat_at c n hc xs k j (by simpa using h) hj
    rw [List.flatMap_cons, List.getElem?_append_right (by rw [hc, Nat.succ_mul]; omega), hc, show (k + 1) * n + j - n = k * n + j by rw [Nat.succ_mul]; omega, ih]
    rfl
theorem flat_len {α : Type} (c : α → List Value) (n : Nat) (hc : ∀ x, (c x).length = n) : ∀ (xs : List α), (xs.flatMap c).length = xs.length * n
  | [] => by simp
  | x :: xs => by rw [List.flatMap_cons, List.length_append, hc, flat_len c n hc xs, List.length_cons, Nat.succ_mul]; omega
theorem flat_snoc {α : Type} (c : α → List Value) (xs : List α) (x : α) : (xs ++ [x]).flatMap c = xs.flatMap c ++ c x := by simp

theorem owP_row {α : Type} [Inhabited α] {s : Shp α} (c : α → List Value) (hc : ∀ x, (c x).length = s.n) (ho : ∀ w lo hi x, s.ow w lo hi (c x) x) {w : World} {base : Nat} {e : TypeId} {v : Value} {xs : List α} (hm : xs.length ≤ 9223372036854775807) (h : w.ownsRow base e s.n v xs.length (xs.flatMap c)) : OwL s w base w.heap.size v xs := by
  obtain ⟨_, h2⟩ := h
  rcases h2 with ⟨rfl, h0⟩ | ⟨g, cap, cur, rfl, hb, hg, hcp, _, hs, ht⟩
  · exact ⟨none, 0, by rw [h0], ⟨fun _ => rfl, by omega⟩, hm, (fun p hp => by cases hp), .inl h0⟩
  · have hin := (Array.getElem?_eq_some_iff.1 hg).1
    refine ⟨_, cap, rfl, ⟨(fun e => by cases e), hcp⟩, hm, (fun p hp => by cases hp; exact ⟨hb, hin⟩), .inr ⟨g, 0, fun _ => g, fun _ => g, cur, e, rfl, hg, fun k hk => ⟨hb, Nat.le_of_lt hin, .inr (Nat.le_refl _), c (xs.getD k default), fun j hj => ?_, ho _ _ _ _⟩, fun j k _ _ => .inl (Nat.le_refl _)⟩⟩
    rw [hc] at hj
    have q := flat_at c s.n hc xs k j hk hj
    have hlt : k * s.n + j < xs.length * s.n := by
      have := Nat.mul_le_mul_right s.n (show k + 1 ≤ xs.length from hk)
      rw [Nat.succ_mul] at this; omega
    rw [← ht, List.getElem?_take, if_pos hlt, Array.getElem?_toList] at q
    rw [Nat.zero_add]; exact q

theorem szL_size0 {α : Type} {s : Shp α} (h : ∀ x, s.size x = 0) (xs : List α) : szL s xs = xs.length := by
  unfold szL
  have : (xs.map s.size).sum = 0 := by induction xs with | nil => rfl | cons x xs ih => simp [h, ih]
  omega
/-- an empty row is owned by everybody -/
theorem owL_nil {α : Type} [Inhabited α] {s : Shp α} {w : World} {lo hi : Nat} : OwL s w lo hi (.slice none 0 0) [] := ⟨none, 0, rfl, ⟨fun _ => rfl, Nat.le_refl _⟩, by simp, (fun p hp => by cases hp), .inl rfl⟩
theorem owL_empty {α : Type} [Inhabited α] {s : Shp α} {w : World} {lo hi b : Nat} {o c : Nat} (h1 : lo ≤ b) (h2 : b < hi) : OwL s w lo hi (.slice (some ⟨b, o, none⟩) 0 c) [] := ⟨_, c, rfl, ⟨(fun e => by cases e), Nat.zero_le _⟩, by simp, (fun p hp => by cases hp; exact ⟨h1, h2⟩), .inl rfl⟩

end Go.Proofs.Ytnighnkkeiegnab
