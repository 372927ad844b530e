/-
  PathBetween on both sides; the steps of a way.
-/
import Derived.Test.YtodfbodagjmfmabBtwS
import Derived.Test.YtodfbodagjmfmabBtwI
namespace Go.Proofs.Ytodfbodagjmfmab
open Go Go.RowKit
set_option linter.unusedVariables false

theorem specBtw_any (W : World) (v : Value) (xs : List DNode) (a b : Int) (H : RdL shNode W v xs) (hl : szL shNode xs ≤ 1048576) (zs : List Int) (h : BtwIs xs a b zs) : Calls Try.prog 28 #[v, .int .i64 a, .int .i64 b] W (ResIPathBetween zs W) := by
  obtain ⟨x, y, hx, hy, h⟩ := h
  rcases h with ⟨h1, h2, rfl⟩ | ⟨h, rfl⟩
  · exact specBtw_yes W v xs a b H hl x y hx hy h1 h2
  · exact specBtw_no W v xs a b H hl x y hx hy (by rcases h with rfl | rfl <;> simp)
theorem implBtw_any (W : World) (v : Value) (xs : List DNode) (a b : Int) (H : RdL shNode W v xs) (hl : szL shNode xs ≤ 1048576) (zs : List Int) (h : BtwIs xs a b zs) : Calls Try.prog 29 #[v, .int .i64 a, .int .i64 b] W (ResIPathBetween zs W) := by
  obtain ⟨x, y, hx, hy, h⟩ := h
  rcases h with ⟨h1, h2, rfl⟩ | ⟨h, rfl⟩
  · rcases hx with ⟨n, rfl, ht, hn, hxe⟩ | ⟨_, rfl⟩
    · rcases hy with ⟨m, rfl, _, hm, hye⟩ | ⟨_, rfl⟩
      · exact implBtw_yes W v xs n m H hl ht hn hm x y hxe hye
      · simp at h2
    · simp at h1
  · exact implBtw_no W v xs a b H hl (fun q => by
      have q1 := (pthIs_node hx).1 q.1
      have q2 := (pthIs_node hy).1 q.2
      rcases h with rfl | rfl
      · simp at q1
      · simp at q2)
theorem pathBetween_both (xs0 : List DNode) (i1 i2 : Int) (h0 : szL shNode xs0 ≤ 1048576) : ∃ (xsr0 : List Int), szL shI xsr0 ≤ 1048576 ∧ (∀ (W : World), ∀ u0, RdL shNode W u0 xs0 → Calls Try.prog 28 #[u0, .int .i64 i1, .int .i64 i2] W (ResSPathBetween xsr0 W)) ∧ ∀ (W : World), ∀ u0, RdL shNode W u0 xs0 → Calls Try.prog 29 #[u0, .int .i64 i1, .int .i64 i2] W (ResIPathBetween xsr0 W) := by
  obtain ⟨zs, hz⟩ := btwIs_ex xs0 i1 i2
  exact ⟨zs, by rw [szL_I]; have := btwIs_len hz; omega, fun W u H => (specBtw_any W u xs0 i1 i2 H h0 zs hz).mono (fun e w q => resS_ofPathBetween e w q), fun W u H => implBtw_any W u xs0 i1 i2 H h0 zs hz⟩

/-- v is the child of u -/
def DownP (xs : List DNode) (u v : Int) : Prop := ∃ m : Nat, v = (m : Int) ∧ 1 ≤ m ∧ m < xs.length ∧ u = (par xs m : Int)
theorem pth_step {xs : List DNode} (h : TOk xs) : ∀ k, k < xs.length → ∀ j, j + 1 < (pth xs k).length → DownP xs ((pth xs k).getD j 0) ((pth xs k).getD (j + 1) 0) :=
  tree_ind h (by rw [pth_zero]; intro j hj; simp at hj) (fun k h1 h2 ih => by
    intro j hj
    have hp := par_lt h h1 h2
    have e := pth_succ h h1 h2
    rw [e] at hj ⊢
    rw [List.length_append, List.length_singleton] at hj
    simp only [List.getD_eq_getElem?_getD]
    by_cases hl : j + 1 < (pth xs (par xs k)).length
    · rw [List.getElem?_append_left (by omega), List.getElem?_append_left hl]
      simpa only [List.getD_eq_getElem?_getD] using ih j hl
    · have hj2 : j + 1 = (pth xs (par xs k)).length := by omega
      rw [List.getElem?_append_left (by omega), List.getElem?_append_right (by omega), hj2, Nat.sub_self]
      refine ⟨k, rfl, h1, h2, ?_⟩
      have hlast : ∀ m, m < xs.length → (pth xs m)[(pth xs m).length - 1]? = some (m : Int) := fun m hm => by
        by_cases m0 : m = 0
        · subst m0; rw [pth_zero]; rfl
        · rw [pth_succ h (by omega) hm]; simp
      have := hlast (par xs k) (by omega)
      rw [← hj2, Nat.add_sub_cancel] at this
      rw [this]; rfl)
theorem pth_last {xs : List DNode} (h : TOk xs) (k : Nat) (hk : k < xs.length) : (pth xs k).getD ((pth xs k).length - 1) 0 = (k : Int) := by
  rw [List.getD_eq_getElem?_getD]
  by_cases m0 : k = 0
  · subst m0; rw [pth_zero]; rfl
  · rw [pth_succ h (by omega) hk]; simp
/-- the common beginning -/
theorem lcp_le : ∀ (x y : List Int), lcp x y ≤ x.length ∧ lcp x y ≤ y.length ∧ ∀ j, j < lcp x y → x.getD j 0 = y.getD j 0
  | [], y => by cases y <;> simp [lcp]
  | a :: ts, [] => by simp [lcp]
  | a :: ts, b :: bs => by
    obtain ⟨h1, h2, h3⟩ := lcp_le ts bs
    unfold lcp
    by_cases e : a = b
    · rw [if_pos e]
      refine ⟨by simp; omega, by simp; omega, fun j hj => ?_⟩
      cases j with
      | zero => simpa using e
      | succ j => simpa using h3 j (by omega)
    · rw [if_neg e]; exact ⟨Nat.zero_le _, Nat.zero_le _, fun j hj => absurd hj (Nat.not_lt_zero _)⟩
theorem lcp_pos {x y : List Int} (h1 : 1 ≤ x.length) (h2 : 1 ≤ y.length) (h : x.getD 0 0 = y.getD 0 0) : 1 ≤ lcp x y := by
  cases x with
  | nil => simp at h1
  | cons a x =>
    cases y with
    | nil => simp at h2
    | cons b y =>
      simp at h
      unfold lcp
      rw [if_pos h]; omega
/-- the two parts of a way -/
theorem btwL_len (x y : List Int) : (btwL x y).length = x.length - (lcp x y - 1) + (y.length - lcp x y) := by
  unfold btwL; rw [List.length_append, List.length_reverse, List.length_drop, List.length_drop]
theorem btwL_up {x y : List Int} {k : Nat} (h : k < x.length - (lcp x y - 1)) : (btwL x y).getD k 0 = x.getD (x.length - 1 - k) 0 := by
  unfold btwL
  rw [List.getD_eq_getElem?_getD, List.getElem?_append_left (by rw [List.length_reverse, List.length_drop]; exact h), List.getElem?_reverse (by rw [List.length_drop]; exact h), List.length_drop, List.getElem?_drop, ← List.getD_eq_getElem?_getD]
  congr 1; omega
theorem btwL_down {x y : List Int} {k : Nat} (h : x.length - (lcp x y - 1) ≤ k) : (btwL x y).getD k 0 = y.getD (lcp x y + (k - (x.length - (lcp x y - 1)))) 0 := by
  unfold btwL
  rw [List.getD_eq_getElem?_getD, List.getElem?_append_right (by rw [List.length_reverse, List.length_drop]; exact h), List.length_reverse, List.length_drop, List.getElem?_drop, ← List.getD_eq_getElem?_getD]
/-- each step of a way goes from a child to its parent or from a parent to its child -/
theorem btw_step {xs : List DNode} (ht : TOk xs) {a b : Nat} (ha : a < xs.length) (hb : b < xs.length) {k : Nat} (hk : k + 1 < (btwL (pth xs a) (pth xs b)).length) :
    DownP xs ((btwL (pth xs a) (pth xs b)).getD k 0) ((btwL (pth xs a) (pth xs b)).getD (k + 1) 0) ∨ DownP xs ((btwL (pth xs a) (pth xs b)).getD (k + 1) 0) ((btwL (pth xs a) (pth xs b)).getD k 0) := by
  have hx := pth_step ht a ha
  have hy := pth_step ht b hb
  have hl1 := (pth_len ht a ha).1
  have hl2 := (pth_len ht b hb).1
  have h0 : (pth xs a).getD 0 0 = (pth xs b).getD 0 0 := (pth_head ht a ha).trans (pth_head ht b hb).symm
  generalize pth xs a = x at *
  generalize pth xs b = y at *
  have hp := lcp_pos hl1 hl2 h0
  obtain ⟨n1, n2, he⟩ := lcp_le x y
  rw [btwL_len] at hk
  by_cases h1 : k + 1 < x.length - (lcp x y - 1)
  · right
    rw [btwL_up (k := k) (by omega), btwL_up h1]
    have := hx (x.length - 1 - (k + 1)) (by omega)
    rwa [show x.length - 1 - (k + 1) + 1 = x.length - 1 - k by omega] at this
  · left
    rw [btwL_down (k := k + 1) (by omega)]
    by_cases h2 : k + 1 = x.length - (lcp x y - 1)
    · rw [btwL_up (k := k) (by omega), show x.length - 1 - k = lcp x y - 1 by omega, he (lcp x y - 1) (by omega), h2, Nat.sub_self, Nat.add_zero]
      have := hy (lcp x y - 1) (by omega)
      rwa [show lcp x y - 1 + 1 = lcp x y by omega] at this
    · rw [btwL_down (k := k) (by omega)]
      have := hy (lcp x y + (k - (x.length - (lcp x y - 1)))) (by omega)
      rwa [show lcp x y + (k - (x.length - (lcp x y - 1))) + 1 = lcp x y + (k + 1 - (x.length - (lcp x y - 1))) by omega] at this

end Go.Proofs.Ytodfbodagjmfmab
