/-
  Ways between nodes: the common beginning of two ways; rows by their cells.
-/
import Derived.Test.YtodfbodagjmfmabPathB
import Derived.Test.YtodfbodagjmfmabRowAt
import Derived.Test.YtodfbodagjmfmabAppP
namespace Go.Proofs.Ytodfbodagjmfmab
open Go Go.RowKit
set_option linter.unusedVariables false

/-- how many numbers two lists have in common at their beginning -/
def lcp : List Int → List Int → Nat
  | a :: ts, b :: bs => if a = b then lcp ts bs + 1 else 0
  | [], _ => 0
  | _ :: _, [] => 0
theorem lcp_is : ∀ {x y : List Int} {n : Nat}, n ≤ x.length → n ≤ y.length → (∀ j, j < n → x.getD j 0 = y.getD j 0) → (n = x.length ∨ n = y.length ∨ x.getD n 0 ≠ y.getD n 0) → lcp x y = n
  | [], y, n, h1, _, _, _ => by
    have : n = 0 := by simpa using h1
    subst this; cases y <;> rfl
  | a :: ts, [], n, _, h2, _, _ => by
    have : n = 0 := by simpa using h2
    subst this; rfl
  | a :: ts, b :: bs, 0, _, _, _, hs => by
    rcases hs with h | h | h
    · simp at h
    · simp at h
    · simp at h
      unfold lcp; rw [if_neg h]
  | a :: ts, b :: bs, n + 1, h1, h2, he, hs => by
    have h0 := he 0 (by omega)
    simp at h0
    unfold lcp
    rw [if_pos h0, lcp_is (x := ts) (y := bs) (n := n) (by simpa using h1) (by simpa using h2) (fun j hj => by have := he (j + 1) (by omega); simpa using this) (by simpa using hs)]
/-- the way between the ends of two ways from the root -/
def btwL (x y : List Int) : List Int := (x.drop (lcp x y - 1)).reverse ++ y.drop (lcp x y)
/-- the way from a to b, none if one of them is no node -/
def BtwIs (xs : List DNode) (a b : Int) (zs : List Int) : Prop := ∃ x y, PthIs xs a x ∧ PthIs xs b y ∧ ((1 ≤ x.length ∧ 1 ≤ y.length ∧ zs = btwL x y) ∨ ((x = [] ∨ y = []) ∧ zs = []))
theorem btwIs_ex (xs : List DNode) (a b : Int) : ∃ zs, BtwIs xs a b zs := by
  obtain ⟨x, hx⟩ := pthIs_ex xs a
  obtain ⟨y, hy⟩ := pthIs_ex xs b
  by_cases h : 1 ≤ x.length ∧ 1 ≤ y.length
  · exact ⟨_, x, y, hx, hy, .inl ⟨h.1, h.2, rfl⟩⟩
  · refine ⟨[], x, y, hx, hy, .inr ⟨?_, rfl⟩⟩
    by_cases h1 : 1 ≤ x.length
    · exact .inr (List.eq_nil_of_length_eq_zero (by omega))
    · exact .inl (List.eq_nil_of_length_eq_zero (by omega))
theorem btwIs_len {xs : List DNode} {a b : Int} {zs : List Int} (h : BtwIs xs a b zs) : zs.length ≤ 24 := by
  obtain ⟨x, y, hx, hy, h⟩ := h
  have h1 := pthIs_len hx
  have h2 := pthIs_len hy
  rcases h with ⟨_, _, rfl⟩ | ⟨_, rfl⟩
  · unfold btwL
    rw [List.length_append, List.length_reverse, List.length_drop, List.length_drop]; omega
  · simp
theorem pth_head {xs : List DNode} (h : TOk xs) : ∀ k, k < xs.length → (pth xs k).getD 0 0 = 0 :=
  tree_ind h (by simp [pth_zero]) (fun k h1 h2 ih => by
    have hl := (pth_len h _ (Nat.lt_trans (par_lt h h1 h2) h2)).1
    rw [pth_succ h h1 h2, List.getD_eq_getElem?_getD, List.getElem?_append_left (by omega), ← List.getD_eq_getElem?_getD]
    exact ih)
theorem pthIs_head {xs : List DNode} {k : Int} {ys : List Int} (h : PthIs xs k ys) : ys.getD 0 0 = 0 := by
  rcases h with ⟨n, rfl, h1, h2, rfl⟩ | ⟨_, rfl⟩
  · exact pth_head h1 n h2
  · rfl
theorem pthIs_node {xs : List DNode} {k : Int} {ys : List Int} (h : PthIs xs k ys) : NodeP xs k ↔ 1 ≤ ys.length := by
  rcases h with ⟨n, rfl, h1, h2, rfl⟩ | ⟨h, rfl⟩
  · exact ⟨fun _ => (pth_len h1 n h2).1, fun _ => ⟨h1, by omega, by omega⟩⟩
  · exact ⟨fun q => absurd q h, fun q => absurd q (by simp)⟩
theorem drop_last (x : List Int) (k : Nat) (h : k < x.length) : (x.drop k).reverse = (x.drop (k + 1)).reverse ++ [x.getD k 0] := by
  rw [List.drop_eq_getElem_cons h, List.reverse_cons, List.getD_eq_getElem?_getD, List.getElem?_eq_getElem h]; rfl

/-- numbers in cells are read -/
theorem rdI_cells {w : World} {b off len cap : Nat} {ys : List Int} (hl : len = ys.length) (hm : len ≤ 1000000) (hcap : len ≤ cap) (h : ∀ k, k < len → w.cell? ⟨b, off + k, none⟩ = some (.int .i64 (ys.getD k 0))) : RdL shI w (.slice (some ⟨b, off, none⟩) len cap) ys := by
  subst hl
  refine ⟨_, cap, rfl, ⟨(fun e => by cases e), hcap⟩, by omega, .inr ⟨b, off, rfl, fun k hk => ⟨[.int .i64 (ys.getD k default)], fun j hj => ?_, rfl⟩⟩⟩
  obtain rfl : j = 0 := by simp at hj; omega
  show w.cell? ⟨b, off + k * 1 + 0, none⟩ = _
  rw [Nat.mul_one, Nat.add_zero, h k hk]
  rfl
theorem rdI_cut {w : World} {b off n cap k : Nat} {ys : List Int} (hl : n = ys.length) (hm : n ≤ 1000000) (hcap : n ≤ cap) (hk : k ≤ n) (h : ∀ j, j < n → w.cell? ⟨b, off + j, none⟩ = some (.int .i64 (ys.getD j 0))) : RdL shI w (.slice (if cap = k then some ⟨b, off, none⟩ else some ⟨b, off + k, none⟩) (n - k) (cap - k)) (ys.drop k) := by
  split
  · exact rdI_cells (by rw [List.length_drop, hl]) (by omega) (by omega) (fun j hj => by omega)
  · exact rdI_cells (by rw [List.length_drop, hl]) (by omega) (by omega) (fun j hj => by
      have := h (k + j) (by omega)
      rw [← Nat.add_assoc] at this
      rw [this]; simp [List.getD_eq_getElem?_getD])
theorem getD_drop (y : List Int) (n k : Nat) : (y.drop n).getD k 0 = y.getD (n + k) 0 := by simp [List.getD_eq_getElem?_getD]
/-- a row that is not empty: its block's cells -/
theorem row_blk {w : World} {base : Nat} {v : Value} {ys : List Int} (h : w.ownsRow base 3 1 v ys.length (i64s ys)) (h1 : 1 ≤ ys.length) : ∃ g cap C, v = .slice (some ⟨g, 0, none⟩) ys.length cap ∧ base ≤ g ∧ w.heap[g]? = some (.cells C 3 (0, 0)) ∧ ys.length ≤ cap ∧ C.size = cap ∧ ∀ k, k < ys.length → C[k]? = some (.int .i64 (ys.getD k 0)) := by
  rcases h.2 with ⟨_, h0⟩ | ⟨g, cap, cur, rfl, hb, hg, hn, hm, hs, ht⟩
  · omega
  · refine ⟨g, cap, cur, rfl, hb, hg, hn, by omega, fun k hk => ?_⟩
    have q : (cur.toList.take (ys.length * 1))[k]? = (i64s ys)[k]? := by rw [ht]
    rw [List.getElem?_take, if_pos (by omega), Array.getElem?_toList] at q
    rw [q, i64s, List.getElem?_map, List.getElem?_eq_getElem hk, List.getD_eq_getElem?_getD, List.getElem?_eq_getElem hk]; rfl

end Go.Proofs.Ytodfbodagjmfmab
