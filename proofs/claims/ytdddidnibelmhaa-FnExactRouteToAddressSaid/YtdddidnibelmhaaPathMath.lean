/-
  Ways from the root to a node.
-/
import Derived.Test.YtdddidnibelmhaaTreeMath
namespace Go.Proofs.Ytdddidnibelmhaa
open Go Go.RowKit
set_option linter.unusedVariables false

/-- a valid tree and one of its nodes -/
def NodeP (xs : List DNode) (k : Int) : Prop := TOk xs ∧ 0 ≤ k ∧ k < (xs.length : Int)
/-- the parent's number -/
def par (xs : List DNode) (k : Nat) : Nat := (nd xs k).f0.toNat
/-- the way from the root to node k, at most f nodes -/
def upN (xs : List DNode) : Nat → Nat → List Int
  | 0, _ => []
  | f + 1, k => if k = 0 then [0] else upN xs f (par xs k) ++ [(k : Int)]
/-- the way from the root to node k -/
def pth (xs : List DNode) (k : Nat) : List Int := upN xs (k + 1) k

theorem par_lt {xs : List DNode} (h : TOk xs) {k : Nat} (h1 : 1 ≤ k) (h2 : k < xs.length) : par xs k < k := by
  have := (h.2.2 k h1 h2).1
  unfold par; omega
theorem par_eq {xs : List DNode} (h : TOk xs) {k : Nat} (h1 : 1 ≤ k) (h2 : k < xs.length) : (nd xs k).f0 = (par xs k : Int) := by
  have := (h.2.2 k h1 h2).1
  unfold par; omega
theorem upN_eq {xs : List DNode} (h : TOk xs) : ∀ (f k : Nat), k < xs.length → k < f → upN xs f k = upN xs (k + 1) k := by
  intro f
  induction f using Nat.strongRecOn with
  | _ f ih =>
    intro k hk hf
    obtain ⟨g, rfl⟩ : ∃ g, f = g + 1 := ⟨f - 1, by omega⟩
    unfold upN
    by_cases h0 : k = 0
    · rw [if_pos h0, if_pos h0]
    · have hp := par_lt h (by omega) hk
      rw [if_neg h0, if_neg h0, ih g (by omega) (par xs k) (by omega) (by omega)]
      by_cases hg : k < g
      · rw [ih k (by omega) (par xs k) (by omega) (by omega)]
      · obtain rfl : k = g := by omega
        rw [ih k (by omega) (par xs k) (by omega) (by omega)]
theorem pth_zero (xs : List DNode) : pth xs 0 = [0] := by simp [pth, upN]
theorem pth_succ {xs : List DNode} (h : TOk xs) {k : Nat} (h1 : 1 ≤ k) (h2 : k < xs.length) : pth xs k = pth xs (par xs k) ++ [(k : Int)] := by
  have hp := par_lt h h1 h2
  rw [pth, upN, if_neg (by omega), upN_eq h k (par xs k) (by omega) (by omega), pth]
/-- a statement on nodes holds for all if it goes from parent to child -/
theorem tree_ind {xs : List DNode} (h : TOk xs) {p : Nat → Prop} (h0 : p 0) (hs : ∀ k, 1 ≤ k → k < xs.length → p (par xs k) → p k) : ∀ k, k < xs.length → p k := by
  intro k
  induction k using Nat.strongRecOn with
  | _ k ih =>
    intro hk
    by_cases k0 : k = 0
    · subst k0; exact h0
    · exact hs k (by omega) hk (ih _ (par_lt h (by omega) hk) (by have := par_lt h (k := k) (by omega) hk; omega))
theorem pth_len {xs : List DNode} (h : TOk xs) : ∀ k, k < xs.length → 1 ≤ (pth xs k).length ∧ (pth xs k).length ≤ k + 1 :=
  tree_ind h (by simp [pth_zero]) (fun k h1 h2 ih => by
    rw [pth_succ h h1 h2, List.length_append, List.length_singleton]
    have := par_lt h h1 h2
    omega)
theorem pth_in {xs : List DNode} (h : TOk xs) : ∀ k, k < xs.length → ∀ x ∈ pth xs k, 0 ≤ x ∧ x ≤ (k : Int) :=
  tree_ind h (by simp [pth_zero]) (fun k h1 h2 ih => by
    intro x hx
    rw [pth_succ h h1 h2, List.mem_append, List.mem_singleton] at hx
    have := par_lt h h1 h2
    rcases hx with hx | rfl
    · have := ih x hx; omega
    · omega)

end Go.Proofs.Ytdddidnibelmhaa
