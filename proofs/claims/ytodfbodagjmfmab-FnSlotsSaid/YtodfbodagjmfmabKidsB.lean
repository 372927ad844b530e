/-
  ChildrenOf on both sides.
-/
import Derived.Test.YtodfbodagjmfmabKidsS
import Derived.Test.YtodfbodagjmfmabKidsI
namespace Go.Proofs.Ytodfbodagjmfmab
open Go Go.RowKit
set_option linter.unusedVariables false

/-- what ChildrenOf answers with -/
def KidL (xs : List DNode) (k : Int) (ys : List Int) : Prop := (NodeP xs k ∧ ys = nums (kidsN xs k 4)) ∨ (¬ NodeP xs k ∧ ys = [])
theorem kidL_ex (xs : List DNode) (k : Int) : ∃ ys, KidL xs k ys := by
  by_cases h : NodeP xs k
  · exact ⟨_, .inl ⟨h, rfl⟩⟩
  · exact ⟨_, .inr ⟨h, rfl⟩⟩
theorem kidL_len {xs : List DNode} {k : Int} {ys : List Int} (h : KidL xs k ys) : ys.length ≤ 48 := by
  rcases h with ⟨h1, rfl⟩ | ⟨_, rfl⟩
  · rw [nums_len]
    have := kidsN_len xs k 4
    have := h1.1.1.2
    omega
  · simp
theorem specKids_any (W : World) (v : Value) (xs : List DNode) (k : Int) (H : RdL shNode W v xs) (hl : szL shNode xs ≤ 1048576) (ys : List Int) (h : KidL xs k ys) : Calls Try.prog 16 #[v, .int .i64 k] W (ResIChildrenOf ys W) := by
  rcases h with ⟨h1, rfl⟩ | ⟨h1, rfl⟩
  · exact specKids_yes W v xs k H hl h1
  · exact specKids_no W v xs k H hl h1

theorem implKids_any (W : World) (v : Value) (xs : List DNode) (k : Int) (H : RdL shNode W v xs) (hl : szL shNode xs ≤ 1048576) (ys : List Int) (h : KidL xs k ys) : Calls Try.prog 18 #[v, .int .i64 k] W (ResIChildrenOf ys W) := by
  rcases h with ⟨h1, rfl⟩ | ⟨h1, rfl⟩
  · exact implKids_yes W v xs k H hl h1
  · exact implKids_no W v xs k H hl h1

theorem childrenOf_both (xs0 : List DNode) (i1 : Int) (h0 : szL shNode xs0 ≤ 1048576) : ∃ (xsr0 : List Int), szL shI xsr0 ≤ 1048576 ∧ (∀ (W : World), ∀ u0, RdL shNode W u0 xs0 → Calls Try.prog 16 #[u0, .int .i64 i1] W (ResSChildrenOf xsr0 W)) ∧ ∀ (W : World), ∀ u0, RdL shNode W u0 xs0 → Calls Try.prog 18 #[u0, .int .i64 i1] W (ResIChildrenOf xsr0 W) := by
  obtain ⟨ys, hy⟩ := kidL_ex xs0 i1
  exact ⟨ys, by rw [szL_I]; have := kidL_len hy; omega, fun W u H => (specKids_any W u xs0 i1 H h0 ys hy).mono (fun e w q => resS_ofChildrenOf e w q), fun W u H => implKids_any W u xs0 i1 H h0 ys hy⟩

end Go.Proofs.Ytodfbodagjmfmab
