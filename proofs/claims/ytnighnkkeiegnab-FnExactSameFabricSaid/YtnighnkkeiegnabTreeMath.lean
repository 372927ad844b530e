/-
  Valid trees.
-/
import Derived.Test.YtnighnkkeiegnabQNode
import Derived.Test.YtnighnkkeiegnabDNode
import Derived.Test.YtnighnkkeiegnabRTreeOk
import Derived.Test.YtnighnkkeiegnabPlainRow
import Derived.Test.YtnighnkkeiegnabBits2Impl
import Derived.Deep.RegionHeld3
import Derived.Deep.QuietTactic
namespace Go.Proofs.Ytnighnkkeiegnab
open Go Go.RowKit
set_option linter.unusedVariables false

/-- the k-th node -/
def nd (xs : List DNode) (k : Nat) : DNode := xs.getD k default
/-- node k may follow those before it -/
def Placed (xs : List DNode) (k : Nat) : Prop :=
  (0 ≤ (nd xs k).f0 ∧ (nd xs k).f0 ≤ (k : Int) - 1) ∧ (nd xs (nd xs k).f0.toNat).f2 = 0 ∧ (0 ≤ (nd xs k).f1 ∧ (nd xs k).f1 ≤ 3) ∧ (0 ≤ (nd xs k).f2 ∧ (nd xs k).f2 ≤ 4) ∧ ∀ i, 1 ≤ i → i < k → ¬ ((nd xs i).f0 = (nd xs k).f0 ∧ (nd xs i).f1 = (nd xs k).f1)
/-- a valid tree -/
def TOk (xs : List DNode) : Prop := (1 ≤ xs.length ∧ xs.length ≤ 12) ∧ ((nd xs 0).f0 = -1 ∧ (nd xs 0).f1 = 0 ∧ (nd xs 0).f2 = 0) ∧ ∀ k, 1 ≤ k → k < xs.length → Placed xs k
theorem tok_no {xs : List DNode} {k : Nat} (h1 : 1 ≤ k) (h2 : k < xs.length) (h : ¬ Placed xs k) : ¬ TOk xs := fun q => h (q.2.2 k h1 h2)
def TPost (xs : List DNode) (W : World) (e : Ending) (w' : World) : Prop := ∃ r : Bool, e = .returned (.bool r) ∧ (r = true ↔ TOk xs) ∧ W.grownBy w' none
theorem iff_no {p : Prop} (h : ¬ p) : false = true ↔ p := ⟨fun q => (by cases q), fun q => absurd q h⟩
theorem iff_yes {p : Prop} (h : p) : true = true ↔ p := ⟨fun _ => h, fun _ => rfl⟩
theorem inr_or (x a b : Int) : (a ≤ x ∧ x ≤ b) ∨ (x < a ∨ b < x) := by omega
/-- the nodes in cells -/
def RdN (w : World) (a : Option Addr) (xs : List DNode) : Prop :=
  xs.length = 0 ∨ ∃ b off, a = some ⟨b, off, none⟩ ∧ ∀ k, k < xs.length → w.cell? ⟨b, off + k * 3, none⟩ = some (.int .i64 (nd xs k).f0) ∧ w.cell? ⟨b, off + k * 3 + 1, none⟩ = some (.int .i64 (nd xs k).f1) ∧ w.cell? ⟨b, off + k * 3 + 2, none⟩ = some (.int .i64 (nd xs k).f2)
theorem rdN_in {w : World} {v : Value} {xs : List DNode} (H : RdL shNode w v xs) : ∃ a cap, v = .slice a xs.length cap ∧ CapOk a xs.length cap ∧ RdN w a xs := by
  obtain ⟨a, cap, rfl, hc, _, h⟩ := H
  refine ⟨a, cap, rfl, hc, ?_⟩
  rcases h with h0 | ⟨b, off, ha, h⟩
  · exact .inl h0
  · refine .inr ⟨b, off, ha, fun k hk => ?_⟩
    obtain ⟨cs, hat, hrd⟩ := h k hk
    obtain rfl := hrd
    exact ⟨at_cell (j := 0) hat rfl, at_cell (j := 1) hat rfl, at_cell (j := 2) hat rfl⟩

end Go.Proofs.Ytnighnkkeiegnab
