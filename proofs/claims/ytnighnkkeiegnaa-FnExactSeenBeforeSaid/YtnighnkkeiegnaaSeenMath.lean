/-
  What was sent ahead of a packet: as data.
-/
import Derived.Test.YtnighnkkeiegnaaPksCp
import Derived.Test.YtnighnkkeiegnaaPkSame
import Derived.Test.YtnighnkkeiegnaaPassMath
import Derived.Test.YtnighnkkeiegnaaRSeenBefore
namespace Go.Proofs.Ytnighnkkeiegnaa
open Go Go.RowKit
set_option linter.unusedVariables false

def sameD (p q : DPacket) : Bool := decide (SameF p.f0 p.f1 p.f2 p.f3 p.f4 p.f5 p.f6 q.f0 q.f1 q.f2 q.f3 q.f4 q.f5 q.f6 p.f7 q.f7)
/-- q is the first place of the packet, or the end -/
def SeenAt (xs : List DPacket) (y : DPacket) (q : Nat) : Prop := q ≤ xs.length ∧ (∀ j, j < q → sameD (xs.getD j default) y = false) ∧ (q < xs.length → sameD (xs.getD q default) y = true)
theorem seen_ex (xs : List DPacket) (y : DPacket) : ∃ q, SeenAt xs y q := by
  have key : ∀ n, n ≤ xs.length → (∃ q, q < n ∧ (∀ j, j < q → sameD (xs.getD j default) y = false) ∧ sameD (xs.getD q default) y = true) ∨ ∀ j, j < n → sameD (xs.getD j default) y = false := by
    intro n
    induction n with
    | zero => exact fun _ => .inr (fun j hj => absurd hj (Nat.not_lt_zero _))
    | succ n ih =>
      intro hn
      rcases ih (by omega) with ⟨q, h1, h2, h3⟩ | h
      · exact .inl ⟨q, by omega, h2, h3⟩
      · cases e : sameD (xs.getD n default) y with
        | true => exact .inl ⟨n, by omega, h, e⟩
        | false =>
          refine .inr (fun j hj => ?_)
          by_cases ej : j = n
          · subst ej; exact e
          · exact h j (by omega)
  rcases key xs.length (Nat.le_refl _) with ⟨q, h1, h2, h3⟩ | h
  · exact ⟨q, by omega, h2, fun _ => h3⟩
  · exact ⟨xs.length, Nat.le_refl _, h, fun q => by omega⟩

theorem specSameD (W : World) (p q : DPacket) (v u : Value) (H : RdL shI W v p.f7) (H' : RdL shI W u q.f7) (hl : szL shI p.f7 ≤ 1048576) (hm : szL shI q.f7 ≤ 1048576) (b : Bool) (hb : b = sameD p q) : Calls Try.prog 102 #[vPacket p.f0 p.f1 p.f2 p.f3 p.f4 p.f5 p.f6 v, vPacket q.f0 q.f1 q.f2 q.f3 q.f4 q.f5 q.f6 u] W (AnsN (.bool b) W) := by
  rw [szL_I] at hl hm
  obtain ⟨a, cap, rfl, hi, _⟩ := rdI_in H
  obtain ⟨a', cap', rfl, hi', _⟩ := rdI_in H'
  rw [hb]
  exact specSame_any W _ _ _ _ _ _ _ _ _ _ _ _ _ _ a a' _ _ cap cap' _ _ hi hi' hl hm

theorem implSameD (W : World) (p q : DPacket) (v u : Value) (H : RdL shI W v p.f7) (H' : RdL shI W u q.f7) (hl : szL shI p.f7 ≤ 1048576) (hm : szL shI q.f7 ≤ 1048576) (b : Bool) (hb : b = sameD p q) : Calls Try.prog 105 #[vPacket p.f0 p.f1 p.f2 p.f3 p.f4 p.f5 p.f6 v, vPacket q.f0 q.f1 q.f2 q.f3 q.f4 q.f5 q.f6 u] W (AnsN (.bool b) W) := by
  rw [szL_I] at hl hm
  obtain ⟨a, cap, rfl, hi, _⟩ := rdI_in H
  obtain ⟨a', cap', rfl, hi', _⟩ := rdI_in H'
  rw [hb]
  exact implSame_any W _ _ _ _ _ _ _ _ _ _ _ _ _ _ a a' _ _ cap cap' _ _ hi hi' hl hm

end Go.Proofs.Ytnighnkkeiegnaa
