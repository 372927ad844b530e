/-
  A truth value that says whether something holds.
-/
import Derived.Test.YtnighnkkeiegnabShpI
namespace Go.Proofs.Ytnighnkkeiegnab
open Go Go.RowKit
set_option linter.unusedVariables false

/-- a truth value that says whether p holds -/
def BPost (p : Prop) (W : World) (e : Ending) (w' : World) : Prop := ∃ r : Bool, e = .returned (.bool r) ∧ (r = true ↔ p) ∧ W.grownBy w' none
theorem bpost_yes {p : Prop} (h : p) {W : World} (e : Ending) (w' : World) (q : BPost p W e w') : AnsN (.bool true) W e w' := by
  obtain ⟨r, rfl, hr, g⟩ := q
  rw [hr.2 h]; exact ⟨rfl, g⟩
theorem bpost_no {p : Prop} (h : ¬ p) {W : World} (e : Ending) (w' : World) (q : BPost p W e w') : AnsN (.bool false) W e w' := by
  obtain ⟨r, rfl, hr, g⟩ := q
  cases r with
  | false => exact ⟨rfl, g⟩
  | true => exact absurd (hr.1 rfl) h
/-- numbers in cells -/
def RdN1 (w : World) (a : Option Addr) (xs : List Int) : Prop := xs.length = 0 ∨ ∃ b off, a = some ⟨b, off, none⟩ ∧ ∀ k, k < xs.length → w.cell? ⟨b, off + k, none⟩ = some (.int .i64 (xs.getD k 0))
theorem rdI1_in {w : World} {v : Value} {xs : List Int} (H : RdL shI w v xs) : ∃ a cap, v = .slice a xs.length cap ∧ CapOk a xs.length cap ∧ RdN1 w a xs := by
  obtain ⟨a, cap, rfl, hi, hc⟩ := rdI_in H
  exact ⟨a, cap, rfl, hc, hi.2⟩

end Go.Proofs.Ytnighnkkeiegnab
