/-
  What NewTags answers with: the model's answer is read, the program's lies in new memory.
-/
import Derived.Test.YtoedgncidoldaabShpI
namespace Go.Proofs.Ytoedgncidoldaab
open Go Go.RowKit

def ResSNewTags (xsr0_0 : List Bool) (W : World) (e : Ending) (w' : World) : Prop := ∃ vr0_0, e = .returned (.agg #[vr0_0]) ∧ RdL shB w' vr0_0 xsr0_0 ∧ W.grownBy w' none
def ResINewTags (xsr0_0 : List Bool) (W : World) (e : Ending) (w' : World) : Prop := ∃ vr0_0, e = .returned (.agg #[vr0_0]) ∧ OwU w' W.heap.size w'.heap.size [] [own shB vr0_0 xsr0_0] ∧ W.grownBy w' none

theorem resS_ofNewTags {xsr0_0 : List Bool} {W : World} (e : Ending) (w' : World) (h : ResINewTags xsr0_0 W e w') : ResSNewTags xsr0_0 W e w' := by
  obtain ⟨vr0_0, rfl, h, g⟩ := h
  exact ⟨vr0_0, rfl, OwU.rd h, g⟩

end Go.Proofs.Ytoedgncidoldaab
