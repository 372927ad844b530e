/-
  What FreeTag answers with: the model's answer is read, the program's lies in new memory.
-/
import Derived.Test.YtgagbhkidponnaaShpI
namespace Go.Proofs.Ytgagbhkidponnaa
open Go Go.RowKit

def ResSFreeTag (xsr0_0 : List Bool) (br1 : Bool) (W : World) (e : Ending) (w' : World) : Prop := ∃ vr0_0, e = .returned (.tuple #[.agg #[vr0_0], .bool br1]) ∧ RdL shB w' vr0_0 xsr0_0 ∧ W.grownBy w' none
def ResIFreeTag (xsr0_0 : List Bool) (br1 : Bool) (W : World) (e : Ending) (w' : World) : Prop := ∃ vr0_0, e = .returned (.tuple #[.agg #[vr0_0], .bool br1]) ∧ OwU w' W.heap.size w'.heap.size [] [own shB vr0_0 xsr0_0] ∧ W.grownBy w' none

theorem resS_ofFreeTag {xsr0_0 : List Bool} {br1 : Bool} {W : World} (e : Ending) (w' : World) (h : ResIFreeTag xsr0_0 br1 W e w') : ResSFreeTag xsr0_0 br1 W e w' := by
  obtain ⟨vr0_0, rfl, h, g⟩ := h
  exact ⟨vr0_0, rfl, OwU.rd h, g⟩

end Go.Proofs.Ytgagbhkidponnaa
