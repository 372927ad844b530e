/-
  What VirtualIds answers with: the model's answer is read, the program's lies in new memory.
-/
import Derived.Test.YtgagbhkidponnaaShpI
namespace Go.Proofs.Ytgagbhkidponnaa
open Go Go.RowKit

def ResSVirtualIds (xsr0 : List Int) (br1 : Bool) (W : World) (e : Ending) (w' : World) : Prop := ∃ vr0, e = .returned (.tuple #[vr0, .bool br1]) ∧ RdL shI w' vr0 xsr0 ∧ W.grownBy w' none
def ResIVirtualIds (xsr0 : List Int) (br1 : Bool) (W : World) (e : Ending) (w' : World) : Prop := ∃ vr0, e = .returned (.tuple #[vr0, .bool br1]) ∧ OwU w' W.heap.size w'.heap.size [] [own shI vr0 xsr0] ∧ W.grownBy w' none

theorem resS_ofVirtualIds {xsr0 : List Int} {br1 : Bool} {W : World} (e : Ending) (w' : World) (h : ResIVirtualIds xsr0 br1 W e w') : ResSVirtualIds xsr0 br1 W e w' := by
  obtain ⟨vr0, rfl, h, g⟩ := h
  exact ⟨vr0, rfl, OwU.rd h, g⟩

end Go.Proofs.Ytgagbhkidponnaa
