/-
  What AddNode answers with: the model's answer is read, the program's lies in new memory.
-/
import Derived.Test.YtodfbodagjmfmabShpI
import Derived.Test.YtodfbodagjmfmabDNode
namespace Go.Proofs.Ytodfbodagjmfmab
open Go Go.RowKit

def ResSAddNode (xsr0 : List DNode) (br1 : Bool) (W : World) (e : Ending) (w' : World) : Prop := ∃ vr0, e = .returned (.tuple #[vr0, .bool br1]) ∧ RdL shNode w' vr0 xsr0 ∧ W.grownBy w' none
def ResIAddNode (xsr0 : List DNode) (br1 : Bool) (W : World) (e : Ending) (w' : World) : Prop := ∃ vr0, e = .returned (.tuple #[vr0, .bool br1]) ∧ OwU w' W.heap.size w'.heap.size [] [own shNode vr0 xsr0] ∧ W.grownBy w' none

theorem resS_ofAddNode {xsr0 : List DNode} {br1 : Bool} {W : World} (e : Ending) (w' : World) (h : ResIAddNode xsr0 br1 W e w') : ResSAddNode xsr0 br1 W e w' := by
  obtain ⟨vr0, rfl, h, g⟩ := h
  exact ⟨vr0, rfl, OwU.rd h, g⟩

end Go.Proofs.Ytodfbodagjmfmab
