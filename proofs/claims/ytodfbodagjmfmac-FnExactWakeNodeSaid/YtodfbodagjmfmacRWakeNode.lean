/-
  What WakeNode answers with: the model's answer is read, the program's lies in new memory.
-/
import Derived.Test.YtodfbodagjmfmacShpI
import Derived.Test.YtodfbodagjmfmacDNode
namespace Go.Proofs.Ytodfbodagjmfmac
open Go Go.RowKit

def ResSWakeNode (xsr0 : List Int) (br1 : Bool) (W : World) (e : Ending) (w' : World) : Prop := ∃ vr0, e = .returned (.tuple #[vr0, .bool br1]) ∧ RdL shI w' vr0 xsr0 ∧ W.grownBy w' none
def ResIWakeNode (xsr0 : List Int) (br1 : Bool) (W : World) (e : Ending) (w' : World) : Prop := ∃ vr0, e = .returned (.tuple #[vr0, .bool br1]) ∧ OwU w' W.heap.size w'.heap.size [] [own shI vr0 xsr0] ∧ W.grownBy w' none

theorem resS_ofWakeNode {xsr0 : List Int} {br1 : Bool} {W : World} (e : Ending) (w' : World) (h : ResIWakeNode xsr0 br1 W e w') : ResSWakeNode xsr0 br1 W e w' := by
  obtain ⟨vr0, rfl, h, g⟩ := h
  exact ⟨vr0, rfl, OwU.rd h, g⟩

end Go.Proofs.Ytodfbodagjmfmac
