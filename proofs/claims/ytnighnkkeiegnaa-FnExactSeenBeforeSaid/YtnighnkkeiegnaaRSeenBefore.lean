/-
  What SeenBefore answers with: the model's answer is read, the program's lies in new memory.
-/
import Derived.Test.YtnighnkkeiegnaaShpI
import Derived.Test.YtnighnkkeiegnaaDPacket
namespace Go.Proofs.Ytnighnkkeiegnaa
open Go Go.RowKit

def ResSSeenBefore (xsr0 : List DPacket) (W : World) (e : Ending) (w' : World) : Prop := ∃ vr0, e = .returned (vr0) ∧ RdL shPacket w' vr0 xsr0 ∧ W.grownBy w' none
def ResISeenBefore (xsr0 : List DPacket) (W : World) (e : Ending) (w' : World) : Prop := ∃ vr0, e = .returned (vr0) ∧ OwU w' W.heap.size w'.heap.size [] [own shPacket vr0 xsr0] ∧ W.grownBy w' none

theorem resS_ofSeenBefore {xsr0 : List DPacket} {W : World} (e : Ending) (w' : World) (h : ResISeenBefore xsr0 W e w') : ResSSeenBefore xsr0 W e w' := by
  obtain ⟨vr0, rfl, h, g⟩ := h
  exact ⟨vr0, rfl, OwU.rd h, g⟩

end Go.Proofs.Ytnighnkkeiegnaa
