/-
  What NewChannel answers with: the model's answer is read, the program's lies in new memory.
-/
import Derived.Test.YtgagbhkidponnacShpI
import Derived.Test.YtgagbhkidponnacDPacket
namespace Go.Proofs.Ytgagbhkidponnac
open Go Go.RowKit

def ResSNewChannel (xsr0_0 : List Int) (xsr0_1 : List Int) (xsr0_2 : List Int) (xsr0_3 : List Int) (xsr0_4 : List DPacket) (xsr0_5 : List DPacket) (br1 : Bool) (W : World) (e : Ending) (w' : World) : Prop := ∃ vr0_0, ∃ vr0_1, ∃ vr0_2, ∃ vr0_3, ∃ vr0_4, ∃ vr0_5, e = .returned (.tuple #[.agg #[vr0_0, vr0_1, vr0_2, vr0_3, vr0_4, vr0_5], .bool br1]) ∧ RdL shI w' vr0_0 xsr0_0 ∧ RdL shI w' vr0_1 xsr0_1 ∧ RdL shI w' vr0_2 xsr0_2 ∧ RdL shI w' vr0_3 xsr0_3 ∧ RdL shPacket w' vr0_4 xsr0_4 ∧ RdL shPacket w' vr0_5 xsr0_5 ∧ W.grownBy w' none
def ResINewChannel (xsr0_0 : List Int) (xsr0_1 : List Int) (xsr0_2 : List Int) (xsr0_3 : List Int) (xsr0_4 : List DPacket) (xsr0_5 : List DPacket) (br1 : Bool) (W : World) (e : Ending) (w' : World) : Prop := ∃ vr0_0, ∃ vr0_1, ∃ vr0_2, ∃ vr0_3, ∃ vr0_4, ∃ vr0_5, e = .returned (.tuple #[.agg #[vr0_0, vr0_1, vr0_2, vr0_3, vr0_4, vr0_5], .bool br1]) ∧ OwU w' W.heap.size w'.heap.size [] [own shI vr0_0 xsr0_0, own shI vr0_1 xsr0_1, own shI vr0_2 xsr0_2, own shI vr0_3 xsr0_3, own shPacket vr0_4 xsr0_4, own shPacket vr0_5 xsr0_5] ∧ W.grownBy w' none

theorem resS_ofNewChannel {xsr0_0 : List Int} {xsr0_1 : List Int} {xsr0_2 : List Int} {xsr0_3 : List Int} {xsr0_4 : List DPacket} {xsr0_5 : List DPacket} {br1 : Bool} {W : World} (e : Ending) (w' : World) (h : ResINewChannel xsr0_0 xsr0_1 xsr0_2 xsr0_3 xsr0_4 xsr0_5 br1 W e w') : ResSNewChannel xsr0_0 xsr0_1 xsr0_2 xsr0_3 xsr0_4 xsr0_5 br1 W e w' := by
  obtain ⟨vr0_0, vr0_1, vr0_2, vr0_3, vr0_4, vr0_5, rfl, h, g⟩ := h
  exact ⟨vr0_0, vr0_1, vr0_2, vr0_3, vr0_4, vr0_5, rfl, OwU.rd h, OwU.rd (OwU.tail h), OwU.rd (OwU.tail (OwU.tail h)), OwU.rd (OwU.tail (OwU.tail (OwU.tail h))), OwU.rd (OwU.tail (OwU.tail (OwU.tail (OwU.tail h)))), OwU.rd (OwU.tail (OwU.tail (OwU.tail (OwU.tail (OwU.tail h))))), g⟩

end Go.Proofs.Ytgagbhkidponnac
