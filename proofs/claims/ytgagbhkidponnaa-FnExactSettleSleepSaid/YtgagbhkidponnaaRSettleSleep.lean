/-
  What SettleSleep answers with: the model's answer is read, the program's lies in new memory.
-/
import Derived.Test.YtgagbhkidponnaaShpI
import Derived.Test.YtgagbhkidponnaaDNode
namespace Go.Proofs.Ytgagbhkidponnaa
open Go Go.RowKit

def ResSSettleSleep (xsr0 : List Int) (W : World) (e : Ending) (w' : World) : Prop := ∃ vr0, e = .returned (vr0) ∧ RdL shI w' vr0 xsr0 ∧ W.grownBy w' none
def ResISettleSleep (xsr0 : List Int) (W : World) (e : Ending) (w' : World) : Prop := ∃ vr0, e = .returned (vr0) ∧ OwU w' W.heap.size w'.heap.size [] [own shI vr0 xsr0] ∧ W.grownBy w' none

theorem resS_ofSettleSleep {xsr0 : List Int} {W : World} (e : Ending) (w' : World) (h : ResISettleSleep xsr0 W e w') : ResSSettleSleep xsr0 W e w' := by
  obtain ⟨vr0, rfl, h, g⟩ := h
  exact ⟨vr0, rfl, OwU.rd h, g⟩

end Go.Proofs.Ytgagbhkidponnaa
