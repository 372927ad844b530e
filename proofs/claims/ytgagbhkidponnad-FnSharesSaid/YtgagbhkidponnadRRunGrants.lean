/-
  What RunGrants answers with: the model's answer is read, the program's lies in new memory.
-/
import Derived.Test.YtgagbhkidponnadShpI
namespace Go.Proofs.Ytgagbhkidponnad
open Go Go.RowKit

def ResSRunGrants (xsr0 : List Int) (W : World) (e : Ending) (w' : World) : Prop := ∃ vr0, e = .returned (vr0) ∧ RdL shI w' vr0 xsr0 ∧ W.grownBy w' none
def ResIRunGrants (xsr0 : List Int) (W : World) (e : Ending) (w' : World) : Prop := ∃ vr0, e = .returned (vr0) ∧ OwU w' W.heap.size w'.heap.size [] [own shI vr0 xsr0] ∧ W.grownBy w' none

theorem resS_ofRunGrants {xsr0 : List Int} {W : World} (e : Ending) (w' : World) (h : ResIRunGrants xsr0 W e w') : ResSRunGrants xsr0 W e w' := by
  obtain ⟨vr0, rfl, h, g⟩ := h
  exact ⟨vr0, rfl, OwU.rd h, g⟩

end Go.Proofs.Ytgagbhkidponnad
