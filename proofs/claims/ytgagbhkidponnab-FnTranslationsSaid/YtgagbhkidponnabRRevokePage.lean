/-
  What RevokePage answers with: the model's answer is read, the program's lies in new memory.
-/
import Derived.Test.YtgagbhkidponnabShpI
import Derived.Test.YtgagbhkidponnabDPageGrant
namespace Go.Proofs.Ytgagbhkidponnab
open Go Go.RowKit

def ResSRevokePage (xsr0 : List DPageGrant) (W : World) (e : Ending) (w' : World) : Prop := ∃ vr0, e = .returned (vr0) ∧ RdL shPageGrant w' vr0 xsr0 ∧ W.grownBy w' none
def ResIRevokePage (xsr0 : List DPageGrant) (W : World) (e : Ending) (w' : World) : Prop := ∃ vr0, e = .returned (vr0) ∧ OwU w' W.heap.size w'.heap.size [] [own shPageGrant vr0 xsr0] ∧ W.grownBy w' none

theorem resS_ofRevokePage {xsr0 : List DPageGrant} {W : World} (e : Ending) (w' : World) (h : ResIRevokePage xsr0 W e w') : ResSRevokePage xsr0 W e w' := by
  obtain ⟨vr0, rfl, h, g⟩ := h
  exact ⟨vr0, rfl, OwU.rd h, g⟩

end Go.Proofs.Ytgagbhkidponnab
