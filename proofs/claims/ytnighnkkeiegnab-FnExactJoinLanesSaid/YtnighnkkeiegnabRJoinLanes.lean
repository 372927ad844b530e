/-
  What JoinLanes answers with: the model's answer is read, the program's lies in new memory.
-/
import Derived.Test.YtnighnkkeiegnabShpI
namespace Go.Proofs.Ytnighnkkeiegnab
open Go Go.RowKit

def ResSJoinLanes (xsr0 : List Int) (br1 : Bool) (W : World) (e : Ending) (w' : World) : Prop := ∃ vr0, e = .returned (.tuple #[vr0, .bool br1]) ∧ RdL shI w' vr0 xsr0 ∧ W.grownBy w' none
def ResIJoinLanes (xsr0 : List Int) (br1 : Bool) (W : World) (e : Ending) (w' : World) : Prop := ∃ vr0, e = .returned (.tuple #[vr0, .bool br1]) ∧ OwU w' W.heap.size w'.heap.size [] [own shI vr0 xsr0] ∧ W.grownBy w' none

theorem resS_ofJoinLanes {xsr0 : List Int} {br1 : Bool} {W : World} (e : Ending) (w' : World) (h : ResIJoinLanes xsr0 br1 W e w') : ResSJoinLanes xsr0 br1 W e w' := by
  obtain ⟨vr0, rfl, h, g⟩ := h
  exact ⟨vr0, rfl, OwU.rd h, g⟩

end Go.Proofs.Ytnighnkkeiegnab
