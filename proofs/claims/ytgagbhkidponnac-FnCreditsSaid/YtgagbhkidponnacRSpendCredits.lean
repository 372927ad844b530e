/-
  What SpendCredits answers with: the model's answer is read, the program's lies in new memory.
-/
import Derived.Test.YtgagbhkidponnacShpI
namespace Go.Proofs.Ytgagbhkidponnac
open Go Go.RowKit

def ResSSpendCredits (xsr0_0 : List Int) (xsr0_1 : List Int) (br1 : Bool) (W : World) (e : Ending) (w' : World) : Prop := ∃ vr0_0, ∃ vr0_1, e = .returned (.tuple #[.agg #[vr0_0, vr0_1], .bool br1]) ∧ RdL shI w' vr0_0 xsr0_0 ∧ RdL shI w' vr0_1 xsr0_1 ∧ W.grownBy w' none
def ResISpendCredits (xsr0_0 : List Int) (xsr0_1 : List Int) (br1 : Bool) (W : World) (e : Ending) (w' : World) : Prop := ∃ vr0_0, ∃ vr0_1, e = .returned (.tuple #[.agg #[vr0_0, vr0_1], .bool br1]) ∧ OwU w' W.heap.size w'.heap.size [] [own shI vr0_0 xsr0_0, own shI vr0_1 xsr0_1] ∧ W.grownBy w' none

theorem resS_ofSpendCredits {xsr0_0 : List Int} {xsr0_1 : List Int} {br1 : Bool} {W : World} (e : Ending) (w' : World) (h : ResISpendCredits xsr0_0 xsr0_1 br1 W e w') : ResSSpendCredits xsr0_0 xsr0_1 br1 W e w' := by
  obtain ⟨vr0_0, vr0_1, rfl, h, g⟩ := h
  exact ⟨vr0_0, vr0_1, rfl, OwU.rd h, OwU.rd (OwU.tail h), g⟩

end Go.Proofs.Ytgagbhkidponnac
