/-
  What TakeTag answers with: the model's answer is read, the program's lies in new memory.
-/
import Derived.Test.YtgagbhkidponnaaShpI
namespace Go.Proofs.Ytgagbhkidponnaa
open Go Go.RowKit

def ResSTakeTag (xsr0_0 : List Bool) (ir1 : Int) (W : World) (e : Ending) (w' : World) : Prop := ∃ vr0_0, e = .returned (.tuple #[.agg #[vr0_0], .int .i64 ir1]) ∧ RdL shB w' vr0_0 xsr0_0 ∧ W.grownBy w' none
def ResITakeTag (xsr0_0 : List Bool) (ir1 : Int) (W : World) (e : Ending) (w' : World) : Prop := ∃ vr0_0, e = .returned (.tuple #[.agg #[vr0_0], .int .i64 ir1]) ∧ OwU w' W.heap.size w'.heap.size [] [own shB vr0_0 xsr0_0] ∧ W.grownBy w' none

theorem resS_ofTakeTag {xsr0_0 : List Bool} {ir1 : Int} {W : World} (e : Ending) (w' : World) (h : ResITakeTag xsr0_0 ir1 W e w') : ResSTakeTag xsr0_0 ir1 W e w' := by
  obtain ⟨vr0_0, rfl, h, g⟩ := h
  exact ⟨vr0_0, rfl, OwU.rd h, g⟩

end Go.Proofs.Ytgagbhkidponnaa
