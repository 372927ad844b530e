/-
  What PendingOf answers with: the model's answer is read, the program's lies in new memory.
-/
import Derived.Test.YtomiicegkdogkaaShpI
namespace Go.Proofs.Ytomiicegkdogkaa
open Go Go.RowKit

def ResSPendingOf (xsr0 : List Int) (W : World) (e : Ending) (w' : World) : Prop := ∃ vr0, e = .returned (vr0) ∧ RdL shI w' vr0 xsr0 ∧ W.grownBy w' none
def ResIPendingOf (xsr0 : List Int) (W : World) (e : Ending) (w' : World) : Prop := ∃ vr0, e = .returned (vr0) ∧ OwU w' W.heap.size w'.heap.size [] [own shI vr0 xsr0] ∧ W.grownBy w' none

theorem resS_ofPendingOf {xsr0 : List Int} {W : World} (e : Ending) (w' : World) (h : ResIPendingOf xsr0 W e w') : ResSPendingOf xsr0 W e w' := by
  obtain ⟨vr0, rfl, h, g⟩ := h
  exact ⟨vr0, rfl, OwU.rd h, g⟩

end Go.Proofs.Ytomiicegkdogkaa
