/-
  What SplitRange answers with: the model's answer is read, the program's lies in new memory.
-/
import Derived.Test.YtdieobfkdbeiiaaShpI
import Derived.Test.YtdieobfkdbeiiaaDPiece
namespace Go.Proofs.Ytdieobfkdbeiiaa
open Go Go.RowKit

def ResSSplitRange (xsr0 : List DPiece) (W : World) (e : Ending) (w' : World) : Prop := ∃ vr0, e = .returned (vr0) ∧ RdL shPiece w' vr0 xsr0 ∧ W.grownBy w' none
def ResISplitRange (xsr0 : List DPiece) (W : World) (e : Ending) (w' : World) : Prop := ∃ vr0, e = .returned (vr0) ∧ OwU w' W.heap.size w'.heap.size [] [own shPiece vr0 xsr0] ∧ W.grownBy w' none

theorem resS_ofSplitRange {xsr0 : List DPiece} {W : World} (e : Ending) (w' : World) (h : ResISplitRange xsr0 W e w') : ResSSplitRange xsr0 W e w' := by
  obtain ⟨vr0, rfl, h, g⟩ := h
  exact ⟨vr0, rfl, OwU.rd h, g⟩

end Go.Proofs.Ytdieobfkdbeiiaa
