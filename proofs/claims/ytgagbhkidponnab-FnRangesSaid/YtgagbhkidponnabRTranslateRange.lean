/-
  What TranslateRange answers with: the model's answer is read, the program's lies in new memory.
-/
import Derived.Test.YtgagbhkidponnabShpI
import Derived.Test.YtgagbhkidponnabDPageGrant
namespace Go.Proofs.Ytgagbhkidponnab
open Go Go.RowKit

def ResSTranslateRange (xsr0 : List Int) (ir1 : Int) (W : World) (e : Ending) (w' : World) : Prop := ∃ vr0, e = .returned (.tuple #[vr0, .int .i64 ir1]) ∧ RdL shI w' vr0 xsr0 ∧ W.grownBy w' none
def ResITranslateRange (xsr0 : List Int) (ir1 : Int) (W : World) (e : Ending) (w' : World) : Prop := ∃ vr0, e = .returned (.tuple #[vr0, .int .i64 ir1]) ∧ OwU w' W.heap.size w'.heap.size [] [own shI vr0 xsr0] ∧ W.grownBy w' none

theorem resS_ofTranslateRange {xsr0 : List Int} {ir1 : Int} {W : World} (e : Ending) (w' : World) (h : ResITranslateRange xsr0 ir1 W e w') : ResSTranslateRange xsr0 ir1 W e w' := by
  obtain ⟨vr0, rfl, h, g⟩ := h
  exact ⟨vr0, rfl, OwU.rd h, g⟩

end Go.Proofs.Ytgagbhkidponnab
