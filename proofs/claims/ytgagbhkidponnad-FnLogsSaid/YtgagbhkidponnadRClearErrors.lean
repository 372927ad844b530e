/-
  What ClearErrors answers with: the model's answer is read, the program's lies in new memory.
-/
import Derived.Test.YtgagbhkidponnadShpI
namespace Go.Proofs.Ytgagbhkidponnad
open Go Go.RowKit

def ResSClearErrors (ir0_0 : Int) (ir0_1 : Int) (ir0_2 : Int) (xsr0_3 : List Int) (W : World) (e : Ending) (w' : World) : Prop := ∃ vr0_3, e = .returned (.agg #[.int .i64 ir0_0, .int .i64 ir0_1, .int .i64 ir0_2, vr0_3]) ∧ RdL shI w' vr0_3 xsr0_3 ∧ W.grownBy w' none
def ResIClearErrors (ir0_0 : Int) (ir0_1 : Int) (ir0_2 : Int) (xsr0_3 : List Int) (W : World) (e : Ending) (w' : World) : Prop := ∃ vr0_3, e = .returned (.agg #[.int .i64 ir0_0, .int .i64 ir0_1, .int .i64 ir0_2, vr0_3]) ∧ OwU w' W.heap.size w'.heap.size [] [own shI vr0_3 xsr0_3] ∧ W.grownBy w' none

theorem resS_ofClearErrors {ir0_0 : Int} {ir0_1 : Int} {ir0_2 : Int} {xsr0_3 : List Int} {W : World} (e : Ending) (w' : World) (h : ResIClearErrors ir0_0 ir0_1 ir0_2 xsr0_3 W e w') : ResSClearErrors ir0_0 ir0_1 ir0_2 xsr0_3 W e w' := by
  obtain ⟨vr0_3, rfl, h, g⟩ := h
  exact ⟨vr0_3, rfl, OwU.rd h, g⟩

end Go.Proofs.Ytgagbhkidponnad
