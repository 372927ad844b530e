/-
  What Grant answers with: the model's answer is read, the program's lies in new memory.
-/
import Derived.Test.YtgagbhkidponnadShpI
namespace Go.Proofs.Ytgagbhkidponnad
open Go Go.RowKit

def ResSGrant (xsr0_0 : List Int) (ir0_1 : Int) (ir0_2 : Int) (ir1 : Int) (W : World) (e : Ending) (w' : World) : Prop := ∃ vr0_0, e = .returned (.tuple #[.agg #[vr0_0, .int .i64 ir0_1, .int .i64 ir0_2], .int .i64 ir1]) ∧ RdL shI w' vr0_0 xsr0_0 ∧ W.grownBy w' none
def ResIGrant (xsr0_0 : List Int) (ir0_1 : Int) (ir0_2 : Int) (ir1 : Int) (W : World) (e : Ending) (w' : World) : Prop := ∃ vr0_0, e = .returned (.tuple #[.agg #[vr0_0, .int .i64 ir0_1, .int .i64 ir0_2], .int .i64 ir1]) ∧ OwU w' W.heap.size w'.heap.size [] [own shI vr0_0 xsr0_0] ∧ W.grownBy w' none

theorem resS_ofGrant {xsr0_0 : List Int} {ir0_1 : Int} {ir0_2 : Int} {ir1 : Int} {W : World} (e : Ending) (w' : World) (h : ResIGrant xsr0_0 ir0_1 ir0_2 ir1 W e w') : ResSGrant xsr0_0 ir0_1 ir0_2 ir1 W e w' := by
  obtain ⟨vr0_0, rfl, h, g⟩ := h
  exact ⟨vr0_0, rfl, OwU.rd h, g⟩

end Go.Proofs.Ytgagbhkidponnad
