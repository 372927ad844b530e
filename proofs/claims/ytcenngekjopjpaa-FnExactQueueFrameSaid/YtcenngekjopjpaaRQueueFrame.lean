/-
  What QueueFrame answers with: the model's answer is read, the program's lies in new memory.
-/
import Derived.Test.YtcenngekjopjpaaShpI
import Derived.Test.YtcenngekjopjpaaDFrame
namespace Go.Proofs.Ytcenngekjopjpaa
open Go Go.RowKit

def ResSQueueFrame (ir0_0 : Int) (xsr0_1 : List DFrame) (ir0_2 : Int) (br1 : Bool) (W : World) (e : Ending) (w' : World) : Prop := ∃ vr0_1, e = .returned (.tuple #[.agg #[.int .i64 ir0_0, vr0_1, .int .i64 ir0_2], .bool br1]) ∧ RdL shFrame w' vr0_1 xsr0_1 ∧ W.grownBy w' none
def ResIQueueFrame (ir0_0 : Int) (xsr0_1 : List DFrame) (ir0_2 : Int) (br1 : Bool) (W : World) (e : Ending) (w' : World) : Prop := ∃ vr0_1, e = .returned (.tuple #[.agg #[.int .i64 ir0_0, vr0_1, .int .i64 ir0_2], .bool br1]) ∧ OwU w' W.heap.size w'.heap.size [] [own shFrame vr0_1 xsr0_1] ∧ W.grownBy w' none

theorem resS_ofQueueFrame {ir0_0 : Int} {xsr0_1 : List DFrame} {ir0_2 : Int} {br1 : Bool} {W : World} (e : Ending) (w' : World) (h : ResIQueueFrame ir0_0 xsr0_1 ir0_2 br1 W e w') : ResSQueueFrame ir0_0 xsr0_1 ir0_2 br1 W e w' := by
  obtain ⟨vr0_1, rfl, h, g⟩ := h
  exact ⟨vr0_1, rfl, OwU.rd h, g⟩

end Go.Proofs.Ytcenngekjopjpaa
