/-
  What TakeReady answers with: the model's answer is read, the program's lies in new memory.
-/
import Derived.Test.YtcenngekjopjpaaShpI
import Derived.Test.YtcenngekjopjpaaDFrame
namespace Go.Proofs.Ytcenngekjopjpaa
open Go Go.RowKit

def ResSTakeReady (ir0_0 : Int) (xsr0_1 : List DFrame) (ir0_2 : Int) (ir1_0 : Int) (xsr1_1 : List Int) (br2 : Bool) (W : World) (e : Ending) (w' : World) : Prop := ∃ vr0_1, ∃ vr1_1, e = .returned (.tuple #[.agg #[.int .i64 ir0_0, vr0_1, .int .i64 ir0_2], .agg #[.int .i64 ir1_0, vr1_1], .bool br2]) ∧ RdL shFrame w' vr0_1 xsr0_1 ∧ RdL shI w' vr1_1 xsr1_1 ∧ W.grownBy w' none
def ResITakeReady (ir0_0 : Int) (xsr0_1 : List DFrame) (ir0_2 : Int) (ir1_0 : Int) (xsr1_1 : List Int) (br2 : Bool) (W : World) (e : Ending) (w' : World) : Prop := ∃ vr0_1, ∃ vr1_1, e = .returned (.tuple #[.agg #[.int .i64 ir0_0, vr0_1, .int .i64 ir0_2], .agg #[.int .i64 ir1_0, vr1_1], .bool br2]) ∧ OwU w' W.heap.size w'.heap.size [] [own shFrame vr0_1 xsr0_1, own shI vr1_1 xsr1_1] ∧ W.grownBy w' none

theorem resS_ofTakeReady {ir0_0 : Int} {xsr0_1 : List DFrame} {ir0_2 : Int} {ir1_0 : Int} {xsr1_1 : List Int} {br2 : Bool} {W : World} (e : Ending) (w' : World) (h : ResITakeReady ir0_0 xsr0_1 ir0_2 ir1_0 xsr1_1 br2 W e w') : ResSTakeReady ir0_0 xsr0_1 ir0_2 ir1_0 xsr1_1 br2 W e w' := by
  obtain ⟨vr0_1, vr1_1, rfl, h, g⟩ := h
  exact ⟨vr0_1, vr1_1, rfl, OwU.rd h, OwU.rd (OwU.tail h), g⟩

end Go.Proofs.Ytcenngekjopjpaa
