/-
  What NewGather answers with: the model's answer is read, the program's lies in new memory.
-/
import Derived.Test.YtlhfdgpphmaljaaShpI
namespace Go.Proofs.Ytlhfdgpphmaljaa
open Go Go.RowKit

def ResSNewGather (ir0_0 : Int) (ir0_1 : Int) (ir0_2 : Int) (xsr0_3 : List Int) (ir0_4 : Int) (br1 : Bool) (W : World) (e : Ending) (w' : World) : Prop := ∃ vr0_3, e = .returned (.tuple #[.agg #[.int .i64 ir0_0, .int .i64 ir0_1, .int .i64 ir0_2, vr0_3, .int .i64 ir0_4], .bool br1]) ∧ RdL shI w' vr0_3 xsr0_3 ∧ W.grownBy w' none
def ResINewGather (ir0_0 : Int) (ir0_1 : Int) (ir0_2 : Int) (xsr0_3 : List Int) (ir0_4 : Int) (br1 : Bool) (W : World) (e : Ending) (w' : World) : Prop := ∃ vr0_3, e = .returned (.tuple #[.agg #[.int .i64 ir0_0, .int .i64 ir0_1, .int .i64 ir0_2, vr0_3, .int .i64 ir0_4], .bool br1]) ∧ OwU w' W.heap.size w'.heap.size [] [own shI vr0_3 xsr0_3] ∧ W.grownBy w' none

theorem resS_ofNewGather {ir0_0 : Int} {ir0_1 : Int} {ir0_2 : Int} {xsr0_3 : List Int} {ir0_4 : Int} {br1 : Bool} {W : World} (e : Ending) (w' : World) (h : ResINewGather ir0_0 ir0_1 ir0_2 xsr0_3 ir0_4 br1 W e w') : ResSNewGather ir0_0 ir0_1 ir0_2 xsr0_3 ir0_4 br1 W e w' := by
  obtain ⟨vr0_3, rfl, h, g⟩ := h
  exact ⟨vr0_3, rfl, OwU.rd h, g⟩

end Go.Proofs.Ytlhfdgpphmaljaa
