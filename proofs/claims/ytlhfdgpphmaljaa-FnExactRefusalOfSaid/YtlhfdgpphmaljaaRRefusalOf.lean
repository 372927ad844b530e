/-
  What RefusalOf answers with: the model's answer is read, the program's lies in new memory.
-/
import Derived.Test.YtlhfdgpphmaljaaShpI
namespace Go.Proofs.Ytlhfdgpphmaljaa
open Go Go.RowKit

def ResSRefusalOf (ir0_0 : Int) (ir0_1 : Int) (ir0_2 : Int) (ir0_3 : Int) (ir0_4 : Int) (ir0_5 : Int) (ir0_6 : Int) (xsr0_7 : List Int) (br1 : Bool) (W : World) (e : Ending) (w' : World) : Prop := ∃ vr0_7, e = .returned (.tuple #[.agg #[.int .i64 ir0_0, .int .i64 ir0_1, .int .i64 ir0_2, .int .i64 ir0_3, .int .i64 ir0_4, .int .i64 ir0_5, .int .i64 ir0_6, vr0_7], .bool br1]) ∧ RdL shI w' vr0_7 xsr0_7 ∧ W.grownBy w' none
def ResIRefusalOf (ir0_0 : Int) (ir0_1 : Int) (ir0_2 : Int) (ir0_3 : Int) (ir0_4 : Int) (ir0_5 : Int) (ir0_6 : Int) (xsr0_7 : List Int) (br1 : Bool) (W : World) (e : Ending) (w' : World) : Prop := ∃ vr0_7, e = .returned (.tuple #[.agg #[.int .i64 ir0_0, .int .i64 ir0_1, .int .i64 ir0_2, .int .i64 ir0_3, .int .i64 ir0_4, .int .i64 ir0_5, .int .i64 ir0_6, vr0_7], .bool br1]) ∧ OwU w' W.heap.size w'.heap.size [] [own shI vr0_7 xsr0_7] ∧ W.grownBy w' none

theorem resS_ofRefusalOf {ir0_0 : Int} {ir0_1 : Int} {ir0_2 : Int} {ir0_3 : Int} {ir0_4 : Int} {ir0_5 : Int} {ir0_6 : Int} {xsr0_7 : List Int} {br1 : Bool} {W : World} (e : Ending) (w' : World) (h : ResIRefusalOf ir0_0 ir0_1 ir0_2 ir0_3 ir0_4 ir0_5 ir0_6 xsr0_7 br1 W e w') : ResSRefusalOf ir0_0 ir0_1 ir0_2 ir0_3 ir0_4 ir0_5 ir0_6 xsr0_7 br1 W e w' := by
  obtain ⟨vr0_7, rfl, h, g⟩ := h
  exact ⟨vr0_7, rfl, OwU.rd h, g⟩

end Go.Proofs.Ytlhfdgpphmaljaa
