/-
  What RaiseVector answers with: the model's answer is read, the program's lies in new memory.
-/
import Derived.Test.YtgagbhkidponnacShpI
namespace Go.Proofs.Ytgagbhkidponnac
open Go Go.RowKit

def ResSRaiseVector (ir0_0 : Int) (xsr0_1 : List Bool) (xsr0_2 : List Bool) (ir1_0 : Int) (ir1_1 : Int) (ir1_2 : Int) (ir1_3 : Int) (ir1_4 : Int) (ir1_5 : Int) (ir1_6 : Int) (xsr1_7 : List Int) (br2 : Bool) (W : World) (e : Ending) (w' : World) : Prop := ∃ vr0_1, ∃ vr0_2, ∃ vr1_7, e = .returned (.tuple #[.agg #[.int .i64 ir0_0, vr0_1, vr0_2], .agg #[.int .i64 ir1_0, .int .i64 ir1_1, .int .i64 ir1_2, .int .i64 ir1_3, .int .i64 ir1_4, .int .i64 ir1_5, .int .i64 ir1_6, vr1_7], .bool br2]) ∧ RdL shB w' vr0_1 xsr0_1 ∧ RdL shB w' vr0_2 xsr0_2 ∧ RdL shI w' vr1_7 xsr1_7 ∧ W.grownBy w' none
def ResIRaiseVector (ir0_0 : Int) (xsr0_1 : List Bool) (xsr0_2 : List Bool) (ir1_0 : Int) (ir1_1 : Int) (ir1_2 : Int) (ir1_3 : Int) (ir1_4 : Int) (ir1_5 : Int) (ir1_6 : Int) (xsr1_7 : List Int) (br2 : Bool) (W : World) (e : Ending) (w' : World) : Prop := ∃ vr0_1, ∃ vr0_2, ∃ vr1_7, e = .returned (.tuple #[.agg #[.int .i64 ir0_0, vr0_1, vr0_2], .agg #[.int .i64 ir1_0, .int .i64 ir1_1, .int .i64 ir1_2, .int .i64 ir1_3, .int .i64 ir1_4, .int .i64 ir1_5, .int .i64 ir1_6, vr1_7], .bool br2]) ∧ OwU w' W.heap.size w'.heap.size [] [own shB vr0_1 xsr0_1, own shB vr0_2 xsr0_2, own shI vr1_7 xsr1_7] ∧ W.grownBy w' none

theorem resS_ofRaiseVector {ir0_0 : Int} {xsr0_1 : List Bool} {xsr0_2 : List Bool} {ir1_0 : Int} {ir1_1 : Int} {ir1_2 : Int} {ir1_3 : Int} {ir1_4 : Int} {ir1_5 : Int} {ir1_6 : Int} {xsr1_7 : List Int} {br2 : Bool} {W : World} (e : Ending) (w' : World) (h : ResIRaiseVector ir0_0 xsr0_1 xsr0_2 ir1_0 ir1_1 ir1_2 ir1_3 ir1_4 ir1_5 ir1_6 xsr1_7 br2 W e w') : ResSRaiseVector ir0_0 xsr0_1 xsr0_2 ir1_0 ir1_1 ir1_2 ir1_3 ir1_4 ir1_5 ir1_6 xsr1_7 br2 W e w' := by
  obtain ⟨vr0_1, vr0_2, vr1_7, rfl, h, g⟩ := h
  exact ⟨vr0_1, vr0_2, vr1_7, rfl, OwU.rd h, OwU.rd (OwU.tail h), OwU.rd (OwU.tail (OwU.tail h)), g⟩

end Go.Proofs.Ytgagbhkidponnac
