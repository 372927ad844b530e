/-
  What WriteBar answers with: the model's answer is read, the program's lies in new memory.
-/
import Derived.Test.YtoedgncidoldaaaShpI
namespace Go.Proofs.Ytoedgncidoldaaa
open Go Go.RowKit

def ResSWriteBar (ir0_0 : Int) (ir0_1 : Int) (W : World) (e : Ending) (w' : World) : Prop := e = .returned (.agg #[.int .i64 ir0_0, .int .i64 ir0_1]) ∧ W.grownBy w' none
def ResIWriteBar (ir0_0 : Int) (ir0_1 : Int) (W : World) (e : Ending) (w' : World) : Prop := e = .returned (.agg #[.int .i64 ir0_0, .int .i64 ir0_1]) ∧ W.grownBy w' none

end Go.Proofs.Ytoedgncidoldaaa
