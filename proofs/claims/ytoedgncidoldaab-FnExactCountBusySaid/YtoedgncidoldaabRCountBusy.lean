/-
  What CountBusy answers with: the model's answer is read, the program's lies in new memory.
-/
import Derived.Test.YtoedgncidoldaabShpI
namespace Go.Proofs.Ytoedgncidoldaab
open Go Go.RowKit

def ResSCountBusy (ir0 : Int) (W : World) (e : Ending) (w' : World) : Prop := e = .returned (.int .i64 ir0) ∧ W.grownBy w' none
def ResICountBusy (ir0 : Int) (W : World) (e : Ending) (w' : World) : Prop := e = .returned (.int .i64 ir0) ∧ W.grownBy w' none

end Go.Proofs.Ytoedgncidoldaab
