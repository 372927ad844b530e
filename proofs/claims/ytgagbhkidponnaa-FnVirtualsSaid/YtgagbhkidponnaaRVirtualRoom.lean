/-
  What VirtualRoom answers with: the model's answer is read, the program's lies in new memory.
-/
import Derived.Test.YtgagbhkidponnaaShpI
namespace Go.Proofs.Ytgagbhkidponnaa
open Go Go.RowKit

def ResSVirtualRoom (ir0 : Int) (W : World) (e : Ending) (w' : World) : Prop := e = .returned (.int .i64 ir0) ∧ W.grownBy w' none
def ResIVirtualRoom (ir0 : Int) (W : World) (e : Ending) (w' : World) : Prop := e = .returned (.int .i64 ir0) ∧ W.grownBy w' none

end Go.Proofs.Ytgagbhkidponnaa
