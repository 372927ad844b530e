/-
  What LogOk answers with: the model's answer is read, the program's lies in new memory.
-/
import Derived.Test.YtgagbhkidponnadShpI
namespace Go.Proofs.Ytgagbhkidponnad
open Go Go.RowKit

def ResSLogOk (br0 : Bool) (W : World) (e : Ending) (w' : World) : Prop := e = .returned (.bool br0) ∧ W.grownBy w' none
def ResILogOk (br0 : Bool) (W : World) (e : Ending) (w' : World) : Prop := e = .returned (.bool br0) ∧ W.grownBy w' none

end Go.Proofs.Ytgagbhkidponnad
