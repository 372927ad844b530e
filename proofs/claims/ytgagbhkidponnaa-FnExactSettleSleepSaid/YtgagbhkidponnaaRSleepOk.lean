/-
  What SleepOk answers with: the model's answer is read, the program's lies in new memory.
-/
import Derived.Test.YtgagbhkidponnaaShpI
import Derived.Test.YtgagbhkidponnaaDNode
namespace Go.Proofs.Ytgagbhkidponnaa
open Go Go.RowKit

def ResSSleepOk (br0 : Bool) (W : World) (e : Ending) (w' : World) : Prop := e = .returned (.bool br0) ∧ W.grownBy w' none
def ResISleepOk (br0 : Bool) (W : World) (e : Ending) (w' : World) : Prop := e = .returned (.bool br0) ∧ W.grownBy w' none

end Go.Proofs.Ytgagbhkidponnaa
