/-
  What GrantsOk answers with: the model's answer is read, the program's lies in new memory.
-/
import Derived.Test.YtgagbhkidponnabShpI
import Derived.Test.YtgagbhkidponnabDPageGrant
namespace Go.Proofs.Ytgagbhkidponnab
open Go Go.RowKit

def ResSGrantsOk (br0 : Bool) (W : World) (e : Ending) (w' : World) : Prop := e = .returned (.bool br0) ∧ W.grownBy w' none
def ResIGrantsOk (br0 : Bool) (W : World) (e : Ending) (w' : World) : Prop := e = .returned (.bool br0) ∧ W.grownBy w' none

end Go.Proofs.Ytgagbhkidponnab
