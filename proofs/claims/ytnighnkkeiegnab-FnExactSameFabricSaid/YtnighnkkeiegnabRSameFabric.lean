/-
  What SameFabric answers with: the model's answer is read, the program's lies in new memory.
-/
import Derived.Test.YtnighnkkeiegnabShpI
import Derived.Test.YtnighnkkeiegnabDBar
import Derived.Test.YtnighnkkeiegnabDNode
namespace Go.Proofs.Ytnighnkkeiegnab
open Go Go.RowKit

def ResSSameFabric (br0 : Bool) (W : World) (e : Ending) (w' : World) : Prop := e = .returned (.bool br0) ∧ W.grownBy w' none
def ResISameFabric (br0 : Bool) (W : World) (e : Ending) (w' : World) : Prop := e = .returned (.bool br0) ∧ W.grownBy w' none

end Go.Proofs.Ytnighnkkeiegnab
