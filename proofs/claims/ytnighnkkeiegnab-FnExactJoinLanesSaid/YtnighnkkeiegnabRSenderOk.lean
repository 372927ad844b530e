/-
  What SenderOk answers with: the model's answer is read, the program's lies in new memory.
-/
import Derived.Test.YtnighnkkeiegnabShpI
import Derived.Test.YtnighnkkeiegnabDFrame
namespace Go.Proofs.Ytnighnkkeiegnab
open Go Go.RowKit

def ResSSenderOk (br0 : Bool) (W : World) (e : Ending) (w' : World) : Prop := e = .returned (.bool br0) ∧ W.grownBy w' none
def ResISenderOk (br0 : Bool) (W : World) (e : Ending) (w' : World) : Prop := e = .returned (.bool br0) ∧ W.grownBy w' none

end Go.Proofs.Ytnighnkkeiegnab
