/-
  What IsLegalOrder answers with: the model's answer is read, the program's lies in new memory.
-/
import Derived.Test.YtnighnkkeiegnaaShpI
import Derived.Test.YtnighnkkeiegnaaDPacket
namespace Go.Proofs.Ytnighnkkeiegnaa
open Go Go.RowKit

def ResSIsLegalOrder (br0 : Bool) (W : World) (e : Ending) (w' : World) : Prop := e = .returned (.bool br0) ∧ W.grownBy w' none
def ResIIsLegalOrder (br0 : Bool) (W : World) (e : Ending) (w' : World) : Prop := e = .returned (.bool br0) ∧ W.grownBy w' none

end Go.Proofs.Ytnighnkkeiegnaa
