/-
  What TreeOk answers with: the model's answer is read, the program's lies in new memory.
-/
import Derived.Test.YtdddidnibelmhaaShpI
import Derived.Test.YtdddidnibelmhaaDNode
namespace Go.Proofs.Ytdddidnibelmhaa
open Go Go.RowKit

def ResSTreeOk (br0 : Bool) (W : World) (e : Ending) (w' : World) : Prop := e = .returned (.bool br0) ∧ W.grownBy w' none
def ResITreeOk (br0 : Bool) (W : World) (e : Ending) (w' : World) : Prop := e = .returned (.bool br0) ∧ W.grownBy w' none

end Go.Proofs.Ytdddidnibelmhaa
