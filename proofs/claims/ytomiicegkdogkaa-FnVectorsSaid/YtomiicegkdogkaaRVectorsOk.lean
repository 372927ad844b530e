/-
  What VectorsOk answers with: the model's answer is read, the program's lies in new memory.
-/
import Derived.Test.YtomiicegkdogkaaShpI
namespace Go.Proofs.Ytomiicegkdogkaa
open Go Go.RowKit

def ResSVectorsOk (br0 : Bool) (W : World) (e : Ending) (w' : World) : Prop := e = .returned (.bool br0) ∧ W.grownBy w' none
def ResIVectorsOk (br0 : Bool) (W : World) (e : Ending) (w' : World) : Prop := e = .returned (.bool br0) ∧ W.grownBy w' none

end Go.Proofs.Ytomiicegkdogkaa
