/-
  What QueueOk answers with: the model's answer is read, the program's lies in new memory.
-/
import Derived.Test.YtgmpehccklifdaeShpI
import Derived.Test.YtgmpehccklifdaeDPacket
namespace Go.Proofs.Ytgmpehccklifdae
open Go Go.RowKit

def ResSQueueOk (br0 : Bool) (W : World) (e : Ending) (w' : World) : Prop := e = .returned (.bool br0) ∧ W.grownBy w' none
def ResIQueueOk (br0 : Bool) (W : World) (e : Ending) (w' : World) : Prop := e = .returned (.bool br0) ∧ W.grownBy w' none

end Go.Proofs.Ytgmpehccklifdae
