/-
  What IsPayload answers with: the model's answer is read, the program's lies in new memory.
-/
import Derived.Test.YtdieobfkdbeiiaaShpI
namespace Go.Proofs.Ytdieobfkdbeiiaa
open Go Go.RowKit

def ResSIsPayload (br0 : Bool) (W : World) (e : Ending) (w' : World) : Prop := e = .returned (.bool br0) ∧ W.grownBy w' none
def ResIIsPayload (br0 : Bool) (W : World) (e : Ending) (w' : World) : Prop := e = .returned (.bool br0) ∧ W.grownBy w' none

end Go.Proofs.Ytdieobfkdbeiiaa
