/-
  What IsDelivered answers with: the model's answer is read, the program's lies in new memory.
-/
import Derived.Test.YtjkjodcgpdhldabShpI
namespace Go.Proofs.Ytjkjodcgpdhldab
open Go Go.RowKit

def ResSIsDelivered (br0 : Bool) (W : World) (e : Ending) (w' : World) : Prop := e = .returned (.bool br0) ∧ W.grownBy w' none
def ResIIsDelivered (br0 : Bool) (W : World) (e : Ending) (w' : World) : Prop := e = .returned (.bool br0) ∧ W.grownBy w' none

end Go.Proofs.Ytjkjodcgpdhldab
