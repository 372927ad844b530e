/-
  What SameTree answers with: the model's answer is read, the program's lies in new memory.
-/
import Derived.Test.YtjkjodcgpdhldabShpI
import Derived.Test.YtjkjodcgpdhldabDNode
namespace Go.Proofs.Ytjkjodcgpdhldab
open Go Go.RowKit

def ResSSameTree (br0 : Bool) (W : World) (e : Ending) (w' : World) : Prop := e = .returned (.bool br0) ∧ W.grownBy w' none
def ResISameTree (br0 : Bool) (W : World) (e : Ending) (w' : World) : Prop := e = .returned (.bool br0) ∧ W.grownBy w' none

end Go.Proofs.Ytjkjodcgpdhldab
