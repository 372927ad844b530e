/-
  What SizesOk answers with: the model's answer is read, the program's lies in new memory.
-/
import Derived.Test.YtjkjodcgpdhldacShpI
import Derived.Test.YtjkjodcgpdhldacDNode
namespace Go.Proofs.Ytjkjodcgpdhldac
open Go Go.RowKit

def ResSSizesOk (br0 : Bool) (W : World) (e : Ending) (w' : World) : Prop := e = .returned (.bool br0) ∧ W.grownBy w' none
def ResISizesOk (br0 : Bool) (W : World) (e : Ending) (w' : World) : Prop := e = .returned (.bool br0) ∧ W.grownBy w' none

end Go.Proofs.Ytjkjodcgpdhldac
