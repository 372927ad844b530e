/-
  What GuardOk answers with: the model's answer is read, the program's lies in new memory.
-/
import Derived.Test.YtjkjodcgpdhldacShpI
import Derived.Test.YtjkjodcgpdhldacDNode
namespace Go.Proofs.Ytjkjodcgpdhldac
open Go Go.RowKit

def ResSGuardOk (br0 : Bool) (W : World) (e : Ending) (w' : World) : Prop := e = .returned (.bool br0) ∧ W.grownBy w' none
def ResIGuardOk (br0 : Bool) (W : World) (e : Ending) (w' : World) : Prop := e = .returned (.bool br0) ∧ W.grownBy w' none

end Go.Proofs.Ytjkjodcgpdhldac
