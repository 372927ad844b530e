/-
  What CountBridges answers with: the model's answer is read, the program's lies in new memory.
-/
import Derived.Test.YtjkjodcgpdhldabShpI
import Derived.Test.YtjkjodcgpdhldabDNode
namespace Go.Proofs.Ytjkjodcgpdhldab
open Go Go.RowKit

def ResSCountBridges (ir0 : Int) (W : World) (e : Ending) (w' : World) : Prop := e = .returned (.int .i64 ir0) ∧ W.grownBy w' none
def ResICountBridges (ir0 : Int) (W : World) (e : Ending) (w' : World) : Prop := e = .returned (.int .i64 ir0) ∧ W.grownBy w' none

end Go.Proofs.Ytjkjodcgpdhldab
