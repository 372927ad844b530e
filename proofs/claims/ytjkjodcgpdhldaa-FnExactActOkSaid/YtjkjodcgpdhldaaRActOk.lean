/-
  What ActOk answers with: the model's answer is read, the program's lies in new memory.
-/
import Derived.Test.YtjkjodcgpdhldaaShpI
namespace Go.Proofs.Ytjkjodcgpdhldaa
open Go Go.RowKit

def ResSActOk (br0 : Bool) (W : World) (e : Ending) (w' : World) : Prop := e = .returned (.bool br0) ∧ W.grownBy w' none
def ResIActOk (br0 : Bool) (W : World) (e : Ending) (w' : World) : Prop := e = .returned (.bool br0) ∧ W.grownBy w' none

end Go.Proofs.Ytjkjodcgpdhldaa
