/-
  What SeverityName answers with: the model's answer is read, the program's lies in new memory.
-/
import Derived.Test.YtjkjodcgpdhldaaShpI
namespace Go.Proofs.Ytjkjodcgpdhldaa
open Go Go.RowKit

def ResSSeverityName (sr0 : ByteArray) (W : World) (e : Ending) (w' : World) : Prop := e = .returned (.string sr0) ∧ W.grownBy w' none
def ResISeverityName (sr0 : ByteArray) (W : World) (e : Ending) (w' : World) : Prop := e = .returned (.string sr0) ∧ W.grownBy w' none

end Go.Proofs.Ytjkjodcgpdhldaa
