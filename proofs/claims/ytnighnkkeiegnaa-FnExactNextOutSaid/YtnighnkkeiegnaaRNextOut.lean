/-
  What NextOut answers with: the model's answer is read, the program's lies in new memory.
-/
import Derived.Test.YtnighnkkeiegnaaShpI
import Derived.Test.YtnighnkkeiegnaaDPacket
namespace Go.Proofs.Ytnighnkkeiegnaa
open Go Go.RowKit

def ResSNextOut (ir0 : Int) (W : World) (e : Ending) (w' : World) : Prop := e = .returned (.int .i64 ir0) ∧ W.grownBy w' none
def ResINextOut (ir0 : Int) (W : World) (e : Ending) (w' : World) : Prop := e = .returned (.int .i64 ir0) ∧ W.grownBy w' none

end Go.Proofs.Ytnighnkkeiegnaa
