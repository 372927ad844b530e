/-
  What HeldOf answers with: the model's answer is read, the program's lies in new memory.
-/
import Derived.Test.YtgmpehccklifdabShpI
import Derived.Test.YtgmpehccklifdabDPacket
namespace Go.Proofs.Ytgmpehccklifdab
open Go Go.RowKit

def ResSHeldOf (ir0 : Int) (W : World) (e : Ending) (w' : World) : Prop := e = .returned (.int .i64 ir0) ∧ W.grownBy w' none
def ResIHeldOf (ir0 : Int) (W : World) (e : Ending) (w' : World) : Prop := e = .returned (.int .i64 ir0) ∧ W.grownBy w' none

end Go.Proofs.Ytgmpehccklifdab
