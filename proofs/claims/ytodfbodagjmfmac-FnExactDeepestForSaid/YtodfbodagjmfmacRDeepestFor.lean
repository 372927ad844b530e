/-
  What DeepestFor answers with: the model's answer is read, the program's lies in new memory.
-/
import Derived.Test.YtodfbodagjmfmacShpI
import Derived.Test.YtodfbodagjmfmacDNode
namespace Go.Proofs.Ytodfbodagjmfmac
open Go Go.RowKit

def ResSDeepestFor (ir0 : Int) (W : World) (e : Ending) (w' : World) : Prop := e = .returned (.int .i64 ir0) ∧ W.grownBy w' none
def ResIDeepestFor (ir0 : Int) (W : World) (e : Ending) (w' : World) : Prop := e = .returned (.int .i64 ir0) ∧ W.grownBy w' none

end Go.Proofs.Ytodfbodagjmfmac
