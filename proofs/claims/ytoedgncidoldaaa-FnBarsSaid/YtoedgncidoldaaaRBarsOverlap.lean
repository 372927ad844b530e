/-
  What BarsOverlap answers with: the model's answer is read, the program's lies in new memory.
-/
import Derived.Test.YtoedgncidoldaaaShpI
namespace Go.Proofs.Ytoedgncidoldaaa
open Go Go.RowKit

def ResSBarsOverlap (br0 : Bool) (W : World) (e : Ending) (w' : World) : Prop := e = .returned (.bool br0) ∧ W.grownBy w' none
def ResIBarsOverlap (br0 : Bool) (W : World) (e : Ending) (w' : World) : Prop := e = .returned (.bool br0) ∧ W.grownBy w' none

end Go.Proofs.Ytoedgncidoldaaa
