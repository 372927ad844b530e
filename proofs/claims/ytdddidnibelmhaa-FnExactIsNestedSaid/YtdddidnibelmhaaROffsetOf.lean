/-
  What OffsetOf answers with: the model's answer is read, the program's lies in new memory.
-/
import Derived.Test.YtdddidnibelmhaaShpI
import Derived.Test.YtdddidnibelmhaaDBar
namespace Go.Proofs.Ytdddidnibelmhaa
open Go Go.RowKit

def ResSOffsetOf (ir0 : Int) (W : World) (e : Ending) (w' : World) : Prop := e = .returned (.int .i64 ir0) ∧ W.grownBy w' none
def ResIOffsetOf (ir0 : Int) (W : World) (e : Ending) (w' : World) : Prop := e = .returned (.int .i64 ir0) ∧ W.grownBy w' none

end Go.Proofs.Ytdddidnibelmhaa
