/-
  What Translate answers with: the model's answer is read, the program's lies in new memory.
-/
import Derived.Test.YtgagbhkidponnabShpI
import Derived.Test.YtgagbhkidponnabDPageGrant
namespace Go.Proofs.Ytgagbhkidponnab
open Go Go.RowKit

def ResSTranslate (ir0 : Int) (ir1 : Int) (W : World) (e : Ending) (w' : World) : Prop := e = .returned (.tuple #[.int .i64 ir0, .int .i64 ir1]) ∧ W.grownBy w' none
def ResITranslate (ir0 : Int) (ir1 : Int) (W : World) (e : Ending) (w' : World) : Prop := e = .returned (.tuple #[.int .i64 ir0, .int .i64 ir1]) ∧ W.grownBy w' none

end Go.Proofs.Ytgagbhkidponnab
