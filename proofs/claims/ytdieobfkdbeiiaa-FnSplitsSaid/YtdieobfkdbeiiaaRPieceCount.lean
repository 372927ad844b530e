/-
  What PieceCount answers with: the model's answer is read, the program's lies in new memory.
-/
import Derived.Test.YtdieobfkdbeiiaaShpI
namespace Go.Proofs.Ytdieobfkdbeiiaa
open Go Go.RowKit

def ResSPieceCount (ir0 : Int) (W : World) (e : Ending) (w' : World) : Prop := e = .returned (.int .i64 ir0) ∧ W.grownBy w' none
def ResIPieceCount (ir0 : Int) (W : World) (e : Ending) (w' : World) : Prop := e = .returned (.int .i64 ir0) ∧ W.grownBy w' none

end Go.Proofs.Ytdieobfkdbeiiaa
