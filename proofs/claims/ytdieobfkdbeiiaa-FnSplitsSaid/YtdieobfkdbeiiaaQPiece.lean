/-
  Piece by value, on the law's side: measured, copied, compared, marked, held.
-/
import Derived.Test.YtdieobfkdbeiiaaShpI
namespace Go.Proofs.Ytdieobfkdbeiiaa
open Go Go.RowKit
set_option linter.unusedVariables false

/-- a value of Piece -/
def vPiece (i0 : Int) (i1 : Int) : Value := .agg #[.int .i64 i0, .int .i64 i1]

/-- a Piece -/
def NewPiece (i0 : Int) (i1 : Int) (W : World) (e : Ending) (w' : World) : Prop := e = .returned (vPiece i0 i1) ∧ W.grownBy w' none

end Go.Proofs.Ytdieobfkdbeiiaa
