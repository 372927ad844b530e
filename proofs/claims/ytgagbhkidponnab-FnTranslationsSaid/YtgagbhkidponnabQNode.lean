/-
  Node by value, on the law's side: measured, copied, compared, marked, held.
-/
import Derived.Test.YtgagbhkidponnabShpI
namespace Go.Proofs.Ytgagbhkidponnab
open Go Go.RowKit
set_option linter.unusedVariables false

/-- a value of Node -/
def vNode (i0 : Int) (i1 : Int) (i2 : Int) : Value := .agg #[.int .i64 i0, .int .i64 i1, .int .i64 i2]

/-- a Node -/
def NewNode (i0 : Int) (i1 : Int) (i2 : Int) (W : World) (e : Ending) (w' : World) : Prop := e = .returned (vNode i0 i1 i2) ∧ W.grownBy w' none

end Go.Proofs.Ytgagbhkidponnab
