/-
  Bar by value, on the law's side: measured, copied, compared, marked, held.
-/
import Derived.Test.YtjkjodcgpdhldacShpI
namespace Go.Proofs.Ytjkjodcgpdhldac
open Go Go.RowKit
set_option linter.unusedVariables false

/-- a value of Bar -/
def vBar (i0 : Int) (i1 : Int) : Value := .agg #[.int .i64 i0, .int .i64 i1]

/-- a Bar -/
def NewBar (i0 : Int) (i1 : Int) (W : World) (e : Ending) (w' : World) : Prop := e = .returned (vBar i0 i1) ∧ W.grownBy w' none

end Go.Proofs.Ytjkjodcgpdhldac
