/-
  Tags by value, on the law's side: measured, copied, compared, marked, held.
-/
import Derived.Test.YtgagbhkidponnaaShpI
import Derived.Test.YtgagbhkidponnaaQSBool
namespace Go.Proofs.Ytgagbhkidponnaa
open Go Go.RowKit
set_option linter.unusedVariables false

/-- a value of Tags -/
def vTags (v0 : Value) : Value := .agg #[v0]

/-- a Tags in new memory -/
def NewTags (xs0 : List Bool) (W : World) (e : Ending) (w' : World) : Prop := ∃ v0, e = .returned (vTags v0) ∧ OwU w' W.heap.size w'.heap.size [] [own shB v0 xs0] ∧ W.grownBy w' none

end Go.Proofs.Ytgagbhkidponnaa
