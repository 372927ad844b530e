/-
  The program's TreeOk.
-/
import Derived.Test.YtgagbhkidponnabTreeMath
namespace Go.Proofs.Ytgagbhkidponnab
open Go Go.RowKit
set_option linter.unusedVariables false

/-- node x is in the place of a node below q0 with the device q1 -/
def Same2 (x : DNode) (q0 q1 : Int) : Prop := x.f0 = q0 ∧ x.f1 = q1

end Go.Proofs.Ytgagbhkidponnab
