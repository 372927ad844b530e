/-
  The model's TreeOk.
-/
import Derived.Test.YtgagbhkidponnabTreeMath
namespace Go.Proofs.Ytgagbhkidponnab
open Go Go.RowKit
set_option linter.unusedVariables false

end Go.Proofs.Ytgagbhkidponnab
