/-
  Trees on both sides.
-/
import Derived.Test.YtgagbhkidponnabTreeS
import Derived.Test.YtgagbhkidponnabTreeI
namespace Go.Proofs.Ytgagbhkidponnab
open Go Go.RowKit

end Go.Proofs.Ytgagbhkidponnab
