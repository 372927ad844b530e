/-
  Contracts of the program's bit fields: FieldOf and WithField.
-/
import Derived.Test.YtgagbhkidponnabBits2Impl
namespace Go.Proofs.Ytgagbhkidponnab
open Go Go.RowKit

end Go.Proofs.Ytgagbhkidponnab
