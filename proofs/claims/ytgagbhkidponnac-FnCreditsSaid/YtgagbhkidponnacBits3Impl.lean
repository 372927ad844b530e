/-
  Contracts of the program's bit fields: FieldOf and WithField.
-/
import Derived.Test.YtgagbhkidponnacBits2Impl
namespace Go.Proofs.Ytgagbhkidponnac
open Go Go.RowKit

end Go.Proofs.Ytgagbhkidponnac
