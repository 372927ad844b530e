/-
  Contracts of the program's bit fields: FieldOf and WithField.
-/
import Derived.Test.YtgagbhkidponnaaBits2Impl
namespace Go.Proofs.Ytgagbhkidponnaa
open Go Go.RowKit

end Go.Proofs.Ytgagbhkidponnaa
