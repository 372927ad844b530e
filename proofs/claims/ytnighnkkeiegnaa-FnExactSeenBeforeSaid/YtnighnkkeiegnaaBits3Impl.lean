/-
  Contracts of the program's bit fields: FieldOf and WithField.
-/
import Derived.Test.YtnighnkkeiegnaaBits2Impl
namespace Go.Proofs.Ytnighnkkeiegnaa
open Go Go.RowKit

end Go.Proofs.Ytnighnkkeiegnaa
