/-
  Contracts of the program's bit fields: FieldOf and WithField.
-/
import Derived.Test.YtgmpehccklifdabBits2Impl
namespace Go.Proofs.Ytgmpehccklifdab
open Go Go.RowKit

end Go.Proofs.Ytgmpehccklifdab
