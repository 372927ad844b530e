/-
  Contracts of the program's bit fields: FieldOf and WithField.
-/
import Derived.Test.YtgmpehccklifdaeBits2Impl
namespace Go.Proofs.Ytgmpehccklifdae
open Go Go.RowKit

end Go.Proofs.Ytgmpehccklifdae
