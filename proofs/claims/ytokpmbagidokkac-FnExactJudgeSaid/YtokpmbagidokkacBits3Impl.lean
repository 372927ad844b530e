/-
  Contracts of the program's bit fields: FieldOf and WithField.
-/
import Derived.Test.YtokpmbagidokkacBits2Impl
namespace Go.Proofs.Ytokpmbagidokkac
open Go Go.RowKit

end Go.Proofs.Ytokpmbagidokkac
