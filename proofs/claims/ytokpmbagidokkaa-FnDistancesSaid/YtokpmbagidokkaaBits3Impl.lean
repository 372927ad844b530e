/-
  Contracts of the program's bit fields: FieldOf and WithField.
-/
import Derived.Test.YtokpmbagidokkaaBits2Impl
namespace Go.Proofs.Ytokpmbagidokkaa
open Go Go.RowKit

end Go.Proofs.Ytokpmbagidokkaa
