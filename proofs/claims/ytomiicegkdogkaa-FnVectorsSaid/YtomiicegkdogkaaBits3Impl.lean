/-
  Contracts of the program's bit fields: FieldOf and WithField.
-/
import Derived.Test.YtomiicegkdogkaaBits2Impl
namespace Go.Proofs.Ytomiicegkdogkaa
open Go Go.RowKit

end Go.Proofs.Ytomiicegkdogkaa
