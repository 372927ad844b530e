/-
  Contracts of the program's bit fields: FieldOf and WithField.
-/
import Derived.Test.YtlhfdgpphmaljaaBits2Impl
namespace Go.Proofs.Ytlhfdgpphmaljaa
open Go Go.RowKit

end Go.Proofs.Ytlhfdgpphmaljaa
