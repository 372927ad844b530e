/-
  Contracts of the program's bit fields: FieldOf and WithField.
-/
import Derived.Test.YteaaobklfhlgiabBits2Impl
namespace Go.Proofs.Yteaaobklfhlgiab
open Go Go.RowKit

end Go.Proofs.Yteaaobklfhlgiab
