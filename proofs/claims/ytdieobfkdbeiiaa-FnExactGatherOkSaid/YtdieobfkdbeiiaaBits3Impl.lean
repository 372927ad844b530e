/-
  Contracts of the program's bit fields: FieldOf and WithField.
-/
import Derived.Test.YtdieobfkdbeiiaaBits2Impl
namespace Go.Proofs.Ytdieobfkdbeiiaa
open Go Go.RowKit

end Go.Proofs.Ytdieobfkdbeiiaa
