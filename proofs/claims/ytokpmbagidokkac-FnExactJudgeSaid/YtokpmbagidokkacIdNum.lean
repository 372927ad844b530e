/-
  Contracts of ids: the numbers.
-/
import Derived.Test.YtokpmbagidokkacBits3Impl
namespace Go.Proofs.Ytokpmbagidokkac
open Go Go.RowKit

end Go.Proofs.Ytokpmbagidokkac
