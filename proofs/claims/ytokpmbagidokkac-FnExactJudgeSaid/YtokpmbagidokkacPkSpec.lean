/-
  Contracts of the model's IsPacket.
-/
import Derived.Test.YtokpmbagidokkacPkChk2
namespace Go.Proofs.Ytokpmbagidokkac
open Go Go.RowKit

end Go.Proofs.Ytokpmbagidokkac
