/-
  Numbers of 64 bits.
-/
import Derived.Test.YtgagbhkidponnacPlain
namespace Go.Proofs.Ytgagbhkidponnac
open Go Go.RowKit

/-- a number of 64 bits -/
def I64 (n : Int) : Prop := -9223372036854775808 ≤ n ∧ n ≤ 9223372036854775807

end Go.Proofs.Ytgagbhkidponnac
