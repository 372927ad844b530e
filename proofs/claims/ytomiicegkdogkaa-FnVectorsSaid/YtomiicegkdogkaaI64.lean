/-
  Numbers of 64 bits.
-/
import Derived.Test.YtomiicegkdogkaaPlain
namespace Go.Proofs.Ytomiicegkdogkaa
open Go Go.RowKit

/-- a number of 64 bits -/
def I64 (n : Int) : Prop := -9223372036854775808 ≤ n ∧ n ≤ 9223372036854775807

end Go.Proofs.Ytomiicegkdogkaa
