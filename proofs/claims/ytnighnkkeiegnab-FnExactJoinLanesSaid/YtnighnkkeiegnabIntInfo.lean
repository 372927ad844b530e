/-
  Plain facts on rows of numbers.
-/
import Derived.Test.YtnighnkkeiegnabProg
import Derived.Test.YtnighnkkeiegnabPlain
import Derived.KernelRfl
namespace Go.Proofs.Ytnighnkkeiegnab
open Go Go.RowKit

theorem infoInt : (Try.prog.info? 3).map (fun i => (i.zero, i.size, i.bytes)) = some (some (.int .i64 0), 1, 8) := by kernel_rfl
/-- the cells of a row of numbers -/
def i64s (xs : List Int) : List Value := xs.map (Value.int .i64)
theorem i64s_append (a b : List Int) : i64s (a ++ b) = i64s a ++ i64s b := by simp [i64s]

end Go.Proofs.Ytnighnkkeiegnab
