/-
  Base address registers on both sides.
-/
import Derived.Test.YtdddidnibelmhaaBits4Impl
import Derived.Test.YtdddidnibelmhaaQBar
import Derived.Deep.RegionHeld3
import Derived.Deep.QuietTactic
namespace Go.Proofs.Ytdddidnibelmhaa
open Go Go.RowKit
set_option linter.unusedVariables false

/-- a size of a register -/
def BSz (n : Int) : Prop := IsPow n ∧ 16 ≤ n ∧ n ≤ 32768
/-- a register -/
def BOk (s b : Int) : Prop := s = 0 ∧ b = 0 ∨ BSz s ∧ (0 ≤ b ∧ b ≤ 65536 - s) ∧ b % s = 0

end Go.Proofs.Ytdddidnibelmhaa
