/-
  Contracts of the checks of packets: configuration and completions.
-/
import Derived.Test.YtokpmbagidokkacPkChk
namespace Go.Proofs.Ytokpmbagidokkac
open Go Go.RowKit

/-- a completion with at most m words -/
def W6m (m t a l g s n : Int) : Prop := 0 ≤ t ∧ t ≤ 255 ∧ 0 ≤ l ∧ l ≤ 64 ∧ 0 ≤ g ∧ g ≤ 7 ∧ 0 ≤ s ∧ s ≤ 2 ∧ a = 0 ∧ n ≤ m

end Go.Proofs.Ytokpmbagidokkac
