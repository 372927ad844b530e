/-
  Both SharesOf answer the same.
-/
import Derived.Test.YtgmpehccklifdacShares
namespace Go.Proofs.Ytgmpehccklifdac
open Go Go.RowKit

theorem shares_both (xs : List Int) (p : Int) (hx : xs.length ≤ 1048576) : ∃ r : Int, (∀ (W : World) (v : Value), RdI W v xs → Calls Try.prog 35 #[v, .int .i64 p] W (AnsN (.int .i64 r) W)) ∧
    ∀ (W : World) (v : Value), RdI W v xs → Calls Try.prog 36 #[v, .int .i64 p] W (AnsN (.int .i64 r) W) :=
  ⟨_, fun W v H => specShares_any W v xs p H hx, fun W v H => implShares_any W v xs p H hx⟩

end Go.Proofs.Ytgmpehccklifdac
