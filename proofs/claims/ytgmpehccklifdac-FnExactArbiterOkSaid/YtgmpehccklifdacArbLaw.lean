/-
  Both ArbiterOk answer the same; both SharesOf do.
-/
import Derived.Test.YtgmpehccklifdacArb
namespace Go.Proofs.Ytgmpehccklifdac
open Go Go.RowKit

theorem arbOk_both (xs : List Int) (t l : Int) (hx : xs.length ≤ 1048576) : ∃ b : Bool, (∀ (W : World) (u : Option Addr) (v : Nat), RdI W (.slice u xs.length v) xs → Calls Try.prog 16 #[abV u xs.length v t l] W (AnsN (.bool b) W)) ∧
    ∀ (W : World) (u : Option Addr) (v : Nat), RdI W (.slice u xs.length v) xs → Calls Try.prog 18 #[abV u xs.length v t l] W (AnsN (.bool b) W) :=
  ⟨_, fun W u v H => specAb_any W u _ v xs t l H.isl' hx, fun W u v H => implAb_any W u _ v xs t l H.isl' hx⟩

end Go.Proofs.Ytgmpehccklifdac
