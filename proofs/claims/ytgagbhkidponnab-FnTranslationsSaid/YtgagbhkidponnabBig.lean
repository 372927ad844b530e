/-
  Contract of the laws' bound on the drawn bytes, and small lemmas on what a law returns.
-/
import Derived.Test.YtgagbhkidponnabProg
import Derived.Test.YtgagbhkidponnabPlain
namespace Go.Proofs.Ytgagbhkidponnab
open Go Go.RowKit


theorem big_any (a : Option Addr) (len cap : Nat) (w : World) :
    Calls Try.prog 26 #[.slice a len cap] w (fun e w' => e = .returned (.bool (decide ((1048576 : Int) < (len : Int)))) ∧ w = w') := by
  go_enter Try.func26, Try.ntmps26
  go_wp2
  go_ret
  exact ⟨rfl, rfl⟩

end Go.Proofs.Ytgagbhkidponnab
