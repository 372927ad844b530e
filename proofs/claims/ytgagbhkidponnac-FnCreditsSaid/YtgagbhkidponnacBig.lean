/-
  Contract of the laws' bound on the drawn bytes, and small lemmas on what a law returns.
-/
import Derived.Test.YtgagbhkidponnacProg
import Derived.Test.YtgagbhkidponnacPlain
namespace Go.Proofs.Ytgagbhkidponnac
open Go Go.RowKit


theorem big_any (a : Option Addr) (len cap : Nat) (w : World) :
    Calls Try.prog 23 #[.slice a len cap] w (fun e w' => e = .returned (.bool (decide ((1048576 : Int) < (len : Int)))) ∧ w = w') := by
  go_enter Try.func23, Try.ntmps23
  go_wp2
  go_ret
  exact ⟨rfl, rfl⟩

end Go.Proofs.Ytgagbhkidponnac
