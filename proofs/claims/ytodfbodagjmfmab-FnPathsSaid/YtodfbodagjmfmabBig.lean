/-
  Contract of the laws' bound on the drawn bytes, and small lemmas on what a law returns.
-/
import Derived.Test.YtodfbodagjmfmabProg
import Derived.Test.YtodfbodagjmfmabPlain
namespace Go.Proofs.Ytodfbodagjmfmab
open Go Go.RowKit


theorem big_any (a : Option Addr) (len cap : Nat) (w : World) :
    Calls Try.prog 30 #[.slice a len cap] w (fun e w' => e = .returned (.bool (decide ((1048576 : Int) < (len : Int)))) ∧ w = w') := by
  go_enter Try.func30, Try.ntmps30
  go_wp2
  go_ret
  exact ⟨rfl, rfl⟩

end Go.Proofs.Ytodfbodagjmfmab
