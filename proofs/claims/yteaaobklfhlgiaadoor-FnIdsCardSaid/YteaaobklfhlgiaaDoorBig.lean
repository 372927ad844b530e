/-
  Contract of the laws' bound on the drawn bytes, and small lemmas on what a law returns.
-/
import Derived.Test.YteaaobklfhlgiaaDoorProg
import Derived.Test.YteaaobklfhlgiaaDoorPlain
namespace Go.Proofs.YteaaobklfhlgiaaDoor
open Go Go.RowKit


theorem big_any (a : Option Addr) (len cap : Nat) (w : World) :
    Calls Tryd.prog 6 #[.slice a len cap] w (fun e w' => e = .returned (.bool (decide ((1048576 : Int) < (len : Int)))) ∧ w = w') := by
  go_enter Tryd.func6, Tryd.ntmps6
  go_wp2
  go_ret
  exact ⟨rfl, rfl⟩

end Go.Proofs.YteaaobklfhlgiaaDoor
