/-
  Contract of the laws' bound on the drawn bytes, and small lemmas on what a law returns.
-/
import Derived.Test.YtmgdcnlbpghjjaaDoorProg
import Derived.Test.YtmgdcnlbpghjjaaDoorPlain
namespace Go.Proofs.YtmgdcnlbpghjjaaDoor
open Go Go.RowKit


theorem big_any (a : Option Addr) (len cap : Nat) (w : World) :
    Calls Tryd.prog 7 #[.slice a len cap] w (fun e w' => e = .returned (.bool (decide ((1048576 : Int) < (len : Int)))) ∧ w = w') := by
  go_enter Tryd.func7, Tryd.ntmps7
  go_wp2
  go_ret
  exact ⟨rfl, rfl⟩

end Go.Proofs.YtmgdcnlbpghjjaaDoor
