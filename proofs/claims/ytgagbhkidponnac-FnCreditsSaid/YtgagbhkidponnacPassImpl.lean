/-
  MayPass of the program.
-/
import Derived.Test.YtgagbhkidponnacPass
import Derived.Deep.RegionHeld3
namespace Go.Proofs.Ytgagbhkidponnac
open Go Go.RowKit
set_option linter.unusedVariables false

theorem implPk_yes (W : World) {k f t a l g s : Int} (d : Option Addr) (n c : Nat) {xs : List Int} {ca : Int} (q : ClsOf k f t a l g s xs ca) (h : 0 ≤ ca) (H : ISl W d n xs) (hl : n ≤ 1048576) :
    Calls Try.prog 30 #[pkV k f t a l g s d n c] W (AnsG (.bool true) W) := by
  have := implPk_cls W d n c q H hl
  rwa [show decide (0 ≤ ca) = true from decide_eq_true h] at this

theorem implPk_no (W : World) {k f t a l g s : Int} (d : Option Addr) (n c : Nat) {xs : List Int} {ca : Int} (q : ClsOf k f t a l g s xs ca) (h : ca < 0) (H : ISl W d n xs) (hl : n ≤ 1048576) :
    Calls Try.prog 30 #[pkV k f t a l g s d n c] W (AnsG (.bool false) W) := by
  have := implPk_cls W d n c q H hl
  rwa [show decide (0 ≤ ca) = false from decide_eq_false (by omega)] at this

end Go.Proofs.Ytgagbhkidponnac
