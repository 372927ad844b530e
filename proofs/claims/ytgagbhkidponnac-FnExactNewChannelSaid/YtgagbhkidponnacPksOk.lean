/-
  Are all packets of a list valid; the checks of credits as data.
-/
import Derived.Test.YtgagbhkidponnacPkD
import Derived.Test.YtgagbhkidponnacQSPacket
import Derived.Test.YtgagbhkidponnacQCredits
import Derived.Test.YtgagbhkidponnacCrd
namespace Go.Proofs.Ytgagbhkidponnac
open Go Go.RowKit
set_option linter.unusedVariables false

/-- all packets are valid -/
def PksOk (xs : List DPacket) : Prop := ∀ k, k < xs.length → 0 ≤ clsD (xs.getD k default)
instance (xs : List DPacket) : Decidable (PksOk xs) := by unfold PksOk; infer_instance

theorem specCrD (W : World) (v0 v1 : Value) (xs ys : List Int) (H0 : RdL shI W v0 xs) (H1 : RdL shI W v1 ys) (hl0 : szL shI xs ≤ 1048576) (hl1 : szL shI ys ≤ 1048576) (b : Bool) (hb : b = decide (CrdOk xs ys)) :
    Calls Try.prog 89 #[vCredits v0 v1] W (AnsN (.bool b) W) := by
  rw [szL_I] at hl0 hl1
  obtain ⟨a, cap, rfl, hi, _⟩ := rdI_in H0
  obtain ⟨a', cap', rfl, hi', _⟩ := rdI_in H1
  rw [hb]
  exact specCr_any W a _ cap a' _ cap' xs ys hi hi' hl0 hl1
theorem implCrD (W : World) (v0 v1 : Value) (xs ys : List Int) (H0 : RdL shI W v0 xs) (H1 : RdL shI W v1 ys) (hl0 : szL shI xs ≤ 1048576) (hl1 : szL shI ys ≤ 1048576) (b : Bool) (hb : b = decide (CrdOk xs ys)) :
    Calls Try.prog 47 #[vCredits v0 v1] W (AnsN (.bool b) W) := by
  rw [szL_I] at hl0 hl1
  obtain ⟨a, cap, rfl, hi, _⟩ := rdI_in H0
  obtain ⟨a', cap', rfl, hi', _⟩ := rdI_in H1
  rw [hb]
  exact implCr_any W a _ cap a' _ cap' xs ys hi hi' hl0 hl1

end Go.Proofs.Ytgagbhkidponnac
