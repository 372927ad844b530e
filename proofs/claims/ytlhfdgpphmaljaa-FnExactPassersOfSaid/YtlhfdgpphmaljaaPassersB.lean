/-
  PassersOf, on both sides.
-/
import Derived.Test.YtlhfdgpphmaljaaPassersS
import Derived.Test.YtlhfdgpphmaljaaPassersI
namespace Go.Proofs.Ytlhfdgpphmaljaa
open Go Go.RowKit
set_option linter.unusedVariables false

theorem passersOf_both (xs0 : List DPacket) (h0 : szL shPacket xs0 ≤ 1048576) : ∃ xsr0 : List Int, szL shI xsr0 ≤ 1048576 ∧ (∀ (W : World), ∀ u0, RdL shPacket W u0 xs0 → Calls Try.prog 26 #[u0] W (ResSPassersOf xsr0 W)) ∧ ∀ (W : World), ∀ u0, RdL shPacket W u0 xs0 → Calls Try.prog 28 #[u0] W (ResIPassersOf xsr0 W) :=
  ⟨passL xs0 xs0.length, by rw [szL_I]; have := passL_len xs0 xs0.length; have := szL_len shPacket xs0; omega, fun W u0 H0 => (specPassers_any W u0 xs0 H0 h0).mono (fun e w q => resS_ofPassersOf e w q), fun W u0 H0 => implPassers_any W u0 xs0 H0 h0⟩

end Go.Proofs.Ytlhfdgpphmaljaa
