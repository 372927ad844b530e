/-
  Tags on both sides: new ones, valid or not, how many are busy.
-/
import Derived.Test.YtoedgncidoldaabTags
import Derived.Test.YtoedgncidoldaabRNewTags
import Derived.Test.YtoedgncidoldaabRTagsOk
import Derived.Test.YtoedgncidoldaabRCountBusy
namespace Go.Proofs.Ytoedgncidoldaab
open Go Go.RowKit

theorem newTags_both : ∃ (xsr0_0 : List Bool), szL shB xsr0_0 ≤ 1048576 ∧ (∀ (W : World), Calls Try.prog 15 #[] W (ResSNewTags xsr0_0 W)) ∧ ∀ (W : World), Calls Try.prog 16 #[] W (ResINewTags xsr0_0 W) :=
  ⟨List.replicate 8 false, by rw [szL_B]; simp, fun W => (specNewTags W).mono (fun e w' ⟨v, h1, h2, h3⟩ => ⟨v, h1, OwU.rd h2, h3⟩), fun W => implNewTags W⟩

theorem tagsOk_both (xs0_0 : List Bool) (_ : szL shB xs0_0 ≤ 1048576) : ∃ (br0 : Bool), (∀ (W : World), ∀ u0_0, RdL shB W u0_0 xs0_0 → Calls Try.prog 21 #[.agg #[u0_0]] W (ResSTagsOk br0 W)) ∧ ∀ (W : World), ∀ u0_0, RdL shB W u0_0 xs0_0 → Calls Try.prog 23 #[.agg #[u0_0]] W (ResITagsOk br0 W) := by
  refine ⟨(xs0_0.length : Int) == 8, ?_, ?_⟩
  · intro W u H
    obtain ⟨a, cap, rfl, _⟩ := H
    exact specTagsOk W a _ cap _ rfl
  · intro W u H
    obtain ⟨a, cap, rfl, _⟩ := H
    exact implTagsOk W a _ cap _ rfl

theorem countBusy_both (xs0_0 : List Bool) (h0 : szL shB xs0_0 ≤ 1048576) : ∃ (ir0 : Int), (∀ (W : World), ∀ u0_0, RdL shB W u0_0 xs0_0 → Calls Try.prog 28 #[.agg #[u0_0]] W (ResSCountBusy ir0 W)) ∧ ∀ (W : World), ∀ u0_0, RdL shB W u0_0 xs0_0 → Calls Try.prog 29 #[.agg #[u0_0]] W (ResICountBusy ir0 W) :=
  ⟨_, fun W u H => specCount W u xs0_0 H h0, fun W u H => implCount W u xs0_0 H h0⟩

end Go.Proofs.Ytoedgncidoldaab
