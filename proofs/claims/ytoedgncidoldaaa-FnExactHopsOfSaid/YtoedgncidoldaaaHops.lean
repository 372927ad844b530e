/-
  The number of hops, on both sides.
-/
import Derived.Test.YtoedgncidoldaaaRHopsOf
namespace Go.Proofs.Ytoedgncidoldaaa
open Go Go.RowKit

theorem hopsOf_both (xs0 : List Int) (h0 : szL shI xs0 ≤ 1048576) : ∃ ir0 : Int, (∀ (W : World), ∀ u0, RdL shI W u0 xs0 → Calls Try.prog 15 #[u0] W (ResSHopsOf ir0 W)) ∧ ∀ (W : World), ∀ u0, RdL shI W u0 xs0 → Calls Try.prog 17 #[u0] W (ResIHopsOf ir0 W) := by
  rw [szL_I] at h0
  refine ⟨(xs0.length : Int) - 1, ?_, ?_⟩
  · intro W u H
    obtain ⟨a, cap, rfl, _⟩ := H
    generalize xs0.length = n at h0
    go_enter Try.func15, Try.ntmps15
    go_wp2
    go_ret
    exact ⟨rfl, gby_refl _ _⟩
  · intro W u H
    obtain ⟨a, cap, rfl, _⟩ := H
    generalize xs0.length = n at h0
    go_enter Try.func17, Try.ntmps17
    go_wp2
    go_ret
    exact ⟨rfl, gby_refl _ _⟩

end Go.Proofs.Ytoedgncidoldaaa
