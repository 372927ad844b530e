/-
  Virtual functions on both sides, as the exact laws ask.
-/
import Derived.Test.YtjkjodcgpdhldaaVirt2
import Derived.Test.YtjkjodcgpdhldaaRVirtualOk
import Derived.Test.YtjkjodcgpdhldaaRVirtualId
import Derived.Test.YtjkjodcgpdhldaaRVirtualOwner
namespace Go.Proofs.Ytjkjodcgpdhldaa
open Go Go.RowKit

theorem virtualOk_both (i0_0 i0_1 i0_2 : Int) : ∃ br0 : Bool, (∀ (W : World), Calls Try.prog 15 #[.agg #[.int .i64 i0_0, .int .i64 i0_1, .int .i64 i0_2]] W (ResSVirtualOk br0 W)) ∧ ∀ (W : World), Calls Try.prog 17 #[.agg #[.int .i64 i0_0, .int .i64 i0_1, .int .i64 i0_2]] W (ResIVirtualOk br0 W) := by
  by_cases h : VOk i0_0 i0_1 i0_2
  · exact ⟨true, fun W => specVOk_yes _ _ _ W h, fun W => implVOk_yes _ _ _ W h⟩
  · exact ⟨false, fun W => specVOk_no _ _ _ W h, fun W => implVOk_no _ _ _ W h⟩

theorem virtualId_both (i0 i1_0 i1_1 i1_2 i2 : Int) : ∃ ir0 : Int, (∀ (W : World), Calls Try.prog 18 #[.int .i64 i0, .agg #[.int .i64 i1_0, .int .i64 i1_1, .int .i64 i1_2], .int .i64 i2] W (ResSVirtualId ir0 W)) ∧ ∀ (W : World), Calls Try.prog 19 #[.int .i64 i0, .agg #[.int .i64 i1_0, .int .i64 i1_1, .int .i64 i1_2], .int .i64 i2] W (ResIVirtualId ir0 W) := by
  obtain ⟨r, h⟩ := vidN_ex i0 i1_0 i1_1 i1_2 i2
  exact ⟨r, fun W => specVId_any _ _ _ _ _ r h W, fun W => implVId_any _ _ _ _ _ r h W⟩

theorem virtualOwner_both (i0 i1_0 i1_1 i1_2 i2 : Int) : ∃ ir0 : Int, (∀ (W : World), Calls Try.prog 25 #[.int .i64 i0, .agg #[.int .i64 i1_0, .int .i64 i1_1, .int .i64 i1_2], .int .i64 i2] W (ResSVirtualOwner ir0 W)) ∧ ∀ (W : World), Calls Try.prog 26 #[.int .i64 i0, .agg #[.int .i64 i1_0, .int .i64 i1_1, .int .i64 i1_2], .int .i64 i2] W (ResIVirtualOwner ir0 W) := by
  rcases Int.lt_or_le i2 0 with h0 | h0
  · exact ⟨-1, fun W => specOwn_neg _ _ _ _ _ W h0, fun W => implOwn_neg _ _ _ _ _ W h0⟩
  · by_cases h : ∃ k, Hit i0 i1_0 i1_1 i1_2 i2 k
    · obtain ⟨k, h⟩ := h
      exact ⟨(k : Int), fun W => specOwn_yes _ _ _ _ _ W k h, fun W => implOwn_yes _ _ _ _ _ W k h⟩
    · have h' : ∀ k, ¬ Hit i0 i1_0 i1_1 i1_2 i2 k := fun k q => h ⟨k, q⟩
      refine ⟨-1, fun W => specOwn_no _ _ _ _ _ W h0 h', fun W => ?_⟩
      by_cases hv : VOk i1_0 i1_1 i1_2
      · exact implOwn_no _ _ _ _ _ W h0 hv h'
      · exact implOwn_nov _ _ _ _ _ W h0 hv

end Go.Proofs.Ytjkjodcgpdhldaa
