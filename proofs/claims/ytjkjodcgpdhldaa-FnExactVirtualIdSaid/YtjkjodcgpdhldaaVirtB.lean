/-
  Virtual functions on both sides, as the exact laws ask.
-/
import Derived.Test.YtjkjodcgpdhldaaVirt
import Derived.Test.YtjkjodcgpdhldaaRVirtualOk
import Derived.Test.YtjkjodcgpdhldaaRVirtualId
namespace Go.Proofs.Ytjkjodcgpdhldaa
open Go Go.RowKit

theorem virtualOk_both (i0_0 i0_1 i0_2 : Int) : ∃ br0 : Bool, (∀ (W : World), Calls Try.prog 15 #[.agg #[.int .i64 i0_0, .int .i64 i0_1, .int .i64 i0_2]] W (ResSVirtualOk br0 W)) ∧ ∀ (W : World), Calls Try.prog 17 #[.agg #[.int .i64 i0_0, .int .i64 i0_1, .int .i64 i0_2]] W (ResIVirtualOk br0 W) := by
  by_cases h : VOk i0_0 i0_1 i0_2
  · exact ⟨true, fun W => specVOk_yes _ _ _ W h, fun W => implVOk_yes _ _ _ W h⟩
  · exact ⟨false, fun W => specVOk_no _ _ _ W h, fun W => implVOk_no _ _ _ W h⟩

theorem virtualId_both (i0 i1_0 i1_1 i1_2 i2 : Int) : ∃ ir0 : Int, (∀ (W : World), Calls Try.prog 18 #[.int .i64 i0, .agg #[.int .i64 i1_0, .int .i64 i1_1, .int .i64 i1_2], .int .i64 i2] W (ResSVirtualId ir0 W)) ∧ ∀ (W : World), Calls Try.prog 19 #[.int .i64 i0, .agg #[.int .i64 i1_0, .int .i64 i1_1, .int .i64 i1_2], .int .i64 i2] W (ResIVirtualId ir0 W) := by
  obtain ⟨r, h⟩ := vidN_ex i0 i1_0 i1_1 i1_2 i2
  exact ⟨r, fun W => specVId_any _ _ _ _ _ r h W, fun W => implVId_any _ _ _ _ _ r h W⟩

end Go.Proofs.Ytjkjodcgpdhldaa
