/-
  Contracts of the names of kinds, and the walk of FnExactKindName.
-/
import Derived.Test.YtnighnkkeiegnaaRule
namespace Go.Proofs.Ytnighnkkeiegnaa
open Go Go.RowKit

theorem rule_none (x : Int) (W : World) (h : x < 1 ∨ 6 < x) : Calls Try.prog 128 #[.int .i64 x] W fun e w' => e = .returned (.tuple #[.agg #[.string ⟨#[]⟩, .int .i64 0, .nilFunc], .bool false]) ∧ W.grownBy w' none := by
  have H := Lib.hid h
  clear h
  go_enter Try.func128, Try.ntmps128
  go_wp2_with (first | (go_at_call 111; refine (rng_no _ _ _ _ H.out).mono ?_; rintro e w' ⟨rfl, rfl⟩) | go_in)
  refine bodyPost_ret (v := .tuple #[.agg #[.string ⟨#[]⟩, .int .i64 0, .nilFunc], .bool false]) (by simp [results, go_sem]) rfl ⟨rfl, ?_⟩
  exact gby_alloc (gby_refl _ _) _

end Go.Proofs.Ytnighnkkeiegnaa
