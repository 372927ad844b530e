/-
  The walk of FnExactClamp: at every three ints the law returns true and at most new memory is made.
-/
import Derived.Test.YtmgdcnlbpghjjaaProg
import Derived.WalkKit
import Derived.ProofKit
namespace Go.Proofs.Ytmgdcnlbpghjjaa
open Go.RowKit

theorem walk_exactClamp (a0 a1 a2 : Int) (w : World) :
    Calls Try.prog 7 #[.int .i64 a0, .int .i64 a1, .int .i64 a2] w fun e w' => e = .returned (.bool true) ∧ Grown w w' := by
  by_cases hb : a2 < a1
  · go_enter Try.func7, Try.ntmps7
    go_wp2
    all_goals go_ret
    all_goals exact ⟨rfl, by repeat (first | exact Grown.refl _ | apply Grown.drew | apply Grown.alloc)⟩
  · by_cases h1 : a0 < a1
    · go_enter Try.func7, Try.ntmps7
      go_wp2
      all_goals go_ret
      all_goals exact ⟨rfl, by repeat (first | exact Grown.refl _ | apply Grown.drew | apply Grown.alloc)⟩
    · by_cases h2 : a2 < a0
      · go_enter Try.func7, Try.ntmps7
        go_wp2
        all_goals go_ret
        all_goals exact ⟨rfl, by repeat (first | exact Grown.refl _ | apply Grown.drew | apply Grown.alloc)⟩
      · go_enter Try.func7, Try.ntmps7
        go_wp2
        all_goals go_ret
        all_goals exact ⟨rfl, by repeat (first | exact Grown.refl _ | apply Grown.drew | apply Grown.alloc)⟩

end Go.Proofs.Ytmgdcnlbpghjjaa
