/-
  Slices of PageGrant, which own no memory: appended, cloned.
-/
import Derived.Test.YtgagbhkidponnabAppP
import Derived.Test.YtgagbhkidponnabQSPageGrant
import Derived.Lib.SliceRun
namespace Go.Proofs.Ytgagbhkidponnab
open Go Go.RowKit
set_option linter.unusedVariables false

theorem plainPageGrant : Plain shPageGrant (fun x => [.int .i64 x.f0, .int .i64 x.f1, .int .i64 x.f2, .bool x.f3]) := ⟨fun _ => rfl, by decide, fun h => h, fun _ _ => rfl, fun _ _ _ _ => rfl, fun x u hu => by simp only [List.mem_cons, List.not_mem_nil, or_false] at hu; rcases hu with rfl | rfl | rfl | rfl <;> rfl⟩
theorem slTPageGrant : SlT 25 59 4 := slT_of Try.underlying25 infoPageGrantS rfl (by omega)

/-- a clone -/
def ClonedPageGrant (xs : List DPageGrant) (W : World) (e : Ending) (w' : World) : Prop := ∃ v', e = .returned v' ∧ OwL shPageGrant w' W.heap.size w'.heap.size v' xs ∧ W.grownBy w' none
/-- .. as a row -/
def ClonedRowPageGrant (xs : List DPageGrant) (W : World) (e : Ending) (w' : World) : Prop := ∃ v', e = .returned v' ∧ w'.ownsRow W.heap.size 59 4 v' xs.length (xs.flatMap (fun x => [.int .i64 x.f0, .int .i64 x.f1, .int .i64 x.f2, .bool x.f3])) ∧ W.grownBy w' none

end Go.Proofs.Ytgagbhkidponnab
