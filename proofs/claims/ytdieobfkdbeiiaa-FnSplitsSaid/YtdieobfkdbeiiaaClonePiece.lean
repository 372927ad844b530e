/-
  Slices of Piece, which own no memory: appended, cloned.
-/
import Derived.Test.YtdieobfkdbeiiaaAppP
import Derived.Test.YtdieobfkdbeiiaaQSPiece
import Derived.Lib.SliceRun
namespace Go.Proofs.Ytdieobfkdbeiiaa
open Go Go.RowKit
set_option linter.unusedVariables false

theorem plainPiece : Plain shPiece (fun x => [.int .i64 x.f0, .int .i64 x.f1]) := ⟨fun _ => rfl, by decide, fun h => h, fun _ _ => rfl, fun _ _ _ _ => rfl, fun x u hu => by simp only [List.mem_cons, List.not_mem_nil, or_false] at hu; rcases hu with rfl | rfl <;> rfl⟩
theorem slTPiece : SlT 50 53 2 := slT_of Try.underlying50 infoPieceS rfl (by omega)

/-- a clone -/
def ClonedPiece (xs : List DPiece) (W : World) (e : Ending) (w' : World) : Prop := ∃ v', e = .returned v' ∧ OwL shPiece w' W.heap.size w'.heap.size v' xs ∧ W.grownBy w' none

end Go.Proofs.Ytdieobfkdbeiiaa
