/-
  Virtual by value, on the law's side: measured, copied, compared, marked, held.
-/
import Derived.Test.YtjkjodcgpdhldaaShpI
namespace Go.Proofs.Ytjkjodcgpdhldaa
open Go Go.RowKit
set_option linter.unusedVariables false

/-- a value of Virtual -/
def vVirtual (i0 : Int) (i1 : Int) (i2 : Int) : Value := .agg #[.int .i64 i0, .int .i64 i1, .int .i64 i2]

/-- a Virtual -/
def NewVirtual (i0 : Int) (i1 : Int) (i2 : Int) (W : World) (e : Ending) (w' : World) : Prop := e = .returned (vVirtual i0 i1 i2) ∧ W.grownBy w' none

set_option maxRecDepth 8000 in
set_option maxHeartbeats 4000000 in
theorem toVirtual_d (W : World) (i0 : Int) (i1 : Int) (i2 : Int)   :
    Calls Try.prog 16 #[vVirtual i0 i1 i2] W (NewVirtual i0 i1 i2 W) := by
  unfold vVirtual
  go_enter Try.func16, Try.ntmps16
  go_wp2
  refine bodyPost_ret (v := vVirtual i0 i1 i2) (by simp [results, go_sem, vVirtual]) rfl ⟨rfl, ?_⟩
  repeat (first | exact gby_refl _ _ | with_reducible refine gby_alloc ?_ _ | with_reducible refine gby_setnew ?_ _ (by dsimp only; first | omega | simp) _)

end Go.Proofs.Ytjkjodcgpdhldaa
