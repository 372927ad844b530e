/-
  Act by value, on the law's side: measured, copied, compared, marked, held.
-/
import Derived.Test.YtjkjodcgpdhldaaShpI
namespace Go.Proofs.Ytjkjodcgpdhldaa
open Go Go.RowKit
set_option linter.unusedVariables false

/-- a value of Act -/
def vAct (i0 : Int) (i1 : Int) (i2 : Int) (i3 : Int) : Value := .agg #[.int .i64 i0, .int .i64 i1, .int .i64 i2, .int .i64 i3]

/-- a Act -/
def NewAct (i0 : Int) (i1 : Int) (i2 : Int) (i3 : Int) (W : World) (e : Ending) (w' : World) : Prop := e = .returned (vAct i0 i1 i2 i3) ∧ W.grownBy w' none

set_option maxRecDepth 8000 in
set_option maxHeartbeats 4000000 in
theorem toAct_d (W : World) (i0 : Int) (i1 : Int) (i2 : Int) (i3 : Int)   :
    Calls Try.prog 32 #[vAct i0 i1 i2 i3] W (NewAct i0 i1 i2 i3 W) := by
  unfold vAct
  go_enter Try.func32, Try.ntmps32
  go_wp2
  refine bodyPost_ret (v := vAct i0 i1 i2 i3) (by simp [results, go_sem, vAct]) rfl ⟨rfl, ?_⟩
  repeat (first | exact gby_refl _ _ | with_reducible refine gby_alloc ?_ _ | with_reducible refine gby_setnew ?_ _ (by dsimp only; first | omega | simp) _)

end Go.Proofs.Ytjkjodcgpdhldaa
