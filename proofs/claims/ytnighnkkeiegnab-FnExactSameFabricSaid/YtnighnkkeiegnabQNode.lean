/-
  Node by value, on the law's side: measured, copied, compared, marked, held.
-/
import Derived.Test.YtnighnkkeiegnabShpI
namespace Go.Proofs.Ytnighnkkeiegnab
open Go Go.RowKit
set_option linter.unusedVariables false

/-- a value of Node -/
def vNode (i0 : Int) (i1 : Int) (i2 : Int) : Value := .agg #[.int .i64 i0, .int .i64 i1, .int .i64 i2]

/-- a Node -/
def NewNode (i0 : Int) (i1 : Int) (i2 : Int) (W : World) (e : Ending) (w' : World) : Prop := e = .returned (vNode i0 i1 i2) ∧ W.grownBy w' none

set_option maxRecDepth 8000 in
set_option maxHeartbeats 4000000 in
theorem toNode_d (W : World) (i0 : Int) (i1 : Int) (i2 : Int)   :
    Calls Try.prog 89 #[vNode i0 i1 i2] W (NewNode i0 i1 i2 W) := by
  unfold vNode
  go_enter Try.func89, Try.ntmps89
  go_wp2
  refine bodyPost_ret (v := vNode i0 i1 i2) (by simp [results, go_sem, vNode]) rfl ⟨rfl, ?_⟩
  repeat (first | exact gby_refl _ _ | with_reducible refine gby_alloc ?_ _ | with_reducible refine gby_setnew ?_ _ (by dsimp only; first | omega | simp) _)

set_option maxRecDepth 8000 in
set_option maxHeartbeats 2000000 in
theorem eqNode_d (W : World) (i0 : Int) (i1 : Int) (i2 : Int)    :
    Calls Try.prog 93 #[vNode i0 i1 i2, vNode i0 i1 i2] W (AnsN (.bool true) W) := by
  have bk0 : (i0 != i0) = false := by simp
  have bk1 : (i1 != i1) = false := by simp
  have bk2 : (i2 != i2) = false := by simp
  unfold vNode
  go_enter Try.func93, Try.ntmps93
  have rP1_ := Lib.hid (show (((W.alloc (.cells #[.int .i64 i0, .int .i64 i1, .int .i64 i2] 112)).alloc (.cells #[.int .i64 i0, .int .i64 i1, .int .i64 i2] 112))).heap[W.heap.size]? = some (.cells #[.int .i64 i0, .int .i64 i1, .int .i64 i2] 112 (0, 0)) from by rw [heap_alloc_old _ _ (by simp only [World.size_alloc]; omega)]; exact heap_alloc_new _ _)
  have rQ2_ := Lib.hid (show (((W.alloc (.cells #[.int .i64 i0, .int .i64 i1, .int .i64 i2] 112)).alloc (.cells #[.int .i64 i0, .int .i64 i1, .int .i64 i2] 112))).heap[W.heap.size + 1]? = some (.cells #[.int .i64 i0, .int .i64 i1, .int .i64 i2] 112 (0, 0)) from by exact heap_pair _ _ _)
  have G3_ := Lib.hid (show (W).grownBy (((W.alloc (.cells #[.int .i64 i0, .int .i64 i1, .int .i64 i2] 112)).alloc (.cells #[.int .i64 i0, .int .i64 i1, .int .i64 i2] 112))) none from (gby_alloc (gby_alloc (gby_refl _ _) _) _))
  have P_0_ : (((W.alloc (.cells #[.int .i64 i0, .int .i64 i1, .int .i64 i2] 112)).alloc (.cells #[.int .i64 i0, .int .i64 i1, .int .i64 i2] 112))).cell? ⟨W.heap.size, 0, none⟩ = some (.int .i64 i0) := cell_of_row _ _ 0 _ _ _ rP1_.out
  have P_1_ : (((W.alloc (.cells #[.int .i64 i0, .int .i64 i1, .int .i64 i2] 112)).alloc (.cells #[.int .i64 i0, .int .i64 i1, .int .i64 i2] 112))).cell? ⟨W.heap.size, 1, none⟩ = some (.int .i64 i1) := cell_of_row _ _ 1 _ _ _ rP1_.out
  have P_2_ : (((W.alloc (.cells #[.int .i64 i0, .int .i64 i1, .int .i64 i2] 112)).alloc (.cells #[.int .i64 i0, .int .i64 i1, .int .i64 i2] 112))).cell? ⟨W.heap.size, 2, none⟩ = some (.int .i64 i2) := cell_of_row _ _ 2 _ _ _ rP1_.out
  have Q_0_ : (((W.alloc (.cells #[.int .i64 i0, .int .i64 i1, .int .i64 i2] 112)).alloc (.cells #[.int .i64 i0, .int .i64 i1, .int .i64 i2] 112))).cell? ⟨W.heap.size + 1, 0, none⟩ = some (.int .i64 i0) := cell_of_row _ _ 0 _ _ _ rQ2_.out
  have Q_1_ : (((W.alloc (.cells #[.int .i64 i0, .int .i64 i1, .int .i64 i2] 112)).alloc (.cells #[.int .i64 i0, .int .i64 i1, .int .i64 i2] 112))).cell? ⟨W.heap.size + 1, 1, none⟩ = some (.int .i64 i1) := cell_of_row _ _ 1 _ _ _ rQ2_.out
  have Q_2_ : (((W.alloc (.cells #[.int .i64 i0, .int .i64 i1, .int .i64 i2] 112)).alloc (.cells #[.int .i64 i0, .int .i64 i1, .int .i64 i2] 112))).cell? ⟨W.heap.size + 1, 2, none⟩ = some (.int .i64 i2) := cell_of_row _ _ 2 _ _ _ rQ2_.out
  go_wp2
  go_ret
  exact ⟨rfl, G3_.out⟩

end Go.Proofs.Ytnighnkkeiegnab
