/-
  The program's TreeOk.
-/
import Derived.Test.YtjkjodcgpdhldabTreeMath
namespace Go.Proofs.Ytjkjodcgpdhldab
open Go Go.RowKit
set_option linter.unusedVariables false

/-- node x is in the place of a node below q0 with the device q1 -/
def Same2 (x : DNode) (q0 q1 : Int) : Prop := x.f0 = q0 ∧ x.f1 = q1

theorem bridge_yes (i0 i1 i2 : Int) (W : World) (h : i2 = 0) : Calls Try.prog 55 #[.agg #[.int .i64 i0, .int .i64 i1, .int .i64 i2]] W (AnsN (.bool true) W) := by
  have hb : (i2 == 0) = true := by simpa using h
  clear h
  go_enter Try.func55, Try.ntmps55
  have rA1_ := Lib.hid (show ((W.alloc (.cells #[.int .i64 i0, .int .i64 i1, .int .i64 i2] 67))).heap[W.heap.size]? = some (.cells #[.int .i64 i0, .int .i64 i1, .int .i64 i2] 67 (0, 0)) from by exact heap_alloc_new _ _)
  have G2_ := Lib.hid (show (W).grownBy ((W.alloc (.cells #[.int .i64 i0, .int .i64 i1, .int .i64 i2] 67))) none from (gby_alloc (gby_refl _ _) _))
  have A_0_ : ((W.alloc (.cells #[.int .i64 i0, .int .i64 i1, .int .i64 i2] 67))).cell? ⟨W.heap.size, 0, none⟩ = some (.int .i64 i0) := cell_of_row _ _ 0 _ _ _ rA1_.out
  have A_1_ : ((W.alloc (.cells #[.int .i64 i0, .int .i64 i1, .int .i64 i2] 67))).cell? ⟨W.heap.size, 1, none⟩ = some (.int .i64 i1) := cell_of_row _ _ 1 _ _ _ rA1_.out
  have A_2_ : ((W.alloc (.cells #[.int .i64 i0, .int .i64 i1, .int .i64 i2] 67))).cell? ⟨W.heap.size, 2, none⟩ = some (.int .i64 i2) := cell_of_row _ _ 2 _ _ _ rA1_.out
  go_wp2
  go_ret
  exact ⟨rfl, G2_.out⟩

theorem bridge_no (i0 i1 i2 : Int) (W : World) (h : ¬ i2 = 0) : Calls Try.prog 55 #[.agg #[.int .i64 i0, .int .i64 i1, .int .i64 i2]] W (AnsN (.bool false) W) := by
  have hb : (i2 == 0) = false := by simpa using h
  clear h
  go_enter Try.func55, Try.ntmps55
  have rA1_ := Lib.hid (show ((W.alloc (.cells #[.int .i64 i0, .int .i64 i1, .int .i64 i2] 67))).heap[W.heap.size]? = some (.cells #[.int .i64 i0, .int .i64 i1, .int .i64 i2] 67 (0, 0)) from by exact heap_alloc_new _ _)
  have G2_ := Lib.hid (show (W).grownBy ((W.alloc (.cells #[.int .i64 i0, .int .i64 i1, .int .i64 i2] 67))) none from (gby_alloc (gby_refl _ _) _))
  have A_0_ : ((W.alloc (.cells #[.int .i64 i0, .int .i64 i1, .int .i64 i2] 67))).cell? ⟨W.heap.size, 0, none⟩ = some (.int .i64 i0) := cell_of_row _ _ 0 _ _ _ rA1_.out
  have A_1_ : ((W.alloc (.cells #[.int .i64 i0, .int .i64 i1, .int .i64 i2] 67))).cell? ⟨W.heap.size, 1, none⟩ = some (.int .i64 i1) := cell_of_row _ _ 1 _ _ _ rA1_.out
  have A_2_ : ((W.alloc (.cells #[.int .i64 i0, .int .i64 i1, .int .i64 i2] 67))).cell? ⟨W.heap.size, 2, none⟩ = some (.int .i64 i2) := cell_of_row _ _ 2 _ _ _ rA1_.out
  go_wp2
  go_ret
  exact ⟨rfl, G2_.out⟩

end Go.Proofs.Ytjkjodcgpdhldab
