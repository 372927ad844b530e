/-
  Contracts of the table of rules.
-/
import Derived.Test.YtokpmbagidokkacBits2Impl
import Derived.Laws.EntriesVeiled
import Derived.Laws.Tables
import Derived.Deep.WholeRow
import Derived.Deep.Cut
namespace Go.Proofs.Ytokpmbagidokkac
open Go Go.RowKit

/-- two blocks that were made one after the other -/
structure Two (W w2 : World) (C : Array Value) (t : TypeId) : Prop where
  gby : W.grownBy w2 none
  size : w2.heap.size = W.heap.size + 2
  res : w2.heap[W.heap.size]? = some (.cells #[.string ⟨#[]⟩, .int .i64 0, .nilFunc] t (0, 0))
  row : ∃ u, w2.heap[W.heap.size + 1]? = some (.cells C u (0, 0))

theorem two_made (W : World) (old C : Array Value) (t u : TypeId) : Two W (((W.alloc (.cells #[.string ⟨#[]⟩, .int .i64 0, .nilFunc] t)).alloc (.cells old u)).setRow (W.heap.size + 1) C) C t := by
  have e : (W.alloc (.cells #[.string ⟨#[]⟩, .int .i64 0, .nilFunc] t)).heap.size = W.heap.size + 1 := by simp
  rw [← e, World.setRow_alloc_new]
  refine ⟨gby_alloc (gby_alloc (gby_refl _ _) _) _, by simp, ?_, ⟨u, ?_⟩⟩
  · rw [heap_alloc_old _ _ (by simp)]; exact heap_alloc_new _ _
  · rw [← e]; exact heap_alloc_new _ _

theorem Two.at {W w2 : World} {C : Array Value} {t : TypeId} (h : Two W w2 C t) (j : Nat) (v : Value) (hv : C[j]? = some v) : w2.cell? ⟨W.heap.size + 1, j, none⟩ = some v := by
  obtain ⟨u, hu⟩ := h.row
  rw [cell_of_row _ _ j C u (0, 0) hu]; exact hv

/-- the table as it is laid at first -/
def zeroCells : Array Value := #[.string ⟨#[]⟩, .int .i64 0, .nilFunc, .string ⟨#[]⟩, .int .i64 0, .nilFunc, .string ⟨#[]⟩, .int .i64 0, .nilFunc, .string ⟨#[]⟩, .int .i64 0, .nilFunc, .string ⟨#[]⟩, .int .i64 0, .nilFunc, .string ⟨#[]⟩, .int .i64 0, .nilFunc, .string ⟨#[]⟩, .int .i64 0, .nilFunc]

theorem heap_two (W : World) (a b : Obj) : ((W.alloc a).alloc b).heap[W.heap.size + 1]? = some b := by
  have e : (W.alloc a).heap.size = W.heap.size + 1 := by simp
  rw [← e]; exact heap_alloc_new _ _

end Go.Proofs.Ytokpmbagidokkac
