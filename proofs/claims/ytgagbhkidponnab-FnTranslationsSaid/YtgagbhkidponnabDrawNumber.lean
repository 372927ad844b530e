/-
  Contract of the model's l01Number: any of its numbers fits 64 bits.
-/
import Derived.Test.YtgagbhkidponnabDraw
namespace Go.Proofs.Ytgagbhkidponnab
open Go Go.RowKit

theorem number_cells (w : World) : ∀ k, k < 10 → ∃ n, (w.alloc (.cells #[.int .i64 (-1), .int .i64 0, .int .i64 127, .int .i64 128, .int .i64 16383, .int .i64 16384, .int .i64 1000000000, .int .i64 1000000001, .int .i64 9223372036854775807, .int .i64 (-9223372036854775808)] 3)).cell? ⟨w.heap.size, k, none⟩ = some (.int .i64 n) ∧ I64 n := by
  intro k hk
  rw [cell_of_row _ _ _ _ _ _ (heap_alloc_new w _)]
  match k, hk with
  | 0, _ => exact ⟨_, rfl, by unfold I64; omega⟩
  | 1, _ => exact ⟨_, rfl, by unfold I64; omega⟩
  | 2, _ => exact ⟨_, rfl, by unfold I64; omega⟩
  | 3, _ => exact ⟨_, rfl, by unfold I64; omega⟩
  | 4, _ => exact ⟨_, rfl, by unfold I64; omega⟩
  | 5, _ => exact ⟨_, rfl, by unfold I64; omega⟩
  | 6, _ => exact ⟨_, rfl, by unfold I64; omega⟩
  | 7, _ => exact ⟨_, rfl, by unfold I64; omega⟩
  | 8, _ => exact ⟨_, rfl, by unfold I64; omega⟩
  | 9, _ => exact ⟨_, rfl, by unfold I64; omega⟩
  | n + 10, h => omega

end Go.Proofs.Ytgagbhkidponnab
