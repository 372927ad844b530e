/-
  Contract of the model's l01Number: any of its numbers fits 64 bits.
-/
import Derived.Test.YtomiicegkdogkaaDraw
namespace Go.Proofs.Ytomiicegkdogkaa
open Go Go.RowKit

set_option maxHeartbeats 400000 in
/-- one of the numbers of a list -/
theorem pickInt_any (w : World) (c b len cap : Nat) (P : Int → Prop) (H : Cur w c) (hp : 0 < len) (hl : len ≤ 1048576) (hne : b ≠ c)
    (hk : ∀ k, k < len → ∃ n, w.cell? ⟨b, k, none⟩ = some (.int .i64 n) ∧ P n) :
    Calls Try.prog 111 #[.pointer (some ⟨c, 0, none⟩), .slice (some ⟨b, 0, none⟩) len cap] w (Drawn P w c) := by
  have HK := Lib.hid hk
  clear hk
  go_enter Try.func111, Try.ntmps111
  go_wp2_with fail
  go_at_call 75
  refine (below_any _ _ _ H (by omega) (by omega)).mono ?_
  rintro e w1 ⟨x, ⟨hx0, hx1⟩, rfl, H1, G1⟩
  obtain ⟨j, rfl⟩ := Int.eq_ofNat_of_zero_le hx0
  obtain ⟨n, hn, hP⟩ := HK.out j (by omega)
  have hc : w1.cell? ⟨b, j, none⟩ = some (.int .i64 n) := G1.cell hn (by simpa using hne)
  clear hn
  go_wp2
  go_ret
  exact ⟨n, hP, rfl, H1, G1⟩

theorem number_cells (w : World) : ∀ k, k < 10 → ∃ n, (w.alloc (.cells #[.int .i64 (-1), .int .i64 0, .int .i64 127, .int .i64 128, .int .i64 16383, .int .i64 16384, .int .i64 1000000000, .int .i64 1000000001, .int .i64 9223372036854775807, .int .i64 (-9223372036854775808)] 3)).cell? ⟨w.heap.size, k, none⟩ = some (.int .i64 n) ∧ I64 n := by
  intro k hk
  rw [cell_of_row _ _ _ _ _ _ (heap_alloc_new w _)]
  match k, hk with
  | 0, _ => exact ⟨_, rfl, by unfold I64; omega⟩
  | 1, _ => exact ⟨_, rfl, by unfold I64; omega⟩
  | 2, _ => exact ⟨_, rfl, by unfold I64; omega⟩
  | 3, _ => exact ⟨_, rfl, by unfold I64; omega⟩
  | 4, _ => exact ⟨_, rfl, by unfold I64; omega⟩
  | 5, _ => exact ⟨_, rfl, by unfold I64; omega⟩
  | 6, _ => exact ⟨_, rfl, by unfold I64; omega⟩
  | 7, _ => exact ⟨_, rfl, by unfold I64; omega⟩
  | 8, _ => exact ⟨_, rfl, by unfold I64; omega⟩
  | 9, _ => exact ⟨_, rfl, by unfold I64; omega⟩
  | n + 10, h => omega

end Go.Proofs.Ytomiicegkdogkaa
