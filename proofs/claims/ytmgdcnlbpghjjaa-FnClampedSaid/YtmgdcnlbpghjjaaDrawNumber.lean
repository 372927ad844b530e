/-
  Contract of the model's l01Number: any of its numbers fits 64 bits.
-/
import Derived.Test.YtmgdcnlbpghjjaaDraw
namespace Go.Proofs.Ytmgdcnlbpghjjaa
open Go Go.RowKit

theorem number_cells (w : World) : ∀ k, k < 10 → ∃ n, (w.alloc (.cells #[.int .i64 (-1), .int .i64 0, .int .i64 127, .int .i64 128, .int .i64 16383, .int .i64 16384, .int .i64 1000000000, .int .i64 1000000001, .int .i64 9223372036854775807, .int .i64 (-9223372036854775808)] 3)).cell? ⟨w.heap.size, k, none⟩ = some (.int .i64 n) ∧ I64 n := by
  intro k hk
  rw [cell_of_row _ _ _ _ _ _ (heap_alloc_new w _)]
  match k, hk with
  | 0, _ => exact ⟨_, rfl, by unfold I64; omega⟩
  | 1, _ => exact ⟨_, rfl, by unfold I64; omega⟩
  | 2, _ => exact ⟨_, rfl, by unfold I64; omega⟩
  | 3, _ => exact ⟨_, rfl, by unfold I64; omega⟩
  | 4, _ => exact ⟨_, rfl, by unfold I64; omega⟩
  | 5, _ => exact ⟨_, rfl, by unfold I64; omega⟩
  | 6, _ => exact ⟨_, rfl, by unfold I64; omega⟩
  | 7, _ => exact ⟨_, rfl, by unfold I64; omega⟩
  | 8, _ => exact ⟨_, rfl, by unfold I64; omega⟩
  | 9, _ => exact ⟨_, rfl, by unfold I64; omega⟩
  | n + 10, h => omega

set_option maxHeartbeats 400000 in
theorem number_any (w : World) (c : Nat) (H : Cur w c) :
    Calls Try.prog 23 #[.pointer (some ⟨c, 0, none⟩)] w (Drawn I64 w c) := by
  go_enter Try.func23, Try.ntmps23
  go_wp2_with fail
  go_at_call 24
  refine (below_any _ _ _ H (by omega) (by omega)).mono ?_
  rintro e w1 ⟨x, ⟨hx0, hx1⟩, rfl, H1, G1⟩
  have G := Lib.hid G1
  clear G1
  by_cases h0 : x = 0
  · subst h0
    have hlt := cur_lt H1
    go_wp2_with (go_at_call 30; refine (pickInt_any _ _ _ _ _ I64 (cur_kept H1 (World.grownBy_alloc w1 _ none) (by simp)) (by omega) (by omega) (by omega) (number_cells w1)).mono ?_; rintro e w2 ⟨y, hy, rfl, H2, G2⟩)
    go_ret
    exact ⟨y, hy, rfl, H2, gby_trans G.out (gby_trans (World.grownBy_alloc w1 _ _) G2)⟩
  · by_cases h1 : x = 1
    · subst h1
      go_wp2_with (go_at_call 24; refine (below_any _ _ _ H1 (by omega) (by omega)).mono ?_; rintro e w2 ⟨y, ⟨hy0, hy1⟩, rfl, H2, G2⟩)
      go_ret
      exact ⟨y, ⟨by omega, by omega⟩, rfl, H2, gby_trans G.out G2⟩
    · go_wp2_with (go_at_call 24; refine (below_any _ _ _ H1 (by omega) (by omega)).mono ?_; rintro e w2 ⟨y, ⟨hy0, hy1⟩, rfl, H2, G2⟩)
      go_ret
      exact ⟨y, ⟨by omega, by omega⟩, rfl, H2, gby_trans G.out G2⟩

end Go.Proofs.Ytmgdcnlbpghjjaa
