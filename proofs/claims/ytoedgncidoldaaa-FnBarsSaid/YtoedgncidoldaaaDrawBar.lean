/-
  Registers drawn by the model.
-/
import Derived.Test.YtoedgncidoldaaaBar
import Derived.Test.YtoedgncidoldaaaDrawNumber
import Derived.Test.YtoedgncidoldaaaBarW
import Derived.Deep.RegionHeld3
namespace Go.Proofs.Ytoedgncidoldaaa
open Go Go.RowKit
set_option linter.unusedVariables false

def SzOr (n : Int) : Prop := n = 0 ∨ BSz n
theorem bsz_pow (k : Nat) (h4 : 4 ≤ k) (h : k ≤ 15) : BSz ((2 ^ k : Nat) : Int) := by
  refine ⟨⟨k, by omega, rfl⟩, ?_, ?_⟩
  · have : 2 ^ 4 ≤ 2 ^ k := Nat.pow_le_pow_right (by omega) h4
    omega
  · have : 2 ^ k ≤ 2 ^ 15 := Nat.pow_le_pow_right (by omega) h
    omega
theorem bar_cells (w : World) : ∀ k, k < 6 → ∃ n, (w.alloc (.cells #[.int .i64 16, .int .i64 64, .int .i64 256, .int .i64 4096, .int .i64 32768, .int .i64 0] 3)).cell? ⟨w.heap.size, k, none⟩ = some (.int .i64 n) ∧ SzOr n := by
  intro k hk
  rw [cell_of_row _ _ _ _ _ _ (heap_alloc_new w _)]
  match k, hk with
  | 0, _ => exact ⟨_, rfl, .inr (bsz_pow 4 (by omega) (by omega))⟩
  | 1, _ => exact ⟨_, rfl, .inr (bsz_pow 6 (by omega) (by omega))⟩
  | 2, _ => exact ⟨_, rfl, .inr (bsz_pow 8 (by omega) (by omega))⟩
  | 3, _ => exact ⟨_, rfl, .inr (bsz_pow 12 (by omega) (by omega))⟩
  | 4, _ => exact ⟨_, rfl, .inr (bsz_pow 15 (by omega) (by omega))⟩
  | 5, _ => exact ⟨_, rfl, .inl rfl⟩
  | n + 6, h => omega

theorem gby_weak {w a : World} (g : w.grownBy a none) (r : Option Nat) : w.grownBy a r := ⟨g.os, g.tape, g.output, g.size, fun k hk _ => g.block k hk (by simp)⟩
theorem far2b {w : World} {b j : Nat} {v : Value} {p q : Addr} {x y : Value} (h : w.cell? ⟨b, j, none⟩ = some v) (hp : b ≠ p.block) (hq : b ≠ q.block) : ((w.setCell p x).setCell q y).cell? ⟨b, j, none⟩ = some v := by
  rw [World.cell?_setCell_far _ _ _ _ (fun e => hq e.symm), World.cell?_setCell_far _ _ _ _ (fun e => hp e.symm)]; exact h
theorem bok_zero {s : Int} (h : SzOr s) : BOk s 0 := by
  rcases h with rfl | h
  · exact .inl ⟨rfl, rfl⟩
  · exact .inr ⟨h, ⟨by omega, by have := h.2.2; omega⟩, by simp⟩
theorem bok_write {s v : Int} (h : BSz s) (h0 : 0 ≤ v) (h1 : v ≤ 65535) : BOk s (v - v % s) := by
  have hs1 := h.2.1
  obtain ⟨m1, m2, _, m4, _, m6, _⟩ := mod_facts v s h0 (by omega)
  refine .inr ⟨h, ⟨by omega, ?_⟩, by rw [← m4]; exact Int.mul_emod_left _ _⟩
  obtain ⟨⟨k, _, rfl⟩, _, h3⟩ := h
  have hk : k ≤ 15 := by
    rcases Nat.lt_or_ge 15 k with q | q
    · have : 2 ^ 16 ≤ 2 ^ k := Nat.pow_le_pow_right (by omega) q
      omega
    · exact q
  have e : (65536 : Int) = ((2 ^ (16 - k) : Nat) : Int) * ((2 ^ k : Nat) : Int) := by
    rw [← Int.natCast_mul, ← Nat.pow_add, show 16 - k + k = 16 by omega]; rfl
  have hlt : v / ((2 ^ k : Nat) : Int) < ((2 ^ (16 - k) : Nat) : Int) := Int.ediv_lt_of_lt_mul (by omega) (by omega)
  have := Int.mul_le_mul_of_nonneg_right (show v / ((2 ^ k : Nat) : Int) + 1 ≤ ((2 ^ (16 - k) : Nat) : Int) from hlt) (show (0 : Int) ≤ ((2 ^ k : Nat) : Int) by omega)
  rw [Int.add_mul, Int.one_mul, m4, ← e] at this
  omega
theorem wr_drawn {s v : Int} (h : SzOr s) (h0 : 0 ≤ v) (h1 : v ≤ 65535) : ∃ b', BOk s b' ∧ ∀ W : World, Calls Try.prog 24 #[.agg #[.int .i64 s, .int .i64 0], .int .i64 v] W (AnsN (.agg #[.int .i64 s, .int .i64 b']) W) := by
  rcases h with rfl | h
  · exact ⟨0, .inl ⟨rfl, rfl⟩, fun W => specWr_no 0 0 v W (fun q => q.2.2 rfl)⟩
  · exact ⟨v - v % s, bok_write h h0 h1, fun W => specWr_yes s 0 v W (bok_zero (.inr h)) h0 h1 (by have := h.2.1; omega)⟩

set_option maxRecDepth 8000 in
set_option maxHeartbeats 4000000 in
theorem bar23_any (w : World) (c : Nat) (H : Cur w c) : Calls Try.prog 57 #[.pointer (some ⟨c, 0, none⟩)] w (fun e w' => ∃ s b, BOk s b ∧ e = .returned (.agg #[.int .i64 s, .int .i64 b]) ∧ w.grownBy w' (some c)) := by
  have hc := cur_lt H
  have HC := Lib.hid H
  have hZ := Lib.hid (heap_alloc_new w (.cells #[.int .i64 0, .int .i64 0] 30))
  clear H
  go_enter Try.func57, Try.ntmps57
  go_wp2_with fail
  go_at_call 65
  refine (pickInt_any _ _ _ _ _ SzOr (cur_kept (cur_kept HC.out (World.grownBy_alloc w _ none) (by simp)) (World.grownBy_alloc _ _ none) (by simp)) (by omega) (by omega) (by omega) (fun k hk => ?_)).mono ?_
  · obtain ⟨n, h1, h2⟩ := bar_cells (w.alloc (.cells #[.int .i64 0, .int .i64 0] 30)) k hk
    exact ⟨n, by simpa using h1, h2⟩
  rintro e w1 ⟨s, hs, rfl, H1, G1⟩
  have hz1 : w1.heap[w.heap.size]? = some (.cells #[.int .i64 0, .int .i64 0] 30 (0, 0)) := (G1.block _ (by simp; omega) (by simp; omega)).trans (by rw [heap_alloc_old _ _ (by simp)]; exact hZ.out)
  have HZ1 := Lib.hid hz1
  have sz1 := G1.size
  simp only [World.size_alloc] at sz1
  have HS := Lib.hid hs
  have H1' := Lib.hid H1
  have HG1 := Lib.hid (gby_trans (gby_alloc (gby_alloc (gby_refl w (some c)) _) _) G1)
  have hc1 := cur_lt H1
  clear hs H1 G1 hz1
  have k0 : (w1.alloc (.cells #[.int .i64 s, .int .i64 0] 30)).cell? ⟨w1.heap.size, 0, none⟩ = some (.int .i64 s) := cell_of_row _ _ 0 _ _ _ (heap_alloc_new w1 _)
  have k1 : (w1.alloc (.cells #[.int .i64 s, .int .i64 0] 30)).cell? ⟨w1.heap.size, 1, none⟩ = some (.int .i64 0) := cell_of_row _ _ 1 _ _ _ (heap_alloc_new w1 _)
  go_wp2_with fail
  go_region_held3 (fun w' => w'.cell? ⟨w1.heap.size, 0, none⟩ = some (.int .i64 s) ∧ w'.cell? ⟨w1.heap.size, 1, none⟩ = some (.int .i64 0))
    (first | exact ⟨k0, k1⟩ | exact ⟨q0, q1⟩ | exact ⟨r0, r1⟩ | exact ⟨far2b r0 (by dsimp only; omega) (by dsimp only; omega), far2b r1 (by dsimp only; omega) (by dsimp only; omega)⟩ | fail)
    (first
      | (go_at_call 59
         refine (below_any _ _ _ (cur_kept H1'.out (gby_drew (World.grownBy_alloc w1 _ none)) (by simp)) (by omega) (by omega)).mono ?_
         rintro e w2 ⟨z, ⟨hz, hz'⟩, rfl, H2, G2⟩
         have q0 : w2.cell? ⟨w1.heap.size, 0, none⟩ = some (.int .i64 s) := G2.cell k0 (by simp; omega)
         have q1 : w2.cell? ⟨w1.heap.size, 1, none⟩ = some (.int .i64 0) := G2.cell k1 (by simp; omega)
         obtain ⟨b', hb', hw⟩ := wr_drawn HS.out hz (show z ≤ 65535 by omega)
         have HW := Lib.hid hw
         have HB' := Lib.hid hb'
         have hZ2 := Lib.hid (show w2.heap[w.heap.size]? = some (.cells #[.int .i64 0, .int .i64 0] 30 (0, 0)) from (G2.block _ (by simp; omega) (by simp; omega)).trans (by show (w1.alloc _).heap[_]? = _; rw [heap_alloc_old _ _ (by omega)]; exact HZ1.out))
         have HG2 := Lib.hid (gby_trans (gby_drew (gby_trans HG1.out (gby_alloc (gby_refl w1 (some c)) (.cells #[.int .i64 s, .int .i64 0] 30)))) G2)
         have sz2 := G2.size
         clear hw hb' G2 H2)
      | (go_at_call 24
         refine (HW.out _).mono ?_
         rintro e w3 ⟨rfl, g3⟩
         have r0 : w3.cell? ⟨w1.heap.size, 0, none⟩ = some (.int .i64 s) := g3.cell q0 (by simp)
         have r1 : w3.cell? ⟨w1.heap.size, 1, none⟩ = some (.int .i64 0) := g3.cell q1 (by simp)
         have Z3 := row_held g3 hZ2.out
         have y0 := cell_of_row w3 _ 0 _ _ _ Z3
         have y1 := cell_of_row w3 _ 1 _ _ _ Z3
         have f0 := frozen_of_row w3 _ 0 _ _ Z3
         have f1 := frozen_of_row w3 _ 1 _ _ Z3)
      | fail)
  all_goals
    have ZR := Lib.hid (heap_setCell_same _ _ 1 _ _ (.int .i64 b') (heap_setCell_same w3 _ 0 _ _ (.int .i64 s) Z3))
    have z0 : ((w3.setCell ⟨w.heap.size, 0, none⟩ (.int .i64 s)).setCell ⟨w.heap.size, 1, none⟩ (.int .i64 b')).cell? ⟨w.heap.size, 0, none⟩ = some (.int .i64 s) := cell_of_row _ _ 0 _ _ _ ZR.out
    have z1 : ((w3.setCell ⟨w.heap.size, 0, none⟩ (.int .i64 s)).setCell ⟨w.heap.size, 1, none⟩ (.int .i64 b')).cell? ⟨w.heap.size, 1, none⟩ = some (.int .i64 b') := cell_of_row _ _ 1 _ _ _ ZR.out
    have HG3 := Lib.hid (gby_trans HG2.out (gby_weak g3 (some c)))
    clear Z3 g3
    go_wp2
    refine bodyPost_ret (v := .agg #[.int .i64 s, .int .i64 b']) (by simp [results, go_sem, z0, z1]) rfl ⟨s, b', HB'.out, rfl, ?_⟩
    exact gby_setnew (gby_setnew HG3.out _ (Nat.le_refl _) _) _ (Nat.le_refl _) _

end Go.Proofs.Ytoedgncidoldaaa
