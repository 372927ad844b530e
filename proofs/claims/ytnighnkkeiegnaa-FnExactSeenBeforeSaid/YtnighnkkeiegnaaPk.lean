/-
  Packets as the law hands them over: opened, measured, copied, compared.
-/
import Derived.Test.YtnighnkkeiegnaaIntsEq
import Derived.Test.YtnighnkkeiegnaaRule
import Derived.Deep.RegionHeld
namespace Go.Proofs.Ytnighnkkeiegnaa
open Go Go.RowKit

/-- a packet's value -/
def pkV (k f t a l g s : Int) (d : Option Addr) (len cap : Nat) : Value := .agg #[.int .i64 k, .int .i64 f, .int .i64 t, .int .i64 a, .int .i64 l, .int .i64 g, .int .i64 s, .slice d len cap]

set_option maxHeartbeats 1000000 in
theorem szPk_any (W : World) (k f t a l g s n : Int) (d : Option Addr) (len cap : Nat) (hl : (len : Int) ≤ n) (hn : n ≤ 1048576) :
    Calls Try.prog 37 #[pkV k f t a l g s d len cap, .int .i64 n] W (fun e w' => e = .returned (.int .i64 (n - len)) ∧ W.grownBy w' none) := by
  unfold pkV
  go_enter Try.func37, Try.ntmps37
  go_wp2
  go_ret
  exact ⟨rfl, gby_alloc (gby_refl _ _) _⟩

/-- a row that a later world still holds -/
theorem row_later {W w : World} {b : Nat} {o : Obj} (g : W.grownBy w none) (h : W.heap[b]? = some o) : w.heap[b]? = some o := by
  have hlt : b < W.heap.size := by
    rcases Nat.lt_or_ge b W.heap.size with h' | h'
    · exact h'
    · rw [Array.getElem?_eq_none h'] at h; cases h
  rw [g.block b hlt (by simp)]; exact h

set_option maxHeartbeats 1000000 in
theorem toPk_any (W : World) (k f t a l g s : Int) (d : Option Addr) (len cap : Nat) (xs : List Int) (H : ISl W d len xs) (hl : len ≤ 1048576) :
    Calls Try.prog 39 #[pkV k f t a l g s d len cap] W (fun e w' => ∃ c, e = .returned (pkV k f t a l g s (some ⟨c, 0, none⟩) len len) ∧ W.heap.size ≤ c ∧ ISl w' (some ⟨c, 0, none⟩) len xs ∧ W.grownBy w' none) := by
  have HI := Lib.hid H
  clear H
  unfold pkV
  go_enter Try.func39, Try.ntmps39
  go_wp2_with fail
  go_at_call 24
  refine (toInts_any _ _ _ _ _ (HI.out.kept (gby_alloc (gby_alloc (gby_alloc (gby_refl _ _) _) _) _)) hl).mono ?_
  rintro e w1 ⟨c, rfl, hc, hi, hg⟩
  have hr := row_later hg (heap_alloc_new _ _)
  simp only [World.size_alloc] at hr hc
  have r0 := cell_of_row w1 _ 0 _ _ _ hr
  have r1 := cell_of_row w1 _ 1 _ _ _ hr
  have r2 := cell_of_row w1 _ 2 _ _ _ hr
  have r3 := cell_of_row w1 _ 3 _ _ _ hr
  have r4 := cell_of_row w1 _ 4 _ _ _ hr
  have r5 := cell_of_row w1 _ 5 _ _ _ hr
  have r6 := cell_of_row w1 _ 6 _ _ _ hr
  have r7 := cell_of_row w1 _ 7 _ _ _ hr
  have f7 := frozen_of_row w1 _ 7 _ _ hr
  have hq := row_later hg (W := ((W.alloc _).alloc _).alloc _) (b := W.heap.size + 1) (by rw [heap_alloc_old _ _ (by simp)]; exact heap_two W _ _)
  have q0 := cell_of_row w1 _ 0 _ _ _ hq
  have q1 := cell_of_row w1 _ 1 _ _ _ hq
  have q2 := cell_of_row w1 _ 2 _ _ _ hq
  have q3 := cell_of_row w1 _ 3 _ _ _ hq
  have q4 := cell_of_row w1 _ 4 _ _ _ hq
  have q5 := cell_of_row w1 _ 5 _ _ _ hq
  have q6 := cell_of_row w1 _ 6 _ _ _ hq
  have q7 := cell_of_row w1 _ 7 _ _ _ hq
  have z0 := frozen_of_row w1 _ 0 _ _ hq
  have z1 := frozen_of_row w1 _ 1 _ _ hq
  have z2 := frozen_of_row w1 _ 2 _ _ hq
  have z3 := frozen_of_row w1 _ 3 _ _ hq
  have z4 := frozen_of_row w1 _ 4 _ _ hq
  have z5 := frozen_of_row w1 _ 5 _ _ hq
  have z6 := frozen_of_row w1 _ 6 _ _ hq
  have z7 := frozen_of_row w1 _ 7 _ _ hq
  have HG := Lib.hid (gby_trans (gby_alloc (gby_alloc (gby_alloc (gby_refl W none) _) _) _) hg)
  have HJ := Lib.hid hi
  clear hr hi hg hq
  go_wp2
  refine bodyPost_ret (v := pkV k f t a l g s (some ⟨c, 0, none⟩) len len) (by simp [results, go_sem, pkV, q0, q1, q2, q3, q4, q5, q6, q7]) rfl ⟨c, rfl, by omega, ?_, ?_⟩
  · obtain ⟨h1, h2⟩ := HJ.out
    refine ⟨h1, h2.imp id ?_⟩
    rintro ⟨b, off, hb, hcell⟩
    obtain ⟨rfl, rfl⟩ : c = b ∧ 0 = off := by simpa using hb
    refine ⟨c, 0, rfl, fun j hj => ?_⟩
    rw [← hcell j hj]
    iterate 9 (refine (World.cell?_setCell_far _ _ _ _ (by dsimp only; omega)).trans ?_)
    rfl
  · iterate 9 (with_reducible refine gby_setnew ?_ _ (by dsimp only; omega) _)
    exact HG.out

end Go.Proofs.Ytnighnkkeiegnaa
