/-
  Packets with their data: copied by the law, marked, held.
-/
import Derived.Test.YtokpmbagidokkaaPk
import Derived.Test.YtokpmbagidokkaaChg
namespace Go.Proofs.Ytokpmbagidokkaa
open Go Go.RowKit

theorem chg_set {w a : World} {lo hi : Nat} (h : Chg w a lo hi) (p : Addr) (h1 : lo ≤ p.block) (h2 : p.block < hi) (v : Value) : Chg w (a.setCell p v) lo hi :=
  ⟨h.os, h.tape, h.output, by simpa using h.size, fun k hk hn => (Below.heap_setCell _ _ _ _ (by omega)).trans (h.block k hk hn)⟩

theorem OwI.isl {w : World} {lo hi : Nat} {a : Option Addr} {n cap : Nat} {xs : List Int} (h : OwI w lo hi (.slice a n cap) xs) : ISl w a n xs := by
  obtain ⟨a', cap', hv, h, _⟩ := h
  injection hv with h1 h2 h3
  subst h1 h2
  exact h.isl

/-- a packet whose data lie in new memory -/
def MadePk (k f t a l g s : Int) (xs : List Int) (W : World) (e : Ending) (w' : World) : Prop := ∃ d cap, e = .returned (pkV k f t a l g s d xs.length cap) ∧ OwI w' W.heap.size w'.heap.size (.slice d xs.length cap) xs ∧ W.grownBy w' none

set_option maxHeartbeats 1000000 in
theorem toPk_own (W : World) (k f t a l g s : Int) (d : Option Addr) (len cap : Nat) (xs : List Int) (H : ISl W d len xs) (hl : len ≤ 1048576) :
    Calls Try.prog 26 #[pkV k f t a l g s d len cap] W (MadePk k f t a l g s xs W) := by
  have HI := Lib.hid H
  clear H
  unfold pkV
  go_enter Try.func26, Try.ntmps26
  go_wp2_with fail
  go_at_call 33
  refine (toI_any _ _ _ _ _ (HI.out.kept (gby_alloc (gby_alloc (gby_alloc (gby_refl _ _) _) _) _)) hl).mono ?_
  rintro e w1 ⟨vv, rfl, hi, hg⟩
  obtain ⟨d2, cap2, rfl, hi⟩ := hi
  have hr := row_later hg (heap_alloc_new _ _)
  simp only [World.size_alloc] at hr hi
  have r0 := cell_of_row w1 _ 0 _ _ _ hr
  have r1 := cell_of_row w1 _ 1 _ _ _ hr
  have r2 := cell_of_row w1 _ 2 _ _ _ hr
  have r3 := cell_of_row w1 _ 3 _ _ _ hr
  have r4 := cell_of_row w1 _ 4 _ _ _ hr
  have r5 := cell_of_row w1 _ 5 _ _ _ hr
  have r6 := cell_of_row w1 _ 6 _ _ _ hr
  have r7 := cell_of_row w1 _ 7 _ _ _ hr
  have f7 := frozen_of_row w1 _ 7 _ _ hr
  have hq := row_later hg (W := ((W.alloc _).alloc _).alloc _) (b := W.heap.size + 1) (by rw [heap_alloc_old _ _ (by simp)]; exact heap_two W _ _)
  have q0 := cell_of_row w1 _ 0 _ _ _ hq
  have q1 := cell_of_row w1 _ 1 _ _ _ hq
  have q2 := cell_of_row w1 _ 2 _ _ _ hq
  have q3 := cell_of_row w1 _ 3 _ _ _ hq
  have q4 := cell_of_row w1 _ 4 _ _ _ hq
  have q5 := cell_of_row w1 _ 5 _ _ _ hq
  have q6 := cell_of_row w1 _ 6 _ _ _ hq
  have q7 := cell_of_row w1 _ 7 _ _ _ hq
  have z0 := frozen_of_row w1 _ 0 _ _ hq
  have z1 := frozen_of_row w1 _ 1 _ _ hq
  have z2 := frozen_of_row w1 _ 2 _ _ hq
  have z3 := frozen_of_row w1 _ 3 _ _ hq
  have z4 := frozen_of_row w1 _ 4 _ _ hq
  have z5 := frozen_of_row w1 _ 5 _ _ hq
  have z6 := frozen_of_row w1 _ 6 _ _ hq
  have z7 := frozen_of_row w1 _ 7 _ _ hq
  have HG := Lib.hid (gby_trans (gby_alloc (gby_alloc (gby_alloc (gby_refl W none) _) _) _) hg)
  have HJ := Lib.hid hi
  clear hr hi hg hq
  go_wp2
  refine bodyPost_ret (v := pkV k f t a l g s d2 xs.length cap2) (by simp [results, go_sem, pkV, q0, q1, q2, q3, q4, q5, q6, q7]) rfl ⟨d2, cap2, rfl, ?_, ?_⟩
  · have ho : OwI w1 (W.heap.size + 1 + 1 + 1) w1.heap.size (.slice d2 xs.length cap2) xs := ⟨d2, cap2, rfl, HJ.out⟩
    refine (ho.kept (lo' := W.heap.size) (hi' := W.heap.size + 3) ?_ (.inr (by omega))).wide (by omega) (by simp)
    iterate 9 (with_reducible refine chg_set ?_ _ (by dsimp only; omega) (by dsimp only; omega) _)
    exact chg_gby (gby_refl _ _) _ _
  · iterate 9 (with_reducible refine gby_setnew ?_ _ (by dsimp only; omega) _)
    exact HG.out

set_option maxHeartbeats 1000000 in
theorem markPk_any (w : World) (lo hi m : Nat) (k f t a l g s : Int) (d : Option Addr) (len cap : Nat) (xs : List Int) (h1 : OwI w lo hi (.slice d len cap) xs) (hl : xs.length ≤ 2000000) (hm2 : m ≤ 1000000000) :
    Calls Try.prog 29 #[pkV k f t a l g s d len cap, .int .i64 (m : Int)] w (fun e w' => e = .returned (.int .i64 ((m + xs.length : Nat) : Int)) ∧ OwI w' lo hi (.slice d len cap) (marksI m xs.length) ∧ Chg w w' lo hi) := by
  have HO := Lib.hid h1
  clear h1
  unfold pkV
  go_enter Try.func29, Try.ntmps29
  go_wp2_with fail
  go_at_call 30
  refine (mkI_any _ lo hi m _ xs (HO.out.grow (gby_alloc (gby_refl _ _) _)) hl hm2).mono ?_
  rintro e w1 ⟨rfl, o1, c1⟩
  have O1 := Lib.hid o1
  have C1 := Lib.hid (chg_trans (chg_gby (gby_alloc (gby_refl w none) _) lo hi) c1)
  clear o1 c1
  go_wp2
  go_ret
  exact ⟨rfl, O1.out, C1.out⟩

set_option maxHeartbeats 1000000 in
theorem heldPk_any (w : World) (m n : Nat) (k f t a l g s : Int) (d : Option Addr) (len cap : Nat) (h1 : RdI w (.slice d len cap) (marksI m n)) (hl : n ≤ 2000000) (hm2 : m ≤ 1000000000) :
    Calls Try.prog 34 #[pkV k f t a l g s d len cap, .int .i64 (m : Int)] w (fun e w' => e = .returned (.int .i64 ((m + n : Nat) : Int)) ∧ w.grownBy w' none) := by
  have HO := Lib.hid h1
  clear h1
  unfold pkV
  go_enter Try.func34, Try.ntmps34
  go_wp2_with fail
  go_at_call 31
  refine (hdI_any _ m n _ (HO.out.kept (gby_alloc (gby_refl _ _) _)) hl hm2).mono ?_
  rintro e w1 ⟨rfl, d1⟩
  have G1 := Lib.hid (gby_trans (gby_alloc (gby_refl w none) _) (d1.gby none))
  clear d1
  go_wp2
  go_ret
  exact ⟨rfl, G1.out⟩

end Go.Proofs.Ytokpmbagidokkaa
