/-
  Receivers: the program's ReceiverOk, AckOf; measured, copied, compared.
-/
import Derived.Test.YtnighnkkeiegnabRecvOk
import Derived.ProofKit
namespace Go.Proofs.Ytnighnkkeiegnab
open Go Go.RowKit

set_option maxHeartbeats 1000000 in
theorem implROk_any (W : World) (q : Int) (a : Option Addr) (len cap : Nat) (L : List (List Int)) (H : RLL W a len L) (hl : len ≤ 1048576) (hb : ∀ x ∈ L, x.length ≤ 1048576) :
    Calls Try.prog 68 #[rcV q a len cap] W (AnsN (.bool (decide (ROk q L))) W) := by
  have HR := Lib.hid H
  have HE := Lib.hid H.1
  have HB := Lib.hid hb
  clear H hb
  unfold rcV
  by_cases hq : IsQ q
  · have hd : decide (IsQ q) = true := decide_eq_true hq
    have HIQ := Lib.hid hq
    clear hq
    by_cases h1 : (len : Int) ≤ 1000
    · go_enter Try.func68, Try.ntmps68
      go_wp2_with fail
      go_at_call 99
      refine (implSeq_any q _).mono ?_
      rw [hd]
      rintro e w1 ⟨rfl, d1⟩
      have hcc := (d1.gby none).cell (show (W.alloc (.cells #[.int .i64 q, .slice a len cap] 52)).cell? ⟨W.heap.size, 1, none⟩ = some (.slice a len cap) from cell_of_row _ _ 1 _ _ _ (heap_alloc_new _ _)) (by simp)
      have G1 := Lib.hid (gby_trans (gby_alloc (gby_refl W none) _) (d1.gby none))
      clear d1

      go_wp2_with fail
      go_at_call 69
      refine (implBL_any _ _ _ _ L (HR.out.kept G1.out) hl HB.out).mono ?_
      rintro e w2 ⟨rfl, rfl⟩
      go_wp2
      go_ret
      refine ⟨ret_bool ?_, G1.out⟩
      have h2 := HE.out
      rw [Bool.eq_iff_iff, decide_eq_true_iff, decide_eq_true_iff]
      exact ⟨fun h => ⟨HIQ.out, by omega, h⟩, fun h => h.2.2⟩
    · go_enter Try.func68, Try.ntmps68
      go_wp2_with fail
      go_at_call 99
      refine (implSeq_any q _).mono ?_
      rw [hd]
      rintro e w1 ⟨rfl, d1⟩
      have hcc := (d1.gby none).cell (show (W.alloc (.cells #[.int .i64 q, .slice a len cap] 52)).cell? ⟨W.heap.size, 1, none⟩ = some (.slice a len cap) from cell_of_row _ _ 1 _ _ _ (heap_alloc_new _ _)) (by simp)
      have G1 := Lib.hid (gby_trans (gby_alloc (gby_refl W none) _) (d1.gby none))
      clear d1

      go_wp2
      go_ret
      have hnot : ¬ ROk q L := fun h => by have := h.2.1; have := HE.out; omega
      exact ⟨ret_bool (by simp [hnot]), G1.out⟩
  · have hd : decide (IsQ q) = false := decide_eq_false hq
    have HIQ := Lib.hid hq
    clear hq
    go_enter Try.func68, Try.ntmps68
    go_wp2_with fail
    go_at_call 99
    refine (implSeq_any q _).mono ?_
    rw [hd]
    rintro e w1 ⟨rfl, d1⟩
    have hcc := (d1.gby none).cell (show (W.alloc (.cells #[.int .i64 q, .slice a len cap] 52)).cell? ⟨W.heap.size, 1, none⟩ = some (.slice a len cap) from cell_of_row _ _ 1 _ _ _ (heap_alloc_new _ _)) (by simp)
    have G1 := Lib.hid (gby_trans (gby_alloc (gby_refl W none) _) (d1.gby none))
    clear d1

    go_wp2
    go_ret
    have hnot : ¬ ROk q L := fun h => HIQ.out h.1
    exact ⟨ret_bool (by simp [hnot]), G1.out⟩

/-- the answer of AckOf -/
def ackQ (q : Int) (L : List (List Int)) : Int := if ROk q L then (q + 15) % 16 else -1

set_option maxHeartbeats 1000000 in
theorem szRc_any (W : World) (q n : Int) (a : Option Addr) (len cap : Nat) (L : List (List Int)) (H : RLL W a len L) (hn : n ≤ 1048576) (h0 : 0 ≤ n) (hc : len ≤ 9223372036854775807) (hb : ∀ x ∈ L, x.length ≤ 9223372036854775807) :
    Calls Try.prog 37 #[rcV q a len cap, .int .i64 n] W (AnsN (.int .i64 (lessBy n (len + tot L len))) W) := by
  have HR := Lib.hid H
  have HB := Lib.hid hb
  clear H hb
  unfold rcV
  by_cases h : n < ((len + tot L len : Nat) : Int)
  · have hneg : (-1 : Int) < 0 := by omega
    rw [show lessBy n (len + tot L len) = -1 from if_pos h]
    have HH := Lib.hid h
    clear h
    go_enter Try.func37, Try.ntmps37
    go_wp2_with fail
    go_at_call 20
    refine (szLL_any _ a len cap L n (HR.out.kept (gby_alloc (gby_refl _ _) _)) hn h0 hc HB.out).mono ?_
    rw [show lessBy n (len + tot L len) = -1 from if_pos HH.out]
    rintro e w1 ⟨rfl, d1⟩
    have G1 := Lib.hid (gby_trans (gby_alloc (gby_refl W none) _) (d1.gby none))
    clear d1
    go_wp2
    go_ret
    exact ⟨rfl, G1.out⟩
  · have e1 : lessBy n (len + tot L len) = n - ((len + tot L len : Nat) : Int) := if_neg h
    obtain ⟨r, hr⟩ : ∃ r, r = lessBy n (len + tot L len) := ⟨_, rfl⟩
    have hneg : ¬ r < 0 := by rw [hr, e1]; omega
    rw [← hr]
    have HH := Lib.hid hr
    clear h e1 hr
    go_enter Try.func37, Try.ntmps37
    go_wp2_with fail
    go_at_call 20
    refine (szLL_any _ a len cap L n (HR.out.kept (gby_alloc (gby_refl _ _) _)) hn h0 hc HB.out).mono ?_
    rw [← HH.out]
    rintro e w1 ⟨rfl, d1⟩
    have G1 := Lib.hid (gby_trans (gby_alloc (gby_refl W none) _) (d1.gby none))
    clear d1
    go_wp2
    go_ret
    exact ⟨rfl, G1.out⟩

theorem chg_setp {w a : World} {lo hi : Nat} (h : Chg w a lo hi) (p : Addr) (h1 : lo ≤ p.block) (h2 : p.block < hi) (v : Value) : Chg w (a.setCell p v) lo hi :=
  ⟨h.os, h.tape, h.output, by simpa using h.size, fun k hk hn => (Below.heap_setCell _ _ _ _ (by omega)).trans (h.block k hk hn)⟩
theorem heap_pair (W : World) (a b : Obj) : ((W.alloc a).alloc b).heap[W.heap.size + 1]? = some b := by
  have e : (W.alloc a).heap.size = W.heap.size + 1 := by simp
  rw [← e]; exact heap_alloc_new _ _
theorem row_held {W w : World} {b : Nat} {o : Obj} (g : W.grownBy w none) (h : W.heap[b]? = some o) : w.heap[b]? = some o := by
  rw [g.block b (block_in h) (by simp)]; exact h

/-- a receiver whose rows lie in new memory -/
def MadeRc (q : Int) (L : List (List Int)) (W : World) (e : Ending) (w' : World) : Prop := ∃ d cap, e = .returned (rcV q d L.length cap) ∧ OwLL w' W.heap.size w'.heap.size (.slice d L.length cap) L ∧ W.grownBy w' none

set_option maxHeartbeats 1000000 in
theorem toRc_own (W : World) (q : Int) (d : Option Addr) (len cap : Nat) (L : List (List Int)) (H : RLL W d len L) (hl : len ≤ 1048576) (hb : ∀ x ∈ L, x.length ≤ 1048576) :
    Calls Try.prog 39 #[rcV q d len cap] W (MadeRc q L W) := by
  have HI := Lib.hid H
  have HB := Lib.hid hb
  clear H hb
  unfold rcV
  go_enter Try.func39, Try.ntmps39
  go_wp2_with fail
  go_at_call 22
  refine (toLL_any _ _ _ _ _ (HI.out.kept (gby_alloc (gby_alloc (gby_alloc (gby_refl _ _) _) _) _)) hl HB.out).mono ?_
  rintro e w1 ⟨vv, rfl, hi, hg⟩
  obtain ⟨d2, cap2, rfl, hi⟩ := hi
  have hr := row_held hg (heap_alloc_new _ _)
  simp only [World.size_alloc] at hr hi
  have r0 := cell_of_row w1 _ 0 _ _ _ hr
  have r1 := cell_of_row w1 _ 1 _ _ _ hr
  have f1 := frozen_of_row w1 _ 1 _ _ hr
  have hq := row_held hg (W := ((W.alloc _).alloc _).alloc _) (b := W.heap.size + 1) (by rw [heap_alloc_old _ _ (by simp)]; exact heap_pair W _ _)
  have q0 := cell_of_row w1 _ 0 _ _ _ hq
  have q1 := cell_of_row w1 _ 1 _ _ _ hq
  have z0 := frozen_of_row w1 _ 0 _ _ hq
  have z1 := frozen_of_row w1 _ 1 _ _ hq
  have HG := Lib.hid (gby_trans (gby_alloc (gby_alloc (gby_alloc (gby_refl W none) _) _) _) hg)
  have HJ := Lib.hid hi
  clear hr hi hg hq
  go_wp2
  refine bodyPost_ret (v := rcV q d2 L.length cap2) (by simp [results, go_sem, rcV, q0, q1]) rfl ⟨d2, cap2, rfl, ?_, ?_⟩
  · have ho : OwLL w1 (W.heap.size + 1 + 1 + 1) w1.heap.size (.slice d2 L.length cap2) L := ⟨d2, cap2, rfl, HJ.out⟩
    refine (ho.kept (lo' := W.heap.size) (hi' := W.heap.size + 3) ?_ (.inr (by omega))).wide (by omega) (by simp)
    iterate 3 (with_reducible refine chg_setp ?_ _ (by dsimp only; omega) (by dsimp only; omega) _)
    exact chg_gby (gby_refl _ _) _ _
  · iterate 3 (with_reducible refine gby_setnew ?_ _ (by dsimp only; omega) _)
    exact HG.out

set_option maxHeartbeats 1000000 in
theorem eqRc_same (W : World) (q : Int) (d1 d2 : Option Addr) (len c1 c2 : Nat) (L : List (List Int)) (H1 : RLL W d1 len L) (H2 : RLL W d2 len L) (hl : len ≤ 1048576) (hb : ∀ x ∈ L, x.length ≤ 1048576) :
    Calls Try.prog 41 #[rcV q d1 len c1, rcV q d2 len c2] W (AnsN (.bool true) W) := by
  have HI1 := Lib.hid H1
  have HI2 := Lib.hid H2
  have HB := Lib.hid hb
  clear H1 H2 hb
  unfold rcV
  have bk : (q != q) = false := by simp
  go_enter Try.func41, Try.ntmps41
  go_wp2_with fail
  go_at_call 25
  refine (eqLL_same _ _ _ _ _ _ L (HI1.out.kept (gby_alloc (gby_alloc (gby_refl _ _) _) _)) (HI2.out.kept (gby_alloc (gby_alloc (gby_refl _ _) _) _)) hl HB.out).mono ?_
  rintro e w1 ⟨rfl, d1⟩
  have D1 := Lib.hid (gby_trans (gby_alloc (gby_alloc (gby_refl W none) _) _) (d1.gby none))
  clear d1
  go_wp2
  go_ret
  exact ⟨rfl, D1.out⟩

end Go.Proofs.Ytnighnkkeiegnab
