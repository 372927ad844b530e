/-
  Credits copied by the model.
-/
import Derived.Test.YtgagbhkidponnacStepApp
import Derived.Test.YtgagbhkidponnacQCredits
import Derived.Test.YtgagbhkidponnacCopyCr
namespace Go.Proofs.Ytgagbhkidponnac
open Go Go.RowKit
set_option linter.unusedVariables false

theorem chg_of_row {w x y : World} {B : Nat} (g : w.grownBy x none) (h : x.grownBy y (some B)) : Chg w y B (B + 1) :=
  chg_trans (chg_gby g B (B + 1)) (chg_row h (fun i e => by cases e; omega))

set_option maxRecDepth 8000 in
set_option maxHeartbeats 4000000 in
theorem l14Copy_d (W : World) (v0 v1 : Value) (xs0 xs1 : List Int) (H0 : RdL shI W v0 xs0) (H1 : RdL shI W v1 xs1) (hl0 : szL shI xs0 ≤ 1048576) (hl1 : szL shI xs1 ≤ 1048576) :
    Calls Try.prog 82 #[vCredits v0 v1] W (NewCredits xs0 xs1 W) := by
  rw [szL_I] at hl0 hl1
  obtain ⟨a0, c0, rfl, hi0, hc0⟩ := rdI_in H0
  obtain ⟨a1, c1, rfl, hi1, hc1⟩ := rdI_in H1
  obtain ⟨n0, hn0⟩ : ∃ n, n = xs0.length := ⟨_, rfl⟩
  obtain ⟨n1, hn1⟩ : ∃ n, n = xs1.length := ⟨_, rfl⟩
  rw [← hn0] at hi0 hl0 hc0 ⊢
  rw [← hn1] at hi1 hl1 hc1 ⊢
  have HI0 := Lib.hid hi0
  have HI1 := Lib.hid hi1
  have HN0 := Lib.hid hn0
  have HN1 := Lib.hid hn1
  have HK0 := Lib.hid hc0.1
  have HK1 := Lib.hid hc1.1
  clear H0 H1 hi0 hi1 hn0 hn1 hc0 hc1
  unfold vCredits
  have hrA := Lib.hid (show (((W.alloc (.cells #[.slice a0 n0 c0, .slice a1 n1 c1] 54)).alloc (.cells #[.slice none 0 0, .slice none 0 0] 54))).heap[W.heap.size]? = some (.cells #[.slice a0 n0 c0, .slice a1 n1 c1] 54) from by rw [heap_alloc_old _ _ (by simp)]; exact heap_alloc_new W _)
  have hrZ := Lib.hid (show (((W.alloc (.cells #[.slice a0 n0 c0, .slice a1 n1 c1] 54)).alloc (.cells #[.slice none 0 0, .slice none 0 0] 54))).heap[W.heap.size + 1]? = some (.cells #[.slice none 0 0, .slice none 0 0] 54) from heap_pair W _ _)
  have k0 : (((W.alloc (.cells #[.slice a0 n0 c0, .slice a1 n1 c1] 54)).alloc (.cells #[.slice none 0 0, .slice none 0 0] 54))).cell? ⟨W.heap.size, 0, none⟩ = some (.slice a0 n0 c0) := cell_of_row _ _ 0 _ _ _ hrA.out
  have k1 : (((W.alloc (.cells #[.slice a0 n0 c0, .slice a1 n1 c1] 54)).alloc (.cells #[.slice none 0 0, .slice none 0 0] 54))).cell? ⟨W.heap.size, 1, none⟩ = some (.slice a1 n1 c1) := cell_of_row _ _ 1 _ _ _ hrA.out
  go_enter Try.func82, Try.ntmps82
  go_wp2_with fail
  go_region_held3 (fun w' => w'.cell? ⟨W.heap.size, 0, none⟩ = some (.slice a0 n0 c0) ∧ w'.cell? ⟨W.heap.size, 1, none⟩ = some (.slice a1 n1 c1))
    (first | exact ⟨kB0, kB1⟩ | exact ⟨kA0, kA1⟩ | exact ⟨k0, k1⟩ | go_keep | exact ⟨far2 kB0 (by simp) (by simp), far2 kB1 (by simp) (by simp)⟩)
    (first
      | ((refine step_clone_isl _ (by rfl) _ _ (by rfl) _ (by rfl) (by first | exact heap_trip W _ _ _ | exact row_held (by repeat (first | exact gby_refl _ _ | (with_reducible refine gby_alloc ?_ _) | (with_reducible refine gby_drew ?_))) (heap_trip W _ _ _) | exact heap_quad W _ _ _ _) a0 n0 c0 xs0 (by rfl) (HI0.out.kept (by repeat (first | exact gby_alloc (gby_alloc (gby_refl _ _) _) _ | (with_reducible refine gby_alloc ?_ _) | (with_reducible refine gby_drew ?_)))) HK0.out (by omega) ?_; intro gA cA wA oA hgA hA sA
          have kA0 : wA.cell? ⟨W.heap.size, 0, none⟩ = some (.slice a0 n0 c0) := hgA.cell (by go_keep) (by first | (simp; done) | (simp; omega))
          have kA1 : wA.cell? ⟨W.heap.size, 1, none⟩ = some (.slice a1 n1 c1) := hgA.cell (by go_keep) (by first | (simp; done) | (simp; omega))
          have zA := hgA.size
          try simp at hA
          try simp at zA
          have GA := Lib.hid (show W.grownBy wA none from gby_new (by repeat (first | exact gby_alloc (gby_alloc (gby_refl _ _) _) _ | (with_reducible refine gby_alloc ?_ _) | (with_reducible refine gby_drew ?_))) hgA (fun i hi => by first | (simp at hi; omega) | omega))
          have ZA := Lib.hid (show wA.heap[W.heap.size + 1]? = some (.cells #[.slice none 0 0, .slice none 0 0] 54) from (hgA.block _ (by first | (simp; done) | (simp; omega)) (by first | (simp; done) | (simp; omega))).trans (row_held (by repeat (first | exact gby_refl _ _ | (with_reducible refine gby_alloc ?_ _) | (with_reducible refine gby_drew ?_))) hrZ.out))
          try have EA := (show wA.heap[W.heap.size + 1 + 1 + 1]? = some (.cells #[] 3 (0, 0)) from (hgA.block _ (by first | (simp; done) | (simp; omega)) (by first | (simp; done) | (simp; omega))).trans (heap_quad W _ _ _ _))
          try have EA := (show wA.heap[W.heap.size + 1 + 1]? = some (.cells #[] 3 (0, 0)) from (hgA.block _ (by first | (simp; done) | (simp; omega)) (by first | (simp; done) | (simp; omega))).trans (row_held (by repeat (first | exact gby_refl _ _ | (with_reducible refine gby_alloc ?_ _) | (with_reducible refine gby_drew ?_))) (heap_trip W _ _ _)))
          clear hgA))
      | ((refine step_clone_isl _ (by rfl) _ _ (by rfl) _ (by rfl) (by first | exact EA | exact heap_alloc_new wA _) a1 n1 c1 xs1 (by rfl) (HI1.out.kept (by repeat (first | exact GA.out | (with_reducible refine gby_alloc ?_ _) | (with_reducible refine gby_drew ?_)))) HK1.out (by omega) ?_; intro gB cB wB oB hgB hB sB
          have kB0 : wB.cell? ⟨W.heap.size, 0, none⟩ = some (.slice a0 n0 c0) := hgB.cell (by go_keep) (by first | (simp; done) | (simp; omega))
          have kB1 : wB.cell? ⟨W.heap.size, 1, none⟩ = some (.slice a1 n1 c1) := hgB.cell (by go_keep) (by first | (simp; done) | (simp; omega))
          have zB := hgB.size
          try simp at hB
          try simp at zB
          have GB := Lib.hid (show W.grownBy wB none from gby_new (by repeat (first | exact GA.out | (with_reducible refine gby_alloc ?_ _) | (with_reducible refine gby_drew ?_))) hgB (fun i hi => by first | (simp at hi; omega) | omega))
          have oA2 := Lib.hid (OwL.keep oA (chg_of_row (by repeat (first | exact gby_refl _ _ | (with_reducible refine gby_alloc ?_ _) | (with_reducible refine gby_drew ?_))) hgB) (by first | omega | (simp; omega)))
          have ZB := (show wB.heap[W.heap.size + 1]? = some (.cells #[.slice none 0 0, .slice none 0 0] 54) from (hgB.block _ (by first | (simp; done) | (simp; omega) | omega) (by first | (simp; done) | (simp; omega) | omega)).trans (row_held (by repeat (first | exact gby_refl _ _ | (with_reducible refine gby_alloc ?_ _) | (with_reducible refine gby_drew ?_))) ZA.out))
          have z0 : wB.cell? ⟨W.heap.size + 1, 0, none⟩ = some (.slice none 0 0) := cell_of_row _ _ 0 _ _ _ ZB
          have z1 : wB.cell? ⟨W.heap.size + 1, 1, none⟩ = some (.slice none 0 0) := cell_of_row _ _ 1 _ _ _ ZB
          have f0 := frozen_of_row wB _ 0 _ _ ZB
          have f1 := frozen_of_row wB _ 1 _ _ ZB
          clear hgB)))
  all_goals
    have hne : gA < gB ∨ gB < gA := by omega
    have OO := Lib.hid (show OwU wB (W.heap.size + 1 + 1) wB.heap.size [] [own shI (.slice (some ⟨gA, 0, none⟩) n0 cA) xs0, own shI (.slice (some ⟨gB, 0, none⟩) n1 cB) xs1] from
      ⟨gA, gA + 1, by omega, by omega, (fun i hi => (by cases hi)), oA2.out, gB, gB + 1, by omega, by omega, (fun i hi => (by
        obtain rfl := List.mem_singleton.1 hi
        dsimp only
        omega)), oB, trivial⟩)
    have C := Lib.hid (chg_trans (chg_one wB (W.heap.size + 1) 0 (.slice (some ⟨gA, 0, none⟩) n0 cA)) (chg_one _ (W.heap.size + 1) 1 (.slice (some ⟨gB, 0, none⟩) n1 cB)))
    have ZB2 := Lib.hid (heap_setCell_same _ _ 1 _ _ (.slice (some ⟨gB, 0, none⟩) n1 cB) (heap_setCell_same wB _ 0 _ _ (.slice (some ⟨gA, 0, none⟩) n0 cA) ZB))
    have r0 : ((wB.setCell ⟨W.heap.size + 1, 0, none⟩ (.slice (some ⟨gA, 0, none⟩) n0 cA)).setCell ⟨W.heap.size + 1, 1, none⟩ (.slice (some ⟨gB, 0, none⟩) n1 cB)).cell? ⟨W.heap.size + 1, 0, none⟩ = some (.slice (some ⟨gA, 0, none⟩) n0 cA) := cell_of_row _ _ 0 _ _ _ ZB2.out
    have r1 : ((wB.setCell ⟨W.heap.size + 1, 0, none⟩ (.slice (some ⟨gA, 0, none⟩) n0 cA)).setCell ⟨W.heap.size + 1, 1, none⟩ (.slice (some ⟨gB, 0, none⟩) n1 cB)).cell? ⟨W.heap.size + 1, 1, none⟩ = some (.slice (some ⟨gB, 0, none⟩) n1 cB) := cell_of_row _ _ 1 _ _ _ ZB2.out
    clear oB ZA ZB z0 z1 f0 f1 k0 k1 kA0 kA1 kB0 kB1 hA hB hne sA sB zA zB oA
    try clear EA
    go_wp2
    refine bodyPost_ret (v := vCredits (.slice (some ⟨gA, 0, none⟩) n0 cA) (.slice (some ⟨gB, 0, none⟩) n1 cB)) (by simp [results, go_sem, vCredits, r0, r1]) rfl ⟨_, _, rfl, ?_, ?_⟩
    · exact OwU.wide (by omega) (by simp) (OwU.keep C.out (.inr (by omega)) OO.out)
    · exact gby_chg GB.out C.out (by omega)

end Go.Proofs.Ytgagbhkidponnac
