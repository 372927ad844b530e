/-
  Vectors copied by the model.
-/
import Derived.Test.YtgagbhkidponnacStepApp
import Derived.Test.YtgagbhkidponnacVecCp
import Derived.Test.YtgagbhkidponnacCopyCr
namespace Go.Proofs.Ytgagbhkidponnac
open Go Go.RowKit
set_option linter.unusedVariables false

theorem chg_of_row {w x y : World} {B : Nat} (g : w.grownBy x none) (h : x.grownBy y (some B)) : Chg w y B (B + 1) :=
  chg_trans (chg_gby g B (B + 1)) (chg_row h (fun i e => by cases e; omega))

theorem far3 {w : World} {b j : Nat} {v : Value} {p q r : Addr} {x y z : Value} (h : w.cell? ⟨b, j, none⟩ = some v) (hp : b ≠ p.block) (hq : b ≠ q.block) (hr : b ≠ r.block) : (((w.setCell p x).setCell q y).setCell r z).cell? ⟨b, j, none⟩ = some v := by
  rw [World.cell?_setCell_far _ _ _ _ (fun e => hr e.symm)]; exact far2 h hp hq
set_option maxRecDepth 8000 in
set_option maxHeartbeats 4000000 in
theorem l30Copy_d (W : World) (i0 : Int) (v0 v1 : Value) (xs0 xs1 : List Bool) (H0 : RdL shB W v0 xs0) (H1 : RdL shB W v1 xs1) (hl0 : szL shB xs0 ≤ 1048576) (hl1 : szL shB xs1 ≤ 1048576) :
    Calls Try.prog 60 #[vVectors i0 v0 v1] W (NewVectors i0 xs0 xs1 W) := by
  have hm0 := Nat.le_trans (szL_len _ _) hl0
  have hm1 := Nat.le_trans (szL_len _ _) hl1
  obtain ⟨a0, c0, rfl, _, _⟩ := rdB_in H0
  obtain ⟨a1, c1, rfl, _, _⟩ := rdB_in H1
  obtain ⟨n0, hn0⟩ : ∃ n, n = xs0.length := ⟨_, rfl⟩
  obtain ⟨n1, hn1⟩ : ∃ n, n = xs1.length := ⟨_, rfl⟩
  rw [← hn0] at hm0 H0 ⊢
  rw [← hn1] at hm1 H1 ⊢
  have HI0 := Lib.hid H0
  have HI1 := Lib.hid H1
  have HN0 := Lib.hid hn0
  have HN1 := Lib.hid hn1
  clear H0 H1 hn0 hn1 hl0 hl1
  unfold vVectors
  have hrA := Lib.hid (show (((W.alloc (.cells #[.int .i64 i0, .slice a0 n0 c0, .slice a1 n1 c1] 26)).alloc (.cells #[.int .i64 0, .slice none 0 0, .slice none 0 0] 26))).heap[W.heap.size]? = some (.cells #[.int .i64 i0, .slice a0 n0 c0, .slice a1 n1 c1] 26) from by rw [heap_alloc_old _ _ (by simp)]; exact heap_alloc_new W _)
  have hrZ := Lib.hid (show (((W.alloc (.cells #[.int .i64 i0, .slice a0 n0 c0, .slice a1 n1 c1] 26)).alloc (.cells #[.int .i64 0, .slice none 0 0, .slice none 0 0] 26))).heap[W.heap.size + 1]? = some (.cells #[.int .i64 0, .slice none 0 0, .slice none 0 0] 26) from heap_pair W _ _)
  have ki : (((W.alloc (.cells #[.int .i64 i0, .slice a0 n0 c0, .slice a1 n1 c1] 26)).alloc (.cells #[.int .i64 0, .slice none 0 0, .slice none 0 0] 26))).cell? ⟨W.heap.size, 0, none⟩ = some (.int .i64 i0) := cell_of_row _ _ 0 _ _ _ hrA.out
  have k0 : (((W.alloc (.cells #[.int .i64 i0, .slice a0 n0 c0, .slice a1 n1 c1] 26)).alloc (.cells #[.int .i64 0, .slice none 0 0, .slice none 0 0] 26))).cell? ⟨W.heap.size, 1, none⟩ = some (.slice a0 n0 c0) := cell_of_row _ _ 1 _ _ _ hrA.out
  have k1 : (((W.alloc (.cells #[.int .i64 i0, .slice a0 n0 c0, .slice a1 n1 c1] 26)).alloc (.cells #[.int .i64 0, .slice none 0 0, .slice none 0 0] 26))).cell? ⟨W.heap.size, 2, none⟩ = some (.slice a1 n1 c1) := cell_of_row _ _ 2 _ _ _ hrA.out
  go_enter Try.func60, Try.ntmps60
  go_wp2_with fail
  go_region_held3 (fun w' => w'.cell? ⟨W.heap.size, 0, none⟩ = some (.int .i64 i0) ∧ w'.cell? ⟨W.heap.size, 1, none⟩ = some (.slice a0 n0 c0) ∧ w'.cell? ⟨W.heap.size, 2, none⟩ = some (.slice a1 n1 c1))
    (first | exact ⟨kBi, kB0, kB1⟩ | exact ⟨kAi, kA0, kA1⟩ | exact ⟨ki, k0, k1⟩ | go_keep | exact ⟨far3 kBi (by simp) (by simp) (by simp), far3 kB0 (by simp) (by simp) (by simp), far3 kB1 (by simp) (by simp) (by simp)⟩)
    (first
      | ((refine step_clone_plain plainB slTB _ (by rfl) _ _ (by rfl) _ (by rfl) (by first | exact heap_trip W _ _ _ | exact row_held (by repeat (first | exact gby_refl _ _ | (with_reducible refine gby_alloc ?_ _) | (with_reducible refine gby_drew ?_))) (heap_trip W _ _ _) | exact heap_quad W _ _ _ _) a0 n0 c0 xs0 (by rfl) (HI0.out.grow (by repeat (first | exact gby_alloc (gby_alloc (gby_refl _ _) _) _ | (with_reducible refine gby_alloc ?_ _) | (with_reducible refine gby_drew ?_)))) (by omega) ?_; intro gA cA wA oA hgA hA sA
          have kAi : wA.cell? ⟨W.heap.size, 0, none⟩ = some (.int .i64 i0) := hgA.cell (by go_keep) (by first | (simp; done) | (simp; omega))
          have kA0 : wA.cell? ⟨W.heap.size, 1, none⟩ = some (.slice a0 n0 c0) := hgA.cell (by go_keep) (by first | (simp; done) | (simp; omega))
          have kA1 : wA.cell? ⟨W.heap.size, 2, none⟩ = some (.slice a1 n1 c1) := hgA.cell (by go_keep) (by first | (simp; done) | (simp; omega))
          have zA := hgA.size
          try simp at hA
          try simp at zA
          have GA := Lib.hid (show W.grownBy wA none from gby_new (by repeat (first | exact gby_alloc (gby_alloc (gby_refl _ _) _) _ | (with_reducible refine gby_alloc ?_ _) | (with_reducible refine gby_drew ?_))) hgA (fun i hi => by first | (simp at hi; omega) | omega))
          have ZA := Lib.hid (show wA.heap[W.heap.size + 1]? = some (.cells #[.int .i64 0, .slice none 0 0, .slice none 0 0] 26) from (hgA.block _ (by first | (simp; done) | (simp; omega)) (by first | (simp; done) | (simp; omega))).trans (row_held (by repeat (first | exact gby_refl _ _ | (with_reducible refine gby_alloc ?_ _) | (with_reducible refine gby_drew ?_))) hrZ.out))
          try have EA := (show wA.heap[W.heap.size + 1 + 1 + 1]? = some (.cells #[] 4 (0, 0)) from (hgA.block _ (by first | (simp; done) | (simp; omega)) (by first | (simp; done) | (simp; omega))).trans (heap_quad W _ _ _ _))
          try have EA := (show wA.heap[W.heap.size + 1 + 1]? = some (.cells #[] 4 (0, 0)) from (hgA.block _ (by first | (simp; done) | (simp; omega)) (by first | (simp; done) | (simp; omega))).trans (row_held (by repeat (first | exact gby_refl _ _ | (with_reducible refine gby_alloc ?_ _) | (with_reducible refine gby_drew ?_))) (heap_trip W _ _ _)))
          clear hgA))
      | ((refine step_clone_plain plainB slTB _ (by rfl) _ _ (by rfl) _ (by rfl) (by first | exact EA | exact heap_alloc_new wA _) a1 n1 c1 xs1 (by rfl) (HI1.out.grow (by repeat (first | exact GA.out | (with_reducible refine gby_alloc ?_ _) | (with_reducible refine gby_drew ?_)))) (by omega) ?_; intro gB cB wB oB hgB hB sB
          have kBi : wB.cell? ⟨W.heap.size, 0, none⟩ = some (.int .i64 i0) := hgB.cell (by go_keep) (by first | (simp; done) | (simp; omega))
          have kB0 : wB.cell? ⟨W.heap.size, 1, none⟩ = some (.slice a0 n0 c0) := hgB.cell (by go_keep) (by first | (simp; done) | (simp; omega))
          have kB1 : wB.cell? ⟨W.heap.size, 2, none⟩ = some (.slice a1 n1 c1) := hgB.cell (by go_keep) (by first | (simp; done) | (simp; omega))
          have zB := hgB.size
          try simp at hB
          try simp at zB
          have GB := Lib.hid (show W.grownBy wB none from gby_new (by repeat (first | exact GA.out | (with_reducible refine gby_alloc ?_ _) | (with_reducible refine gby_drew ?_))) hgB (fun i hi => by first | (simp at hi; omega) | omega))
          have oA2 := Lib.hid (OwL.keep oA (chg_of_row (by repeat (first | exact gby_refl _ _ | (with_reducible refine gby_alloc ?_ _) | (with_reducible refine gby_drew ?_))) hgB) (by first | omega | (simp; omega)))
          have ZB := (show wB.heap[W.heap.size + 1]? = some (.cells #[.int .i64 0, .slice none 0 0, .slice none 0 0] 26) from (hgB.block _ (by first | (simp; done) | (simp; omega) | omega) (by first | (simp; done) | (simp; omega) | omega)).trans (row_held (by repeat (first | exact gby_refl _ _ | (with_reducible refine gby_alloc ?_ _) | (with_reducible refine gby_drew ?_))) ZA.out))
          have zi : wB.cell? ⟨W.heap.size + 1, 0, none⟩ = some (.int .i64 0) := cell_of_row _ _ 0 _ _ _ ZB
          have z0 : wB.cell? ⟨W.heap.size + 1, 1, none⟩ = some (.slice none 0 0) := cell_of_row _ _ 1 _ _ _ ZB
          have z1 : wB.cell? ⟨W.heap.size + 1, 2, none⟩ = some (.slice none 0 0) := cell_of_row _ _ 2 _ _ _ ZB
          have fi := frozen_of_row wB _ 0 _ _ ZB
          have f0 := frozen_of_row wB _ 1 _ _ ZB
          have f1 := frozen_of_row wB _ 2 _ _ ZB
          clear hgB)))
  all_goals
    have hne : gA < gB ∨ gB < gA := by omega
    have OO := Lib.hid (show OwU wB (W.heap.size + 1 + 1) wB.heap.size [] [own shB (.slice (some ⟨gA, 0, none⟩) n0 cA) xs0, own shB (.slice (some ⟨gB, 0, none⟩) n1 cB) xs1] from
      ⟨gA, gA + 1, by omega, by omega, (fun i hi => (by cases hi)), oA2.out, gB, gB + 1, by omega, by omega, (fun i hi => (by
        obtain rfl := List.mem_singleton.1 hi
        dsimp only
        omega)), oB, trivial⟩)
    have C := Lib.hid (chg_trans (chg_trans (chg_one wB (W.heap.size + 1) 0 (.int .i64 i0)) (chg_one _ (W.heap.size + 1) 1 (.slice (some ⟨gA, 0, none⟩) n0 cA))) (chg_one _ (W.heap.size + 1) 2 (.slice (some ⟨gB, 0, none⟩) n1 cB)))
    have ZB2 := Lib.hid (heap_setCell_same _ _ 2 _ _ (.slice (some ⟨gB, 0, none⟩) n1 cB) (heap_setCell_same _ _ 1 _ _ (.slice (some ⟨gA, 0, none⟩) n0 cA) (heap_setCell_same wB _ 0 _ _ (.int .i64 i0) ZB)))
    have ri : ((((wB.setCell ⟨W.heap.size + 1, 0, none⟩ (.int .i64 i0)).setCell ⟨W.heap.size + 1, 1, none⟩ (.slice (some ⟨gA, 0, none⟩) n0 cA)).setCell ⟨W.heap.size + 1, 2, none⟩ (.slice (some ⟨gB, 0, none⟩) n1 cB))).cell? ⟨W.heap.size + 1, 0, none⟩ = some (.int .i64 i0) := cell_of_row _ _ 0 _ _ _ ZB2.out
    have r0 : ((((wB.setCell ⟨W.heap.size + 1, 0, none⟩ (.int .i64 i0)).setCell ⟨W.heap.size + 1, 1, none⟩ (.slice (some ⟨gA, 0, none⟩) n0 cA)).setCell ⟨W.heap.size + 1, 2, none⟩ (.slice (some ⟨gB, 0, none⟩) n1 cB))).cell? ⟨W.heap.size + 1, 1, none⟩ = some (.slice (some ⟨gA, 0, none⟩) n0 cA) := cell_of_row _ _ 1 _ _ _ ZB2.out
    have r1 : ((((wB.setCell ⟨W.heap.size + 1, 0, none⟩ (.int .i64 i0)).setCell ⟨W.heap.size + 1, 1, none⟩ (.slice (some ⟨gA, 0, none⟩) n0 cA)).setCell ⟨W.heap.size + 1, 2, none⟩ (.slice (some ⟨gB, 0, none⟩) n1 cB))).cell? ⟨W.heap.size + 1, 2, none⟩ = some (.slice (some ⟨gB, 0, none⟩) n1 cB) := cell_of_row _ _ 2 _ _ _ ZB2.out
    clear oB ZA ZB zi z0 z1 fi f0 f1 ki k0 k1 kAi kA0 kA1 kBi kB0 kB1 hA hB hne sA sB zA zB oA
    try clear EA
    go_wp2
    refine bodyPost_ret (v := vVectors i0 (.slice (some ⟨gA, 0, none⟩) n0 cA) (.slice (some ⟨gB, 0, none⟩) n1 cB)) (by simp [results, go_sem, vVectors, ri, r0, r1]) rfl ⟨_, _, rfl, ?_, ?_⟩
    · exact OwU.wide (by omega) (by simp) (OwU.keep C.out (.inr (by omega)) OO.out)
    · exact gby_chg GB.out C.out (by omega)

end Go.Proofs.Ytgagbhkidponnac
