/-
  Frames copied, on both sides.
-/
import Derived.Test.YtcenngekjopjpaaStepApp
import Derived.Test.YtcenngekjopjpaaQFrame
import Derived.Test.YtcenngekjopjpaaClone
import Derived.Test.YtcenngekjopjpaaPlainRow
import Derived.Deep.RegionHeld3
namespace Go.Proofs.Ytcenngekjopjpaa
open Go Go.RowKit
set_option linter.unusedVariables false

theorem cloneNF (W : World) (v : Value) (xs : List Int) (H : RdL shI W v xs) (hl : szL shI xs ≤ 1048576) :
    Calls Try.prog 61 #[v] W (fun e w' => ∃ v', e = .returned v' ∧ OwL shI w' W.heap.size w'.heap.size v' xs ∧ W.grownBy w' none) := by
  rw [szL_I] at hl
  refine (clone_any W v xs (rdI_in H) hl).mono ?_
  rintro e w' ⟨v', rfl, o, g⟩
  exact ⟨v', rfl, owI_out (by omega) o, g⟩
theorem chg_of_rowF {w x y : World} {B : Nat} (g : w.grownBy x none) (h : x.grownBy y (some B)) : Chg w y B (B + 1) :=
  chg_trans (chg_gby g B (B + 1)) (chg_row h (fun i e => by cases e; omega))

set_option maxRecDepth 8000 in
set_option maxHeartbeats 2000000 in
theorem copiedFr_d (W : World) (i0 : Int) (v1 : Value) (xs1 : List Int) (H1 : RdL shI W v1 xs1) (hl : szL shI xs1 ≤ 1048576) :
    Calls Try.prog 55 #[vFrame i0 v1] W (NewFrame i0 xs1 W) := by
  have HX := Lib.hid H1
  clear H1
  unfold vFrame
  go_enter Try.func55, Try.ntmps55
  have rA1_ := Lib.hid (show (((W.alloc (.cells #[.int .i64 i0, v1] 37)).alloc (.cells #[.int .i64 0, .slice none 0 0] 37))).heap[W.heap.size]? = some (.cells #[.int .i64 i0, v1] 37 (0, 0)) from by rw [heap_alloc_old _ _ (by simp only [World.size_alloc]; omega)]; exact heap_alloc_new _ _)
  have rR2_ := Lib.hid (show (((W.alloc (.cells #[.int .i64 i0, v1] 37)).alloc (.cells #[.int .i64 0, .slice none 0 0] 37))).heap[W.heap.size + 1]? = some (.cells #[.int .i64 0, .slice none 0 0] 37 (0, 0)) from by exact heap_pair _ _ _)
  have G3_ := Lib.hid (show (W).grownBy (((W.alloc (.cells #[.int .i64 i0, v1] 37)).alloc (.cells #[.int .i64 0, .slice none 0 0] 37))) none from (gby_alloc (gby_alloc (gby_refl _ _) _) _))
  have A_0_ : (((W.alloc (.cells #[.int .i64 i0, v1] 37)).alloc (.cells #[.int .i64 0, .slice none 0 0] 37))).cell? ⟨W.heap.size, 0, none⟩ = some (.int .i64 i0) := cell_of_row _ _ 0 _ _ _ rA1_.out
  have A_1_ : (((W.alloc (.cells #[.int .i64 i0, v1] 37)).alloc (.cells #[.int .i64 0, .slice none 0 0] 37))).cell? ⟨W.heap.size, 1, none⟩ = some (v1) := cell_of_row _ _ 1 _ _ _ rA1_.out
  have R_0_ : (((W.alloc (.cells #[.int .i64 i0, v1] 37)).alloc (.cells #[.int .i64 0, .slice none 0 0] 37))).cell? ⟨W.heap.size + 1, 0, none⟩ = some (.int .i64 0) := cell_of_row _ _ 0 _ _ _ rR2_.out
  have R_1_ : (((W.alloc (.cells #[.int .i64 i0, v1] 37)).alloc (.cells #[.int .i64 0, .slice none 0 0] 37))).cell? ⟨W.heap.size + 1, 1, none⟩ = some (.slice none 0 0) := cell_of_row _ _ 1 _ _ _ rR2_.out
  go_wp2_with fail
  go_at_call 61
  refine (cloneNF _ v1 xs1 (HX.out.grow G3_.out) hl).mono ?_
  rintro e w1 ⟨d, rfl, o, g⟩
  have szc := g.size
  simp only [World.size_alloc] at szc o
  clear A_0_ A_1_ R_0_ R_1_
  have rA4_ := Lib.hid (show (w1).heap[W.heap.size]? = some (.cells #[.int .i64 i0, v1] 37 (0, 0)) from row_held g rA1_.out)
  clear rA1_
  have rR5_ := Lib.hid (show (w1).heap[W.heap.size + 1]? = some (.cells #[.int .i64 0, .slice none 0 0] 37 (0, 0)) from row_held g rR2_.out)
  clear rR2_
  have G6_ := Lib.hid (show (W).grownBy (w1) none from gby_trans G3_.out g)
  clear g
  obtain ⟨pd, nd, cd, hv_⟩ := RdL.form o.rd
  subst hv_
  have oC7_ := Lib.hid (show OwU (w1) (W.heap.size + 1 + 1) (w1.heap.size) [] [own shI (.slice pd nd cd) xs1] from OwU.one o)
  clear o
  have A_0_ : (w1).cell? ⟨W.heap.size, 0, none⟩ = some (.int .i64 i0) := cell_of_row _ _ 0 _ _ _ rA4_.out
  have A_1_ : (w1).cell? ⟨W.heap.size, 1, none⟩ = some (v1) := cell_of_row _ _ 1 _ _ _ rA4_.out
  have Af0_ : (w1).frozen? ⟨W.heap.size, 0, none⟩ = false := frozen_of_row _ _ 0 _ _ rA4_.out
  have Af1_ : (w1).frozen? ⟨W.heap.size, 1, none⟩ = false := frozen_of_row _ _ 1 _ _ rA4_.out
  have R_0_ : (w1).cell? ⟨W.heap.size + 1, 0, none⟩ = some (.int .i64 0) := cell_of_row _ _ 0 _ _ _ rR5_.out
  have R_1_ : (w1).cell? ⟨W.heap.size + 1, 1, none⟩ = some (.slice none 0 0) := cell_of_row _ _ 1 _ _ _ rR5_.out
  have Rf0_ : (w1).frozen? ⟨W.heap.size + 1, 0, none⟩ = false := frozen_of_row _ _ 0 _ _ rR5_.out
  have Rf1_ : (w1).frozen? ⟨W.heap.size + 1, 1, none⟩ = false := frozen_of_row _ _ 1 _ _ rR5_.out
  have sa0_ : (w1.setCell ⟨W.heap.size, 1, none⟩ (.slice pd nd cd)).cell? ⟨W.heap.size, 0, none⟩ = some (.int .i64 i0) := cell_of_row _ _ 0 _ _ _ (heap_setCell_same _ _ 1 _ _ (.slice pd nd cd) rA4_.out)
  have sa1_ : (w1.setCell ⟨W.heap.size, 1, none⟩ (.slice pd nd cd)).cell? ⟨W.heap.size, 1, none⟩ = some (.slice pd nd cd) := cell_of_row _ _ 1 _ _ _ (heap_setCell_same _ _ 1 _ _ (.slice pd nd cd) rA4_.out)
  have sr0_ : (w1.setCell ⟨W.heap.size, 1, none⟩ (.slice pd nd cd)).cell? ⟨W.heap.size + 1, 0, none⟩ = some (.int .i64 0) := cell_of_row _ _ 0 _ _ _ (set_far (p := ⟨W.heap.size, 1, none⟩) (v := .slice pd nd cd) rR5_.out (by dsimp only; omega))
  have sf0_ : (w1.setCell ⟨W.heap.size, 1, none⟩ (.slice pd nd cd)).frozen? ⟨W.heap.size + 1, 0, none⟩ = false := frozen_of_row _ _ 0 _ _ (set_far (p := ⟨W.heap.size, 1, none⟩) (v := .slice pd nd cd) rR5_.out (by dsimp only; omega))
  have sr1_ : (w1.setCell ⟨W.heap.size, 1, none⟩ (.slice pd nd cd)).cell? ⟨W.heap.size + 1, 1, none⟩ = some (.slice none 0 0) := cell_of_row _ _ 1 _ _ _ (set_far (p := ⟨W.heap.size, 1, none⟩) (v := .slice pd nd cd) rR5_.out (by dsimp only; omega))
  have sf1_ : (w1.setCell ⟨W.heap.size, 1, none⟩ (.slice pd nd cd)).frozen? ⟨W.heap.size + 1, 1, none⟩ = false := frozen_of_row _ _ 1 _ _ (set_far (p := ⟨W.heap.size, 1, none⟩) (v := .slice pd nd cd) rR5_.out (by dsimp only; omega))
  go_wp2
  refine bodyPost_ret (v := .agg #[.int .i64 i0, .slice pd nd cd]) (by simp [results, go_sem, sr0_, sr1_]) rfl ⟨_, rfl, ?_, ?_⟩
  · refine OwU.wide (lo := W.heap.size + 1 + 1) (hi := w1.heap.size) (by omega) (by simp) (OwU.keep (w := w1) (lo' := W.heap.size) (hi' := W.heap.size + 2) ?_ (.inr (by omega)) oC7_.out)
    repeat (with_reducible refine chg_setp ?_ _ (by dsimp only; omega) (by dsimp only; omega) _)
    exact chg_gby (gby_refl _ _) _ _
  · repeat (with_reducible refine gby_setnew ?_ _ (by first | omega | (dsimp only; omega)) _)
    exact G6_.out

set_option maxRecDepth 8000 in
set_option maxHeartbeats 4000000 in
theorem l08Frame_d (W : World) (i0 : Int) (v1 : Value) (xs1 : List Int) (H1 : RdL shI W v1 xs1) (hl : szL shI xs1 ≤ 1048576) :
    Calls Try.prog 45 #[vFrame i0 v1] W (NewFrame i0 xs1 W) := by
  rw [szL_I] at hl
  obtain ⟨a0, c0, rfl, hi0, hc0⟩ := rdI_in H1
  obtain ⟨n0, hn0⟩ : ∃ n, n = xs1.length := ⟨_, rfl⟩
  rw [← hn0] at hi0 hl hc0 ⊢
  have HI0 := Lib.hid hi0
  have HN0 := Lib.hid hn0
  have HK0 := Lib.hid hc0.1
  clear H1 hi0 hn0 hc0
  unfold vFrame
  have hrA := Lib.hid (show (((W.alloc (.cells #[.int .i64 i0, .slice a0 n0 c0] 37)).alloc (.cells #[.int .i64 0, .slice none 0 0] 37))).heap[W.heap.size]? = some (.cells #[.int .i64 i0, .slice a0 n0 c0] 37) from by rw [heap_alloc_old _ _ (by simp)]; exact heap_alloc_new W _)
  have hrZ := Lib.hid (show (((W.alloc (.cells #[.int .i64 i0, .slice a0 n0 c0] 37)).alloc (.cells #[.int .i64 0, .slice none 0 0] 37))).heap[W.heap.size + 1]? = some (.cells #[.int .i64 0, .slice none 0 0] 37) from heap_pair W _ _)
  have k0 : (((W.alloc (.cells #[.int .i64 i0, .slice a0 n0 c0] 37)).alloc (.cells #[.int .i64 0, .slice none 0 0] 37))).cell? ⟨W.heap.size, 0, none⟩ = some (.int .i64 i0) := cell_of_row _ _ 0 _ _ _ hrA.out
  have k1 : (((W.alloc (.cells #[.int .i64 i0, .slice a0 n0 c0] 37)).alloc (.cells #[.int .i64 0, .slice none 0 0] 37))).cell? ⟨W.heap.size, 1, none⟩ = some (.slice a0 n0 c0) := cell_of_row _ _ 1 _ _ _ hrA.out
  go_enter Try.func45, Try.ntmps45
  go_wp2_with fail
  go_region_held3 (fun w' => w'.cell? ⟨W.heap.size, 0, none⟩ = some (.int .i64 i0) ∧ w'.cell? ⟨W.heap.size, 1, none⟩ = some (.slice a0 n0 c0))
    (first | exact ⟨kA0, kA1⟩ | exact ⟨k0, k1⟩ | go_keep | exact ⟨far2 kA0 (by simp) (by simp), far2 kA1 (by simp) (by simp)⟩)
    (first
      | ((refine step_clone_isl _ (by rfl) _ _ (by rfl) _ (by rfl) (by first | exact heap_trip W _ _ _ | exact row_held (by repeat (first | exact gby_refl _ _ | (with_reducible refine gby_alloc ?_ _) | (with_reducible refine gby_drew ?_))) (heap_trip W _ _ _)) a0 n0 c0 xs1 (by rfl) (HI0.out.kept (by repeat (first | exact gby_alloc (gby_alloc (gby_refl _ _) _) _ | (with_reducible refine gby_alloc ?_ _) | (with_reducible refine gby_drew ?_)))) HK0.out (by omega) ?_; intro gA cA wA oA hgA hA sA
          have kA0 : wA.cell? ⟨W.heap.size, 0, none⟩ = some (.int .i64 i0) := hgA.cell (by go_keep) (by first | (simp; done) | (simp; omega))
          have kA1 : wA.cell? ⟨W.heap.size, 1, none⟩ = some (.slice a0 n0 c0) := hgA.cell (by go_keep) (by first | (simp; done) | (simp; omega))
          have zA := hgA.size
          try simp at hA
          try simp at zA
          have GA := Lib.hid (show W.grownBy wA none from gby_new (by repeat (first | exact gby_alloc (gby_alloc (gby_refl _ _) _) _ | (with_reducible refine gby_alloc ?_ _) | (with_reducible refine gby_drew ?_))) hgA (fun i hi => by first | (simp at hi; omega) | omega))
          have ZA := (show wA.heap[W.heap.size + 1]? = some (.cells #[.int .i64 0, .slice none 0 0] 37 (0, 0)) from (hgA.block _ (by first | (simp; done) | (simp; omega)) (by first | (simp; done) | (simp; omega))).trans (row_held (by repeat (first | exact gby_refl _ _ | (with_reducible refine gby_alloc ?_ _) | (with_reducible refine gby_drew ?_))) hrZ.out))
          have z0 : wA.cell? ⟨W.heap.size + 1, 0, none⟩ = some (.int .i64 0) := cell_of_row _ _ 0 _ _ _ ZA
          have z1 : wA.cell? ⟨W.heap.size + 1, 1, none⟩ = some (.slice none 0 0) := cell_of_row _ _ 1 _ _ _ ZA
          have f0 := frozen_of_row wA _ 0 _ _ ZA
          have f1 := frozen_of_row wA _ 1 _ _ ZA
          clear hgA)))
  all_goals
    have C := Lib.hid (chg_trans (chg_one wA (W.heap.size + 1) 0 (.int .i64 i0)) (chg_one _ (W.heap.size + 1) 1 (.slice (some ⟨gA, 0, none⟩) n0 cA)))
    have ZB2 := Lib.hid (heap_setCell_same _ _ 1 _ _ (.slice (some ⟨gA, 0, none⟩) n0 cA) (heap_setCell_same wA _ 0 _ _ (.int .i64 i0) ZA))
    have r0 : ((wA.setCell ⟨W.heap.size + 1, 0, none⟩ (.int .i64 i0)).setCell ⟨W.heap.size + 1, 1, none⟩ (.slice (some ⟨gA, 0, none⟩) n0 cA)).cell? ⟨W.heap.size + 1, 0, none⟩ = some (.int .i64 i0) := cell_of_row _ _ 0 _ _ _ ZB2.out
    have r1 : ((wA.setCell ⟨W.heap.size + 1, 0, none⟩ (.int .i64 i0)).setCell ⟨W.heap.size + 1, 1, none⟩ (.slice (some ⟨gA, 0, none⟩) n0 cA)).cell? ⟨W.heap.size + 1, 1, none⟩ = some (.slice (some ⟨gA, 0, none⟩) n0 cA) := cell_of_row _ _ 1 _ _ _ ZB2.out
    have OO := Lib.hid (show OwU wA (W.heap.size + 1 + 1) wA.heap.size [] [own shI (.slice (some ⟨gA, 0, none⟩) n0 cA) xs1] from OwU.wide (lo := gA) (hi := gA + 1) (by omega) (by omega) (OwU.one oA))
    clear oA ZA z0 z1 f0 f1 k0 k1 kA0 kA1 hA sA zA
    go_wp2
    refine bodyPost_ret (v := .agg #[.int .i64 i0, .slice (some ⟨gA, 0, none⟩) n0 cA]) (by simp [results, go_sem, r0, r1]) rfl ⟨_, rfl, ?_, ?_⟩
    · exact OwU.wide (by omega) (by simp) (OwU.keep C.out (.inr (by omega)) OO.out)
    · exact gby_chg GA.out C.out (by omega)

end Go.Proofs.Ytcenngekjopjpaa
