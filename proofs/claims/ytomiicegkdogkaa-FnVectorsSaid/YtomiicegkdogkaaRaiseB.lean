/-
  RaiseVector and SetMask, on both sides.
-/
import Derived.Test.YtomiicegkdogkaaShpI
import Derived.Test.YtomiicegkdogkaaStepApp
import Derived.Test.YtomiicegkdogkaaVecCp
import Derived.Test.YtomiicegkdogkaaCopyCr
import Derived.Test.YtomiicegkdogkaaRaiseM
import Derived.Test.YtomiicegkdogkaaVecOk
import Derived.Deep.RegionWith
namespace Go.Proofs.Ytomiicegkdogkaa
open Go Go.RowKit

def ResSRaiseVector (ir0_0 : Int) (xsr0_1 : List Bool) (xsr0_2 : List Bool) (ir1_0 : Int) (ir1_1 : Int) (ir1_2 : Int) (ir1_3 : Int) (ir1_4 : Int) (ir1_5 : Int) (ir1_6 : Int) (xsr1_7 : List Int) (br2 : Bool) (W : World) (e : Ending) (w' : World) : Prop := ∃ vr0_1, ∃ vr0_2, ∃ vr1_7, e = .returned (.tuple #[.agg #[.int .i64 ir0_0, vr0_1, vr0_2], .agg #[.int .i64 ir1_0, .int .i64 ir1_1, .int .i64 ir1_2, .int .i64 ir1_3, .int .i64 ir1_4, .int .i64 ir1_5, .int .i64 ir1_6, vr1_7], .bool br2]) ∧ RdL shB w' vr0_1 xsr0_1 ∧ RdL shB w' vr0_2 xsr0_2 ∧ RdL shI w' vr1_7 xsr1_7 ∧ W.grownBy w' none
def ResIRaiseVector (ir0_0 : Int) (xsr0_1 : List Bool) (xsr0_2 : List Bool) (ir1_0 : Int) (ir1_1 : Int) (ir1_2 : Int) (ir1_3 : Int) (ir1_4 : Int) (ir1_5 : Int) (ir1_6 : Int) (xsr1_7 : List Int) (br2 : Bool) (W : World) (e : Ending) (w' : World) : Prop := ∃ vr0_1, ∃ vr0_2, ∃ vr1_7, e = .returned (.tuple #[.agg #[.int .i64 ir0_0, vr0_1, vr0_2], .agg #[.int .i64 ir1_0, .int .i64 ir1_1, .int .i64 ir1_2, .int .i64 ir1_3, .int .i64 ir1_4, .int .i64 ir1_5, .int .i64 ir1_6, vr1_7], .bool br2]) ∧ OwU w' W.heap.size w'.heap.size [] [own shB vr0_1 xsr0_1, own shB vr0_2 xsr0_2, own shI vr1_7 xsr1_7] ∧ W.grownBy w' none

theorem resS_ofRaiseVector {ir0_0 : Int} {xsr0_1 : List Bool} {xsr0_2 : List Bool} {ir1_0 : Int} {ir1_1 : Int} {ir1_2 : Int} {ir1_3 : Int} {ir1_4 : Int} {ir1_5 : Int} {ir1_6 : Int} {xsr1_7 : List Int} {br2 : Bool} {W : World} (e : Ending) (w' : World) (h : ResIRaiseVector ir0_0 xsr0_1 xsr0_2 ir1_0 ir1_1 ir1_2 ir1_3 ir1_4 ir1_5 ir1_6 xsr1_7 br2 W e w') : ResSRaiseVector ir0_0 xsr0_1 xsr0_2 ir1_0 ir1_1 ir1_2 ir1_3 ir1_4 ir1_5 ir1_6 xsr1_7 br2 W e w' := by
  obtain ⟨vr0_1, vr0_2, vr1_7, rfl, h, g⟩ := h
  exact ⟨vr0_1, vr0_2, vr1_7, rfl, OwU.rd h, OwU.rd (OwU.tail h), OwU.rd (OwU.tail (OwU.tail h)), g⟩

end Go.Proofs.Ytomiicegkdogkaa

namespace Go.Proofs.Ytomiicegkdogkaa
open Go Go.RowKit

def ResSSetMask (ir0_0 : Int) (xsr0_1 : List Bool) (xsr0_2 : List Bool) (ir1_0 : Int) (ir1_1 : Int) (ir1_2 : Int) (ir1_3 : Int) (ir1_4 : Int) (ir1_5 : Int) (ir1_6 : Int) (xsr1_7 : List Int) (br2 : Bool) (W : World) (e : Ending) (w' : World) : Prop := ∃ vr0_1, ∃ vr0_2, ∃ vr1_7, e = .returned (.tuple #[.agg #[.int .i64 ir0_0, vr0_1, vr0_2], .agg #[.int .i64 ir1_0, .int .i64 ir1_1, .int .i64 ir1_2, .int .i64 ir1_3, .int .i64 ir1_4, .int .i64 ir1_5, .int .i64 ir1_6, vr1_7], .bool br2]) ∧ RdL shB w' vr0_1 xsr0_1 ∧ RdL shB w' vr0_2 xsr0_2 ∧ RdL shI w' vr1_7 xsr1_7 ∧ W.grownBy w' none
def ResISetMask (ir0_0 : Int) (xsr0_1 : List Bool) (xsr0_2 : List Bool) (ir1_0 : Int) (ir1_1 : Int) (ir1_2 : Int) (ir1_3 : Int) (ir1_4 : Int) (ir1_5 : Int) (ir1_6 : Int) (xsr1_7 : List Int) (br2 : Bool) (W : World) (e : Ending) (w' : World) : Prop := ∃ vr0_1, ∃ vr0_2, ∃ vr1_7, e = .returned (.tuple #[.agg #[.int .i64 ir0_0, vr0_1, vr0_2], .agg #[.int .i64 ir1_0, .int .i64 ir1_1, .int .i64 ir1_2, .int .i64 ir1_3, .int .i64 ir1_4, .int .i64 ir1_5, .int .i64 ir1_6, vr1_7], .bool br2]) ∧ OwU w' W.heap.size w'.heap.size [] [own shB vr0_1 xsr0_1, own shB vr0_2 xsr0_2, own shI vr1_7 xsr1_7] ∧ W.grownBy w' none

theorem resS_ofSetMask {ir0_0 : Int} {xsr0_1 : List Bool} {xsr0_2 : List Bool} {ir1_0 : Int} {ir1_1 : Int} {ir1_2 : Int} {ir1_3 : Int} {ir1_4 : Int} {ir1_5 : Int} {ir1_6 : Int} {xsr1_7 : List Int} {br2 : Bool} {W : World} (e : Ending) (w' : World) (h : ResISetMask ir0_0 xsr0_1 xsr0_2 ir1_0 ir1_1 ir1_2 ir1_3 ir1_4 ir1_5 ir1_6 xsr1_7 br2 W e w') : ResSSetMask ir0_0 xsr0_1 xsr0_2 ir1_0 ir1_1 ir1_2 ir1_3 ir1_4 ir1_5 ir1_6 xsr1_7 br2 W e w' := by
  obtain ⟨vr0_1, vr0_2, vr1_7, rfl, h, g⟩ := h
  exact ⟨vr0_1, vr0_2, vr1_7, rfl, OwU.rd h, OwU.rd (OwU.tail h), OwU.rd (OwU.tail (OwU.tail h)), g⟩

end Go.Proofs.Ytomiicegkdogkaa

namespace Go.Proofs.Ytomiicegkdogkaa
open Go Go.RowKit
set_option linter.unusedVariables false

theorem chg_of_row {w x y : World} {B : Nat} (g : w.grownBy x none) (h : x.grownBy y (some B)) : Chg w y B (B + 1) :=
  chg_trans (chg_gby g B (B + 1)) (chg_row h (fun i e => by cases e; omega))

theorem far3 {w : World} {b j : Nat} {v : Value} {p q r : Addr} {x y z : Value} (h : w.cell? ⟨b, j, none⟩ = some v) (hp : b ≠ p.block) (hq : b ≠ q.block) (hr : b ≠ r.block) : (((w.setCell p x).setCell q y).setCell r z).cell? ⟨b, j, none⟩ = some v := by
  rw [World.cell?_setCell_far _ _ _ _ (fun e => hr e.symm)]; exact far2 h hp hq
set_option maxRecDepth 8000 in
set_option maxHeartbeats 4000000 in
theorem l30Copy_d (W : World) (i0 : Int) (v0 v1 : Value) (xs0 xs1 : List Bool) (H0 : RdL shB W v0 xs0) (H1 : RdL shB W v1 xs1) (hl0 : szL shB xs0 ≤ 1048576) (hl1 : szL shB xs1 ≤ 1048576) :
    Calls Try.prog 60 #[vVectors i0 v0 v1] W (NewVectors i0 xs0 xs1 W) := by
  have hm0 := Nat.le_trans (szL_len _ _) hl0
  have hm1 := Nat.le_trans (szL_len _ _) hl1
  obtain ⟨a0, c0, rfl, _, _⟩ := rdB_in H0
  obtain ⟨a1, c1, rfl, _, _⟩ := rdB_in H1
  obtain ⟨n0, hn0⟩ : ∃ n, n = xs0.length := ⟨_, rfl⟩
  obtain ⟨n1, hn1⟩ : ∃ n, n = xs1.length := ⟨_, rfl⟩
  rw [← hn0] at hm0 H0 ⊢
  rw [← hn1] at hm1 H1 ⊢
  have HI0 := Lib.hid H0
  have HI1 := Lib.hid H1
  have HN0 := Lib.hid hn0
  have HN1 := Lib.hid hn1
  clear H0 H1 hn0 hn1 hl0 hl1
  unfold vVectors
  have hrA := Lib.hid (show (((W.alloc (.cells #[.int .i64 i0, .slice a0 n0 c0, .slice a1 n1 c1] 26)).alloc (.cells #[.int .i64 0, .slice none 0 0, .slice none 0 0] 26))).heap[W.heap.size]? = some (.cells #[.int .i64 i0, .slice a0 n0 c0, .slice a1 n1 c1] 26) from by rw [heap_alloc_old _ _ (by simp)]; exact heap_alloc_new W _)
  have hrZ := Lib.hid (show (((W.alloc (.cells #[.int .i64 i0, .slice a0 n0 c0, .slice a1 n1 c1] 26)).alloc (.cells #[.int .i64 0, .slice none 0 0, .slice none 0 0] 26))).heap[W.heap.size + 1]? = some (.cells #[.int .i64 0, .slice none 0 0, .slice none 0 0] 26) from heap_pair W _ _)
  have ki : (((W.alloc (.cells #[.int .i64 i0, .slice a0 n0 c0, .slice a1 n1 c1] 26)).alloc (.cells #[.int .i64 0, .slice none 0 0, .slice none 0 0] 26))).cell? ⟨W.heap.size, 0, none⟩ = some (.int .i64 i0) := cell_of_row _ _ 0 _ _ _ hrA.out
  have k0 : (((W.alloc (.cells #[.int .i64 i0, .slice a0 n0 c0, .slice a1 n1 c1] 26)).alloc (.cells #[.int .i64 0, .slice none 0 0, .slice none 0 0] 26))).cell? ⟨W.heap.size, 1, none⟩ = some (.slice a0 n0 c0) := cell_of_row _ _ 1 _ _ _ hrA.out
  have k1 : (((W.alloc (.cells #[.int .i64 i0, .slice a0 n0 c0, .slice a1 n1 c1] 26)).alloc (.cells #[.int .i64 0, .slice none 0 0, .slice none 0 0] 26))).cell? ⟨W.heap.size, 2, none⟩ = some (.slice a1 n1 c1) := cell_of_row _ _ 2 _ _ _ hrA.out
  go_enter Try.func60, Try.ntmps60
  go_wp2_with fail
  go_region_held3 (fun w' => w'.cell? ⟨W.heap.size, 0, none⟩ = some (.int .i64 i0) ∧ w'.cell? ⟨W.heap.size, 1, none⟩ = some (.slice a0 n0 c0) ∧ w'.cell? ⟨W.heap.size, 2, none⟩ = some (.slice a1 n1 c1))
    (first | exact ⟨kBi, kB0, kB1⟩ | exact ⟨kAi, kA0, kA1⟩ | exact ⟨ki, k0, k1⟩ | go_keep | exact ⟨far3 kBi (by simp) (by simp) (by simp), far3 kB0 (by simp) (by simp) (by simp), far3 kB1 (by simp) (by simp) (by simp)⟩)
    (first
      | ((refine step_clone_plain plainB slTB _ (by rfl) _ _ (by rfl) _ (by rfl) (by first | exact heap_trip W _ _ _ | exact row_held (by repeat (first | exact gby_refl _ _ | (with_reducible refine gby_alloc ?_ _) | (with_reducible refine gby_drew ?_))) (heap_trip W _ _ _) | exact heap_quad W _ _ _ _) a0 n0 c0 xs0 (by rfl) (HI0.out.grow (by repeat (first | exact gby_alloc (gby_alloc (gby_refl _ _) _) _ | (with_reducible refine gby_alloc ?_ _) | (with_reducible refine gby_drew ?_)))) (by omega) ?_; intro gA cA wA oA hgA hA sA
          have kAi : wA.cell? ⟨W.heap.size, 0, none⟩ = some (.int .i64 i0) := hgA.cell (by go_keep) (by first | (simp; done) | (simp; omega))
          have kA0 : wA.cell? ⟨W.heap.size, 1, none⟩ = some (.slice a0 n0 c0) := hgA.cell (by go_keep) (by first | (simp; done) | (simp; omega))
          have kA1 : wA.cell? ⟨W.heap.size, 2, none⟩ = some (.slice a1 n1 c1) := hgA.cell (by go_keep) (by first | (simp; done) | (simp; omega))
          have zA := hgA.size
          try simp at hA
          try simp at zA
          have GA := Lib.hid (show W.grownBy wA none from gby_new (by repeat (first | exact gby_alloc (gby_alloc (gby_refl _ _) _) _ | (with_reducible refine gby_alloc ?_ _) | (with_reducible refine gby_drew ?_))) hgA (fun i hi => by first | (simp at hi; omega) | omega))
          have ZA := Lib.hid (show wA.heap[W.heap.size + 1]? = some (.cells #[.int .i64 0, .slice none 0 0, .slice none 0 0] 26) from (hgA.block _ (by first | (simp; done) | (simp; omega)) (by first | (simp; done) | (simp; omega))).trans (row_held (by repeat (first | exact gby_refl _ _ | (with_reducible refine gby_alloc ?_ _) | (with_reducible refine gby_drew ?_))) hrZ.out))
          try have EA := (show wA.heap[W.heap.size + 1 + 1 + 1]? = some (.cells #[] 4 (0, 0)) from (hgA.block _ (by first | (simp; done) | (simp; omega)) (by first | (simp; done) | (simp; omega))).trans (heap_quad W _ _ _ _))
          try have EA := (show wA.heap[W.heap.size + 1 + 1]? = some (.cells #[] 4 (0, 0)) from (hgA.block _ (by first | (simp; done) | (simp; omega)) (by first | (simp; done) | (simp; omega))).trans (row_held (by repeat (first | exact gby_refl _ _ | (with_reducible refine gby_alloc ?_ _) | (with_reducible refine gby_drew ?_))) (heap_trip W _ _ _)))
          clear hgA))
      | ((refine step_clone_plain plainB slTB _ (by rfl) _ _ (by rfl) _ (by rfl) (by first | exact EA | exact heap_alloc_new wA _) a1 n1 c1 xs1 (by rfl) (HI1.out.grow (by repeat (first | exact GA.out | (with_reducible refine gby_alloc ?_ _) | (with_reducible refine gby_drew ?_)))) (by omega) ?_; intro gB cB wB oB hgB hB sB
          have kBi : wB.cell? ⟨W.heap.size, 0, none⟩ = some (.int .i64 i0) := hgB.cell (by go_keep) (by first | (simp; done) | (simp; omega))
          have kB0 : wB.cell? ⟨W.heap.size, 1, none⟩ = some (.slice a0 n0 c0) := hgB.cell (by go_keep) (by first | (simp; done) | (simp; omega))
          have kB1 : wB.cell? ⟨W.heap.size, 2, none⟩ = some (.slice a1 n1 c1) := hgB.cell (by go_keep) (by first | (simp; done) | (simp; omega))
          have zB := hgB.size
          try simp at hB
          try simp at zB
          have GB := Lib.hid (show W.grownBy wB none from gby_new (by repeat (first | exact GA.out | (with_reducible refine gby_alloc ?_ _) | (with_reducible refine gby_drew ?_))) hgB (fun i hi => by first | (simp at hi; omega) | omega))
          have oA2 := Lib.hid (OwL.keep oA (chg_of_row (by repeat (first | exact gby_refl _ _ | (with_reducible refine gby_alloc ?_ _) | (with_reducible refine gby_drew ?_))) hgB) (by first | omega | (simp; omega)))
          have ZB := (show wB.heap[W.heap.size + 1]? = some (.cells #[.int .i64 0, .slice none 0 0, .slice none 0 0] 26) from (hgB.block _ (by first | (simp; done) | (simp; omega) | omega) (by first | (simp; done) | (simp; omega) | omega)).trans (row_held (by repeat (first | exact gby_refl _ _ | (with_reducible refine gby_alloc ?_ _) | (with_reducible refine gby_drew ?_))) ZA.out))
          have zi : wB.cell? ⟨W.heap.size + 1, 0, none⟩ = some (.int .i64 0) := cell_of_row _ _ 0 _ _ _ ZB
          have z0 : wB.cell? ⟨W.heap.size + 1, 1, none⟩ = some (.slice none 0 0) := cell_of_row _ _ 1 _ _ _ ZB
          have z1 : wB.cell? ⟨W.heap.size + 1, 2, none⟩ = some (.slice none 0 0) := cell_of_row _ _ 2 _ _ _ ZB
          have fi := frozen_of_row wB _ 0 _ _ ZB
          have f0 := frozen_of_row wB _ 1 _ _ ZB
          have f1 := frozen_of_row wB _ 2 _ _ ZB
          clear hgB)))
  all_goals
    have hne : gA < gB ∨ gB < gA := by omega
    have OO := Lib.hid (show OwU wB (W.heap.size + 1 + 1) wB.heap.size [] [own shB (.slice (some ⟨gA, 0, none⟩) n0 cA) xs0, own shB (.slice (some ⟨gB, 0, none⟩) n1 cB) xs1] from
      ⟨gA, gA + 1, by omega, by omega, (fun i hi => (by cases hi)), oA2.out, gB, gB + 1, by omega, by omega, (fun i hi => (by
        obtain rfl := List.mem_singleton.1 hi
        dsimp only
        omega)), oB, trivial⟩)
    have C := Lib.hid (chg_trans (chg_trans (chg_one wB (W.heap.size + 1) 0 (.int .i64 i0)) (chg_one _ (W.heap.size + 1) 1 (.slice (some ⟨gA, 0, none⟩) n0 cA))) (chg_one _ (W.heap.size + 1) 2 (.slice (some ⟨gB, 0, none⟩) n1 cB)))
    have ZB2 := Lib.hid (heap_setCell_same _ _ 2 _ _ (.slice (some ⟨gB, 0, none⟩) n1 cB) (heap_setCell_same _ _ 1 _ _ (.slice (some ⟨gA, 0, none⟩) n0 cA) (heap_setCell_same wB _ 0 _ _ (.int .i64 i0) ZB)))
    have ri : ((((wB.setCell ⟨W.heap.size + 1, 0, none⟩ (.int .i64 i0)).setCell ⟨W.heap.size + 1, 1, none⟩ (.slice (some ⟨gA, 0, none⟩) n0 cA)).setCell ⟨W.heap.size + 1, 2, none⟩ (.slice (some ⟨gB, 0, none⟩) n1 cB))).cell? ⟨W.heap.size + 1, 0, none⟩ = some (.int .i64 i0) := cell_of_row _ _ 0 _ _ _ ZB2.out
    have r0 : ((((wB.setCell ⟨W.heap.size + 1, 0, none⟩ (.int .i64 i0)).setCell ⟨W.heap.size + 1, 1, none⟩ (.slice (some ⟨gA, 0, none⟩) n0 cA)).setCell ⟨W.heap.size + 1, 2, none⟩ (.slice (some ⟨gB, 0, none⟩) n1 cB))).cell? ⟨W.heap.size + 1, 1, none⟩ = some (.slice (some ⟨gA, 0, none⟩) n0 cA) := cell_of_row _ _ 1 _ _ _ ZB2.out
    have r1 : ((((wB.setCell ⟨W.heap.size + 1, 0, none⟩ (.int .i64 i0)).setCell ⟨W.heap.size + 1, 1, none⟩ (.slice (some ⟨gA, 0, none⟩) n0 cA)).setCell ⟨W.heap.size + 1, 2, none⟩ (.slice (some ⟨gB, 0, none⟩) n1 cB))).cell? ⟨W.heap.size + 1, 2, none⟩ = some (.slice (some ⟨gB, 0, none⟩) n1 cB) := cell_of_row _ _ 2 _ _ _ ZB2.out
    clear oB ZA ZB zi z0 z1 fi f0 f1 ki k0 k1 kAi kA0 kA1 kBi kB0 kB1 hA hB hne sA sB zA zB oA
    try clear EA
    go_wp2
    refine bodyPost_ret (v := vVectors i0 (.slice (some ⟨gA, 0, none⟩) n0 cA) (.slice (some ⟨gB, 0, none⟩) n1 cB)) (by simp [results, go_sem, vVectors, ri, r0, r1]) rfl ⟨_, _, rfl, ?_, ?_⟩
    · exact OwU.wide (by omega) (by simp) (OwU.keep C.out (.inr (by omega)) OO.out)
    · exact gby_chg GB.out C.out (by omega)

end Go.Proofs.Ytomiicegkdogkaa

namespace Go.Proofs.Ytomiicegkdogkaa
open Go Go.RowKit
set_option linter.unusedVariables false

theorem setB_false (ys : List Bool) (k : Nat) (h : ys.getD k false = false) : True := trivial
theorem getD_setB (ys : List Bool) (k j : Nat) (x : Bool) (hk : k < ys.length) : (ys.set k x).getD j false = if k = j then x else ys.getD j false := by
  rw [List.getD_eq_getElem?_getD, List.getElem?_set]
  by_cases e : k = j
  · subst e; rw [if_pos rfl, if_pos hk, if_pos rfl]; rfl
  · rw [if_neg e, if_neg e, ← List.getD_eq_getElem?_getD]
theorem far1 {w : World} {b j : Nat} {v : Value} {p : Addr} {x : Value} (h : w.cell? ⟨b, j, none⟩ = some v) (hp : b ≠ p.block) : (w.setCell p x).cell? ⟨b, j, none⟩ = some v := by
  rw [World.cell?_setCell_far _ _ _ _ (fun e => hp e.symm)]; exact h
theorem rdB_cell {w : World} {b off n c : Nat} {xs : List Bool} (h : RdL shB w (.slice (some ⟨b, off, none⟩) n c) xs) (k : Nat) (hk : k < xs.length) : w.cell? ⟨b, off + k, none⟩ = some (.bool (xs.getD k false)) := by
  obtain ⟨a1, c1, e, _, r1⟩ := rdB_in h
  injection e with e1 e2 e3
  subst e1
  obtain ⟨b2, o2, e4, hc⟩ := r1.resolve_left (by omega)
  injection e4 with e4
  injection e4 with e5 e6
  subst e5 e6
  exact hc k hk
theorem rdB_some {w : World} {p : Option Addr} {n c : Nat} {xs : List Bool} (h : RdL shB w (.slice p n c) xs) (k : Nat) (hk : k < xs.length) : n = xs.length ∧ ∃ b off, p = some ⟨b, off, none⟩ ∧ w.cell? ⟨b, off + k, none⟩ = some (.bool (xs.getD k false)) := by
  obtain ⟨a1, c1, e, _, r1⟩ := rdB_in h
  injection e with e1 e2 e3
  subst e1
  obtain ⟨b2, o2, e4, hc⟩ := r1.resolve_left (by omega)
  exact ⟨e2, b2, o2, e4, hc k hk⟩

set_option maxRecDepth 8000 in
set_option maxHeartbeats 4000000 in
theorem specRaise_bad (W : World) (i0 : Int) (v1 v2 : Value) (xs ys : List Bool) (H1 : RdL shB W v1 xs) (H2 : RdL shB W v2 ys) (hl1 : szL shB xs ≤ 1048576) (hl2 : szL shB ys ≤ 1048576) (id k : Int) (hb : ¬ VCall i0 xs ys id k) : Calls Try.prog 12 #[vVectors i0 v1 v2, .int .i64 id, .int .i64 k] W (ResIRaiseVector i0 xs ys 0 0 0 0 0 0 0 [] false W) := by
  have HOK := Lib.hid hb
  clear hb
  have H1_ := Lib.hid H1
  have H2_ := Lib.hid H2
  obtain ⟨a1, n1, c1, rfl⟩ := RdL.form H1
  obtain ⟨a2, n2, c2, rfl⟩ := RdL.form H2
  clear H1 H2
  unfold vVectors
  go_enter Try.func12, Try.ntmps12
  have rA1_ := Lib.hid (show ((((W.alloc (.cells #[.int .i64 i0, .slice a1 n1 c1, .slice a2 n2 c2] 26)).alloc (.cells #[.int .i64 0, .slice none 0 0, .slice none 0 0] 26)).alloc (.cells #[.int .i64 0, .int .i64 0, .int .i64 0, .int .i64 0, .int .i64 0, .int .i64 0, .int .i64 0, .slice none 0 0] 29))).heap[W.heap.size]? = some (.cells #[.int .i64 i0, .slice a1 n1 c1, .slice a2 n2 c2] 26 (0, 0)) from by rw [heap_alloc_old _ _ (by simp only [World.size_alloc]; omega)]; rw [heap_alloc_old _ _ (by simp only [World.size_alloc]; omega)]; exact heap_alloc_new _ _)
  have rR2_ := Lib.hid (show ((((W.alloc (.cells #[.int .i64 i0, .slice a1 n1 c1, .slice a2 n2 c2] 26)).alloc (.cells #[.int .i64 0, .slice none 0 0, .slice none 0 0] 26)).alloc (.cells #[.int .i64 0, .int .i64 0, .int .i64 0, .int .i64 0, .int .i64 0, .int .i64 0, .int .i64 0, .slice none 0 0] 29))).heap[W.heap.size + 1]? = some (.cells #[.int .i64 0, .slice none 0 0, .slice none 0 0] 26 (0, 0)) from by rw [heap_alloc_old _ _ (by simp only [World.size_alloc]; omega)]; exact heap_pair _ _ _)
  have rQ3_ := Lib.hid (show ((((W.alloc (.cells #[.int .i64 i0, .slice a1 n1 c1, .slice a2 n2 c2] 26)).alloc (.cells #[.int .i64 0, .slice none 0 0, .slice none 0 0] 26)).alloc (.cells #[.int .i64 0, .int .i64 0, .int .i64 0, .int .i64 0, .int .i64 0, .int .i64 0, .int .i64 0, .slice none 0 0] 29))).heap[W.heap.size + 1 + 1]? = some (.cells #[.int .i64 0, .int .i64 0, .int .i64 0, .int .i64 0, .int .i64 0, .int .i64 0, .int .i64 0, .slice none 0 0] 29 (0, 0)) from by exact heap_trip _ _ _ _)
  have G4_ := Lib.hid (show (W).grownBy ((((W.alloc (.cells #[.int .i64 i0, .slice a1 n1 c1, .slice a2 n2 c2] 26)).alloc (.cells #[.int .i64 0, .slice none 0 0, .slice none 0 0] 26)).alloc (.cells #[.int .i64 0, .int .i64 0, .int .i64 0, .int .i64 0, .int .i64 0, .int .i64 0, .int .i64 0, .slice none 0 0] 29))) none from (gby_alloc (gby_alloc (gby_alloc (gby_refl _ _) _) _) _))
  have A_0_ : ((((W.alloc (.cells #[.int .i64 i0, .slice a1 n1 c1, .slice a2 n2 c2] 26)).alloc (.cells #[.int .i64 0, .slice none 0 0, .slice none 0 0] 26)).alloc (.cells #[.int .i64 0, .int .i64 0, .int .i64 0, .int .i64 0, .int .i64 0, .int .i64 0, .int .i64 0, .slice none 0 0] 29))).cell? ⟨W.heap.size, 0, none⟩ = some (.int .i64 i0) := cell_of_row _ _ 0 _ _ _ rA1_.out
  have A_1_ : ((((W.alloc (.cells #[.int .i64 i0, .slice a1 n1 c1, .slice a2 n2 c2] 26)).alloc (.cells #[.int .i64 0, .slice none 0 0, .slice none 0 0] 26)).alloc (.cells #[.int .i64 0, .int .i64 0, .int .i64 0, .int .i64 0, .int .i64 0, .int .i64 0, .int .i64 0, .slice none 0 0] 29))).cell? ⟨W.heap.size, 1, none⟩ = some (.slice a1 n1 c1) := cell_of_row _ _ 1 _ _ _ rA1_.out
  have A_2_ : ((((W.alloc (.cells #[.int .i64 i0, .slice a1 n1 c1, .slice a2 n2 c2] 26)).alloc (.cells #[.int .i64 0, .slice none 0 0, .slice none 0 0] 26)).alloc (.cells #[.int .i64 0, .int .i64 0, .int .i64 0, .int .i64 0, .int .i64 0, .int .i64 0, .int .i64 0, .slice none 0 0] 29))).cell? ⟨W.heap.size, 2, none⟩ = some (.slice a2 n2 c2) := cell_of_row _ _ 2 _ _ _ rA1_.out
  have R_0_ : ((((W.alloc (.cells #[.int .i64 i0, .slice a1 n1 c1, .slice a2 n2 c2] 26)).alloc (.cells #[.int .i64 0, .slice none 0 0, .slice none 0 0] 26)).alloc (.cells #[.int .i64 0, .int .i64 0, .int .i64 0, .int .i64 0, .int .i64 0, .int .i64 0, .int .i64 0, .slice none 0 0] 29))).cell? ⟨W.heap.size + 1, 0, none⟩ = some (.int .i64 0) := cell_of_row _ _ 0 _ _ _ rR2_.out
  have R_1_ : ((((W.alloc (.cells #[.int .i64 i0, .slice a1 n1 c1, .slice a2 n2 c2] 26)).alloc (.cells #[.int .i64 0, .slice none 0 0, .slice none 0 0] 26)).alloc (.cells #[.int .i64 0, .int .i64 0, .int .i64 0, .int .i64 0, .int .i64 0, .int .i64 0, .int .i64 0, .slice none 0 0] 29))).cell? ⟨W.heap.size + 1, 1, none⟩ = some (.slice none 0 0) := cell_of_row _ _ 1 _ _ _ rR2_.out
  have R_2_ : ((((W.alloc (.cells #[.int .i64 i0, .slice a1 n1 c1, .slice a2 n2 c2] 26)).alloc (.cells #[.int .i64 0, .slice none 0 0, .slice none 0 0] 26)).alloc (.cells #[.int .i64 0, .int .i64 0, .int .i64 0, .int .i64 0, .int .i64 0, .int .i64 0, .int .i64 0, .slice none 0 0] 29))).cell? ⟨W.heap.size + 1, 2, none⟩ = some (.slice none 0 0) := cell_of_row _ _ 2 _ _ _ rR2_.out
  have Q_0_ : ((((W.alloc (.cells #[.int .i64 i0, .slice a1 n1 c1, .slice a2 n2 c2] 26)).alloc (.cells #[.int .i64 0, .slice none 0 0, .slice none 0 0] 26)).alloc (.cells #[.int .i64 0, .int .i64 0, .int .i64 0, .int .i64 0, .int .i64 0, .int .i64 0, .int .i64 0, .slice none 0 0] 29))).cell? ⟨W.heap.size + 1 + 1, 0, none⟩ = some (.int .i64 0) := cell_of_row _ _ 0 _ _ _ rQ3_.out
  have Q_1_ : ((((W.alloc (.cells #[.int .i64 i0, .slice a1 n1 c1, .slice a2 n2 c2] 26)).alloc (.cells #[.int .i64 0, .slice none 0 0, .slice none 0 0] 26)).alloc (.cells #[.int .i64 0, .int .i64 0, .int .i64 0, .int .i64 0, .int .i64 0, .int .i64 0, .int .i64 0, .slice none 0 0] 29))).cell? ⟨W.heap.size + 1 + 1, 1, none⟩ = some (.int .i64 0) := cell_of_row _ _ 1 _ _ _ rQ3_.out
  have Q_2_ : ((((W.alloc (.cells #[.int .i64 i0, .slice a1 n1 c1, .slice a2 n2 c2] 26)).alloc (.cells #[.int .i64 0, .slice none 0 0, .slice none 0 0] 26)).alloc (.cells #[.int .i64 0, .int .i64 0, .int .i64 0, .int .i64 0, .int .i64 0, .int .i64 0, .int .i64 0, .slice none 0 0] 29))).cell? ⟨W.heap.size + 1 + 1, 2, none⟩ = some (.int .i64 0) := cell_of_row _ _ 2 _ _ _ rQ3_.out
  have Q_3_ : ((((W.alloc (.cells #[.int .i64 i0, .slice a1 n1 c1, .slice a2 n2 c2] 26)).alloc (.cells #[.int .i64 0, .slice none 0 0, .slice none 0 0] 26)).alloc (.cells #[.int .i64 0, .int .i64 0, .int .i64 0, .int .i64 0, .int .i64 0, .int .i64 0, .int .i64 0, .slice none 0 0] 29))).cell? ⟨W.heap.size + 1 + 1, 3, none⟩ = some (.int .i64 0) := cell_of_row _ _ 3 _ _ _ rQ3_.out
  have Q_4_ : ((((W.alloc (.cells #[.int .i64 i0, .slice a1 n1 c1, .slice a2 n2 c2] 26)).alloc (.cells #[.int .i64 0, .slice none 0 0, .slice none 0 0] 26)).alloc (.cells #[.int .i64 0, .int .i64 0, .int .i64 0, .int .i64 0, .int .i64 0, .int .i64 0, .int .i64 0, .slice none 0 0] 29))).cell? ⟨W.heap.size + 1 + 1, 4, none⟩ = some (.int .i64 0) := cell_of_row _ _ 4 _ _ _ rQ3_.out
  have Q_5_ : ((((W.alloc (.cells #[.int .i64 i0, .slice a1 n1 c1, .slice a2 n2 c2] 26)).alloc (.cells #[.int .i64 0, .slice none 0 0, .slice none 0 0] 26)).alloc (.cells #[.int .i64 0, .int .i64 0, .int .i64 0, .int .i64 0, .int .i64 0, .int .i64 0, .int .i64 0, .slice none 0 0] 29))).cell? ⟨W.heap.size + 1 + 1, 5, none⟩ = some (.int .i64 0) := cell_of_row _ _ 5 _ _ _ rQ3_.out
  have Q_6_ : ((((W.alloc (.cells #[.int .i64 i0, .slice a1 n1 c1, .slice a2 n2 c2] 26)).alloc (.cells #[.int .i64 0, .slice none 0 0, .slice none 0 0] 26)).alloc (.cells #[.int .i64 0, .int .i64 0, .int .i64 0, .int .i64 0, .int .i64 0, .int .i64 0, .int .i64 0, .slice none 0 0] 29))).cell? ⟨W.heap.size + 1 + 1, 6, none⟩ = some (.int .i64 0) := cell_of_row _ _ 6 _ _ _ rQ3_.out
  have Q_7_ : ((((W.alloc (.cells #[.int .i64 i0, .slice a1 n1 c1, .slice a2 n2 c2] 26)).alloc (.cells #[.int .i64 0, .slice none 0 0, .slice none 0 0] 26)).alloc (.cells #[.int .i64 0, .int .i64 0, .int .i64 0, .int .i64 0, .int .i64 0, .int .i64 0, .int .i64 0, .slice none 0 0] 29))).cell? ⟨W.heap.size + 1 + 1, 7, none⟩ = some (.slice none 0 0) := cell_of_row _ _ 7 _ _ _ rQ3_.out
  go_wp2_with fail
  go_at_call 60
  refine (l30Copy_d _ i0 _ _ xs ys (H1_.out.grow G4_.out) (H2_.out.grow G4_.out) hl1 hl2).mono ?_
  rintro e w1 ⟨x1, x2, rfl, o, g⟩
  have sz_ := g.size
  try simp only [World.size_alloc] at sz_ o
  clear A_0_ A_1_ A_2_ R_0_ R_1_ R_2_ Q_0_ Q_1_ Q_2_ Q_3_ Q_4_ Q_5_ Q_6_ Q_7_
  have rA5_ := Lib.hid (show (w1).heap[W.heap.size]? = some (.cells #[.int .i64 i0, .slice a1 n1 c1, .slice a2 n2 c2] 26 (0, 0)) from row_held g rA1_.out)
  clear rA1_
  have rR6_ := Lib.hid (show (w1).heap[W.heap.size + 1]? = some (.cells #[.int .i64 0, .slice none 0 0, .slice none 0 0] 26 (0, 0)) from row_held g rR2_.out)
  clear rR2_
  have rQ7_ := Lib.hid (show (w1).heap[W.heap.size + 1 + 1]? = some (.cells #[.int .i64 0, .int .i64 0, .int .i64 0, .int .i64 0, .int .i64 0, .int .i64 0, .int .i64 0, .slice none 0 0] 29 (0, 0)) from row_held g rQ3_.out)
  clear rQ3_
  have G8_ := Lib.hid (show (W).grownBy (w1) none from gby_trans G4_.out g)
  clear g
  obtain ⟨d1, m1, k1, hv_⟩ := RdL.form (OwU.rd o)
  subst hv_
  obtain ⟨d2, m2, k2, hv_⟩ := RdL.form (OwU.rd (OwU.tail o))
  subst hv_
  unfold vVectors
  have oC9_ := Lib.hid (show OwU (w1) ((W.heap.size + 1 + 1 + 1)) (w1.heap.size) [] [own shB (.slice d1 m1 k1) xs, own shB (.slice d2 m2 k2) ys] from o)
  clear o
  have al_ : (w1).grownBy ((w1).alloc (.cells #[.int .i64 i0, .slice d1 m1 k1, .slice d2 m2 k2] 26)) none := gby_alloc (gby_refl _ _) _
  have rA10_ := Lib.hid (show ((w1.alloc (.cells #[.int .i64 i0, .slice d1 m1 k1, .slice d2 m2 k2] 26))).heap[W.heap.size]? = some (.cells #[.int .i64 i0, .slice a1 n1 c1, .slice a2 n2 c2] 26 (0, 0)) from row_held al_ rA5_.out)
  clear rA5_
  have rR11_ := Lib.hid (show ((w1.alloc (.cells #[.int .i64 i0, .slice d1 m1 k1, .slice d2 m2 k2] 26))).heap[W.heap.size + 1]? = some (.cells #[.int .i64 0, .slice none 0 0, .slice none 0 0] 26 (0, 0)) from row_held al_ rR6_.out)
  clear rR6_
  have rQ12_ := Lib.hid (show ((w1.alloc (.cells #[.int .i64 i0, .slice d1 m1 k1, .slice d2 m2 k2] 26))).heap[W.heap.size + 1 + 1]? = some (.cells #[.int .i64 0, .int .i64 0, .int .i64 0, .int .i64 0, .int .i64 0, .int .i64 0, .int .i64 0, .slice none 0 0] 29 (0, 0)) from row_held al_ rQ7_.out)
  clear rQ7_
  have oC13_ := Lib.hid (show OwU ((w1.alloc (.cells #[.int .i64 i0, .slice d1 m1 k1, .slice d2 m2 k2] 26))) ((W.heap.size + 1 + 1 + 1)) (w1.heap.size) [] [own shB (.slice d1 m1 k1) xs, own shB (.slice d2 m2 k2) ys] from OwU.grow oC9_.out al_)
  clear oC9_
  have G14_ := Lib.hid (show (W).grownBy ((w1.alloc (.cells #[.int .i64 i0, .slice d1 m1 k1, .slice d2 m2 k2] 26))) none from gby_trans G8_.out al_)
  have rX15_ := Lib.hid (show ((w1.alloc (.cells #[.int .i64 i0, .slice d1 m1 k1, .slice d2 m2 k2] 26))).heap[w1.heap.size]? = some (.cells #[.int .i64 i0, .slice d1 m1 k1, .slice d2 m2 k2] 26 (0, 0)) from by first | exact heap_alloc_new _ _ | exact heap_pair _ _ _ | exact heap_trip _ _ _ _)
  clear al_
  have A_0_ : ((w1.alloc (.cells #[.int .i64 i0, .slice d1 m1 k1, .slice d2 m2 k2] 26))).cell? ⟨W.heap.size, 0, none⟩ = some (.int .i64 i0) := cell_of_row _ _ 0 _ _ _ rA10_.out
  have A_1_ : ((w1.alloc (.cells #[.int .i64 i0, .slice d1 m1 k1, .slice d2 m2 k2] 26))).cell? ⟨W.heap.size, 1, none⟩ = some (.slice a1 n1 c1) := cell_of_row _ _ 1 _ _ _ rA10_.out
  have A_2_ : ((w1.alloc (.cells #[.int .i64 i0, .slice d1 m1 k1, .slice d2 m2 k2] 26))).cell? ⟨W.heap.size, 2, none⟩ = some (.slice a2 n2 c2) := cell_of_row _ _ 2 _ _ _ rA10_.out
  have R_0_ : ((w1.alloc (.cells #[.int .i64 i0, .slice d1 m1 k1, .slice d2 m2 k2] 26))).cell? ⟨W.heap.size + 1, 0, none⟩ = some (.int .i64 0) := cell_of_row _ _ 0 _ _ _ rR11_.out
  have R_1_ : ((w1.alloc (.cells #[.int .i64 i0, .slice d1 m1 k1, .slice d2 m2 k2] 26))).cell? ⟨W.heap.size + 1, 1, none⟩ = some (.slice none 0 0) := cell_of_row _ _ 1 _ _ _ rR11_.out
  have R_2_ : ((w1.alloc (.cells #[.int .i64 i0, .slice d1 m1 k1, .slice d2 m2 k2] 26))).cell? ⟨W.heap.size + 1, 2, none⟩ = some (.slice none 0 0) := cell_of_row _ _ 2 _ _ _ rR11_.out
  have Q_0_ : ((w1.alloc (.cells #[.int .i64 i0, .slice d1 m1 k1, .slice d2 m2 k2] 26))).cell? ⟨W.heap.size + 1 + 1, 0, none⟩ = some (.int .i64 0) := cell_of_row _ _ 0 _ _ _ rQ12_.out
  have Q_1_ : ((w1.alloc (.cells #[.int .i64 i0, .slice d1 m1 k1, .slice d2 m2 k2] 26))).cell? ⟨W.heap.size + 1 + 1, 1, none⟩ = some (.int .i64 0) := cell_of_row _ _ 1 _ _ _ rQ12_.out
  have Q_2_ : ((w1.alloc (.cells #[.int .i64 i0, .slice d1 m1 k1, .slice d2 m2 k2] 26))).cell? ⟨W.heap.size + 1 + 1, 2, none⟩ = some (.int .i64 0) := cell_of_row _ _ 2 _ _ _ rQ12_.out
  have Q_3_ : ((w1.alloc (.cells #[.int .i64 i0, .slice d1 m1 k1, .slice d2 m2 k2] 26))).cell? ⟨W.heap.size + 1 + 1, 3, none⟩ = some (.int .i64 0) := cell_of_row _ _ 3 _ _ _ rQ12_.out
  have Q_4_ : ((w1.alloc (.cells #[.int .i64 i0, .slice d1 m1 k1, .slice d2 m2 k2] 26))).cell? ⟨W.heap.size + 1 + 1, 4, none⟩ = some (.int .i64 0) := cell_of_row _ _ 4 _ _ _ rQ12_.out
  have Q_5_ : ((w1.alloc (.cells #[.int .i64 i0, .slice d1 m1 k1, .slice d2 m2 k2] 26))).cell? ⟨W.heap.size + 1 + 1, 5, none⟩ = some (.int .i64 0) := cell_of_row _ _ 5 _ _ _ rQ12_.out
  have Q_6_ : ((w1.alloc (.cells #[.int .i64 i0, .slice d1 m1 k1, .slice d2 m2 k2] 26))).cell? ⟨W.heap.size + 1 + 1, 6, none⟩ = some (.int .i64 0) := cell_of_row _ _ 6 _ _ _ rQ12_.out
  have Q_7_ : ((w1.alloc (.cells #[.int .i64 i0, .slice d1 m1 k1, .slice d2 m2 k2] 26))).cell? ⟨W.heap.size + 1 + 1, 7, none⟩ = some (.slice none 0 0) := cell_of_row _ _ 7 _ _ _ rQ12_.out
  have X_0_ : ((w1.alloc (.cells #[.int .i64 i0, .slice d1 m1 k1, .slice d2 m2 k2] 26))).cell? ⟨w1.heap.size, 0, none⟩ = some (.int .i64 i0) := cell_of_row _ _ 0 _ _ _ rX15_.out
  have X_1_ : ((w1.alloc (.cells #[.int .i64 i0, .slice d1 m1 k1, .slice d2 m2 k2] 26))).cell? ⟨w1.heap.size, 1, none⟩ = some (.slice d1 m1 k1) := cell_of_row _ _ 1 _ _ _ rX15_.out
  have X_2_ : ((w1.alloc (.cells #[.int .i64 i0, .slice d1 m1 k1, .slice d2 m2 k2] 26))).cell? ⟨w1.heap.size, 2, none⟩ = some (.slice d2 m2 k2) := cell_of_row _ _ 2 _ _ _ rX15_.out
  go_wp2_with fail
  go_at_call 61
  refine (((specVCall _ i0 _ _ xs ys id k (H1_.out.grow G14_.out) (H2_.out.grow G14_.out)).mono (bpost_no HOK.out))).mono ?_
  rintro e w2 ⟨rfl, g⟩
  have szw2 := g.size
  try simp only [World.size_alloc] at szw2
  try simp only [World.size_setCell] at szw2
  clear A_0_ A_1_ A_2_ R_0_ R_1_ R_2_ Q_0_ Q_1_ Q_2_ Q_3_ Q_4_ Q_5_ Q_6_ Q_7_ X_0_ X_1_ X_2_
  have rA16_ := Lib.hid (show (w2).heap[W.heap.size]? = some (.cells #[.int .i64 i0, .slice a1 n1 c1, .slice a2 n2 c2] 26 (0, 0)) from row_held g rA10_.out)
  clear rA10_
  have rR17_ := Lib.hid (show (w2).heap[W.heap.size + 1]? = some (.cells #[.int .i64 0, .slice none 0 0, .slice none 0 0] 26 (0, 0)) from row_held g rR11_.out)
  clear rR11_
  have rQ18_ := Lib.hid (show (w2).heap[W.heap.size + 1 + 1]? = some (.cells #[.int .i64 0, .int .i64 0, .int .i64 0, .int .i64 0, .int .i64 0, .int .i64 0, .int .i64 0, .slice none 0 0] 29 (0, 0)) from row_held g rQ12_.out)
  clear rQ12_
  have rX19_ := Lib.hid (show (w2).heap[w1.heap.size]? = some (.cells #[.int .i64 i0, .slice d1 m1 k1, .slice d2 m2 k2] 26 (0, 0)) from row_held g rX15_.out)
  clear rX15_
  have oC20_ := Lib.hid (show OwU (w2) ((W.heap.size + 1 + 1 + 1)) (w1.heap.size) [] [own shB (.slice d1 m1 k1) xs, own shB (.slice d2 m2 k2) ys] from OwU.grow oC13_.out g)
  clear oC13_
  have G21_ := Lib.hid (show (W).grownBy (w2) none from gby_trans G14_.out g)
  clear g
  have A_0_ : (w2).cell? ⟨W.heap.size, 0, none⟩ = some (.int .i64 i0) := cell_of_row _ _ 0 _ _ _ rA16_.out
  have A_1_ : (w2).cell? ⟨W.heap.size, 1, none⟩ = some (.slice a1 n1 c1) := cell_of_row _ _ 1 _ _ _ rA16_.out
  have A_2_ : (w2).cell? ⟨W.heap.size, 2, none⟩ = some (.slice a2 n2 c2) := cell_of_row _ _ 2 _ _ _ rA16_.out
  have R_0_ : (w2).cell? ⟨W.heap.size + 1, 0, none⟩ = some (.int .i64 0) := cell_of_row _ _ 0 _ _ _ rR17_.out
  have R_1_ : (w2).cell? ⟨W.heap.size + 1, 1, none⟩ = some (.slice none 0 0) := cell_of_row _ _ 1 _ _ _ rR17_.out
  have R_2_ : (w2).cell? ⟨W.heap.size + 1, 2, none⟩ = some (.slice none 0 0) := cell_of_row _ _ 2 _ _ _ rR17_.out
  have Q_0_ : (w2).cell? ⟨W.heap.size + 1 + 1, 0, none⟩ = some (.int .i64 0) := cell_of_row _ _ 0 _ _ _ rQ18_.out
  have Q_1_ : (w2).cell? ⟨W.heap.size + 1 + 1, 1, none⟩ = some (.int .i64 0) := cell_of_row _ _ 1 _ _ _ rQ18_.out
  have Q_2_ : (w2).cell? ⟨W.heap.size + 1 + 1, 2, none⟩ = some (.int .i64 0) := cell_of_row _ _ 2 _ _ _ rQ18_.out
  have Q_3_ : (w2).cell? ⟨W.heap.size + 1 + 1, 3, none⟩ = some (.int .i64 0) := cell_of_row _ _ 3 _ _ _ rQ18_.out
  have Q_4_ : (w2).cell? ⟨W.heap.size + 1 + 1, 4, none⟩ = some (.int .i64 0) := cell_of_row _ _ 4 _ _ _ rQ18_.out
  have Q_5_ : (w2).cell? ⟨W.heap.size + 1 + 1, 5, none⟩ = some (.int .i64 0) := cell_of_row _ _ 5 _ _ _ rQ18_.out
  have Q_6_ : (w2).cell? ⟨W.heap.size + 1 + 1, 6, none⟩ = some (.int .i64 0) := cell_of_row _ _ 6 _ _ _ rQ18_.out
  have Q_7_ : (w2).cell? ⟨W.heap.size + 1 + 1, 7, none⟩ = some (.slice none 0 0) := cell_of_row _ _ 7 _ _ _ rQ18_.out
  have X_0_ : (w2).cell? ⟨w1.heap.size, 0, none⟩ = some (.int .i64 i0) := cell_of_row _ _ 0 _ _ _ rX19_.out
  have X_1_ : (w2).cell? ⟨w1.heap.size, 1, none⟩ = some (.slice d1 m1 k1) := cell_of_row _ _ 1 _ _ _ rX19_.out
  have X_2_ : (w2).cell? ⟨w1.heap.size, 2, none⟩ = some (.slice d2 m2 k2) := cell_of_row _ _ 2 _ _ _ rX19_.out
  clear A_0_ A_1_ A_2_ R_0_ R_1_ R_2_ Q_0_ Q_1_ Q_2_ Q_3_ Q_4_ Q_5_ Q_6_ Q_7_ X_0_ X_1_ X_2_
  have A_0_ : (w2).cell? ⟨W.heap.size, 0, none⟩ = some (.int .i64 i0) := cell_of_row _ _ 0 _ _ _ rA16_.out
  have A_1_ : (w2).cell? ⟨W.heap.size, 1, none⟩ = some (.slice a1 n1 c1) := cell_of_row _ _ 1 _ _ _ rA16_.out
  have A_2_ : (w2).cell? ⟨W.heap.size, 2, none⟩ = some (.slice a2 n2 c2) := cell_of_row _ _ 2 _ _ _ rA16_.out
  have R_0_ : (w2).cell? ⟨W.heap.size + 1, 0, none⟩ = some (.int .i64 0) := cell_of_row _ _ 0 _ _ _ rR17_.out
  have R_1_ : (w2).cell? ⟨W.heap.size + 1, 1, none⟩ = some (.slice none 0 0) := cell_of_row _ _ 1 _ _ _ rR17_.out
  have R_2_ : (w2).cell? ⟨W.heap.size + 1, 2, none⟩ = some (.slice none 0 0) := cell_of_row _ _ 2 _ _ _ rR17_.out
  have Rf0_ : (w2).frozen? ⟨W.heap.size + 1, 0, none⟩ = false := frozen_of_row _ _ 0 _ _ rR17_.out
  have Rf1_ : (w2).frozen? ⟨W.heap.size + 1, 1, none⟩ = false := frozen_of_row _ _ 1 _ _ rR17_.out
  have Rf2_ : (w2).frozen? ⟨W.heap.size + 1, 2, none⟩ = false := frozen_of_row _ _ 2 _ _ rR17_.out
  have Q_0_ : (w2).cell? ⟨W.heap.size + 1 + 1, 0, none⟩ = some (.int .i64 0) := cell_of_row _ _ 0 _ _ _ rQ18_.out
  have Q_1_ : (w2).cell? ⟨W.heap.size + 1 + 1, 1, none⟩ = some (.int .i64 0) := cell_of_row _ _ 1 _ _ _ rQ18_.out
  have Q_2_ : (w2).cell? ⟨W.heap.size + 1 + 1, 2, none⟩ = some (.int .i64 0) := cell_of_row _ _ 2 _ _ _ rQ18_.out
  have Q_3_ : (w2).cell? ⟨W.heap.size + 1 + 1, 3, none⟩ = some (.int .i64 0) := cell_of_row _ _ 3 _ _ _ rQ18_.out
  have Q_4_ : (w2).cell? ⟨W.heap.size + 1 + 1, 4, none⟩ = some (.int .i64 0) := cell_of_row _ _ 4 _ _ _ rQ18_.out
  have Q_5_ : (w2).cell? ⟨W.heap.size + 1 + 1, 5, none⟩ = some (.int .i64 0) := cell_of_row _ _ 5 _ _ _ rQ18_.out
  have Q_6_ : (w2).cell? ⟨W.heap.size + 1 + 1, 6, none⟩ = some (.int .i64 0) := cell_of_row _ _ 6 _ _ _ rQ18_.out
  have Q_7_ : (w2).cell? ⟨W.heap.size + 1 + 1, 7, none⟩ = some (.slice none 0 0) := cell_of_row _ _ 7 _ _ _ rQ18_.out
  have Qf0_ : (w2).frozen? ⟨W.heap.size + 1 + 1, 0, none⟩ = false := frozen_of_row _ _ 0 _ _ rQ18_.out
  have Qf1_ : (w2).frozen? ⟨W.heap.size + 1 + 1, 1, none⟩ = false := frozen_of_row _ _ 1 _ _ rQ18_.out
  have Qf2_ : (w2).frozen? ⟨W.heap.size + 1 + 1, 2, none⟩ = false := frozen_of_row _ _ 2 _ _ rQ18_.out
  have Qf3_ : (w2).frozen? ⟨W.heap.size + 1 + 1, 3, none⟩ = false := frozen_of_row _ _ 3 _ _ rQ18_.out
  have Qf4_ : (w2).frozen? ⟨W.heap.size + 1 + 1, 4, none⟩ = false := frozen_of_row _ _ 4 _ _ rQ18_.out
  have Qf5_ : (w2).frozen? ⟨W.heap.size + 1 + 1, 5, none⟩ = false := frozen_of_row _ _ 5 _ _ rQ18_.out
  have Qf6_ : (w2).frozen? ⟨W.heap.size + 1 + 1, 6, none⟩ = false := frozen_of_row _ _ 6 _ _ rQ18_.out
  have Qf7_ : (w2).frozen? ⟨W.heap.size + 1 + 1, 7, none⟩ = false := frozen_of_row _ _ 7 _ _ rQ18_.out
  have X_0_ : (w2).cell? ⟨w1.heap.size, 0, none⟩ = some (.int .i64 i0) := cell_of_row _ _ 0 _ _ _ rX19_.out
  have X_1_ : (w2).cell? ⟨w1.heap.size, 1, none⟩ = some (.slice d1 m1 k1) := cell_of_row _ _ 1 _ _ _ rX19_.out
  have X_2_ : (w2).cell? ⟨w1.heap.size, 2, none⟩ = some (.slice d2 m2 k2) := cell_of_row _ _ 2 _ _ _ rX19_.out
  have yr_ := Lib.hid (show ((((((((((((w2.setCell ⟨W.heap.size + 1, 0, none⟩ (.int .i64 i0)).setCell ⟨W.heap.size + 1, 1, none⟩ (.slice d1 m1 k1)).setCell ⟨W.heap.size + 1, 2, none⟩ (.slice d2 m2 k2)).setCell ⟨W.heap.size + 1 + 1, 0, none⟩ (.int .i64 0)).setCell ⟨W.heap.size + 1 + 1, 1, none⟩ (.int .i64 0)).setCell ⟨W.heap.size + 1 + 1, 2, none⟩ (.int .i64 0)).setCell ⟨W.heap.size + 1 + 1, 3, none⟩ (.int .i64 0)).setCell ⟨W.heap.size + 1 + 1, 4, none⟩ (.int .i64 0)).setCell ⟨W.heap.size + 1 + 1, 5, none⟩ (.int .i64 0)).setCell ⟨W.heap.size + 1 + 1, 6, none⟩ (.int .i64 0)).setCell ⟨W.heap.size + 1 + 1, 7, none⟩ (.slice none 0 0))).heap[W.heap.size + 1]? = some (.cells #[.int .i64 i0, .slice d1 m1 k1, .slice d2 m2 k2] 26 (0, 0)) from (set_far (set_far (set_far (set_far (set_far (set_far (set_far (set_far (heap_setCell_same _ _ 2 _ _ _ (heap_setCell_same _ _ 1 _ _ _ (heap_setCell_same _ _ 0 _ _ _ rR17_.out))) (by dsimp only; omega)) (by dsimp only; omega)) (by dsimp only; omega)) (by dsimp only; omega)) (by dsimp only; omega)) (by dsimp only; omega)) (by dsimp only; omega)) (by dsimp only; omega)))
  have yq_ := Lib.hid (show ((((((((((((w2.setCell ⟨W.heap.size + 1, 0, none⟩ (.int .i64 i0)).setCell ⟨W.heap.size + 1, 1, none⟩ (.slice d1 m1 k1)).setCell ⟨W.heap.size + 1, 2, none⟩ (.slice d2 m2 k2)).setCell ⟨W.heap.size + 1 + 1, 0, none⟩ (.int .i64 0)).setCell ⟨W.heap.size + 1 + 1, 1, none⟩ (.int .i64 0)).setCell ⟨W.heap.size + 1 + 1, 2, none⟩ (.int .i64 0)).setCell ⟨W.heap.size + 1 + 1, 3, none⟩ (.int .i64 0)).setCell ⟨W.heap.size + 1 + 1, 4, none⟩ (.int .i64 0)).setCell ⟨W.heap.size + 1 + 1, 5, none⟩ (.int .i64 0)).setCell ⟨W.heap.size + 1 + 1, 6, none⟩ (.int .i64 0)).setCell ⟨W.heap.size + 1 + 1, 7, none⟩ (.slice none 0 0))).heap[W.heap.size + 1 + 1]? = some (.cells #[.int .i64 0, .int .i64 0, .int .i64 0, .int .i64 0, .int .i64 0, .int .i64 0, .int .i64 0, .slice none 0 0] 29 (0, 0)) from (heap_setCell_same _ _ 7 _ _ _ (heap_setCell_same _ _ 6 _ _ _ (heap_setCell_same _ _ 5 _ _ _ (heap_setCell_same _ _ 4 _ _ _ (heap_setCell_same _ _ 3 _ _ _ (heap_setCell_same _ _ 2 _ _ _ (heap_setCell_same _ _ 1 _ _ _ (heap_setCell_same _ _ 0 _ _ _ (set_far (set_far (set_far rQ18_.out (by dsimp only; omega)) (by dsimp only; omega)) (by dsimp only; omega)))))))))))
  have z0_ : ((((((((((((w2.setCell ⟨W.heap.size + 1, 0, none⟩ (.int .i64 i0)).setCell ⟨W.heap.size + 1, 1, none⟩ (.slice d1 m1 k1)).setCell ⟨W.heap.size + 1, 2, none⟩ (.slice d2 m2 k2)).setCell ⟨W.heap.size + 1 + 1, 0, none⟩ (.int .i64 0)).setCell ⟨W.heap.size + 1 + 1, 1, none⟩ (.int .i64 0)).setCell ⟨W.heap.size + 1 + 1, 2, none⟩ (.int .i64 0)).setCell ⟨W.heap.size + 1 + 1, 3, none⟩ (.int .i64 0)).setCell ⟨W.heap.size + 1 + 1, 4, none⟩ (.int .i64 0)).setCell ⟨W.heap.size + 1 + 1, 5, none⟩ (.int .i64 0)).setCell ⟨W.heap.size + 1 + 1, 6, none⟩ (.int .i64 0)).setCell ⟨W.heap.size + 1 + 1, 7, none⟩ (.slice none 0 0))).cell? ⟨W.heap.size + 1, 0, none⟩ = some (.int .i64 i0) := cell_of_row _ _ 0 _ _ _ yr_.out
  have z1_ : ((((((((((((w2.setCell ⟨W.heap.size + 1, 0, none⟩ (.int .i64 i0)).setCell ⟨W.heap.size + 1, 1, none⟩ (.slice d1 m1 k1)).setCell ⟨W.heap.size + 1, 2, none⟩ (.slice d2 m2 k2)).setCell ⟨W.heap.size + 1 + 1, 0, none⟩ (.int .i64 0)).setCell ⟨W.heap.size + 1 + 1, 1, none⟩ (.int .i64 0)).setCell ⟨W.heap.size + 1 + 1, 2, none⟩ (.int .i64 0)).setCell ⟨W.heap.size + 1 + 1, 3, none⟩ (.int .i64 0)).setCell ⟨W.heap.size + 1 + 1, 4, none⟩ (.int .i64 0)).setCell ⟨W.heap.size + 1 + 1, 5, none⟩ (.int .i64 0)).setCell ⟨W.heap.size + 1 + 1, 6, none⟩ (.int .i64 0)).setCell ⟨W.heap.size + 1 + 1, 7, none⟩ (.slice none 0 0))).cell? ⟨W.heap.size + 1, 1, none⟩ = some (.slice d1 m1 k1) := cell_of_row _ _ 1 _ _ _ yr_.out
  have z2_ : ((((((((((((w2.setCell ⟨W.heap.size + 1, 0, none⟩ (.int .i64 i0)).setCell ⟨W.heap.size + 1, 1, none⟩ (.slice d1 m1 k1)).setCell ⟨W.heap.size + 1, 2, none⟩ (.slice d2 m2 k2)).setCell ⟨W.heap.size + 1 + 1, 0, none⟩ (.int .i64 0)).setCell ⟨W.heap.size + 1 + 1, 1, none⟩ (.int .i64 0)).setCell ⟨W.heap.size + 1 + 1, 2, none⟩ (.int .i64 0)).setCell ⟨W.heap.size + 1 + 1, 3, none⟩ (.int .i64 0)).setCell ⟨W.heap.size + 1 + 1, 4, none⟩ (.int .i64 0)).setCell ⟨W.heap.size + 1 + 1, 5, none⟩ (.int .i64 0)).setCell ⟨W.heap.size + 1 + 1, 6, none⟩ (.int .i64 0)).setCell ⟨W.heap.size + 1 + 1, 7, none⟩ (.slice none 0 0))).cell? ⟨W.heap.size + 1, 2, none⟩ = some (.slice d2 m2 k2) := cell_of_row _ _ 2 _ _ _ yr_.out
  have y0_ : ((((((((((((w2.setCell ⟨W.heap.size + 1, 0, none⟩ (.int .i64 i0)).setCell ⟨W.heap.size + 1, 1, none⟩ (.slice d1 m1 k1)).setCell ⟨W.heap.size + 1, 2, none⟩ (.slice d2 m2 k2)).setCell ⟨W.heap.size + 1 + 1, 0, none⟩ (.int .i64 0)).setCell ⟨W.heap.size + 1 + 1, 1, none⟩ (.int .i64 0)).setCell ⟨W.heap.size + 1 + 1, 2, none⟩ (.int .i64 0)).setCell ⟨W.heap.size + 1 + 1, 3, none⟩ (.int .i64 0)).setCell ⟨W.heap.size + 1 + 1, 4, none⟩ (.int .i64 0)).setCell ⟨W.heap.size + 1 + 1, 5, none⟩ (.int .i64 0)).setCell ⟨W.heap.size + 1 + 1, 6, none⟩ (.int .i64 0)).setCell ⟨W.heap.size + 1 + 1, 7, none⟩ (.slice none 0 0))).cell? ⟨W.heap.size + 1 + 1, 0, none⟩ = some (.int .i64 0) := cell_of_row _ _ 0 _ _ _ yq_.out
  have y1_ : ((((((((((((w2.setCell ⟨W.heap.size + 1, 0, none⟩ (.int .i64 i0)).setCell ⟨W.heap.size + 1, 1, none⟩ (.slice d1 m1 k1)).setCell ⟨W.heap.size + 1, 2, none⟩ (.slice d2 m2 k2)).setCell ⟨W.heap.size + 1 + 1, 0, none⟩ (.int .i64 0)).setCell ⟨W.heap.size + 1 + 1, 1, none⟩ (.int .i64 0)).setCell ⟨W.heap.size + 1 + 1, 2, none⟩ (.int .i64 0)).setCell ⟨W.heap.size + 1 + 1, 3, none⟩ (.int .i64 0)).setCell ⟨W.heap.size + 1 + 1, 4, none⟩ (.int .i64 0)).setCell ⟨W.heap.size + 1 + 1, 5, none⟩ (.int .i64 0)).setCell ⟨W.heap.size + 1 + 1, 6, none⟩ (.int .i64 0)).setCell ⟨W.heap.size + 1 + 1, 7, none⟩ (.slice none 0 0))).cell? ⟨W.heap.size + 1 + 1, 1, none⟩ = some (.int .i64 0) := cell_of_row _ _ 1 _ _ _ yq_.out
  have y2_ : ((((((((((((w2.setCell ⟨W.heap.size + 1, 0, none⟩ (.int .i64 i0)).setCell ⟨W.heap.size + 1, 1, none⟩ (.slice d1 m1 k1)).setCell ⟨W.heap.size + 1, 2, none⟩ (.slice d2 m2 k2)).setCell ⟨W.heap.size + 1 + 1, 0, none⟩ (.int .i64 0)).setCell ⟨W.heap.size + 1 + 1, 1, none⟩ (.int .i64 0)).setCell ⟨W.heap.size + 1 + 1, 2, none⟩ (.int .i64 0)).setCell ⟨W.heap.size + 1 + 1, 3, none⟩ (.int .i64 0)).setCell ⟨W.heap.size + 1 + 1, 4, none⟩ (.int .i64 0)).setCell ⟨W.heap.size + 1 + 1, 5, none⟩ (.int .i64 0)).setCell ⟨W.heap.size + 1 + 1, 6, none⟩ (.int .i64 0)).setCell ⟨W.heap.size + 1 + 1, 7, none⟩ (.slice none 0 0))).cell? ⟨W.heap.size + 1 + 1, 2, none⟩ = some (.int .i64 0) := cell_of_row _ _ 2 _ _ _ yq_.out
  have y3_ : ((((((((((((w2.setCell ⟨W.heap.size + 1, 0, none⟩ (.int .i64 i0)).setCell ⟨W.heap.size + 1, 1, none⟩ (.slice d1 m1 k1)).setCell ⟨W.heap.size + 1, 2, none⟩ (.slice d2 m2 k2)).setCell ⟨W.heap.size + 1 + 1, 0, none⟩ (.int .i64 0)).setCell ⟨W.heap.size + 1 + 1, 1, none⟩ (.int .i64 0)).setCell ⟨W.heap.size + 1 + 1, 2, none⟩ (.int .i64 0)).setCell ⟨W.heap.size + 1 + 1, 3, none⟩ (.int .i64 0)).setCell ⟨W.heap.size + 1 + 1, 4, none⟩ (.int .i64 0)).setCell ⟨W.heap.size + 1 + 1, 5, none⟩ (.int .i64 0)).setCell ⟨W.heap.size + 1 + 1, 6, none⟩ (.int .i64 0)).setCell ⟨W.heap.size + 1 + 1, 7, none⟩ (.slice none 0 0))).cell? ⟨W.heap.size + 1 + 1, 3, none⟩ = some (.int .i64 0) := cell_of_row _ _ 3 _ _ _ yq_.out
  have y4_ : ((((((((((((w2.setCell ⟨W.heap.size + 1, 0, none⟩ (.int .i64 i0)).setCell ⟨W.heap.size + 1, 1, none⟩ (.slice d1 m1 k1)).setCell ⟨W.heap.size + 1, 2, none⟩ (.slice d2 m2 k2)).setCell ⟨W.heap.size + 1 + 1, 0, none⟩ (.int .i64 0)).setCell ⟨W.heap.size + 1 + 1, 1, none⟩ (.int .i64 0)).setCell ⟨W.heap.size + 1 + 1, 2, none⟩ (.int .i64 0)).setCell ⟨W.heap.size + 1 + 1, 3, none⟩ (.int .i64 0)).setCell ⟨W.heap.size + 1 + 1, 4, none⟩ (.int .i64 0)).setCell ⟨W.heap.size + 1 + 1, 5, none⟩ (.int .i64 0)).setCell ⟨W.heap.size + 1 + 1, 6, none⟩ (.int .i64 0)).setCell ⟨W.heap.size + 1 + 1, 7, none⟩ (.slice none 0 0))).cell? ⟨W.heap.size + 1 + 1, 4, none⟩ = some (.int .i64 0) := cell_of_row _ _ 4 _ _ _ yq_.out
  have y5_ : ((((((((((((w2.setCell ⟨W.heap.size + 1, 0, none⟩ (.int .i64 i0)).setCell ⟨W.heap.size + 1, 1, none⟩ (.slice d1 m1 k1)).setCell ⟨W.heap.size + 1, 2, none⟩ (.slice d2 m2 k2)).setCell ⟨W.heap.size + 1 + 1, 0, none⟩ (.int .i64 0)).setCell ⟨W.heap.size + 1 + 1, 1, none⟩ (.int .i64 0)).setCell ⟨W.heap.size + 1 + 1, 2, none⟩ (.int .i64 0)).setCell ⟨W.heap.size + 1 + 1, 3, none⟩ (.int .i64 0)).setCell ⟨W.heap.size + 1 + 1, 4, none⟩ (.int .i64 0)).setCell ⟨W.heap.size + 1 + 1, 5, none⟩ (.int .i64 0)).setCell ⟨W.heap.size + 1 + 1, 6, none⟩ (.int .i64 0)).setCell ⟨W.heap.size + 1 + 1, 7, none⟩ (.slice none 0 0))).cell? ⟨W.heap.size + 1 + 1, 5, none⟩ = some (.int .i64 0) := cell_of_row _ _ 5 _ _ _ yq_.out
  have y6_ : ((((((((((((w2.setCell ⟨W.heap.size + 1, 0, none⟩ (.int .i64 i0)).setCell ⟨W.heap.size + 1, 1, none⟩ (.slice d1 m1 k1)).setCell ⟨W.heap.size + 1, 2, none⟩ (.slice d2 m2 k2)).setCell ⟨W.heap.size + 1 + 1, 0, none⟩ (.int .i64 0)).setCell ⟨W.heap.size + 1 + 1, 1, none⟩ (.int .i64 0)).setCell ⟨W.heap.size + 1 + 1, 2, none⟩ (.int .i64 0)).setCell ⟨W.heap.size + 1 + 1, 3, none⟩ (.int .i64 0)).setCell ⟨W.heap.size + 1 + 1, 4, none⟩ (.int .i64 0)).setCell ⟨W.heap.size + 1 + 1, 5, none⟩ (.int .i64 0)).setCell ⟨W.heap.size + 1 + 1, 6, none⟩ (.int .i64 0)).setCell ⟨W.heap.size + 1 + 1, 7, none⟩ (.slice none 0 0))).cell? ⟨W.heap.size + 1 + 1, 6, none⟩ = some (.int .i64 0) := cell_of_row _ _ 6 _ _ _ yq_.out
  have y7_ : ((((((((((((w2.setCell ⟨W.heap.size + 1, 0, none⟩ (.int .i64 i0)).setCell ⟨W.heap.size + 1, 1, none⟩ (.slice d1 m1 k1)).setCell ⟨W.heap.size + 1, 2, none⟩ (.slice d2 m2 k2)).setCell ⟨W.heap.size + 1 + 1, 0, none⟩ (.int .i64 0)).setCell ⟨W.heap.size + 1 + 1, 1, none⟩ (.int .i64 0)).setCell ⟨W.heap.size + 1 + 1, 2, none⟩ (.int .i64 0)).setCell ⟨W.heap.size + 1 + 1, 3, none⟩ (.int .i64 0)).setCell ⟨W.heap.size + 1 + 1, 4, none⟩ (.int .i64 0)).setCell ⟨W.heap.size + 1 + 1, 5, none⟩ (.int .i64 0)).setCell ⟨W.heap.size + 1 + 1, 6, none⟩ (.int .i64 0)).setCell ⟨W.heap.size + 1 + 1, 7, none⟩ (.slice none 0 0))).cell? ⟨W.heap.size + 1 + 1, 7, none⟩ = some (.slice none 0 0) := cell_of_row _ _ 7 _ _ _ yq_.out
  go_wp2
  refine bodyPost_ret (v := .tuple #[.agg #[.int .i64 i0, .slice d1 m1 k1, .slice d2 m2 k2], .agg #[.int .i64 0, .int .i64 0, .int .i64 0, .int .i64 0, .int .i64 0, .int .i64 0, .int .i64 0, .slice none 0 0], .bool false]) (by simp [results, go_sem, z0_, z1_, z2_, y0_, y1_, y2_, y3_, y4_, y5_, y6_, y7_]) rfl ⟨_, _, _, rfl, ?_, ?_⟩
  · exact OwU.wide (lo := (W.heap.size + 1 + 1 + 1)) (by omega) (by simp only [World.size_setCell]; omega) (OwU.keep (chg_one _ _ _ _) (by omega) (OwU.keep (chg_one _ _ _ _) (by omega) (OwU.keep (chg_one _ _ _ _) (by omega) (OwU.keep (chg_one _ _ _ _) (by omega) (OwU.keep (chg_one _ _ _ _) (by omega) (OwU.keep (chg_one _ _ _ _) (by omega) (OwU.keep (chg_one _ _ _ _) (by omega) (OwU.keep (chg_one _ _ _ _) (by omega) (OwU.keep (chg_one _ _ _ _) (by omega) (OwU.keep (chg_one _ _ _ _) (by omega) (OwU.keep (chg_one _ _ _ _) (by omega) (OwU.app (ps := [own shB (.slice d1 m1 k1) xs, own shB (.slice d2 m2 k2) ys]) (qs := [own shI (.slice none 0 0) ([] : List Int)]) (m := w1.heap.size) (hi := w1.heap.size) (by omega) (Nat.le_refl _) oC20_.out (OwU.one owL_nil)))))))))))))
  · exact (gby_setnew (gby_setnew (gby_setnew (gby_setnew (gby_setnew (gby_setnew (gby_setnew (gby_setnew (gby_setnew (gby_setnew (gby_setnew G21_.out _ (by dsimp only; omega) _) _ (by dsimp only; omega) _) _ (by dsimp only; omega) _) _ (by dsimp only; omega) _) _ (by dsimp only; omega) _) _ (by dsimp only; omega) _) _ (by dsimp only; omega) _) _ (by dsimp only; omega) _) _ (by dsimp only; omega) _) _ (by dsimp only; omega) _) _ (by dsimp only; omega) _)

set_option maxRecDepth 8000 in
set_option maxHeartbeats 4000000 in
theorem specSetM_bad (W : World) (i0 : Int) (v1 v2 : Value) (xs ys : List Bool) (H1 : RdL shB W v1 xs) (H2 : RdL shB W v2 ys) (hl1 : szL shB xs ≤ 1048576) (hl2 : szL shB ys ≤ 1048576) (id k : Int) (mb : Bool) (hb : ¬ VCall i0 xs ys id k) : Calls Try.prog 21 #[vVectors i0 v1 v2, .int .i64 id, .int .i64 k, .bool mb] W (ResISetMask i0 xs ys 0 0 0 0 0 0 0 [] false W) := by
  have HOK := Lib.hid hb
  clear hb
  have H1_ := Lib.hid H1
  have H2_ := Lib.hid H2
  obtain ⟨a1, n1, c1, rfl⟩ := RdL.form H1
  obtain ⟨a2, n2, c2, rfl⟩ := RdL.form H2
  clear H1 H2
  unfold vVectors
  go_enter Try.func21, Try.ntmps21
  have rA1_ := Lib.hid (show ((((W.alloc (.cells #[.int .i64 i0, .slice a1 n1 c1, .slice a2 n2 c2] 26)).alloc (.cells #[.int .i64 0, .slice none 0 0, .slice none 0 0] 26)).alloc (.cells #[.int .i64 0, .int .i64 0, .int .i64 0, .int .i64 0, .int .i64 0, .int .i64 0, .int .i64 0, .slice none 0 0] 29))).heap[W.heap.size]? = some (.cells #[.int .i64 i0, .slice a1 n1 c1, .slice a2 n2 c2] 26 (0, 0)) from by rw [heap_alloc_old _ _ (by simp only [World.size_alloc]; omega)]; rw [heap_alloc_old _ _ (by simp only [World.size_alloc]; omega)]; exact heap_alloc_new _ _)
  have rR2_ := Lib.hid (show ((((W.alloc (.cells #[.int .i64 i0, .slice a1 n1 c1, .slice a2 n2 c2] 26)).alloc (.cells #[.int .i64 0, .slice none 0 0, .slice none 0 0] 26)).alloc (.cells #[.int .i64 0, .int .i64 0, .int .i64 0, .int .i64 0, .int .i64 0, .int .i64 0, .int .i64 0, .slice none 0 0] 29))).heap[W.heap.size + 1]? = some (.cells #[.int .i64 0, .slice none 0 0, .slice none 0 0] 26 (0, 0)) from by rw [heap_alloc_old _ _ (by simp only [World.size_alloc]; omega)]; exact heap_pair _ _ _)
  have rQ3_ := Lib.hid (show ((((W.alloc (.cells #[.int .i64 i0, .slice a1 n1 c1, .slice a2 n2 c2] 26)).alloc (.cells #[.int .i64 0, .slice none 0 0, .slice none 0 0] 26)).alloc (.cells #[.int .i64 0, .int .i64 0, .int .i64 0, .int .i64 0, .int .i64 0, .int .i64 0, .int .i64 0, .slice none 0 0] 29))).heap[W.heap.size + 1 + 1]? = some (.cells #[.int .i64 0, .int .i64 0, .int .i64 0, .int .i64 0, .int .i64 0, .int .i64 0, .int .i64 0, .slice none 0 0] 29 (0, 0)) from by exact heap_trip _ _ _ _)
  have G4_ := Lib.hid (show (W).grownBy ((((W.alloc (.cells #[.int .i64 i0, .slice a1 n1 c1, .slice a2 n2 c2] 26)).alloc (.cells #[.int .i64 0, .slice none 0 0, .slice none 0 0] 26)).alloc (.cells #[.int .i64 0, .int .i64 0, .int .i64 0, .int .i64 0, .int .i64 0, .int .i64 0, .int .i64 0, .slice none 0 0] 29))) none from (gby_alloc (gby_alloc (gby_alloc (gby_refl _ _) _) _) _))
  have A_0_ : ((((W.alloc (.cells #[.int .i64 i0, .slice a1 n1 c1, .slice a2 n2 c2] 26)).alloc (.cells #[.int .i64 0, .slice none 0 0, .slice none 0 0] 26)).alloc (.cells #[.int .i64 0, .int .i64 0, .int .i64 0, .int .i64 0, .int .i64 0, .int .i64 0, .int .i64 0, .slice none 0 0] 29))).cell? ⟨W.heap.size, 0, none⟩ = some (.int .i64 i0) := cell_of_row _ _ 0 _ _ _ rA1_.out
  have A_1_ : ((((W.alloc (.cells #[.int .i64 i0, .slice a1 n1 c1, .slice a2 n2 c2] 26)).alloc (.cells #[.int .i64 0, .slice none 0 0, .slice none 0 0] 26)).alloc (.cells #[.int .i64 0, .int .i64 0, .int .i64 0, .int .i64 0, .int .i64 0, .int .i64 0, .int .i64 0, .slice none 0 0] 29))).cell? ⟨W.heap.size, 1, none⟩ = some (.slice a1 n1 c1) := cell_of_row _ _ 1 _ _ _ rA1_.out
  have A_2_ : ((((W.alloc (.cells #[.int .i64 i0, .slice a1 n1 c1, .slice a2 n2 c2] 26)).alloc (.cells #[.int .i64 0, .slice none 0 0, .slice none 0 0] 26)).alloc (.cells #[.int .i64 0, .int .i64 0, .int .i64 0, .int .i64 0, .int .i64 0, .int .i64 0, .int .i64 0, .slice none 0 0] 29))).cell? ⟨W.heap.size, 2, none⟩ = some (.slice a2 n2 c2) := cell_of_row _ _ 2 _ _ _ rA1_.out
  have R_0_ : ((((W.alloc (.cells #[.int .i64 i0, .slice a1 n1 c1, .slice a2 n2 c2] 26)).alloc (.cells #[.int .i64 0, .slice none 0 0, .slice none 0 0] 26)).alloc (.cells #[.int .i64 0, .int .i64 0, .int .i64 0, .int .i64 0, .int .i64 0, .int .i64 0, .int .i64 0, .slice none 0 0] 29))).cell? ⟨W.heap.size + 1, 0, none⟩ = some (.int .i64 0) := cell_of_row _ _ 0 _ _ _ rR2_.out
  have R_1_ : ((((W.alloc (.cells #[.int .i64 i0, .slice a1 n1 c1, .slice a2 n2 c2] 26)).alloc (.cells #[.int .i64 0, .slice none 0 0, .slice none 0 0] 26)).alloc (.cells #[.int .i64 0, .int .i64 0, .int .i64 0, .int .i64 0, .int .i64 0, .int .i64 0, .int .i64 0, .slice none 0 0] 29))).cell? ⟨W.heap.size + 1, 1, none⟩ = some (.slice none 0 0) := cell_of_row _ _ 1 _ _ _ rR2_.out
  have R_2_ : ((((W.alloc (.cells #[.int .i64 i0, .slice a1 n1 c1, .slice a2 n2 c2] 26)).alloc (.cells #[.int .i64 0, .slice none 0 0, .slice none 0 0] 26)).alloc (.cells #[.int .i64 0, .int .i64 0, .int .i64 0, .int .i64 0, .int .i64 0, .int .i64 0, .int .i64 0, .slice none 0 0] 29))).cell? ⟨W.heap.size + 1, 2, none⟩ = some (.slice none 0 0) := cell_of_row _ _ 2 _ _ _ rR2_.out
  have Q_0_ : ((((W.alloc (.cells #[.int .i64 i0, .slice a1 n1 c1, .slice a2 n2 c2] 26)).alloc (.cells #[.int .i64 0, .slice none 0 0, .slice none 0 0] 26)).alloc (.cells #[.int .i64 0, .int .i64 0, .int .i64 0, .int .i64 0, .int .i64 0, .int .i64 0, .int .i64 0, .slice none 0 0] 29))).cell? ⟨W.heap.size + 1 + 1, 0, none⟩ = some (.int .i64 0) := cell_of_row _ _ 0 _ _ _ rQ3_.out
  have Q_1_ : ((((W.alloc (.cells #[.int .i64 i0, .slice a1 n1 c1, .slice a2 n2 c2] 26)).alloc (.cells #[.int .i64 0, .slice none 0 0, .slice none 0 0] 26)).alloc (.cells #[.int .i64 0, .int .i64 0, .int .i64 0, .int .i64 0, .int .i64 0, .int .i64 0, .int .i64 0, .slice none 0 0] 29))).cell? ⟨W.heap.size + 1 + 1, 1, none⟩ = some (.int .i64 0) := cell_of_row _ _ 1 _ _ _ rQ3_.out
  have Q_2_ : ((((W.alloc (.cells #[.int .i64 i0, .slice a1 n1 c1, .slice a2 n2 c2] 26)).alloc (.cells #[.int .i64 0, .slice none 0 0, .slice none 0 0] 26)).alloc (.cells #[.int .i64 0, .int .i64 0, .int .i64 0, .int .i64 0, .int .i64 0, .int .i64 0, .int .i64 0, .slice none 0 0] 29))).cell? ⟨W.heap.size + 1 + 1, 2, none⟩ = some (.int .i64 0) := cell_of_row _ _ 2 _ _ _ rQ3_.out
  have Q_3_ : ((((W.alloc (.cells #[.int .i64 i0, .slice a1 n1 c1, .slice a2 n2 c2] 26)).alloc (.cells #[.int .i64 0, .slice none 0 0, .slice none 0 0] 26)).alloc (.cells #[.int .i64 0, .int .i64 0, .int .i64 0, .int .i64 0, .int .i64 0, .int .i64 0, .int .i64 0, .slice none 0 0] 29))).cell? ⟨W.heap.size + 1 + 1, 3, none⟩ = some (.int .i64 0) := cell_of_row _ _ 3 _ _ _ rQ3_.out
  have Q_4_ : ((((W.alloc (.cells #[.int .i64 i0, .slice a1 n1 c1, .slice a2 n2 c2] 26)).alloc (.cells #[.int .i64 0, .slice none 0 0, .slice none 0 0] 26)).alloc (.cells #[.int .i64 0, .int .i64 0, .int .i64 0, .int .i64 0, .int .i64 0, .int .i64 0, .int .i64 0, .slice none 0 0] 29))).cell? ⟨W.heap.size + 1 + 1, 4, none⟩ = some (.int .i64 0) := cell_of_row _ _ 4 _ _ _ rQ3_.out
  have Q_5_ : ((((W.alloc (.cells #[.int .i64 i0, .slice a1 n1 c1, .slice a2 n2 c2] 26)).alloc (.cells #[.int .i64 0, .slice none 0 0, .slice none 0 0] 26)).alloc (.cells #[.int .i64 0, .int .i64 0, .int .i64 0, .int .i64 0, .int .i64 0, .int .i64 0, .int .i64 0, .slice none 0 0] 29))).cell? ⟨W.heap.size + 1 + 1, 5, none⟩ = some (.int .i64 0) := cell_of_row _ _ 5 _ _ _ rQ3_.out
  have Q_6_ : ((((W.alloc (.cells #[.int .i64 i0, .slice a1 n1 c1, .slice a2 n2 c2] 26)).alloc (.cells #[.int .i64 0, .slice none 0 0, .slice none 0 0] 26)).alloc (.cells #[.int .i64 0, .int .i64 0, .int .i64 0, .int .i64 0, .int .i64 0, .int .i64 0, .int .i64 0, .slice none 0 0] 29))).cell? ⟨W.heap.size + 1 + 1, 6, none⟩ = some (.int .i64 0) := cell_of_row _ _ 6 _ _ _ rQ3_.out
  have Q_7_ : ((((W.alloc (.cells #[.int .i64 i0, .slice a1 n1 c1, .slice a2 n2 c2] 26)).alloc (.cells #[.int .i64 0, .slice none 0 0, .slice none 0 0] 26)).alloc (.cells #[.int .i64 0, .int .i64 0, .int .i64 0, .int .i64 0, .int .i64 0, .int .i64 0, .int .i64 0, .slice none 0 0] 29))).cell? ⟨W.heap.size + 1 + 1, 7, none⟩ = some (.slice none 0 0) := cell_of_row _ _ 7 _ _ _ rQ3_.out
  go_wp2_with fail
  go_at_call 60
  refine (l30Copy_d _ i0 _ _ xs ys (H1_.out.grow G4_.out) (H2_.out.grow G4_.out) hl1 hl2).mono ?_
  rintro e w1 ⟨x1, x2, rfl, o, g⟩
  have sz_ := g.size
  try simp only [World.size_alloc] at sz_ o
  clear A_0_ A_1_ A_2_ R_0_ R_1_ R_2_ Q_0_ Q_1_ Q_2_ Q_3_ Q_4_ Q_5_ Q_6_ Q_7_
  have rA5_ := Lib.hid (show (w1).heap[W.heap.size]? = some (.cells #[.int .i64 i0, .slice a1 n1 c1, .slice a2 n2 c2] 26 (0, 0)) from row_held g rA1_.out)
  clear rA1_
  have rR6_ := Lib.hid (show (w1).heap[W.heap.size + 1]? = some (.cells #[.int .i64 0, .slice none 0 0, .slice none 0 0] 26 (0, 0)) from row_held g rR2_.out)
  clear rR2_
  have rQ7_ := Lib.hid (show (w1).heap[W.heap.size + 1 + 1]? = some (.cells #[.int .i64 0, .int .i64 0, .int .i64 0, .int .i64 0, .int .i64 0, .int .i64 0, .int .i64 0, .slice none 0 0] 29 (0, 0)) from row_held g rQ3_.out)
  clear rQ3_
  have G8_ := Lib.hid (show (W).grownBy (w1) none from gby_trans G4_.out g)
  clear g
  obtain ⟨d1, m1, k1, hv_⟩ := RdL.form (OwU.rd o)
  subst hv_
  obtain ⟨d2, m2, k2, hv_⟩ := RdL.form (OwU.rd (OwU.tail o))
  subst hv_
  unfold vVectors
  have oC9_ := Lib.hid (show OwU (w1) ((W.heap.size + 1 + 1 + 1)) (w1.heap.size) [] [own shB (.slice d1 m1 k1) xs, own shB (.slice d2 m2 k2) ys] from o)
  clear o
  have al_ : (w1).grownBy ((w1).alloc (.cells #[.int .i64 i0, .slice d1 m1 k1, .slice d2 m2 k2] 26)) none := gby_alloc (gby_refl _ _) _
  have rA10_ := Lib.hid (show ((w1.alloc (.cells #[.int .i64 i0, .slice d1 m1 k1, .slice d2 m2 k2] 26))).heap[W.heap.size]? = some (.cells #[.int .i64 i0, .slice a1 n1 c1, .slice a2 n2 c2] 26 (0, 0)) from row_held al_ rA5_.out)
  clear rA5_
  have rR11_ := Lib.hid (show ((w1.alloc (.cells #[.int .i64 i0, .slice d1 m1 k1, .slice d2 m2 k2] 26))).heap[W.heap.size + 1]? = some (.cells #[.int .i64 0, .slice none 0 0, .slice none 0 0] 26 (0, 0)) from row_held al_ rR6_.out)
  clear rR6_
  have rQ12_ := Lib.hid (show ((w1.alloc (.cells #[.int .i64 i0, .slice d1 m1 k1, .slice d2 m2 k2] 26))).heap[W.heap.size + 1 + 1]? = some (.cells #[.int .i64 0, .int .i64 0, .int .i64 0, .int .i64 0, .int .i64 0, .int .i64 0, .int .i64 0, .slice none 0 0] 29 (0, 0)) from row_held al_ rQ7_.out)
  clear rQ7_
  have oC13_ := Lib.hid (show OwU ((w1.alloc (.cells #[.int .i64 i0, .slice d1 m1 k1, .slice d2 m2 k2] 26))) ((W.heap.size + 1 + 1 + 1)) (w1.heap.size) [] [own shB (.slice d1 m1 k1) xs, own shB (.slice d2 m2 k2) ys] from OwU.grow oC9_.out al_)
  clear oC9_
  have G14_ := Lib.hid (show (W).grownBy ((w1.alloc (.cells #[.int .i64 i0, .slice d1 m1 k1, .slice d2 m2 k2] 26))) none from gby_trans G8_.out al_)
  have rX15_ := Lib.hid (show ((w1.alloc (.cells #[.int .i64 i0, .slice d1 m1 k1, .slice d2 m2 k2] 26))).heap[w1.heap.size]? = some (.cells #[.int .i64 i0, .slice d1 m1 k1, .slice d2 m2 k2] 26 (0, 0)) from by first | exact heap_alloc_new _ _ | exact heap_pair _ _ _ | exact heap_trip _ _ _ _)
  clear al_
  have A_0_ : ((w1.alloc (.cells #[.int .i64 i0, .slice d1 m1 k1, .slice d2 m2 k2] 26))).cell? ⟨W.heap.size, 0, none⟩ = some (.int .i64 i0) := cell_of_row _ _ 0 _ _ _ rA10_.out
  have A_1_ : ((w1.alloc (.cells #[.int .i64 i0, .slice d1 m1 k1, .slice d2 m2 k2] 26))).cell? ⟨W.heap.size, 1, none⟩ = some (.slice a1 n1 c1) := cell_of_row _ _ 1 _ _ _ rA10_.out
  have A_2_ : ((w1.alloc (.cells #[.int .i64 i0, .slice d1 m1 k1, .slice d2 m2 k2] 26))).cell? ⟨W.heap.size, 2, none⟩ = some (.slice a2 n2 c2) := cell_of_row _ _ 2 _ _ _ rA10_.out
  have R_0_ : ((w1.alloc (.cells #[.int .i64 i0, .slice d1 m1 k1, .slice d2 m2 k2] 26))).cell? ⟨W.heap.size + 1, 0, none⟩ = some (.int .i64 0) := cell_of_row _ _ 0 _ _ _ rR11_.out
  have R_1_ : ((w1.alloc (.cells #[.int .i64 i0, .slice d1 m1 k1, .slice d2 m2 k2] 26))).cell? ⟨W.heap.size + 1, 1, none⟩ = some (.slice none 0 0) := cell_of_row _ _ 1 _ _ _ rR11_.out
  have R_2_ : ((w1.alloc (.cells #[.int .i64 i0, .slice d1 m1 k1, .slice d2 m2 k2] 26))).cell? ⟨W.heap.size + 1, 2, none⟩ = some (.slice none 0 0) := cell_of_row _ _ 2 _ _ _ rR11_.out
  have Q_0_ : ((w1.alloc (.cells #[.int .i64 i0, .slice d1 m1 k1, .slice d2 m2 k2] 26))).cell? ⟨W.heap.size + 1 + 1, 0, none⟩ = some (.int .i64 0) := cell_of_row _ _ 0 _ _ _ rQ12_.out
  have Q_1_ : ((w1.alloc (.cells #[.int .i64 i0, .slice d1 m1 k1, .slice d2 m2 k2] 26))).cell? ⟨W.heap.size + 1 + 1, 1, none⟩ = some (.int .i64 0) := cell_of_row _ _ 1 _ _ _ rQ12_.out
  have Q_2_ : ((w1.alloc (.cells #[.int .i64 i0, .slice d1 m1 k1, .slice d2 m2 k2] 26))).cell? ⟨W.heap.size + 1 + 1, 2, none⟩ = some (.int .i64 0) := cell_of_row _ _ 2 _ _ _ rQ12_.out
  have Q_3_ : ((w1.alloc (.cells #[.int .i64 i0, .slice d1 m1 k1, .slice d2 m2 k2] 26))).cell? ⟨W.heap.size + 1 + 1, 3, none⟩ = some (.int .i64 0) := cell_of_row _ _ 3 _ _ _ rQ12_.out
  have Q_4_ : ((w1.alloc (.cells #[.int .i64 i0, .slice d1 m1 k1, .slice d2 m2 k2] 26))).cell? ⟨W.heap.size + 1 + 1, 4, none⟩ = some (.int .i64 0) := cell_of_row _ _ 4 _ _ _ rQ12_.out
  have Q_5_ : ((w1.alloc (.cells #[.int .i64 i0, .slice d1 m1 k1, .slice d2 m2 k2] 26))).cell? ⟨W.heap.size + 1 + 1, 5, none⟩ = some (.int .i64 0) := cell_of_row _ _ 5 _ _ _ rQ12_.out
  have Q_6_ : ((w1.alloc (.cells #[.int .i64 i0, .slice d1 m1 k1, .slice d2 m2 k2] 26))).cell? ⟨W.heap.size + 1 + 1, 6, none⟩ = some (.int .i64 0) := cell_of_row _ _ 6 _ _ _ rQ12_.out
  have Q_7_ : ((w1.alloc (.cells #[.int .i64 i0, .slice d1 m1 k1, .slice d2 m2 k2] 26))).cell? ⟨W.heap.size + 1 + 1, 7, none⟩ = some (.slice none 0 0) := cell_of_row _ _ 7 _ _ _ rQ12_.out
  have X_0_ : ((w1.alloc (.cells #[.int .i64 i0, .slice d1 m1 k1, .slice d2 m2 k2] 26))).cell? ⟨w1.heap.size, 0, none⟩ = some (.int .i64 i0) := cell_of_row _ _ 0 _ _ _ rX15_.out
  have X_1_ : ((w1.alloc (.cells #[.int .i64 i0, .slice d1 m1 k1, .slice d2 m2 k2] 26))).cell? ⟨w1.heap.size, 1, none⟩ = some (.slice d1 m1 k1) := cell_of_row _ _ 1 _ _ _ rX15_.out
  have X_2_ : ((w1.alloc (.cells #[.int .i64 i0, .slice d1 m1 k1, .slice d2 m2 k2] 26))).cell? ⟨w1.heap.size, 2, none⟩ = some (.slice d2 m2 k2) := cell_of_row _ _ 2 _ _ _ rX15_.out
  go_wp2_with fail
  go_at_call 61
  refine (((specVCall _ i0 _ _ xs ys id k (H1_.out.grow G14_.out) (H2_.out.grow G14_.out)).mono (bpost_no HOK.out))).mono ?_
  rintro e w2 ⟨rfl, g⟩
  have szw2 := g.size
  try simp only [World.size_alloc] at szw2
  try simp only [World.size_setCell] at szw2
  clear A_0_ A_1_ A_2_ R_0_ R_1_ R_2_ Q_0_ Q_1_ Q_2_ Q_3_ Q_4_ Q_5_ Q_6_ Q_7_ X_0_ X_1_ X_2_
  have rA16_ := Lib.hid (show (w2).heap[W.heap.size]? = some (.cells #[.int .i64 i0, .slice a1 n1 c1, .slice a2 n2 c2] 26 (0, 0)) from row_held g rA10_.out)
  clear rA10_
  have rR17_ := Lib.hid (show (w2).heap[W.heap.size + 1]? = some (.cells #[.int .i64 0, .slice none 0 0, .slice none 0 0] 26 (0, 0)) from row_held g rR11_.out)
  clear rR11_
  have rQ18_ := Lib.hid (show (w2).heap[W.heap.size + 1 + 1]? = some (.cells #[.int .i64 0, .int .i64 0, .int .i64 0, .int .i64 0, .int .i64 0, .int .i64 0, .int .i64 0, .slice none 0 0] 29 (0, 0)) from row_held g rQ12_.out)
  clear rQ12_
  have rX19_ := Lib.hid (show (w2).heap[w1.heap.size]? = some (.cells #[.int .i64 i0, .slice d1 m1 k1, .slice d2 m2 k2] 26 (0, 0)) from row_held g rX15_.out)
  clear rX15_
  have oC20_ := Lib.hid (show OwU (w2) ((W.heap.size + 1 + 1 + 1)) (w1.heap.size) [] [own shB (.slice d1 m1 k1) xs, own shB (.slice d2 m2 k2) ys] from OwU.grow oC13_.out g)
  clear oC13_
  have G21_ := Lib.hid (show (W).grownBy (w2) none from gby_trans G14_.out g)
  clear g
  have A_0_ : (w2).cell? ⟨W.heap.size, 0, none⟩ = some (.int .i64 i0) := cell_of_row _ _ 0 _ _ _ rA16_.out
  have A_1_ : (w2).cell? ⟨W.heap.size, 1, none⟩ = some (.slice a1 n1 c1) := cell_of_row _ _ 1 _ _ _ rA16_.out
  have A_2_ : (w2).cell? ⟨W.heap.size, 2, none⟩ = some (.slice a2 n2 c2) := cell_of_row _ _ 2 _ _ _ rA16_.out
  have R_0_ : (w2).cell? ⟨W.heap.size + 1, 0, none⟩ = some (.int .i64 0) := cell_of_row _ _ 0 _ _ _ rR17_.out
  have R_1_ : (w2).cell? ⟨W.heap.size + 1, 1, none⟩ = some (.slice none 0 0) := cell_of_row _ _ 1 _ _ _ rR17_.out
  have R_2_ : (w2).cell? ⟨W.heap.size + 1, 2, none⟩ = some (.slice none 0 0) := cell_of_row _ _ 2 _ _ _ rR17_.out
  have Q_0_ : (w2).cell? ⟨W.heap.size + 1 + 1, 0, none⟩ = some (.int .i64 0) := cell_of_row _ _ 0 _ _ _ rQ18_.out
  have Q_1_ : (w2).cell? ⟨W.heap.size + 1 + 1, 1, none⟩ = some (.int .i64 0) := cell_of_row _ _ 1 _ _ _ rQ18_.out
  have Q_2_ : (w2).cell? ⟨W.heap.size + 1 + 1, 2, none⟩ = some (.int .i64 0) := cell_of_row _ _ 2 _ _ _ rQ18_.out
  have Q_3_ : (w2).cell? ⟨W.heap.size + 1 + 1, 3, none⟩ = some (.int .i64 0) := cell_of_row _ _ 3 _ _ _ rQ18_.out
  have Q_4_ : (w2).cell? ⟨W.heap.size + 1 + 1, 4, none⟩ = some (.int .i64 0) := cell_of_row _ _ 4 _ _ _ rQ18_.out
  have Q_5_ : (w2).cell? ⟨W.heap.size + 1 + 1, 5, none⟩ = some (.int .i64 0) := cell_of_row _ _ 5 _ _ _ rQ18_.out
  have Q_6_ : (w2).cell? ⟨W.heap.size + 1 + 1, 6, none⟩ = some (.int .i64 0) := cell_of_row _ _ 6 _ _ _ rQ18_.out
  have Q_7_ : (w2).cell? ⟨W.heap.size + 1 + 1, 7, none⟩ = some (.slice none 0 0) := cell_of_row _ _ 7 _ _ _ rQ18_.out
  have X_0_ : (w2).cell? ⟨w1.heap.size, 0, none⟩ = some (.int .i64 i0) := cell_of_row _ _ 0 _ _ _ rX19_.out
  have X_1_ : (w2).cell? ⟨w1.heap.size, 1, none⟩ = some (.slice d1 m1 k1) := cell_of_row _ _ 1 _ _ _ rX19_.out
  have X_2_ : (w2).cell? ⟨w1.heap.size, 2, none⟩ = some (.slice d2 m2 k2) := cell_of_row _ _ 2 _ _ _ rX19_.out
  clear A_0_ A_1_ A_2_ R_0_ R_1_ R_2_ Q_0_ Q_1_ Q_2_ Q_3_ Q_4_ Q_5_ Q_6_ Q_7_ X_0_ X_1_ X_2_
  have A_0_ : (w2).cell? ⟨W.heap.size, 0, none⟩ = some (.int .i64 i0) := cell_of_row _ _ 0 _ _ _ rA16_.out
  have A_1_ : (w2).cell? ⟨W.heap.size, 1, none⟩ = some (.slice a1 n1 c1) := cell_of_row _ _ 1 _ _ _ rA16_.out
  have A_2_ : (w2).cell? ⟨W.heap.size, 2, none⟩ = some (.slice a2 n2 c2) := cell_of_row _ _ 2 _ _ _ rA16_.out
  have R_0_ : (w2).cell? ⟨W.heap.size + 1, 0, none⟩ = some (.int .i64 0) := cell_of_row _ _ 0 _ _ _ rR17_.out
  have R_1_ : (w2).cell? ⟨W.heap.size + 1, 1, none⟩ = some (.slice none 0 0) := cell_of_row _ _ 1 _ _ _ rR17_.out
  have R_2_ : (w2).cell? ⟨W.heap.size + 1, 2, none⟩ = some (.slice none 0 0) := cell_of_row _ _ 2 _ _ _ rR17_.out
  have Rf0_ : (w2).frozen? ⟨W.heap.size + 1, 0, none⟩ = false := frozen_of_row _ _ 0 _ _ rR17_.out
  have Rf1_ : (w2).frozen? ⟨W.heap.size + 1, 1, none⟩ = false := frozen_of_row _ _ 1 _ _ rR17_.out
  have Rf2_ : (w2).frozen? ⟨W.heap.size + 1, 2, none⟩ = false := frozen_of_row _ _ 2 _ _ rR17_.out
  have Q_0_ : (w2).cell? ⟨W.heap.size + 1 + 1, 0, none⟩ = some (.int .i64 0) := cell_of_row _ _ 0 _ _ _ rQ18_.out
  have Q_1_ : (w2).cell? ⟨W.heap.size + 1 + 1, 1, none⟩ = some (.int .i64 0) := cell_of_row _ _ 1 _ _ _ rQ18_.out
  have Q_2_ : (w2).cell? ⟨W.heap.size + 1 + 1, 2, none⟩ = some (.int .i64 0) := cell_of_row _ _ 2 _ _ _ rQ18_.out
  have Q_3_ : (w2).cell? ⟨W.heap.size + 1 + 1, 3, none⟩ = some (.int .i64 0) := cell_of_row _ _ 3 _ _ _ rQ18_.out
  have Q_4_ : (w2).cell? ⟨W.heap.size + 1 + 1, 4, none⟩ = some (.int .i64 0) := cell_of_row _ _ 4 _ _ _ rQ18_.out
  have Q_5_ : (w2).cell? ⟨W.heap.size + 1 + 1, 5, none⟩ = some (.int .i64 0) := cell_of_row _ _ 5 _ _ _ rQ18_.out
  have Q_6_ : (w2).cell? ⟨W.heap.size + 1 + 1, 6, none⟩ = some (.int .i64 0) := cell_of_row _ _ 6 _ _ _ rQ18_.out
  have Q_7_ : (w2).cell? ⟨W.heap.size + 1 + 1, 7, none⟩ = some (.slice none 0 0) := cell_of_row _ _ 7 _ _ _ rQ18_.out
  have Qf0_ : (w2).frozen? ⟨W.heap.size + 1 + 1, 0, none⟩ = false := frozen_of_row _ _ 0 _ _ rQ18_.out
  have Qf1_ : (w2).frozen? ⟨W.heap.size + 1 + 1, 1, none⟩ = false := frozen_of_row _ _ 1 _ _ rQ18_.out
  have Qf2_ : (w2).frozen? ⟨W.heap.size + 1 + 1, 2, none⟩ = false := frozen_of_row _ _ 2 _ _ rQ18_.out
  have Qf3_ : (w2).frozen? ⟨W.heap.size + 1 + 1, 3, none⟩ = false := frozen_of_row _ _ 3 _ _ rQ18_.out
  have Qf4_ : (w2).frozen? ⟨W.heap.size + 1 + 1, 4, none⟩ = false := frozen_of_row _ _ 4 _ _ rQ18_.out
  have Qf5_ : (w2).frozen? ⟨W.heap.size + 1 + 1, 5, none⟩ = false := frozen_of_row _ _ 5 _ _ rQ18_.out
  have Qf6_ : (w2).frozen? ⟨W.heap.size + 1 + 1, 6, none⟩ = false := frozen_of_row _ _ 6 _ _ rQ18_.out
  have Qf7_ : (w2).frozen? ⟨W.heap.size + 1 + 1, 7, none⟩ = false := frozen_of_row _ _ 7 _ _ rQ18_.out
  have X_0_ : (w2).cell? ⟨w1.heap.size, 0, none⟩ = some (.int .i64 i0) := cell_of_row _ _ 0 _ _ _ rX19_.out
  have X_1_ : (w2).cell? ⟨w1.heap.size, 1, none⟩ = some (.slice d1 m1 k1) := cell_of_row _ _ 1 _ _ _ rX19_.out
  have X_2_ : (w2).cell? ⟨w1.heap.size, 2, none⟩ = some (.slice d2 m2 k2) := cell_of_row _ _ 2 _ _ _ rX19_.out
  have yr_ := Lib.hid (show ((((((((((((w2.setCell ⟨W.heap.size + 1, 0, none⟩ (.int .i64 i0)).setCell ⟨W.heap.size + 1, 1, none⟩ (.slice d1 m1 k1)).setCell ⟨W.heap.size + 1, 2, none⟩ (.slice d2 m2 k2)).setCell ⟨W.heap.size + 1 + 1, 0, none⟩ (.int .i64 0)).setCell ⟨W.heap.size + 1 + 1, 1, none⟩ (.int .i64 0)).setCell ⟨W.heap.size + 1 + 1, 2, none⟩ (.int .i64 0)).setCell ⟨W.heap.size + 1 + 1, 3, none⟩ (.int .i64 0)).setCell ⟨W.heap.size + 1 + 1, 4, none⟩ (.int .i64 0)).setCell ⟨W.heap.size + 1 + 1, 5, none⟩ (.int .i64 0)).setCell ⟨W.heap.size + 1 + 1, 6, none⟩ (.int .i64 0)).setCell ⟨W.heap.size + 1 + 1, 7, none⟩ (.slice none 0 0))).heap[W.heap.size + 1]? = some (.cells #[.int .i64 i0, .slice d1 m1 k1, .slice d2 m2 k2] 26 (0, 0)) from (set_far (set_far (set_far (set_far (set_far (set_far (set_far (set_far (heap_setCell_same _ _ 2 _ _ _ (heap_setCell_same _ _ 1 _ _ _ (heap_setCell_same _ _ 0 _ _ _ rR17_.out))) (by dsimp only; omega)) (by dsimp only; omega)) (by dsimp only; omega)) (by dsimp only; omega)) (by dsimp only; omega)) (by dsimp only; omega)) (by dsimp only; omega)) (by dsimp only; omega)))
  have yq_ := Lib.hid (show ((((((((((((w2.setCell ⟨W.heap.size + 1, 0, none⟩ (.int .i64 i0)).setCell ⟨W.heap.size + 1, 1, none⟩ (.slice d1 m1 k1)).setCell ⟨W.heap.size + 1, 2, none⟩ (.slice d2 m2 k2)).setCell ⟨W.heap.size + 1 + 1, 0, none⟩ (.int .i64 0)).setCell ⟨W.heap.size + 1 + 1, 1, none⟩ (.int .i64 0)).setCell ⟨W.heap.size + 1 + 1, 2, none⟩ (.int .i64 0)).setCell ⟨W.heap.size + 1 + 1, 3, none⟩ (.int .i64 0)).setCell ⟨W.heap.size + 1 + 1, 4, none⟩ (.int .i64 0)).setCell ⟨W.heap.size + 1 + 1, 5, none⟩ (.int .i64 0)).setCell ⟨W.heap.size + 1 + 1, 6, none⟩ (.int .i64 0)).setCell ⟨W.heap.size + 1 + 1, 7, none⟩ (.slice none 0 0))).heap[W.heap.size + 1 + 1]? = some (.cells #[.int .i64 0, .int .i64 0, .int .i64 0, .int .i64 0, .int .i64 0, .int .i64 0, .int .i64 0, .slice none 0 0] 29 (0, 0)) from (heap_setCell_same _ _ 7 _ _ _ (heap_setCell_same _ _ 6 _ _ _ (heap_setCell_same _ _ 5 _ _ _ (heap_setCell_same _ _ 4 _ _ _ (heap_setCell_same _ _ 3 _ _ _ (heap_setCell_same _ _ 2 _ _ _ (heap_setCell_same _ _ 1 _ _ _ (heap_setCell_same _ _ 0 _ _ _ (set_far (set_far (set_far rQ18_.out (by dsimp only; omega)) (by dsimp only; omega)) (by dsimp only; omega)))))))))))
  have z0_ : ((((((((((((w2.setCell ⟨W.heap.size + 1, 0, none⟩ (.int .i64 i0)).setCell ⟨W.heap.size + 1, 1, none⟩ (.slice d1 m1 k1)).setCell ⟨W.heap.size + 1, 2, none⟩ (.slice d2 m2 k2)).setCell ⟨W.heap.size + 1 + 1, 0, none⟩ (.int .i64 0)).setCell ⟨W.heap.size + 1 + 1, 1, none⟩ (.int .i64 0)).setCell ⟨W.heap.size + 1 + 1, 2, none⟩ (.int .i64 0)).setCell ⟨W.heap.size + 1 + 1, 3, none⟩ (.int .i64 0)).setCell ⟨W.heap.size + 1 + 1, 4, none⟩ (.int .i64 0)).setCell ⟨W.heap.size + 1 + 1, 5, none⟩ (.int .i64 0)).setCell ⟨W.heap.size + 1 + 1, 6, none⟩ (.int .i64 0)).setCell ⟨W.heap.size + 1 + 1, 7, none⟩ (.slice none 0 0))).cell? ⟨W.heap.size + 1, 0, none⟩ = some (.int .i64 i0) := cell_of_row _ _ 0 _ _ _ yr_.out
  have z1_ : ((((((((((((w2.setCell ⟨W.heap.size + 1, 0, none⟩ (.int .i64 i0)).setCell ⟨W.heap.size + 1, 1, none⟩ (.slice d1 m1 k1)).setCell ⟨W.heap.size + 1, 2, none⟩ (.slice d2 m2 k2)).setCell ⟨W.heap.size + 1 + 1, 0, none⟩ (.int .i64 0)).setCell ⟨W.heap.size + 1 + 1, 1, none⟩ (.int .i64 0)).setCell ⟨W.heap.size + 1 + 1, 2, none⟩ (.int .i64 0)).setCell ⟨W.heap.size + 1 + 1, 3, none⟩ (.int .i64 0)).setCell ⟨W.heap.size + 1 + 1, 4, none⟩ (.int .i64 0)).setCell ⟨W.heap.size + 1 + 1, 5, none⟩ (.int .i64 0)).setCell ⟨W.heap.size + 1 + 1, 6, none⟩ (.int .i64 0)).setCell ⟨W.heap.size + 1 + 1, 7, none⟩ (.slice none 0 0))).cell? ⟨W.heap.size + 1, 1, none⟩ = some (.slice d1 m1 k1) := cell_of_row _ _ 1 _ _ _ yr_.out
  have z2_ : ((((((((((((w2.setCell ⟨W.heap.size + 1, 0, none⟩ (.int .i64 i0)).setCell ⟨W.heap.size + 1, 1, none⟩ (.slice d1 m1 k1)).setCell ⟨W.heap.size + 1, 2, none⟩ (.slice d2 m2 k2)).setCell ⟨W.heap.size + 1 + 1, 0, none⟩ (.int .i64 0)).setCell ⟨W.heap.size + 1 + 1, 1, none⟩ (.int .i64 0)).setCell ⟨W.heap.size + 1 + 1, 2, none⟩ (.int .i64 0)).setCell ⟨W.heap.size + 1 + 1, 3, none⟩ (.int .i64 0)).setCell ⟨W.heap.size + 1 + 1, 4, none⟩ (.int .i64 0)).setCell ⟨W.heap.size + 1 + 1, 5, none⟩ (.int .i64 0)).setCell ⟨W.heap.size + 1 + 1, 6, none⟩ (.int .i64 0)).setCell ⟨W.heap.size + 1 + 1, 7, none⟩ (.slice none 0 0))).cell? ⟨W.heap.size + 1, 2, none⟩ = some (.slice d2 m2 k2) := cell_of_row _ _ 2 _ _ _ yr_.out
  have y0_ : ((((((((((((w2.setCell ⟨W.heap.size + 1, 0, none⟩ (.int .i64 i0)).setCell ⟨W.heap.size + 1, 1, none⟩ (.slice d1 m1 k1)).setCell ⟨W.heap.size + 1, 2, none⟩ (.slice d2 m2 k2)).setCell ⟨W.heap.size + 1 + 1, 0, none⟩ (.int .i64 0)).setCell ⟨W.heap.size + 1 + 1, 1, none⟩ (.int .i64 0)).setCell ⟨W.heap.size + 1 + 1, 2, none⟩ (.int .i64 0)).setCell ⟨W.heap.size + 1 + 1, 3, none⟩ (.int .i64 0)).setCell ⟨W.heap.size + 1 + 1, 4, none⟩ (.int .i64 0)).setCell ⟨W.heap.size + 1 + 1, 5, none⟩ (.int .i64 0)).setCell ⟨W.heap.size + 1 + 1, 6, none⟩ (.int .i64 0)).setCell ⟨W.heap.size + 1 + 1, 7, none⟩ (.slice none 0 0))).cell? ⟨W.heap.size + 1 + 1, 0, none⟩ = some (.int .i64 0) := cell_of_row _ _ 0 _ _ _ yq_.out
  have y1_ : ((((((((((((w2.setCell ⟨W.heap.size + 1, 0, none⟩ (.int .i64 i0)).setCell ⟨W.heap.size + 1, 1, none⟩ (.slice d1 m1 k1)).setCell ⟨W.heap.size + 1, 2, none⟩ (.slice d2 m2 k2)).setCell ⟨W.heap.size + 1 + 1, 0, none⟩ (.int .i64 0)).setCell ⟨W.heap.size + 1 + 1, 1, none⟩ (.int .i64 0)).setCell ⟨W.heap.size + 1 + 1, 2, none⟩ (.int .i64 0)).setCell ⟨W.heap.size + 1 + 1, 3, none⟩ (.int .i64 0)).setCell ⟨W.heap.size + 1 + 1, 4, none⟩ (.int .i64 0)).setCell ⟨W.heap.size + 1 + 1, 5, none⟩ (.int .i64 0)).setCell ⟨W.heap.size + 1 + 1, 6, none⟩ (.int .i64 0)).setCell ⟨W.heap.size + 1 + 1, 7, none⟩ (.slice none 0 0))).cell? ⟨W.heap.size + 1 + 1, 1, none⟩ = some (.int .i64 0) := cell_of_row _ _ 1 _ _ _ yq_.out
  have y2_ : ((((((((((((w2.setCell ⟨W.heap.size + 1, 0, none⟩ (.int .i64 i0)).setCell ⟨W.heap.size + 1, 1, none⟩ (.slice d1 m1 k1)).setCell ⟨W.heap.size + 1, 2, none⟩ (.slice d2 m2 k2)).setCell ⟨W.heap.size + 1 + 1, 0, none⟩ (.int .i64 0)).setCell ⟨W.heap.size + 1 + 1, 1, none⟩ (.int .i64 0)).setCell ⟨W.heap.size + 1 + 1, 2, none⟩ (.int .i64 0)).setCell ⟨W.heap.size + 1 + 1, 3, none⟩ (.int .i64 0)).setCell ⟨W.heap.size + 1 + 1, 4, none⟩ (.int .i64 0)).setCell ⟨W.heap.size + 1 + 1, 5, none⟩ (.int .i64 0)).setCell ⟨W.heap.size + 1 + 1, 6, none⟩ (.int .i64 0)).setCell ⟨W.heap.size + 1 + 1, 7, none⟩ (.slice none 0 0))).cell? ⟨W.heap.size + 1 + 1, 2, none⟩ = some (.int .i64 0) := cell_of_row _ _ 2 _ _ _ yq_.out
  have y3_ : ((((((((((((w2.setCell ⟨W.heap.size + 1, 0, none⟩ (.int .i64 i0)).setCell ⟨W.heap.size + 1, 1, none⟩ (.slice d1 m1 k1)).setCell ⟨W.heap.size + 1, 2, none⟩ (.slice d2 m2 k2)).setCell ⟨W.heap.size + 1 + 1, 0, none⟩ (.int .i64 0)).setCell ⟨W.heap.size + 1 + 1, 1, none⟩ (.int .i64 0)).setCell ⟨W.heap.size + 1 + 1, 2, none⟩ (.int .i64 0)).setCell ⟨W.heap.size + 1 + 1, 3, none⟩ (.int .i64 0)).setCell ⟨W.heap.size + 1 + 1, 4, none⟩ (.int .i64 0)).setCell ⟨W.heap.size + 1 + 1, 5, none⟩ (.int .i64 0)).setCell ⟨W.heap.size + 1 + 1, 6, none⟩ (.int .i64 0)).setCell ⟨W.heap.size + 1 + 1, 7, none⟩ (.slice none 0 0))).cell? ⟨W.heap.size + 1 + 1, 3, none⟩ = some (.int .i64 0) := cell_of_row _ _ 3 _ _ _ yq_.out
  have y4_ : ((((((((((((w2.setCell ⟨W.heap.size + 1, 0, none⟩ (.int .i64 i0)).setCell ⟨W.heap.size + 1, 1, none⟩ (.slice d1 m1 k1)).setCell ⟨W.heap.size + 1, 2, none⟩ (.slice d2 m2 k2)).setCell ⟨W.heap.size + 1 + 1, 0, none⟩ (.int .i64 0)).setCell ⟨W.heap.size + 1 + 1, 1, none⟩ (.int .i64 0)).setCell ⟨W.heap.size + 1 + 1, 2, none⟩ (.int .i64 0)).setCell ⟨W.heap.size + 1 + 1, 3, none⟩ (.int .i64 0)).setCell ⟨W.heap.size + 1 + 1, 4, none⟩ (.int .i64 0)).setCell ⟨W.heap.size + 1 + 1, 5, none⟩ (.int .i64 0)).setCell ⟨W.heap.size + 1 + 1, 6, none⟩ (.int .i64 0)).setCell ⟨W.heap.size + 1 + 1, 7, none⟩ (.slice none 0 0))).cell? ⟨W.heap.size + 1 + 1, 4, none⟩ = some (.int .i64 0) := cell_of_row _ _ 4 _ _ _ yq_.out
  have y5_ : ((((((((((((w2.setCell ⟨W.heap.size + 1, 0, none⟩ (.int .i64 i0)).setCell ⟨W.heap.size + 1, 1, none⟩ (.slice d1 m1 k1)).setCell ⟨W.heap.size + 1, 2, none⟩ (.slice d2 m2 k2)).setCell ⟨W.heap.size + 1 + 1, 0, none⟩ (.int .i64 0)).setCell ⟨W.heap.size + 1 + 1, 1, none⟩ (.int .i64 0)).setCell ⟨W.heap.size + 1 + 1, 2, none⟩ (.int .i64 0)).setCell ⟨W.heap.size + 1 + 1, 3, none⟩ (.int .i64 0)).setCell ⟨W.heap.size + 1 + 1, 4, none⟩ (.int .i64 0)).setCell ⟨W.heap.size + 1 + 1, 5, none⟩ (.int .i64 0)).setCell ⟨W.heap.size + 1 + 1, 6, none⟩ (.int .i64 0)).setCell ⟨W.heap.size + 1 + 1, 7, none⟩ (.slice none 0 0))).cell? ⟨W.heap.size + 1 + 1, 5, none⟩ = some (.int .i64 0) := cell_of_row _ _ 5 _ _ _ yq_.out
  have y6_ : ((((((((((((w2.setCell ⟨W.heap.size + 1, 0, none⟩ (.int .i64 i0)).setCell ⟨W.heap.size + 1, 1, none⟩ (.slice d1 m1 k1)).setCell ⟨W.heap.size + 1, 2, none⟩ (.slice d2 m2 k2)).setCell ⟨W.heap.size + 1 + 1, 0, none⟩ (.int .i64 0)).setCell ⟨W.heap.size + 1 + 1, 1, none⟩ (.int .i64 0)).setCell ⟨W.heap.size + 1 + 1, 2, none⟩ (.int .i64 0)).setCell ⟨W.heap.size + 1 + 1, 3, none⟩ (.int .i64 0)).setCell ⟨W.heap.size + 1 + 1, 4, none⟩ (.int .i64 0)).setCell ⟨W.heap.size + 1 + 1, 5, none⟩ (.int .i64 0)).setCell ⟨W.heap.size + 1 + 1, 6, none⟩ (.int .i64 0)).setCell ⟨W.heap.size + 1 + 1, 7, none⟩ (.slice none 0 0))).cell? ⟨W.heap.size + 1 + 1, 6, none⟩ = some (.int .i64 0) := cell_of_row _ _ 6 _ _ _ yq_.out
  have y7_ : ((((((((((((w2.setCell ⟨W.heap.size + 1, 0, none⟩ (.int .i64 i0)).setCell ⟨W.heap.size + 1, 1, none⟩ (.slice d1 m1 k1)).setCell ⟨W.heap.size + 1, 2, none⟩ (.slice d2 m2 k2)).setCell ⟨W.heap.size + 1 + 1, 0, none⟩ (.int .i64 0)).setCell ⟨W.heap.size + 1 + 1, 1, none⟩ (.int .i64 0)).setCell ⟨W.heap.size + 1 + 1, 2, none⟩ (.int .i64 0)).setCell ⟨W.heap.size + 1 + 1, 3, none⟩ (.int .i64 0)).setCell ⟨W.heap.size + 1 + 1, 4, none⟩ (.int .i64 0)).setCell ⟨W.heap.size + 1 + 1, 5, none⟩ (.int .i64 0)).setCell ⟨W.heap.size + 1 + 1, 6, none⟩ (.int .i64 0)).setCell ⟨W.heap.size + 1 + 1, 7, none⟩ (.slice none 0 0))).cell? ⟨W.heap.size + 1 + 1, 7, none⟩ = some (.slice none 0 0) := cell_of_row _ _ 7 _ _ _ yq_.out
  go_wp2
  refine bodyPost_ret (v := .tuple #[.agg #[.int .i64 i0, .slice d1 m1 k1, .slice d2 m2 k2], .agg #[.int .i64 0, .int .i64 0, .int .i64 0, .int .i64 0, .int .i64 0, .int .i64 0, .int .i64 0, .slice none 0 0], .bool false]) (by simp [results, go_sem, z0_, z1_, z2_, y0_, y1_, y2_, y3_, y4_, y5_, y6_, y7_]) rfl ⟨_, _, _, rfl, ?_, ?_⟩
  · exact OwU.wide (lo := (W.heap.size + 1 + 1 + 1)) (by omega) (by simp only [World.size_setCell]; omega) (OwU.keep (chg_one _ _ _ _) (by omega) (OwU.keep (chg_one _ _ _ _) (by omega) (OwU.keep (chg_one _ _ _ _) (by omega) (OwU.keep (chg_one _ _ _ _) (by omega) (OwU.keep (chg_one _ _ _ _) (by omega) (OwU.keep (chg_one _ _ _ _) (by omega) (OwU.keep (chg_one _ _ _ _) (by omega) (OwU.keep (chg_one _ _ _ _) (by omega) (OwU.keep (chg_one _ _ _ _) (by omega) (OwU.keep (chg_one _ _ _ _) (by omega) (OwU.keep (chg_one _ _ _ _) (by omega) (OwU.app (ps := [own shB (.slice d1 m1 k1) xs, own shB (.slice d2 m2 k2) ys]) (qs := [own shI (.slice none 0 0) ([] : List Int)]) (m := w1.heap.size) (hi := w1.heap.size) (by omega) (Nat.le_refl _) oC20_.out (OwU.one owL_nil)))))))))))))
  · exact (gby_setnew (gby_setnew (gby_setnew (gby_setnew (gby_setnew (gby_setnew (gby_setnew (gby_setnew (gby_setnew (gby_setnew (gby_setnew G21_.out _ (by dsimp only; omega) _) _ (by dsimp only; omega) _) _ (by dsimp only; omega) _) _ (by dsimp only; omega) _) _ (by dsimp only; omega) _) _ (by dsimp only; omega) _) _ (by dsimp only; omega) _) _ (by dsimp only; omega) _) _ (by dsimp only; omega) _) _ (by dsimp only; omega) _) _ (by dsimp only; omega) _)

set_option maxRecDepth 8000 in
set_option maxHeartbeats 4000000 in
theorem implRaise_bad (W : World) (i0 : Int) (v1 v2 : Value) (xs ys : List Bool) (H1 : RdL shB W v1 xs) (H2 : RdL shB W v2 ys) (hl1 : szL shB xs ≤ 1048576) (hl2 : szL shB ys ≤ 1048576) (id k : Int) (hb : ¬ VCall i0 xs ys id k) : Calls Try.prog 14 #[vVectors i0 v1 v2, .int .i64 id, .int .i64 k] W (ResIRaiseVector i0 xs ys 0 0 0 0 0 0 0 [] false W) := by
  have HOK := Lib.hid hb
  clear hb
  have H1_ := Lib.hid H1
  have H2_ := Lib.hid H2
  obtain ⟨a1, n1, c1, rfl⟩ := RdL.form H1
  obtain ⟨a2, n2, c2, rfl⟩ := RdL.form H2
  clear H1 H2
  unfold vVectors
  go_enter Try.func14, Try.ntmps14
  have rA1_ := Lib.hid (show ((((W.alloc (.cells #[.int .i64 i0, .slice a1 n1 c1, .slice a2 n2 c2] 26)).alloc (.cells #[.int .i64 0, .slice none 0 0, .slice none 0 0] 26)).alloc (.cells #[.int .i64 0, .int .i64 0, .int .i64 0, .int .i64 0, .int .i64 0, .int .i64 0, .int .i64 0, .slice none 0 0] 29))).heap[W.heap.size]? = some (.cells #[.int .i64 i0, .slice a1 n1 c1, .slice a2 n2 c2] 26 (0, 0)) from by rw [heap_alloc_old _ _ (by simp only [World.size_alloc]; omega)]; rw [heap_alloc_old _ _ (by simp only [World.size_alloc]; omega)]; exact heap_alloc_new _ _)
  have rR2_ := Lib.hid (show ((((W.alloc (.cells #[.int .i64 i0, .slice a1 n1 c1, .slice a2 n2 c2] 26)).alloc (.cells #[.int .i64 0, .slice none 0 0, .slice none 0 0] 26)).alloc (.cells #[.int .i64 0, .int .i64 0, .int .i64 0, .int .i64 0, .int .i64 0, .int .i64 0, .int .i64 0, .slice none 0 0] 29))).heap[W.heap.size + 1]? = some (.cells #[.int .i64 0, .slice none 0 0, .slice none 0 0] 26 (0, 0)) from by rw [heap_alloc_old _ _ (by simp only [World.size_alloc]; omega)]; exact heap_pair _ _ _)
  have rQ3_ := Lib.hid (show ((((W.alloc (.cells #[.int .i64 i0, .slice a1 n1 c1, .slice a2 n2 c2] 26)).alloc (.cells #[.int .i64 0, .slice none 0 0, .slice none 0 0] 26)).alloc (.cells #[.int .i64 0, .int .i64 0, .int .i64 0, .int .i64 0, .int .i64 0, .int .i64 0, .int .i64 0, .slice none 0 0] 29))).heap[W.heap.size + 1 + 1]? = some (.cells #[.int .i64 0, .int .i64 0, .int .i64 0, .int .i64 0, .int .i64 0, .int .i64 0, .int .i64 0, .slice none 0 0] 29 (0, 0)) from by exact heap_trip _ _ _ _)
  have G4_ := Lib.hid (show (W).grownBy ((((W.alloc (.cells #[.int .i64 i0, .slice a1 n1 c1, .slice a2 n2 c2] 26)).alloc (.cells #[.int .i64 0, .slice none 0 0, .slice none 0 0] 26)).alloc (.cells #[.int .i64 0, .int .i64 0, .int .i64 0, .int .i64 0, .int .i64 0, .int .i64 0, .int .i64 0, .slice none 0 0] 29))) none from (gby_alloc (gby_alloc (gby_alloc (gby_refl _ _) _) _) _))
  have A_0_ : ((((W.alloc (.cells #[.int .i64 i0, .slice a1 n1 c1, .slice a2 n2 c2] 26)).alloc (.cells #[.int .i64 0, .slice none 0 0, .slice none 0 0] 26)).alloc (.cells #[.int .i64 0, .int .i64 0, .int .i64 0, .int .i64 0, .int .i64 0, .int .i64 0, .int .i64 0, .slice none 0 0] 29))).cell? ⟨W.heap.size, 0, none⟩ = some (.int .i64 i0) := cell_of_row _ _ 0 _ _ _ rA1_.out
  have A_1_ : ((((W.alloc (.cells #[.int .i64 i0, .slice a1 n1 c1, .slice a2 n2 c2] 26)).alloc (.cells #[.int .i64 0, .slice none 0 0, .slice none 0 0] 26)).alloc (.cells #[.int .i64 0, .int .i64 0, .int .i64 0, .int .i64 0, .int .i64 0, .int .i64 0, .int .i64 0, .slice none 0 0] 29))).cell? ⟨W.heap.size, 1, none⟩ = some (.slice a1 n1 c1) := cell_of_row _ _ 1 _ _ _ rA1_.out
  have A_2_ : ((((W.alloc (.cells #[.int .i64 i0, .slice a1 n1 c1, .slice a2 n2 c2] 26)).alloc (.cells #[.int .i64 0, .slice none 0 0, .slice none 0 0] 26)).alloc (.cells #[.int .i64 0, .int .i64 0, .int .i64 0, .int .i64 0, .int .i64 0, .int .i64 0, .int .i64 0, .slice none 0 0] 29))).cell? ⟨W.heap.size, 2, none⟩ = some (.slice a2 n2 c2) := cell_of_row _ _ 2 _ _ _ rA1_.out
  have R_0_ : ((((W.alloc (.cells #[.int .i64 i0, .slice a1 n1 c1, .slice a2 n2 c2] 26)).alloc (.cells #[.int .i64 0, .slice none 0 0, .slice none 0 0] 26)).alloc (.cells #[.int .i64 0, .int .i64 0, .int .i64 0, .int .i64 0, .int .i64 0, .int .i64 0, .int .i64 0, .slice none 0 0] 29))).cell? ⟨W.heap.size + 1, 0, none⟩ = some (.int .i64 0) := cell_of_row _ _ 0 _ _ _ rR2_.out
  have R_1_ : ((((W.alloc (.cells #[.int .i64 i0, .slice a1 n1 c1, .slice a2 n2 c2] 26)).alloc (.cells #[.int .i64 0, .slice none 0 0, .slice none 0 0] 26)).alloc (.cells #[.int .i64 0, .int .i64 0, .int .i64 0, .int .i64 0, .int .i64 0, .int .i64 0, .int .i64 0, .slice none 0 0] 29))).cell? ⟨W.heap.size + 1, 1, none⟩ = some (.slice none 0 0) := cell_of_row _ _ 1 _ _ _ rR2_.out
  have R_2_ : ((((W.alloc (.cells #[.int .i64 i0, .slice a1 n1 c1, .slice a2 n2 c2] 26)).alloc (.cells #[.int .i64 0, .slice none 0 0, .slice none 0 0] 26)).alloc (.cells #[.int .i64 0, .int .i64 0, .int .i64 0, .int .i64 0, .int .i64 0, .int .i64 0, .int .i64 0, .slice none 0 0] 29))).cell? ⟨W.heap.size + 1, 2, none⟩ = some (.slice none 0 0) := cell_of_row _ _ 2 _ _ _ rR2_.out
  have Q_0_ : ((((W.alloc (.cells #[.int .i64 i0, .slice a1 n1 c1, .slice a2 n2 c2] 26)).alloc (.cells #[.int .i64 0, .slice none 0 0, .slice none 0 0] 26)).alloc (.cells #[.int .i64 0, .int .i64 0, .int .i64 0, .int .i64 0, .int .i64 0, .int .i64 0, .int .i64 0, .slice none 0 0] 29))).cell? ⟨W.heap.size + 1 + 1, 0, none⟩ = some (.int .i64 0) := cell_of_row _ _ 0 _ _ _ rQ3_.out
  have Q_1_ : ((((W.alloc (.cells #[.int .i64 i0, .slice a1 n1 c1, .slice a2 n2 c2] 26)).alloc (.cells #[.int .i64 0, .slice none 0 0, .slice none 0 0] 26)).alloc (.cells #[.int .i64 0, .int .i64 0, .int .i64 0, .int .i64 0, .int .i64 0, .int .i64 0, .int .i64 0, .slice none 0 0] 29))).cell? ⟨W.heap.size + 1 + 1, 1, none⟩ = some (.int .i64 0) := cell_of_row _ _ 1 _ _ _ rQ3_.out
  have Q_2_ : ((((W.alloc (.cells #[.int .i64 i0, .slice a1 n1 c1, .slice a2 n2 c2] 26)).alloc (.cells #[.int .i64 0, .slice none 0 0, .slice none 0 0] 26)).alloc (.cells #[.int .i64 0, .int .i64 0, .int .i64 0, .int .i64 0, .int .i64 0, .int .i64 0, .int .i64 0, .slice none 0 0] 29))).cell? ⟨W.heap.size + 1 + 1, 2, none⟩ = some (.int .i64 0) := cell_of_row _ _ 2 _ _ _ rQ3_.out
  have Q_3_ : ((((W.alloc (.cells #[.int .i64 i0, .slice a1 n1 c1, .slice a2 n2 c2] 26)).alloc (.cells #[.int .i64 0, .slice none 0 0, .slice none 0 0] 26)).alloc (.cells #[.int .i64 0, .int .i64 0, .int .i64 0, .int .i64 0, .int .i64 0, .int .i64 0, .int .i64 0, .slice none 0 0] 29))).cell? ⟨W.heap.size + 1 + 1, 3, none⟩ = some (.int .i64 0) := cell_of_row _ _ 3 _ _ _ rQ3_.out
  have Q_4_ : ((((W.alloc (.cells #[.int .i64 i0, .slice a1 n1 c1, .slice a2 n2 c2] 26)).alloc (.cells #[.int .i64 0, .slice none 0 0, .slice none 0 0] 26)).alloc (.cells #[.int .i64 0, .int .i64 0, .int .i64 0, .int .i64 0, .int .i64 0, .int .i64 0, .int .i64 0, .slice none 0 0] 29))).cell? ⟨W.heap.size + 1 + 1, 4, none⟩ = some (.int .i64 0) := cell_of_row _ _ 4 _ _ _ rQ3_.out
  have Q_5_ : ((((W.alloc (.cells #[.int .i64 i0, .slice a1 n1 c1, .slice a2 n2 c2] 26)).alloc (.cells #[.int .i64 0, .slice none 0 0, .slice none 0 0] 26)).alloc (.cells #[.int .i64 0, .int .i64 0, .int .i64 0, .int .i64 0, .int .i64 0, .int .i64 0, .int .i64 0, .slice none 0 0] 29))).cell? ⟨W.heap.size + 1 + 1, 5, none⟩ = some (.int .i64 0) := cell_of_row _ _ 5 _ _ _ rQ3_.out
  have Q_6_ : ((((W.alloc (.cells #[.int .i64 i0, .slice a1 n1 c1, .slice a2 n2 c2] 26)).alloc (.cells #[.int .i64 0, .slice none 0 0, .slice none 0 0] 26)).alloc (.cells #[.int .i64 0, .int .i64 0, .int .i64 0, .int .i64 0, .int .i64 0, .int .i64 0, .int .i64 0, .slice none 0 0] 29))).cell? ⟨W.heap.size + 1 + 1, 6, none⟩ = some (.int .i64 0) := cell_of_row _ _ 6 _ _ _ rQ3_.out
  have Q_7_ : ((((W.alloc (.cells #[.int .i64 i0, .slice a1 n1 c1, .slice a2 n2 c2] 26)).alloc (.cells #[.int .i64 0, .slice none 0 0, .slice none 0 0] 26)).alloc (.cells #[.int .i64 0, .int .i64 0, .int .i64 0, .int .i64 0, .int .i64 0, .int .i64 0, .int .i64 0, .slice none 0 0] 29))).cell? ⟨W.heap.size + 1 + 1, 7, none⟩ = some (.slice none 0 0) := cell_of_row _ _ 7 _ _ _ rQ3_.out
  go_wp2_with fail
  go_at_call 63
  refine (copiedVec_d _ i0 _ _ xs ys (H1_.out.grow G4_.out) (H2_.out.grow G4_.out) hl1 hl2).mono ?_
  rintro e w1 ⟨x1, x2, rfl, o, g⟩
  have sz_ := g.size
  try simp only [World.size_alloc] at sz_ o
  clear A_0_ A_1_ A_2_ R_0_ R_1_ R_2_ Q_0_ Q_1_ Q_2_ Q_3_ Q_4_ Q_5_ Q_6_ Q_7_
  have rA5_ := Lib.hid (show (w1).heap[W.heap.size]? = some (.cells #[.int .i64 i0, .slice a1 n1 c1, .slice a2 n2 c2] 26 (0, 0)) from row_held g rA1_.out)
  clear rA1_
  have rR6_ := Lib.hid (show (w1).heap[W.heap.size + 1]? = some (.cells #[.int .i64 0, .slice none 0 0, .slice none 0 0] 26 (0, 0)) from row_held g rR2_.out)
  clear rR2_
  have rQ7_ := Lib.hid (show (w1).heap[W.heap.size + 1 + 1]? = some (.cells #[.int .i64 0, .int .i64 0, .int .i64 0, .int .i64 0, .int .i64 0, .int .i64 0, .int .i64 0, .slice none 0 0] 29 (0, 0)) from row_held g rQ3_.out)
  clear rQ3_
  have G8_ := Lib.hid (show (W).grownBy (w1) none from gby_trans G4_.out g)
  clear g
  obtain ⟨d1, m1, k1, hv_⟩ := RdL.form (OwU.rd o)
  subst hv_
  obtain ⟨d2, m2, k2, hv_⟩ := RdL.form (OwU.rd (OwU.tail o))
  subst hv_
  unfold vVectors
  have oC9_ := Lib.hid (show OwU (w1) ((W.heap.size + 1 + 1 + 1)) (w1.heap.size) [] [own shB (.slice d1 m1 k1) xs, own shB (.slice d2 m2 k2) ys] from o)
  clear o
  have al_ : (w1).grownBy ((w1).alloc (.cells #[.int .i32 0, .int .u32 0, .int .i64 i0, .slice d1 m1 k1, .slice d2 m2 k2] 92)) none := gby_alloc (gby_refl _ _) _
  have rA10_ := Lib.hid (show ((w1.alloc (.cells #[.int .i32 0, .int .u32 0, .int .i64 i0, .slice d1 m1 k1, .slice d2 m2 k2] 92))).heap[W.heap.size]? = some (.cells #[.int .i64 i0, .slice a1 n1 c1, .slice a2 n2 c2] 26 (0, 0)) from row_held al_ rA5_.out)
  clear rA5_
  have rR11_ := Lib.hid (show ((w1.alloc (.cells #[.int .i32 0, .int .u32 0, .int .i64 i0, .slice d1 m1 k1, .slice d2 m2 k2] 92))).heap[W.heap.size + 1]? = some (.cells #[.int .i64 0, .slice none 0 0, .slice none 0 0] 26 (0, 0)) from row_held al_ rR6_.out)
  clear rR6_
  have rQ12_ := Lib.hid (show ((w1.alloc (.cells #[.int .i32 0, .int .u32 0, .int .i64 i0, .slice d1 m1 k1, .slice d2 m2 k2] 92))).heap[W.heap.size + 1 + 1]? = some (.cells #[.int .i64 0, .int .i64 0, .int .i64 0, .int .i64 0, .int .i64 0, .int .i64 0, .int .i64 0, .slice none 0 0] 29 (0, 0)) from row_held al_ rQ7_.out)
  clear rQ7_
  have oC13_ := Lib.hid (show OwU ((w1.alloc (.cells #[.int .i32 0, .int .u32 0, .int .i64 i0, .slice d1 m1 k1, .slice d2 m2 k2] 92))) ((W.heap.size + 1 + 1 + 1)) (w1.heap.size) [] [own shB (.slice d1 m1 k1) xs, own shB (.slice d2 m2 k2) ys] from OwU.grow oC9_.out al_)
  clear oC9_
  have G14_ := Lib.hid (show (W).grownBy ((w1.alloc (.cells #[.int .i32 0, .int .u32 0, .int .i64 i0, .slice d1 m1 k1, .slice d2 m2 k2] 92))) none from gby_trans G8_.out al_)
  have rX15_ := Lib.hid (show ((w1.alloc (.cells #[.int .i32 0, .int .u32 0, .int .i64 i0, .slice d1 m1 k1, .slice d2 m2 k2] 92))).heap[w1.heap.size]? = some (.cells #[.int .i32 0, .int .u32 0, .int .i64 i0, .slice d1 m1 k1, .slice d2 m2 k2] 92 (0, 0)) from by first | exact heap_alloc_new _ _ | exact heap_pair _ _ _ | exact heap_trip _ _ _ _)
  clear al_
  have A_0_ : ((w1.alloc (.cells #[.int .i32 0, .int .u32 0, .int .i64 i0, .slice d1 m1 k1, .slice d2 m2 k2] 92))).cell? ⟨W.heap.size, 0, none⟩ = some (.int .i64 i0) := cell_of_row _ _ 0 _ _ _ rA10_.out
  have A_1_ : ((w1.alloc (.cells #[.int .i32 0, .int .u32 0, .int .i64 i0, .slice d1 m1 k1, .slice d2 m2 k2] 92))).cell? ⟨W.heap.size, 1, none⟩ = some (.slice a1 n1 c1) := cell_of_row _ _ 1 _ _ _ rA10_.out
  have A_2_ : ((w1.alloc (.cells #[.int .i32 0, .int .u32 0, .int .i64 i0, .slice d1 m1 k1, .slice d2 m2 k2] 92))).cell? ⟨W.heap.size, 2, none⟩ = some (.slice a2 n2 c2) := cell_of_row _ _ 2 _ _ _ rA10_.out
  have R_0_ : ((w1.alloc (.cells #[.int .i32 0, .int .u32 0, .int .i64 i0, .slice d1 m1 k1, .slice d2 m2 k2] 92))).cell? ⟨W.heap.size + 1, 0, none⟩ = some (.int .i64 0) := cell_of_row _ _ 0 _ _ _ rR11_.out
  have R_1_ : ((w1.alloc (.cells #[.int .i32 0, .int .u32 0, .int .i64 i0, .slice d1 m1 k1, .slice d2 m2 k2] 92))).cell? ⟨W.heap.size + 1, 1, none⟩ = some (.slice none 0 0) := cell_of_row _ _ 1 _ _ _ rR11_.out
  have R_2_ : ((w1.alloc (.cells #[.int .i32 0, .int .u32 0, .int .i64 i0, .slice d1 m1 k1, .slice d2 m2 k2] 92))).cell? ⟨W.heap.size + 1, 2, none⟩ = some (.slice none 0 0) := cell_of_row _ _ 2 _ _ _ rR11_.out
  have Q_0_ : ((w1.alloc (.cells #[.int .i32 0, .int .u32 0, .int .i64 i0, .slice d1 m1 k1, .slice d2 m2 k2] 92))).cell? ⟨W.heap.size + 1 + 1, 0, none⟩ = some (.int .i64 0) := cell_of_row _ _ 0 _ _ _ rQ12_.out
  have Q_1_ : ((w1.alloc (.cells #[.int .i32 0, .int .u32 0, .int .i64 i0, .slice d1 m1 k1, .slice d2 m2 k2] 92))).cell? ⟨W.heap.size + 1 + 1, 1, none⟩ = some (.int .i64 0) := cell_of_row _ _ 1 _ _ _ rQ12_.out
  have Q_2_ : ((w1.alloc (.cells #[.int .i32 0, .int .u32 0, .int .i64 i0, .slice d1 m1 k1, .slice d2 m2 k2] 92))).cell? ⟨W.heap.size + 1 + 1, 2, none⟩ = some (.int .i64 0) := cell_of_row _ _ 2 _ _ _ rQ12_.out
  have Q_3_ : ((w1.alloc (.cells #[.int .i32 0, .int .u32 0, .int .i64 i0, .slice d1 m1 k1, .slice d2 m2 k2] 92))).cell? ⟨W.heap.size + 1 + 1, 3, none⟩ = some (.int .i64 0) := cell_of_row _ _ 3 _ _ _ rQ12_.out
  have Q_4_ : ((w1.alloc (.cells #[.int .i32 0, .int .u32 0, .int .i64 i0, .slice d1 m1 k1, .slice d2 m2 k2] 92))).cell? ⟨W.heap.size + 1 + 1, 4, none⟩ = some (.int .i64 0) := cell_of_row _ _ 4 _ _ _ rQ12_.out
  have Q_5_ : ((w1.alloc (.cells #[.int .i32 0, .int .u32 0, .int .i64 i0, .slice d1 m1 k1, .slice d2 m2 k2] 92))).cell? ⟨W.heap.size + 1 + 1, 5, none⟩ = some (.int .i64 0) := cell_of_row _ _ 5 _ _ _ rQ12_.out
  have Q_6_ : ((w1.alloc (.cells #[.int .i32 0, .int .u32 0, .int .i64 i0, .slice d1 m1 k1, .slice d2 m2 k2] 92))).cell? ⟨W.heap.size + 1 + 1, 6, none⟩ = some (.int .i64 0) := cell_of_row _ _ 6 _ _ _ rQ12_.out
  have Q_7_ : ((w1.alloc (.cells #[.int .i32 0, .int .u32 0, .int .i64 i0, .slice d1 m1 k1, .slice d2 m2 k2] 92))).cell? ⟨W.heap.size + 1 + 1, 7, none⟩ = some (.slice none 0 0) := cell_of_row _ _ 7 _ _ _ rQ12_.out
  have X_0_ : ((w1.alloc (.cells #[.int .i32 0, .int .u32 0, .int .i64 i0, .slice d1 m1 k1, .slice d2 m2 k2] 92))).cell? ⟨w1.heap.size, 0, none⟩ = some (.int .i32 0) := cell_of_row _ _ 0 _ _ _ rX15_.out
  have X_1_ : ((w1.alloc (.cells #[.int .i32 0, .int .u32 0, .int .i64 i0, .slice d1 m1 k1, .slice d2 m2 k2] 92))).cell? ⟨w1.heap.size, 1, none⟩ = some (.int .u32 0) := cell_of_row _ _ 1 _ _ _ rX15_.out
  have X_2_ : ((w1.alloc (.cells #[.int .i32 0, .int .u32 0, .int .i64 i0, .slice d1 m1 k1, .slice d2 m2 k2] 92))).cell? ⟨w1.heap.size, 2, none⟩ = some (.int .i64 i0) := cell_of_row _ _ 2 _ _ _ rX15_.out
  have X_3_ : ((w1.alloc (.cells #[.int .i32 0, .int .u32 0, .int .i64 i0, .slice d1 m1 k1, .slice d2 m2 k2] 92))).cell? ⟨w1.heap.size, 3, none⟩ = some (.slice d1 m1 k1) := cell_of_row _ _ 3 _ _ _ rX15_.out
  have X_4_ : ((w1.alloc (.cells #[.int .i32 0, .int .u32 0, .int .i64 i0, .slice d1 m1 k1, .slice d2 m2 k2] 92))).cell? ⟨w1.heap.size, 4, none⟩ = some (.slice d2 m2 k2) := cell_of_row _ _ 4 _ _ _ rX15_.out
  go_wp2_with fail
  go_at_call 64
  refine (((implVCall _ i0 _ _ xs ys id k (H1_.out.grow G14_.out) (H2_.out.grow G14_.out)).mono (bpost_no HOK.out))).mono ?_
  rintro e w2 ⟨rfl, g⟩
  have szw2 := g.size
  try simp only [World.size_alloc] at szw2
  try simp only [World.size_setCell] at szw2
  clear A_0_ A_1_ A_2_ R_0_ R_1_ R_2_ Q_0_ Q_1_ Q_2_ Q_3_ Q_4_ Q_5_ Q_6_ Q_7_ X_0_ X_1_ X_2_ X_3_ X_4_
  have rA16_ := Lib.hid (show (w2).heap[W.heap.size]? = some (.cells #[.int .i64 i0, .slice a1 n1 c1, .slice a2 n2 c2] 26 (0, 0)) from row_held g rA10_.out)
  clear rA10_
  have rR17_ := Lib.hid (show (w2).heap[W.heap.size + 1]? = some (.cells #[.int .i64 0, .slice none 0 0, .slice none 0 0] 26 (0, 0)) from row_held g rR11_.out)
  clear rR11_
  have rQ18_ := Lib.hid (show (w2).heap[W.heap.size + 1 + 1]? = some (.cells #[.int .i64 0, .int .i64 0, .int .i64 0, .int .i64 0, .int .i64 0, .int .i64 0, .int .i64 0, .slice none 0 0] 29 (0, 0)) from row_held g rQ12_.out)
  clear rQ12_
  have rX19_ := Lib.hid (show (w2).heap[w1.heap.size]? = some (.cells #[.int .i32 0, .int .u32 0, .int .i64 i0, .slice d1 m1 k1, .slice d2 m2 k2] 92 (0, 0)) from row_held g rX15_.out)
  clear rX15_
  have oC20_ := Lib.hid (show OwU (w2) ((W.heap.size + 1 + 1 + 1)) (w1.heap.size) [] [own shB (.slice d1 m1 k1) xs, own shB (.slice d2 m2 k2) ys] from OwU.grow oC13_.out g)
  clear oC13_
  have G21_ := Lib.hid (show (W).grownBy (w2) none from gby_trans G14_.out g)
  clear g
  have A_0_ : (w2).cell? ⟨W.heap.size, 0, none⟩ = some (.int .i64 i0) := cell_of_row _ _ 0 _ _ _ rA16_.out
  have A_1_ : (w2).cell? ⟨W.heap.size, 1, none⟩ = some (.slice a1 n1 c1) := cell_of_row _ _ 1 _ _ _ rA16_.out
  have A_2_ : (w2).cell? ⟨W.heap.size, 2, none⟩ = some (.slice a2 n2 c2) := cell_of_row _ _ 2 _ _ _ rA16_.out
  have R_0_ : (w2).cell? ⟨W.heap.size + 1, 0, none⟩ = some (.int .i64 0) := cell_of_row _ _ 0 _ _ _ rR17_.out
  have R_1_ : (w2).cell? ⟨W.heap.size + 1, 1, none⟩ = some (.slice none 0 0) := cell_of_row _ _ 1 _ _ _ rR17_.out
  have R_2_ : (w2).cell? ⟨W.heap.size + 1, 2, none⟩ = some (.slice none 0 0) := cell_of_row _ _ 2 _ _ _ rR17_.out
  have Q_0_ : (w2).cell? ⟨W.heap.size + 1 + 1, 0, none⟩ = some (.int .i64 0) := cell_of_row _ _ 0 _ _ _ rQ18_.out
  have Q_1_ : (w2).cell? ⟨W.heap.size + 1 + 1, 1, none⟩ = some (.int .i64 0) := cell_of_row _ _ 1 _ _ _ rQ18_.out
  have Q_2_ : (w2).cell? ⟨W.heap.size + 1 + 1, 2, none⟩ = some (.int .i64 0) := cell_of_row _ _ 2 _ _ _ rQ18_.out
  have Q_3_ : (w2).cell? ⟨W.heap.size + 1 + 1, 3, none⟩ = some (.int .i64 0) := cell_of_row _ _ 3 _ _ _ rQ18_.out
  have Q_4_ : (w2).cell? ⟨W.heap.size + 1 + 1, 4, none⟩ = some (.int .i64 0) := cell_of_row _ _ 4 _ _ _ rQ18_.out
  have Q_5_ : (w2).cell? ⟨W.heap.size + 1 + 1, 5, none⟩ = some (.int .i64 0) := cell_of_row _ _ 5 _ _ _ rQ18_.out
  have Q_6_ : (w2).cell? ⟨W.heap.size + 1 + 1, 6, none⟩ = some (.int .i64 0) := cell_of_row _ _ 6 _ _ _ rQ18_.out
  have Q_7_ : (w2).cell? ⟨W.heap.size + 1 + 1, 7, none⟩ = some (.slice none 0 0) := cell_of_row _ _ 7 _ _ _ rQ18_.out
  have X_0_ : (w2).cell? ⟨w1.heap.size, 0, none⟩ = some (.int .i32 0) := cell_of_row _ _ 0 _ _ _ rX19_.out
  have X_1_ : (w2).cell? ⟨w1.heap.size, 1, none⟩ = some (.int .u32 0) := cell_of_row _ _ 1 _ _ _ rX19_.out
  have X_2_ : (w2).cell? ⟨w1.heap.size, 2, none⟩ = some (.int .i64 i0) := cell_of_row _ _ 2 _ _ _ rX19_.out
  have X_3_ : (w2).cell? ⟨w1.heap.size, 3, none⟩ = some (.slice d1 m1 k1) := cell_of_row _ _ 3 _ _ _ rX19_.out
  have X_4_ : (w2).cell? ⟨w1.heap.size, 4, none⟩ = some (.slice d2 m2 k2) := cell_of_row _ _ 4 _ _ _ rX19_.out
  clear A_0_ A_1_ A_2_ R_0_ R_1_ R_2_ Q_0_ Q_1_ Q_2_ Q_3_ Q_4_ Q_5_ Q_6_ Q_7_ X_0_ X_1_ X_2_ X_3_ X_4_
  have A_0_ : (w2).cell? ⟨W.heap.size, 0, none⟩ = some (.int .i64 i0) := cell_of_row _ _ 0 _ _ _ rA16_.out
  have A_1_ : (w2).cell? ⟨W.heap.size, 1, none⟩ = some (.slice a1 n1 c1) := cell_of_row _ _ 1 _ _ _ rA16_.out
  have A_2_ : (w2).cell? ⟨W.heap.size, 2, none⟩ = some (.slice a2 n2 c2) := cell_of_row _ _ 2 _ _ _ rA16_.out
  have R_0_ : (w2).cell? ⟨W.heap.size + 1, 0, none⟩ = some (.int .i64 0) := cell_of_row _ _ 0 _ _ _ rR17_.out
  have R_1_ : (w2).cell? ⟨W.heap.size + 1, 1, none⟩ = some (.slice none 0 0) := cell_of_row _ _ 1 _ _ _ rR17_.out
  have R_2_ : (w2).cell? ⟨W.heap.size + 1, 2, none⟩ = some (.slice none 0 0) := cell_of_row _ _ 2 _ _ _ rR17_.out
  have Rf0_ : (w2).frozen? ⟨W.heap.size + 1, 0, none⟩ = false := frozen_of_row _ _ 0 _ _ rR17_.out
  have Rf1_ : (w2).frozen? ⟨W.heap.size + 1, 1, none⟩ = false := frozen_of_row _ _ 1 _ _ rR17_.out
  have Rf2_ : (w2).frozen? ⟨W.heap.size + 1, 2, none⟩ = false := frozen_of_row _ _ 2 _ _ rR17_.out
  have Q_0_ : (w2).cell? ⟨W.heap.size + 1 + 1, 0, none⟩ = some (.int .i64 0) := cell_of_row _ _ 0 _ _ _ rQ18_.out
  have Q_1_ : (w2).cell? ⟨W.heap.size + 1 + 1, 1, none⟩ = some (.int .i64 0) := cell_of_row _ _ 1 _ _ _ rQ18_.out
  have Q_2_ : (w2).cell? ⟨W.heap.size + 1 + 1, 2, none⟩ = some (.int .i64 0) := cell_of_row _ _ 2 _ _ _ rQ18_.out
  have Q_3_ : (w2).cell? ⟨W.heap.size + 1 + 1, 3, none⟩ = some (.int .i64 0) := cell_of_row _ _ 3 _ _ _ rQ18_.out
  have Q_4_ : (w2).cell? ⟨W.heap.size + 1 + 1, 4, none⟩ = some (.int .i64 0) := cell_of_row _ _ 4 _ _ _ rQ18_.out
  have Q_5_ : (w2).cell? ⟨W.heap.size + 1 + 1, 5, none⟩ = some (.int .i64 0) := cell_of_row _ _ 5 _ _ _ rQ18_.out
  have Q_6_ : (w2).cell? ⟨W.heap.size + 1 + 1, 6, none⟩ = some (.int .i64 0) := cell_of_row _ _ 6 _ _ _ rQ18_.out
  have Q_7_ : (w2).cell? ⟨W.heap.size + 1 + 1, 7, none⟩ = some (.slice none 0 0) := cell_of_row _ _ 7 _ _ _ rQ18_.out
  have Qf0_ : (w2).frozen? ⟨W.heap.size + 1 + 1, 0, none⟩ = false := frozen_of_row _ _ 0 _ _ rQ18_.out
  have Qf1_ : (w2).frozen? ⟨W.heap.size + 1 + 1, 1, none⟩ = false := frozen_of_row _ _ 1 _ _ rQ18_.out
  have Qf2_ : (w2).frozen? ⟨W.heap.size + 1 + 1, 2, none⟩ = false := frozen_of_row _ _ 2 _ _ rQ18_.out
  have Qf3_ : (w2).frozen? ⟨W.heap.size + 1 + 1, 3, none⟩ = false := frozen_of_row _ _ 3 _ _ rQ18_.out
  have Qf4_ : (w2).frozen? ⟨W.heap.size + 1 + 1, 4, none⟩ = false := frozen_of_row _ _ 4 _ _ rQ18_.out
  have Qf5_ : (w2).frozen? ⟨W.heap.size + 1 + 1, 5, none⟩ = false := frozen_of_row _ _ 5 _ _ rQ18_.out
  have Qf6_ : (w2).frozen? ⟨W.heap.size + 1 + 1, 6, none⟩ = false := frozen_of_row _ _ 6 _ _ rQ18_.out
  have Qf7_ : (w2).frozen? ⟨W.heap.size + 1 + 1, 7, none⟩ = false := frozen_of_row _ _ 7 _ _ rQ18_.out
  have X_0_ : (w2).cell? ⟨w1.heap.size, 0, none⟩ = some (.int .i32 0) := cell_of_row _ _ 0 _ _ _ rX19_.out
  have X_1_ : (w2).cell? ⟨w1.heap.size, 1, none⟩ = some (.int .u32 0) := cell_of_row _ _ 1 _ _ _ rX19_.out
  have X_2_ : (w2).cell? ⟨w1.heap.size, 2, none⟩ = some (.int .i64 i0) := cell_of_row _ _ 2 _ _ _ rX19_.out
  have X_3_ : (w2).cell? ⟨w1.heap.size, 3, none⟩ = some (.slice d1 m1 k1) := cell_of_row _ _ 3 _ _ _ rX19_.out
  have X_4_ : (w2).cell? ⟨w1.heap.size, 4, none⟩ = some (.slice d2 m2 k2) := cell_of_row _ _ 4 _ _ _ rX19_.out
  have yr_ := Lib.hid (show ((((((((((((w2.setCell ⟨W.heap.size + 1, 0, none⟩ (.int .i64 i0)).setCell ⟨W.heap.size + 1, 1, none⟩ (.slice d1 m1 k1)).setCell ⟨W.heap.size + 1, 2, none⟩ (.slice d2 m2 k2)).setCell ⟨W.heap.size + 1 + 1, 0, none⟩ (.int .i64 0)).setCell ⟨W.heap.size + 1 + 1, 1, none⟩ (.int .i64 0)).setCell ⟨W.heap.size + 1 + 1, 2, none⟩ (.int .i64 0)).setCell ⟨W.heap.size + 1 + 1, 3, none⟩ (.int .i64 0)).setCell ⟨W.heap.size + 1 + 1, 4, none⟩ (.int .i64 0)).setCell ⟨W.heap.size + 1 + 1, 5, none⟩ (.int .i64 0)).setCell ⟨W.heap.size + 1 + 1, 6, none⟩ (.int .i64 0)).setCell ⟨W.heap.size + 1 + 1, 7, none⟩ (.slice none 0 0))).heap[W.heap.size + 1]? = some (.cells #[.int .i64 i0, .slice d1 m1 k1, .slice d2 m2 k2] 26 (0, 0)) from (set_far (set_far (set_far (set_far (set_far (set_far (set_far (set_far (heap_setCell_same _ _ 2 _ _ _ (heap_setCell_same _ _ 1 _ _ _ (heap_setCell_same _ _ 0 _ _ _ rR17_.out))) (by dsimp only; omega)) (by dsimp only; omega)) (by dsimp only; omega)) (by dsimp only; omega)) (by dsimp only; omega)) (by dsimp only; omega)) (by dsimp only; omega)) (by dsimp only; omega)))
  have yq_ := Lib.hid (show ((((((((((((w2.setCell ⟨W.heap.size + 1, 0, none⟩ (.int .i64 i0)).setCell ⟨W.heap.size + 1, 1, none⟩ (.slice d1 m1 k1)).setCell ⟨W.heap.size + 1, 2, none⟩ (.slice d2 m2 k2)).setCell ⟨W.heap.size + 1 + 1, 0, none⟩ (.int .i64 0)).setCell ⟨W.heap.size + 1 + 1, 1, none⟩ (.int .i64 0)).setCell ⟨W.heap.size + 1 + 1, 2, none⟩ (.int .i64 0)).setCell ⟨W.heap.size + 1 + 1, 3, none⟩ (.int .i64 0)).setCell ⟨W.heap.size + 1 + 1, 4, none⟩ (.int .i64 0)).setCell ⟨W.heap.size + 1 + 1, 5, none⟩ (.int .i64 0)).setCell ⟨W.heap.size + 1 + 1, 6, none⟩ (.int .i64 0)).setCell ⟨W.heap.size + 1 + 1, 7, none⟩ (.slice none 0 0))).heap[W.heap.size + 1 + 1]? = some (.cells #[.int .i64 0, .int .i64 0, .int .i64 0, .int .i64 0, .int .i64 0, .int .i64 0, .int .i64 0, .slice none 0 0] 29 (0, 0)) from (heap_setCell_same _ _ 7 _ _ _ (heap_setCell_same _ _ 6 _ _ _ (heap_setCell_same _ _ 5 _ _ _ (heap_setCell_same _ _ 4 _ _ _ (heap_setCell_same _ _ 3 _ _ _ (heap_setCell_same _ _ 2 _ _ _ (heap_setCell_same _ _ 1 _ _ _ (heap_setCell_same _ _ 0 _ _ _ (set_far (set_far (set_far rQ18_.out (by dsimp only; omega)) (by dsimp only; omega)) (by dsimp only; omega)))))))))))
  have z0_ : ((((((((((((w2.setCell ⟨W.heap.size + 1, 0, none⟩ (.int .i64 i0)).setCell ⟨W.heap.size + 1, 1, none⟩ (.slice d1 m1 k1)).setCell ⟨W.heap.size + 1, 2, none⟩ (.slice d2 m2 k2)).setCell ⟨W.heap.size + 1 + 1, 0, none⟩ (.int .i64 0)).setCell ⟨W.heap.size + 1 + 1, 1, none⟩ (.int .i64 0)).setCell ⟨W.heap.size + 1 + 1, 2, none⟩ (.int .i64 0)).setCell ⟨W.heap.size + 1 + 1, 3, none⟩ (.int .i64 0)).setCell ⟨W.heap.size + 1 + 1, 4, none⟩ (.int .i64 0)).setCell ⟨W.heap.size + 1 + 1, 5, none⟩ (.int .i64 0)).setCell ⟨W.heap.size + 1 + 1, 6, none⟩ (.int .i64 0)).setCell ⟨W.heap.size + 1 + 1, 7, none⟩ (.slice none 0 0))).cell? ⟨W.heap.size + 1, 0, none⟩ = some (.int .i64 i0) := cell_of_row _ _ 0 _ _ _ yr_.out
  have z1_ : ((((((((((((w2.setCell ⟨W.heap.size + 1, 0, none⟩ (.int .i64 i0)).setCell ⟨W.heap.size + 1, 1, none⟩ (.slice d1 m1 k1)).setCell ⟨W.heap.size + 1, 2, none⟩ (.slice d2 m2 k2)).setCell ⟨W.heap.size + 1 + 1, 0, none⟩ (.int .i64 0)).setCell ⟨W.heap.size + 1 + 1, 1, none⟩ (.int .i64 0)).setCell ⟨W.heap.size + 1 + 1, 2, none⟩ (.int .i64 0)).setCell ⟨W.heap.size + 1 + 1, 3, none⟩ (.int .i64 0)).setCell ⟨W.heap.size + 1 + 1, 4, none⟩ (.int .i64 0)).setCell ⟨W.heap.size + 1 + 1, 5, none⟩ (.int .i64 0)).setCell ⟨W.heap.size + 1 + 1, 6, none⟩ (.int .i64 0)).setCell ⟨W.heap.size + 1 + 1, 7, none⟩ (.slice none 0 0))).cell? ⟨W.heap.size + 1, 1, none⟩ = some (.slice d1 m1 k1) := cell_of_row _ _ 1 _ _ _ yr_.out
  have z2_ : ((((((((((((w2.setCell ⟨W.heap.size + 1, 0, none⟩ (.int .i64 i0)).setCell ⟨W.heap.size + 1, 1, none⟩ (.slice d1 m1 k1)).setCell ⟨W.heap.size + 1, 2, none⟩ (.slice d2 m2 k2)).setCell ⟨W.heap.size + 1 + 1, 0, none⟩ (.int .i64 0)).setCell ⟨W.heap.size + 1 + 1, 1, none⟩ (.int .i64 0)).setCell ⟨W.heap.size + 1 + 1, 2, none⟩ (.int .i64 0)).setCell ⟨W.heap.size + 1 + 1, 3, none⟩ (.int .i64 0)).setCell ⟨W.heap.size + 1 + 1, 4, none⟩ (.int .i64 0)).setCell ⟨W.heap.size + 1 + 1, 5, none⟩ (.int .i64 0)).setCell ⟨W.heap.size + 1 + 1, 6, none⟩ (.int .i64 0)).setCell ⟨W.heap.size + 1 + 1, 7, none⟩ (.slice none 0 0))).cell? ⟨W.heap.size + 1, 2, none⟩ = some (.slice d2 m2 k2) := cell_of_row _ _ 2 _ _ _ yr_.out
  have y0_ : ((((((((((((w2.setCell ⟨W.heap.size + 1, 0, none⟩ (.int .i64 i0)).setCell ⟨W.heap.size + 1, 1, none⟩ (.slice d1 m1 k1)).setCell ⟨W.heap.size + 1, 2, none⟩ (.slice d2 m2 k2)).setCell ⟨W.heap.size + 1 + 1, 0, none⟩ (.int .i64 0)).setCell ⟨W.heap.size + 1 + 1, 1, none⟩ (.int .i64 0)).setCell ⟨W.heap.size + 1 + 1, 2, none⟩ (.int .i64 0)).setCell ⟨W.heap.size + 1 + 1, 3, none⟩ (.int .i64 0)).setCell ⟨W.heap.size + 1 + 1, 4, none⟩ (.int .i64 0)).setCell ⟨W.heap.size + 1 + 1, 5, none⟩ (.int .i64 0)).setCell ⟨W.heap.size + 1 + 1, 6, none⟩ (.int .i64 0)).setCell ⟨W.heap.size + 1 + 1, 7, none⟩ (.slice none 0 0))).cell? ⟨W.heap.size + 1 + 1, 0, none⟩ = some (.int .i64 0) := cell_of_row _ _ 0 _ _ _ yq_.out
  have y1_ : ((((((((((((w2.setCell ⟨W.heap.size + 1, 0, none⟩ (.int .i64 i0)).setCell ⟨W.heap.size + 1, 1, none⟩ (.slice d1 m1 k1)).setCell ⟨W.heap.size + 1, 2, none⟩ (.slice d2 m2 k2)).setCell ⟨W.heap.size + 1 + 1, 0, none⟩ (.int .i64 0)).setCell ⟨W.heap.size + 1 + 1, 1, none⟩ (.int .i64 0)).setCell ⟨W.heap.size + 1 + 1, 2, none⟩ (.int .i64 0)).setCell ⟨W.heap.size + 1 + 1, 3, none⟩ (.int .i64 0)).setCell ⟨W.heap.size + 1 + 1, 4, none⟩ (.int .i64 0)).setCell ⟨W.heap.size + 1 + 1, 5, none⟩ (.int .i64 0)).setCell ⟨W.heap.size + 1 + 1, 6, none⟩ (.int .i64 0)).setCell ⟨W.heap.size + 1 + 1, 7, none⟩ (.slice none 0 0))).cell? ⟨W.heap.size + 1 + 1, 1, none⟩ = some (.int .i64 0) := cell_of_row _ _ 1 _ _ _ yq_.out
  have y2_ : ((((((((((((w2.setCell ⟨W.heap.size + 1, 0, none⟩ (.int .i64 i0)).setCell ⟨W.heap.size + 1, 1, none⟩ (.slice d1 m1 k1)).setCell ⟨W.heap.size + 1, 2, none⟩ (.slice d2 m2 k2)).setCell ⟨W.heap.size + 1 + 1, 0, none⟩ (.int .i64 0)).setCell ⟨W.heap.size + 1 + 1, 1, none⟩ (.int .i64 0)).setCell ⟨W.heap.size + 1 + 1, 2, none⟩ (.int .i64 0)).setCell ⟨W.heap.size + 1 + 1, 3, none⟩ (.int .i64 0)).setCell ⟨W.heap.size + 1 + 1, 4, none⟩ (.int .i64 0)).setCell ⟨W.heap.size + 1 + 1, 5, none⟩ (.int .i64 0)).setCell ⟨W.heap.size + 1 + 1, 6, none⟩ (.int .i64 0)).setCell ⟨W.heap.size + 1 + 1, 7, none⟩ (.slice none 0 0))).cell? ⟨W.heap.size + 1 + 1, 2, none⟩ = some (.int .i64 0) := cell_of_row _ _ 2 _ _ _ yq_.out
  have y3_ : ((((((((((((w2.setCell ⟨W.heap.size + 1, 0, none⟩ (.int .i64 i0)).setCell ⟨W.heap.size + 1, 1, none⟩ (.slice d1 m1 k1)).setCell ⟨W.heap.size + 1, 2, none⟩ (.slice d2 m2 k2)).setCell ⟨W.heap.size + 1 + 1, 0, none⟩ (.int .i64 0)).setCell ⟨W.heap.size + 1 + 1, 1, none⟩ (.int .i64 0)).setCell ⟨W.heap.size + 1 + 1, 2, none⟩ (.int .i64 0)).setCell ⟨W.heap.size + 1 + 1, 3, none⟩ (.int .i64 0)).setCell ⟨W.heap.size + 1 + 1, 4, none⟩ (.int .i64 0)).setCell ⟨W.heap.size + 1 + 1, 5, none⟩ (.int .i64 0)).setCell ⟨W.heap.size + 1 + 1, 6, none⟩ (.int .i64 0)).setCell ⟨W.heap.size + 1 + 1, 7, none⟩ (.slice none 0 0))).cell? ⟨W.heap.size + 1 + 1, 3, none⟩ = some (.int .i64 0) := cell_of_row _ _ 3 _ _ _ yq_.out
  have y4_ : ((((((((((((w2.setCell ⟨W.heap.size + 1, 0, none⟩ (.int .i64 i0)).setCell ⟨W.heap.size + 1, 1, none⟩ (.slice d1 m1 k1)).setCell ⟨W.heap.size + 1, 2, none⟩ (.slice d2 m2 k2)).setCell ⟨W.heap.size + 1 + 1, 0, none⟩ (.int .i64 0)).setCell ⟨W.heap.size + 1 + 1, 1, none⟩ (.int .i64 0)).setCell ⟨W.heap.size + 1 + 1, 2, none⟩ (.int .i64 0)).setCell ⟨W.heap.size + 1 + 1, 3, none⟩ (.int .i64 0)).setCell ⟨W.heap.size + 1 + 1, 4, none⟩ (.int .i64 0)).setCell ⟨W.heap.size + 1 + 1, 5, none⟩ (.int .i64 0)).setCell ⟨W.heap.size + 1 + 1, 6, none⟩ (.int .i64 0)).setCell ⟨W.heap.size + 1 + 1, 7, none⟩ (.slice none 0 0))).cell? ⟨W.heap.size + 1 + 1, 4, none⟩ = some (.int .i64 0) := cell_of_row _ _ 4 _ _ _ yq_.out
  have y5_ : ((((((((((((w2.setCell ⟨W.heap.size + 1, 0, none⟩ (.int .i64 i0)).setCell ⟨W.heap.size + 1, 1, none⟩ (.slice d1 m1 k1)).setCell ⟨W.heap.size + 1, 2, none⟩ (.slice d2 m2 k2)).setCell ⟨W.heap.size + 1 + 1, 0, none⟩ (.int .i64 0)).setCell ⟨W.heap.size + 1 + 1, 1, none⟩ (.int .i64 0)).setCell ⟨W.heap.size + 1 + 1, 2, none⟩ (.int .i64 0)).setCell ⟨W.heap.size + 1 + 1, 3, none⟩ (.int .i64 0)).setCell ⟨W.heap.size + 1 + 1, 4, none⟩ (.int .i64 0)).setCell ⟨W.heap.size + 1 + 1, 5, none⟩ (.int .i64 0)).setCell ⟨W.heap.size + 1 + 1, 6, none⟩ (.int .i64 0)).setCell ⟨W.heap.size + 1 + 1, 7, none⟩ (.slice none 0 0))).cell? ⟨W.heap.size + 1 + 1, 5, none⟩ = some (.int .i64 0) := cell_of_row _ _ 5 _ _ _ yq_.out
  have y6_ : ((((((((((((w2.setCell ⟨W.heap.size + 1, 0, none⟩ (.int .i64 i0)).setCell ⟨W.heap.size + 1, 1, none⟩ (.slice d1 m1 k1)).setCell ⟨W.heap.size + 1, 2, none⟩ (.slice d2 m2 k2)).setCell ⟨W.heap.size + 1 + 1, 0, none⟩ (.int .i64 0)).setCell ⟨W.heap.size + 1 + 1, 1, none⟩ (.int .i64 0)).setCell ⟨W.heap.size + 1 + 1, 2, none⟩ (.int .i64 0)).setCell ⟨W.heap.size + 1 + 1, 3, none⟩ (.int .i64 0)).setCell ⟨W.heap.size + 1 + 1, 4, none⟩ (.int .i64 0)).setCell ⟨W.heap.size + 1 + 1, 5, none⟩ (.int .i64 0)).setCell ⟨W.heap.size + 1 + 1, 6, none⟩ (.int .i64 0)).setCell ⟨W.heap.size + 1 + 1, 7, none⟩ (.slice none 0 0))).cell? ⟨W.heap.size + 1 + 1, 6, none⟩ = some (.int .i64 0) := cell_of_row _ _ 6 _ _ _ yq_.out
  have y7_ : ((((((((((((w2.setCell ⟨W.heap.size + 1, 0, none⟩ (.int .i64 i0)).setCell ⟨W.heap.size + 1, 1, none⟩ (.slice d1 m1 k1)).setCell ⟨W.heap.size + 1, 2, none⟩ (.slice d2 m2 k2)).setCell ⟨W.heap.size + 1 + 1, 0, none⟩ (.int .i64 0)).setCell ⟨W.heap.size + 1 + 1, 1, none⟩ (.int .i64 0)).setCell ⟨W.heap.size + 1 + 1, 2, none⟩ (.int .i64 0)).setCell ⟨W.heap.size + 1 + 1, 3, none⟩ (.int .i64 0)).setCell ⟨W.heap.size + 1 + 1, 4, none⟩ (.int .i64 0)).setCell ⟨W.heap.size + 1 + 1, 5, none⟩ (.int .i64 0)).setCell ⟨W.heap.size + 1 + 1, 6, none⟩ (.int .i64 0)).setCell ⟨W.heap.size + 1 + 1, 7, none⟩ (.slice none 0 0))).cell? ⟨W.heap.size + 1 + 1, 7, none⟩ = some (.slice none 0 0) := cell_of_row _ _ 7 _ _ _ yq_.out
  go_wp2
  refine bodyPost_ret (v := .tuple #[.agg #[.int .i64 i0, .slice d1 m1 k1, .slice d2 m2 k2], .agg #[.int .i64 0, .int .i64 0, .int .i64 0, .int .i64 0, .int .i64 0, .int .i64 0, .int .i64 0, .slice none 0 0], .bool false]) (by simp [results, go_sem, z0_, z1_, z2_, y0_, y1_, y2_, y3_, y4_, y5_, y6_, y7_]) rfl ⟨_, _, _, rfl, ?_, ?_⟩
  · exact OwU.wide (lo := (W.heap.size + 1 + 1 + 1)) (by omega) (by simp only [World.size_setCell]; omega) (OwU.keep (chg_one _ _ _ _) (by omega) (OwU.keep (chg_one _ _ _ _) (by omega) (OwU.keep (chg_one _ _ _ _) (by omega) (OwU.keep (chg_one _ _ _ _) (by omega) (OwU.keep (chg_one _ _ _ _) (by omega) (OwU.keep (chg_one _ _ _ _) (by omega) (OwU.keep (chg_one _ _ _ _) (by omega) (OwU.keep (chg_one _ _ _ _) (by omega) (OwU.keep (chg_one _ _ _ _) (by omega) (OwU.keep (chg_one _ _ _ _) (by omega) (OwU.keep (chg_one _ _ _ _) (by omega) (OwU.app (ps := [own shB (.slice d1 m1 k1) xs, own shB (.slice d2 m2 k2) ys]) (qs := [own shI (.slice none 0 0) ([] : List Int)]) (m := w1.heap.size) (hi := w1.heap.size) (by omega) (Nat.le_refl _) oC20_.out (OwU.one owL_nil)))))))))))))
  · exact (gby_setnew (gby_setnew (gby_setnew (gby_setnew (gby_setnew (gby_setnew (gby_setnew (gby_setnew (gby_setnew (gby_setnew (gby_setnew G21_.out _ (by dsimp only; omega) _) _ (by dsimp only; omega) _) _ (by dsimp only; omega) _) _ (by dsimp only; omega) _) _ (by dsimp only; omega) _) _ (by dsimp only; omega) _) _ (by dsimp only; omega) _) _ (by dsimp only; omega) _) _ (by dsimp only; omega) _) _ (by dsimp only; omega) _) _ (by dsimp only; omega) _)

set_option maxRecDepth 8000 in
set_option maxHeartbeats 4000000 in
theorem implSetM_bad (W : World) (i0 : Int) (v1 v2 : Value) (xs ys : List Bool) (H1 : RdL shB W v1 xs) (H2 : RdL shB W v2 ys) (hl1 : szL shB xs ≤ 1048576) (hl2 : szL shB ys ≤ 1048576) (id k : Int) (mb : Bool) (hb : ¬ VCall i0 xs ys id k) : Calls Try.prog 22 #[vVectors i0 v1 v2, .int .i64 id, .int .i64 k, .bool mb] W (ResISetMask i0 xs ys 0 0 0 0 0 0 0 [] false W) := by
  have HOK := Lib.hid hb
  clear hb
  have H1_ := Lib.hid H1
  have H2_ := Lib.hid H2
  obtain ⟨a1, n1, c1, rfl⟩ := RdL.form H1
  obtain ⟨a2, n2, c2, rfl⟩ := RdL.form H2
  clear H1 H2
  unfold vVectors
  go_enter Try.func22, Try.ntmps22
  have rA1_ := Lib.hid (show ((((W.alloc (.cells #[.int .i64 i0, .slice a1 n1 c1, .slice a2 n2 c2] 26)).alloc (.cells #[.int .i64 0, .slice none 0 0, .slice none 0 0] 26)).alloc (.cells #[.int .i64 0, .int .i64 0, .int .i64 0, .int .i64 0, .int .i64 0, .int .i64 0, .int .i64 0, .slice none 0 0] 29))).heap[W.heap.size]? = some (.cells #[.int .i64 i0, .slice a1 n1 c1, .slice a2 n2 c2] 26 (0, 0)) from by rw [heap_alloc_old _ _ (by simp only [World.size_alloc]; omega)]; rw [heap_alloc_old _ _ (by simp only [World.size_alloc]; omega)]; exact heap_alloc_new _ _)
  have rR2_ := Lib.hid (show ((((W.alloc (.cells #[.int .i64 i0, .slice a1 n1 c1, .slice a2 n2 c2] 26)).alloc (.cells #[.int .i64 0, .slice none 0 0, .slice none 0 0] 26)).alloc (.cells #[.int .i64 0, .int .i64 0, .int .i64 0, .int .i64 0, .int .i64 0, .int .i64 0, .int .i64 0, .slice none 0 0] 29))).heap[W.heap.size + 1]? = some (.cells #[.int .i64 0, .slice none 0 0, .slice none 0 0] 26 (0, 0)) from by rw [heap_alloc_old _ _ (by simp only [World.size_alloc]; omega)]; exact heap_pair _ _ _)
  have rQ3_ := Lib.hid (show ((((W.alloc (.cells #[.int .i64 i0, .slice a1 n1 c1, .slice a2 n2 c2] 26)).alloc (.cells #[.int .i64 0, .slice none 0 0, .slice none 0 0] 26)).alloc (.cells #[.int .i64 0, .int .i64 0, .int .i64 0, .int .i64 0, .int .i64 0, .int .i64 0, .int .i64 0, .slice none 0 0] 29))).heap[W.heap.size + 1 + 1]? = some (.cells #[.int .i64 0, .int .i64 0, .int .i64 0, .int .i64 0, .int .i64 0, .int .i64 0, .int .i64 0, .slice none 0 0] 29 (0, 0)) from by exact heap_trip _ _ _ _)
  have G4_ := Lib.hid (show (W).grownBy ((((W.alloc (.cells #[.int .i64 i0, .slice a1 n1 c1, .slice a2 n2 c2] 26)).alloc (.cells #[.int .i64 0, .slice none 0 0, .slice none 0 0] 26)).alloc (.cells #[.int .i64 0, .int .i64 0, .int .i64 0, .int .i64 0, .int .i64 0, .int .i64 0, .int .i64 0, .slice none 0 0] 29))) none from (gby_alloc (gby_alloc (gby_alloc (gby_refl _ _) _) _) _))
  have A_0_ : ((((W.alloc (.cells #[.int .i64 i0, .slice a1 n1 c1, .slice a2 n2 c2] 26)).alloc (.cells #[.int .i64 0, .slice none 0 0, .slice none 0 0] 26)).alloc (.cells #[.int .i64 0, .int .i64 0, .int .i64 0, .int .i64 0, .int .i64 0, .int .i64 0, .int .i64 0, .slice none 0 0] 29))).cell? ⟨W.heap.size, 0, none⟩ = some (.int .i64 i0) := cell_of_row _ _ 0 _ _ _ rA1_.out
  have A_1_ : ((((W.alloc (.cells #[.int .i64 i0, .slice a1 n1 c1, .slice a2 n2 c2] 26)).alloc (.cells #[.int .i64 0, .slice none 0 0, .slice none 0 0] 26)).alloc (.cells #[.int .i64 0, .int .i64 0, .int .i64 0, .int .i64 0, .int .i64 0, .int .i64 0, .int .i64 0, .slice none 0 0] 29))).cell? ⟨W.heap.size, 1, none⟩ = some (.slice a1 n1 c1) := cell_of_row _ _ 1 _ _ _ rA1_.out
  have A_2_ : ((((W.alloc (.cells #[.int .i64 i0, .slice a1 n1 c1, .slice a2 n2 c2] 26)).alloc (.cells #[.int .i64 0, .slice none 0 0, .slice none 0 0] 26)).alloc (.cells #[.int .i64 0, .int .i64 0, .int .i64 0, .int .i64 0, .int .i64 0, .int .i64 0, .int .i64 0, .slice none 0 0] 29))).cell? ⟨W.heap.size, 2, none⟩ = some (.slice a2 n2 c2) := cell_of_row _ _ 2 _ _ _ rA1_.out
  have R_0_ : ((((W.alloc (.cells #[.int .i64 i0, .slice a1 n1 c1, .slice a2 n2 c2] 26)).alloc (.cells #[.int .i64 0, .slice none 0 0, .slice none 0 0] 26)).alloc (.cells #[.int .i64 0, .int .i64 0, .int .i64 0, .int .i64 0, .int .i64 0, .int .i64 0, .int .i64 0, .slice none 0 0] 29))).cell? ⟨W.heap.size + 1, 0, none⟩ = some (.int .i64 0) := cell_of_row _ _ 0 _ _ _ rR2_.out
  have R_1_ : ((((W.alloc (.cells #[.int .i64 i0, .slice a1 n1 c1, .slice a2 n2 c2] 26)).alloc (.cells #[.int .i64 0, .slice none 0 0, .slice none 0 0] 26)).alloc (.cells #[.int .i64 0, .int .i64 0, .int .i64 0, .int .i64 0, .int .i64 0, .int .i64 0, .int .i64 0, .slice none 0 0] 29))).cell? ⟨W.heap.size + 1, 1, none⟩ = some (.slice none 0 0) := cell_of_row _ _ 1 _ _ _ rR2_.out
  have R_2_ : ((((W.alloc (.cells #[.int .i64 i0, .slice a1 n1 c1, .slice a2 n2 c2] 26)).alloc (.cells #[.int .i64 0, .slice none 0 0, .slice none 0 0] 26)).alloc (.cells #[.int .i64 0, .int .i64 0, .int .i64 0, .int .i64 0, .int .i64 0, .int .i64 0, .int .i64 0, .slice none 0 0] 29))).cell? ⟨W.heap.size + 1, 2, none⟩ = some (.slice none 0 0) := cell_of_row _ _ 2 _ _ _ rR2_.out
  have Q_0_ : ((((W.alloc (.cells #[.int .i64 i0, .slice a1 n1 c1, .slice a2 n2 c2] 26)).alloc (.cells #[.int .i64 0, .slice none 0 0, .slice none 0 0] 26)).alloc (.cells #[.int .i64 0, .int .i64 0, .int .i64 0, .int .i64 0, .int .i64 0, .int .i64 0, .int .i64 0, .slice none 0 0] 29))).cell? ⟨W.heap.size + 1 + 1, 0, none⟩ = some (.int .i64 0) := cell_of_row _ _ 0 _ _ _ rQ3_.out
  have Q_1_ : ((((W.alloc (.cells #[.int .i64 i0, .slice a1 n1 c1, .slice a2 n2 c2] 26)).alloc (.cells #[.int .i64 0, .slice none 0 0, .slice none 0 0] 26)).alloc (.cells #[.int .i64 0, .int .i64 0, .int .i64 0, .int .i64 0, .int .i64 0, .int .i64 0, .int .i64 0, .slice none 0 0] 29))).cell? ⟨W.heap.size + 1 + 1, 1, none⟩ = some (.int .i64 0) := cell_of_row _ _ 1 _ _ _ rQ3_.out
  have Q_2_ : ((((W.alloc (.cells #[.int .i64 i0, .slice a1 n1 c1, .slice a2 n2 c2] 26)).alloc (.cells #[.int .i64 0, .slice none 0 0, .slice none 0 0] 26)).alloc (.cells #[.int .i64 0, .int .i64 0, .int .i64 0, .int .i64 0, .int .i64 0, .int .i64 0, .int .i64 0, .slice none 0 0] 29))).cell? ⟨W.heap.size + 1 + 1, 2, none⟩ = some (.int .i64 0) := cell_of_row _ _ 2 _ _ _ rQ3_.out
  have Q_3_ : ((((W.alloc (.cells #[.int .i64 i0, .slice a1 n1 c1, .slice a2 n2 c2] 26)).alloc (.cells #[.int .i64 0, .slice none 0 0, .slice none 0 0] 26)).alloc (.cells #[.int .i64 0, .int .i64 0, .int .i64 0, .int .i64 0, .int .i64 0, .int .i64 0, .int .i64 0, .slice none 0 0] 29))).cell? ⟨W.heap.size + 1 + 1, 3, none⟩ = some (.int .i64 0) := cell_of_row _ _ 3 _ _ _ rQ3_.out
  have Q_4_ : ((((W.alloc (.cells #[.int .i64 i0, .slice a1 n1 c1, .slice a2 n2 c2] 26)).alloc (.cells #[.int .i64 0, .slice none 0 0, .slice none 0 0] 26)).alloc (.cells #[.int .i64 0, .int .i64 0, .int .i64 0, .int .i64 0, .int .i64 0, .int .i64 0, .int .i64 0, .slice none 0 0] 29))).cell? ⟨W.heap.size + 1 + 1, 4, none⟩ = some (.int .i64 0) := cell_of_row _ _ 4 _ _ _ rQ3_.out
  have Q_5_ : ((((W.alloc (.cells #[.int .i64 i0, .slice a1 n1 c1, .slice a2 n2 c2] 26)).alloc (.cells #[.int .i64 0, .slice none 0 0, .slice none 0 0] 26)).alloc (.cells #[.int .i64 0, .int .i64 0, .int .i64 0, .int .i64 0, .int .i64 0, .int .i64 0, .int .i64 0, .slice none 0 0] 29))).cell? ⟨W.heap.size + 1 + 1, 5, none⟩ = some (.int .i64 0) := cell_of_row _ _ 5 _ _ _ rQ3_.out
  have Q_6_ : ((((W.alloc (.cells #[.int .i64 i0, .slice a1 n1 c1, .slice a2 n2 c2] 26)).alloc (.cells #[.int .i64 0, .slice none 0 0, .slice none 0 0] 26)).alloc (.cells #[.int .i64 0, .int .i64 0, .int .i64 0, .int .i64 0, .int .i64 0, .int .i64 0, .int .i64 0, .slice none 0 0] 29))).cell? ⟨W.heap.size + 1 + 1, 6, none⟩ = some (.int .i64 0) := cell_of_row _ _ 6 _ _ _ rQ3_.out
  have Q_7_ : ((((W.alloc (.cells #[.int .i64 i0, .slice a1 n1 c1, .slice a2 n2 c2] 26)).alloc (.cells #[.int .i64 0, .slice none 0 0, .slice none 0 0] 26)).alloc (.cells #[.int .i64 0, .int .i64 0, .int .i64 0, .int .i64 0, .int .i64 0, .int .i64 0, .int .i64 0, .slice none 0 0] 29))).cell? ⟨W.heap.size + 1 + 1, 7, none⟩ = some (.slice none 0 0) := cell_of_row _ _ 7 _ _ _ rQ3_.out
  go_wp2_with fail
  go_at_call 63
  refine (copiedVec_d _ i0 _ _ xs ys (H1_.out.grow G4_.out) (H2_.out.grow G4_.out) hl1 hl2).mono ?_
  rintro e w1 ⟨x1, x2, rfl, o, g⟩
  have sz_ := g.size
  try simp only [World.size_alloc] at sz_ o
  clear A_0_ A_1_ A_2_ R_0_ R_1_ R_2_ Q_0_ Q_1_ Q_2_ Q_3_ Q_4_ Q_5_ Q_6_ Q_7_
  have rA5_ := Lib.hid (show (w1).heap[W.heap.size]? = some (.cells #[.int .i64 i0, .slice a1 n1 c1, .slice a2 n2 c2] 26 (0, 0)) from row_held g rA1_.out)
  clear rA1_
  have rR6_ := Lib.hid (show (w1).heap[W.heap.size + 1]? = some (.cells #[.int .i64 0, .slice none 0 0, .slice none 0 0] 26 (0, 0)) from row_held g rR2_.out)
  clear rR2_
  have rQ7_ := Lib.hid (show (w1).heap[W.heap.size + 1 + 1]? = some (.cells #[.int .i64 0, .int .i64 0, .int .i64 0, .int .i64 0, .int .i64 0, .int .i64 0, .int .i64 0, .slice none 0 0] 29 (0, 0)) from row_held g rQ3_.out)
  clear rQ3_
  have G8_ := Lib.hid (show (W).grownBy (w1) none from gby_trans G4_.out g)
  clear g
  obtain ⟨d1, m1, k1, hv_⟩ := RdL.form (OwU.rd o)
  subst hv_
  obtain ⟨d2, m2, k2, hv_⟩ := RdL.form (OwU.rd (OwU.tail o))
  subst hv_
  unfold vVectors
  have oC9_ := Lib.hid (show OwU (w1) ((W.heap.size + 1 + 1 + 1)) (w1.heap.size) [] [own shB (.slice d1 m1 k1) xs, own shB (.slice d2 m2 k2) ys] from o)
  clear o
  have al_ : (w1).grownBy ((w1).alloc (.cells #[.int .i32 0, .int .u32 0, .int .i64 i0, .slice d1 m1 k1, .slice d2 m2 k2] 92)) none := gby_alloc (gby_refl _ _) _
  have rA10_ := Lib.hid (show ((w1.alloc (.cells #[.int .i32 0, .int .u32 0, .int .i64 i0, .slice d1 m1 k1, .slice d2 m2 k2] 92))).heap[W.heap.size]? = some (.cells #[.int .i64 i0, .slice a1 n1 c1, .slice a2 n2 c2] 26 (0, 0)) from row_held al_ rA5_.out)
  clear rA5_
  have rR11_ := Lib.hid (show ((w1.alloc (.cells #[.int .i32 0, .int .u32 0, .int .i64 i0, .slice d1 m1 k1, .slice d2 m2 k2] 92))).heap[W.heap.size + 1]? = some (.cells #[.int .i64 0, .slice none 0 0, .slice none 0 0] 26 (0, 0)) from row_held al_ rR6_.out)
  clear rR6_
  have rQ12_ := Lib.hid (show ((w1.alloc (.cells #[.int .i32 0, .int .u32 0, .int .i64 i0, .slice d1 m1 k1, .slice d2 m2 k2] 92))).heap[W.heap.size + 1 + 1]? = some (.cells #[.int .i64 0, .int .i64 0, .int .i64 0, .int .i64 0, .int .i64 0, .int .i64 0, .int .i64 0, .slice none 0 0] 29 (0, 0)) from row_held al_ rQ7_.out)
  clear rQ7_
  have oC13_ := Lib.hid (show OwU ((w1.alloc (.cells #[.int .i32 0, .int .u32 0, .int .i64 i0, .slice d1 m1 k1, .slice d2 m2 k2] 92))) ((W.heap.size + 1 + 1 + 1)) (w1.heap.size) [] [own shB (.slice d1 m1 k1) xs, own shB (.slice d2 m2 k2) ys] from OwU.grow oC9_.out al_)
  clear oC9_
  have G14_ := Lib.hid (show (W).grownBy ((w1.alloc (.cells #[.int .i32 0, .int .u32 0, .int .i64 i0, .slice d1 m1 k1, .slice d2 m2 k2] 92))) none from gby_trans G8_.out al_)
  have rX15_ := Lib.hid (show ((w1.alloc (.cells #[.int .i32 0, .int .u32 0, .int .i64 i0, .slice d1 m1 k1, .slice d2 m2 k2] 92))).heap[w1.heap.size]? = some (.cells #[.int .i32 0, .int .u32 0, .int .i64 i0, .slice d1 m1 k1, .slice d2 m2 k2] 92 (0, 0)) from by first | exact heap_alloc_new _ _ | exact heap_pair _ _ _ | exact heap_trip _ _ _ _)
  clear al_
  have A_0_ : ((w1.alloc (.cells #[.int .i32 0, .int .u32 0, .int .i64 i0, .slice d1 m1 k1, .slice d2 m2 k2] 92))).cell? ⟨W.heap.size, 0, none⟩ = some (.int .i64 i0) := cell_of_row _ _ 0 _ _ _ rA10_.out
  have A_1_ : ((w1.alloc (.cells #[.int .i32 0, .int .u32 0, .int .i64 i0, .slice d1 m1 k1, .slice d2 m2 k2] 92))).cell? ⟨W.heap.size, 1, none⟩ = some (.slice a1 n1 c1) := cell_of_row _ _ 1 _ _ _ rA10_.out
  have A_2_ : ((w1.alloc (.cells #[.int .i32 0, .int .u32 0, .int .i64 i0, .slice d1 m1 k1, .slice d2 m2 k2] 92))).cell? ⟨W.heap.size, 2, none⟩ = some (.slice a2 n2 c2) := cell_of_row _ _ 2 _ _ _ rA10_.out
  have R_0_ : ((w1.alloc (.cells #[.int .i32 0, .int .u32 0, .int .i64 i0, .slice d1 m1 k1, .slice d2 m2 k2] 92))).cell? ⟨W.heap.size + 1, 0, none⟩ = some (.int .i64 0) := cell_of_row _ _ 0 _ _ _ rR11_.out
  have R_1_ : ((w1.alloc (.cells #[.int .i32 0, .int .u32 0, .int .i64 i0, .slice d1 m1 k1, .slice d2 m2 k2] 92))).cell? ⟨W.heap.size + 1, 1, none⟩ = some (.slice none 0 0) := cell_of_row _ _ 1 _ _ _ rR11_.out
  have R_2_ : ((w1.alloc (.cells #[.int .i32 0, .int .u32 0, .int .i64 i0, .slice d1 m1 k1, .slice d2 m2 k2] 92))).cell? ⟨W.heap.size + 1, 2, none⟩ = some (.slice none 0 0) := cell_of_row _ _ 2 _ _ _ rR11_.out
  have Q_0_ : ((w1.alloc (.cells #[.int .i32 0, .int .u32 0, .int .i64 i0, .slice d1 m1 k1, .slice d2 m2 k2] 92))).cell? ⟨W.heap.size + 1 + 1, 0, none⟩ = some (.int .i64 0) := cell_of_row _ _ 0 _ _ _ rQ12_.out
  have Q_1_ : ((w1.alloc (.cells #[.int .i32 0, .int .u32 0, .int .i64 i0, .slice d1 m1 k1, .slice d2 m2 k2] 92))).cell? ⟨W.heap.size + 1 + 1, 1, none⟩ = some (.int .i64 0) := cell_of_row _ _ 1 _ _ _ rQ12_.out
  have Q_2_ : ((w1.alloc (.cells #[.int .i32 0, .int .u32 0, .int .i64 i0, .slice d1 m1 k1, .slice d2 m2 k2] 92))).cell? ⟨W.heap.size + 1 + 1, 2, none⟩ = some (.int .i64 0) := cell_of_row _ _ 2 _ _ _ rQ12_.out
  have Q_3_ : ((w1.alloc (.cells #[.int .i32 0, .int .u32 0, .int .i64 i0, .slice d1 m1 k1, .slice d2 m2 k2] 92))).cell? ⟨W.heap.size + 1 + 1, 3, none⟩ = some (.int .i64 0) := cell_of_row _ _ 3 _ _ _ rQ12_.out
  have Q_4_ : ((w1.alloc (.cells #[.int .i32 0, .int .u32 0, .int .i64 i0, .slice d1 m1 k1, .slice d2 m2 k2] 92))).cell? ⟨W.heap.size + 1 + 1, 4, none⟩ = some (.int .i64 0) := cell_of_row _ _ 4 _ _ _ rQ12_.out
  have Q_5_ : ((w1.alloc (.cells #[.int .i32 0, .int .u32 0, .int .i64 i0, .slice d1 m1 k1, .slice d2 m2 k2] 92))).cell? ⟨W.heap.size + 1 + 1, 5, none⟩ = some (.int .i64 0) := cell_of_row _ _ 5 _ _ _ rQ12_.out
  have Q_6_ : ((w1.alloc (.cells #[.int .i32 0, .int .u32 0, .int .i64 i0, .slice d1 m1 k1, .slice d2 m2 k2] 92))).cell? ⟨W.heap.size + 1 + 1, 6, none⟩ = some (.int .i64 0) := cell_of_row _ _ 6 _ _ _ rQ12_.out
  have Q_7_ : ((w1.alloc (.cells #[.int .i32 0, .int .u32 0, .int .i64 i0, .slice d1 m1 k1, .slice d2 m2 k2] 92))).cell? ⟨W.heap.size + 1 + 1, 7, none⟩ = some (.slice none 0 0) := cell_of_row _ _ 7 _ _ _ rQ12_.out
  have X_0_ : ((w1.alloc (.cells #[.int .i32 0, .int .u32 0, .int .i64 i0, .slice d1 m1 k1, .slice d2 m2 k2] 92))).cell? ⟨w1.heap.size, 0, none⟩ = some (.int .i32 0) := cell_of_row _ _ 0 _ _ _ rX15_.out
  have X_1_ : ((w1.alloc (.cells #[.int .i32 0, .int .u32 0, .int .i64 i0, .slice d1 m1 k1, .slice d2 m2 k2] 92))).cell? ⟨w1.heap.size, 1, none⟩ = some (.int .u32 0) := cell_of_row _ _ 1 _ _ _ rX15_.out
  have X_2_ : ((w1.alloc (.cells #[.int .i32 0, .int .u32 0, .int .i64 i0, .slice d1 m1 k1, .slice d2 m2 k2] 92))).cell? ⟨w1.heap.size, 2, none⟩ = some (.int .i64 i0) := cell_of_row _ _ 2 _ _ _ rX15_.out
  have X_3_ : ((w1.alloc (.cells #[.int .i32 0, .int .u32 0, .int .i64 i0, .slice d1 m1 k1, .slice d2 m2 k2] 92))).cell? ⟨w1.heap.size, 3, none⟩ = some (.slice d1 m1 k1) := cell_of_row _ _ 3 _ _ _ rX15_.out
  have X_4_ : ((w1.alloc (.cells #[.int .i32 0, .int .u32 0, .int .i64 i0, .slice d1 m1 k1, .slice d2 m2 k2] 92))).cell? ⟨w1.heap.size, 4, none⟩ = some (.slice d2 m2 k2) := cell_of_row _ _ 4 _ _ _ rX15_.out
  go_wp2_with fail
  go_at_call 64
  refine (((implVCall _ i0 _ _ xs ys id k (H1_.out.grow G14_.out) (H2_.out.grow G14_.out)).mono (bpost_no HOK.out))).mono ?_
  rintro e w2 ⟨rfl, g⟩
  have szw2 := g.size
  try simp only [World.size_alloc] at szw2
  try simp only [World.size_setCell] at szw2
  clear A_0_ A_1_ A_2_ R_0_ R_1_ R_2_ Q_0_ Q_1_ Q_2_ Q_3_ Q_4_ Q_5_ Q_6_ Q_7_ X_0_ X_1_ X_2_ X_3_ X_4_
  have rA16_ := Lib.hid (show (w2).heap[W.heap.size]? = some (.cells #[.int .i64 i0, .slice a1 n1 c1, .slice a2 n2 c2] 26 (0, 0)) from row_held g rA10_.out)
  clear rA10_
  have rR17_ := Lib.hid (show (w2).heap[W.heap.size + 1]? = some (.cells #[.int .i64 0, .slice none 0 0, .slice none 0 0] 26 (0, 0)) from row_held g rR11_.out)
  clear rR11_
  have rQ18_ := Lib.hid (show (w2).heap[W.heap.size + 1 + 1]? = some (.cells #[.int .i64 0, .int .i64 0, .int .i64 0, .int .i64 0, .int .i64 0, .int .i64 0, .int .i64 0, .slice none 0 0] 29 (0, 0)) from row_held g rQ12_.out)
  clear rQ12_
  have rX19_ := Lib.hid (show (w2).heap[w1.heap.size]? = some (.cells #[.int .i32 0, .int .u32 0, .int .i64 i0, .slice d1 m1 k1, .slice d2 m2 k2] 92 (0, 0)) from row_held g rX15_.out)
  clear rX15_
  have oC20_ := Lib.hid (show OwU (w2) ((W.heap.size + 1 + 1 + 1)) (w1.heap.size) [] [own shB (.slice d1 m1 k1) xs, own shB (.slice d2 m2 k2) ys] from OwU.grow oC13_.out g)
  clear oC13_
  have G21_ := Lib.hid (show (W).grownBy (w2) none from gby_trans G14_.out g)
  clear g
  have A_0_ : (w2).cell? ⟨W.heap.size, 0, none⟩ = some (.int .i64 i0) := cell_of_row _ _ 0 _ _ _ rA16_.out
  have A_1_ : (w2).cell? ⟨W.heap.size, 1, none⟩ = some (.slice a1 n1 c1) := cell_of_row _ _ 1 _ _ _ rA16_.out
  have A_2_ : (w2).cell? ⟨W.heap.size, 2, none⟩ = some (.slice a2 n2 c2) := cell_of_row _ _ 2 _ _ _ rA16_.out
  have R_0_ : (w2).cell? ⟨W.heap.size + 1, 0, none⟩ = some (.int .i64 0) := cell_of_row _ _ 0 _ _ _ rR17_.out
  have R_1_ : (w2).cell? ⟨W.heap.size + 1, 1, none⟩ = some (.slice none 0 0) := cell_of_row _ _ 1 _ _ _ rR17_.out
  have R_2_ : (w2).cell? ⟨W.heap.size + 1, 2, none⟩ = some (.slice none 0 0) := cell_of_row _ _ 2 _ _ _ rR17_.out
  have Q_0_ : (w2).cell? ⟨W.heap.size + 1 + 1, 0, none⟩ = some (.int .i64 0) := cell_of_row _ _ 0 _ _ _ rQ18_.out
  have Q_1_ : (w2).cell? ⟨W.heap.size + 1 + 1, 1, none⟩ = some (.int .i64 0) := cell_of_row _ _ 1 _ _ _ rQ18_.out
  have Q_2_ : (w2).cell? ⟨W.heap.size + 1 + 1, 2, none⟩ = some (.int .i64 0) := cell_of_row _ _ 2 _ _ _ rQ18_.out
  have Q_3_ : (w2).cell? ⟨W.heap.size + 1 + 1, 3, none⟩ = some (.int .i64 0) := cell_of_row _ _ 3 _ _ _ rQ18_.out
  have Q_4_ : (w2).cell? ⟨W.heap.size + 1 + 1, 4, none⟩ = some (.int .i64 0) := cell_of_row _ _ 4 _ _ _ rQ18_.out
  have Q_5_ : (w2).cell? ⟨W.heap.size + 1 + 1, 5, none⟩ = some (.int .i64 0) := cell_of_row _ _ 5 _ _ _ rQ18_.out
  have Q_6_ : (w2).cell? ⟨W.heap.size + 1 + 1, 6, none⟩ = some (.int .i64 0) := cell_of_row _ _ 6 _ _ _ rQ18_.out
  have Q_7_ : (w2).cell? ⟨W.heap.size + 1 + 1, 7, none⟩ = some (.slice none 0 0) := cell_of_row _ _ 7 _ _ _ rQ18_.out
  have X_0_ : (w2).cell? ⟨w1.heap.size, 0, none⟩ = some (.int .i32 0) := cell_of_row _ _ 0 _ _ _ rX19_.out
  have X_1_ : (w2).cell? ⟨w1.heap.size, 1, none⟩ = some (.int .u32 0) := cell_of_row _ _ 1 _ _ _ rX19_.out
  have X_2_ : (w2).cell? ⟨w1.heap.size, 2, none⟩ = some (.int .i64 i0) := cell_of_row _ _ 2 _ _ _ rX19_.out
  have X_3_ : (w2).cell? ⟨w1.heap.size, 3, none⟩ = some (.slice d1 m1 k1) := cell_of_row _ _ 3 _ _ _ rX19_.out
  have X_4_ : (w2).cell? ⟨w1.heap.size, 4, none⟩ = some (.slice d2 m2 k2) := cell_of_row _ _ 4 _ _ _ rX19_.out
  clear A_0_ A_1_ A_2_ R_0_ R_1_ R_2_ Q_0_ Q_1_ Q_2_ Q_3_ Q_4_ Q_5_ Q_6_ Q_7_ X_0_ X_1_ X_2_ X_3_ X_4_
  have A_0_ : (w2).cell? ⟨W.heap.size, 0, none⟩ = some (.int .i64 i0) := cell_of_row _ _ 0 _ _ _ rA16_.out
  have A_1_ : (w2).cell? ⟨W.heap.size, 1, none⟩ = some (.slice a1 n1 c1) := cell_of_row _ _ 1 _ _ _ rA16_.out
  have A_2_ : (w2).cell? ⟨W.heap.size, 2, none⟩ = some (.slice a2 n2 c2) := cell_of_row _ _ 2 _ _ _ rA16_.out
  have R_0_ : (w2).cell? ⟨W.heap.size + 1, 0, none⟩ = some (.int .i64 0) := cell_of_row _ _ 0 _ _ _ rR17_.out
  have R_1_ : (w2).cell? ⟨W.heap.size + 1, 1, none⟩ = some (.slice none 0 0) := cell_of_row _ _ 1 _ _ _ rR17_.out
  have R_2_ : (w2).cell? ⟨W.heap.size + 1, 2, none⟩ = some (.slice none 0 0) := cell_of_row _ _ 2 _ _ _ rR17_.out
  have Rf0_ : (w2).frozen? ⟨W.heap.size + 1, 0, none⟩ = false := frozen_of_row _ _ 0 _ _ rR17_.out
  have Rf1_ : (w2).frozen? ⟨W.heap.size + 1, 1, none⟩ = false := frozen_of_row _ _ 1 _ _ rR17_.out
  have Rf2_ : (w2).frozen? ⟨W.heap.size + 1, 2, none⟩ = false := frozen_of_row _ _ 2 _ _ rR17_.out
  have Q_0_ : (w2).cell? ⟨W.heap.size + 1 + 1, 0, none⟩ = some (.int .i64 0) := cell_of_row _ _ 0 _ _ _ rQ18_.out
  have Q_1_ : (w2).cell? ⟨W.heap.size + 1 + 1, 1, none⟩ = some (.int .i64 0) := cell_of_row _ _ 1 _ _ _ rQ18_.out
  have Q_2_ : (w2).cell? ⟨W.heap.size + 1 + 1, 2, none⟩ = some (.int .i64 0) := cell_of_row _ _ 2 _ _ _ rQ18_.out
  have Q_3_ : (w2).cell? ⟨W.heap.size + 1 + 1, 3, none⟩ = some (.int .i64 0) := cell_of_row _ _ 3 _ _ _ rQ18_.out
  have Q_4_ : (w2).cell? ⟨W.heap.size + 1 + 1, 4, none⟩ = some (.int .i64 0) := cell_of_row _ _ 4 _ _ _ rQ18_.out
  have Q_5_ : (w2).cell? ⟨W.heap.size + 1 + 1, 5, none⟩ = some (.int .i64 0) := cell_of_row _ _ 5 _ _ _ rQ18_.out
  have Q_6_ : (w2).cell? ⟨W.heap.size + 1 + 1, 6, none⟩ = some (.int .i64 0) := cell_of_row _ _ 6 _ _ _ rQ18_.out
  have Q_7_ : (w2).cell? ⟨W.heap.size + 1 + 1, 7, none⟩ = some (.slice none 0 0) := cell_of_row _ _ 7 _ _ _ rQ18_.out
  have Qf0_ : (w2).frozen? ⟨W.heap.size + 1 + 1, 0, none⟩ = false := frozen_of_row _ _ 0 _ _ rQ18_.out
  have Qf1_ : (w2).frozen? ⟨W.heap.size + 1 + 1, 1, none⟩ = false := frozen_of_row _ _ 1 _ _ rQ18_.out
  have Qf2_ : (w2).frozen? ⟨W.heap.size + 1 + 1, 2, none⟩ = false := frozen_of_row _ _ 2 _ _ rQ18_.out
  have Qf3_ : (w2).frozen? ⟨W.heap.size + 1 + 1, 3, none⟩ = false := frozen_of_row _ _ 3 _ _ rQ18_.out
  have Qf4_ : (w2).frozen? ⟨W.heap.size + 1 + 1, 4, none⟩ = false := frozen_of_row _ _ 4 _ _ rQ18_.out
  have Qf5_ : (w2).frozen? ⟨W.heap.size + 1 + 1, 5, none⟩ = false := frozen_of_row _ _ 5 _ _ rQ18_.out
  have Qf6_ : (w2).frozen? ⟨W.heap.size + 1 + 1, 6, none⟩ = false := frozen_of_row _ _ 6 _ _ rQ18_.out
  have Qf7_ : (w2).frozen? ⟨W.heap.size + 1 + 1, 7, none⟩ = false := frozen_of_row _ _ 7 _ _ rQ18_.out
  have X_0_ : (w2).cell? ⟨w1.heap.size, 0, none⟩ = some (.int .i32 0) := cell_of_row _ _ 0 _ _ _ rX19_.out
  have X_1_ : (w2).cell? ⟨w1.heap.size, 1, none⟩ = some (.int .u32 0) := cell_of_row _ _ 1 _ _ _ rX19_.out
  have X_2_ : (w2).cell? ⟨w1.heap.size, 2, none⟩ = some (.int .i64 i0) := cell_of_row _ _ 2 _ _ _ rX19_.out
  have X_3_ : (w2).cell? ⟨w1.heap.size, 3, none⟩ = some (.slice d1 m1 k1) := cell_of_row _ _ 3 _ _ _ rX19_.out
  have X_4_ : (w2).cell? ⟨w1.heap.size, 4, none⟩ = some (.slice d2 m2 k2) := cell_of_row _ _ 4 _ _ _ rX19_.out
  have yr_ := Lib.hid (show ((((((((((((w2.setCell ⟨W.heap.size + 1, 0, none⟩ (.int .i64 i0)).setCell ⟨W.heap.size + 1, 1, none⟩ (.slice d1 m1 k1)).setCell ⟨W.heap.size + 1, 2, none⟩ (.slice d2 m2 k2)).setCell ⟨W.heap.size + 1 + 1, 0, none⟩ (.int .i64 0)).setCell ⟨W.heap.size + 1 + 1, 1, none⟩ (.int .i64 0)).setCell ⟨W.heap.size + 1 + 1, 2, none⟩ (.int .i64 0)).setCell ⟨W.heap.size + 1 + 1, 3, none⟩ (.int .i64 0)).setCell ⟨W.heap.size + 1 + 1, 4, none⟩ (.int .i64 0)).setCell ⟨W.heap.size + 1 + 1, 5, none⟩ (.int .i64 0)).setCell ⟨W.heap.size + 1 + 1, 6, none⟩ (.int .i64 0)).setCell ⟨W.heap.size + 1 + 1, 7, none⟩ (.slice none 0 0))).heap[W.heap.size + 1]? = some (.cells #[.int .i64 i0, .slice d1 m1 k1, .slice d2 m2 k2] 26 (0, 0)) from (set_far (set_far (set_far (set_far (set_far (set_far (set_far (set_far (heap_setCell_same _ _ 2 _ _ _ (heap_setCell_same _ _ 1 _ _ _ (heap_setCell_same _ _ 0 _ _ _ rR17_.out))) (by dsimp only; omega)) (by dsimp only; omega)) (by dsimp only; omega)) (by dsimp only; omega)) (by dsimp only; omega)) (by dsimp only; omega)) (by dsimp only; omega)) (by dsimp only; omega)))
  have yq_ := Lib.hid (show ((((((((((((w2.setCell ⟨W.heap.size + 1, 0, none⟩ (.int .i64 i0)).setCell ⟨W.heap.size + 1, 1, none⟩ (.slice d1 m1 k1)).setCell ⟨W.heap.size + 1, 2, none⟩ (.slice d2 m2 k2)).setCell ⟨W.heap.size + 1 + 1, 0, none⟩ (.int .i64 0)).setCell ⟨W.heap.size + 1 + 1, 1, none⟩ (.int .i64 0)).setCell ⟨W.heap.size + 1 + 1, 2, none⟩ (.int .i64 0)).setCell ⟨W.heap.size + 1 + 1, 3, none⟩ (.int .i64 0)).setCell ⟨W.heap.size + 1 + 1, 4, none⟩ (.int .i64 0)).setCell ⟨W.heap.size + 1 + 1, 5, none⟩ (.int .i64 0)).setCell ⟨W.heap.size + 1 + 1, 6, none⟩ (.int .i64 0)).setCell ⟨W.heap.size + 1 + 1, 7, none⟩ (.slice none 0 0))).heap[W.heap.size + 1 + 1]? = some (.cells #[.int .i64 0, .int .i64 0, .int .i64 0, .int .i64 0, .int .i64 0, .int .i64 0, .int .i64 0, .slice none 0 0] 29 (0, 0)) from (heap_setCell_same _ _ 7 _ _ _ (heap_setCell_same _ _ 6 _ _ _ (heap_setCell_same _ _ 5 _ _ _ (heap_setCell_same _ _ 4 _ _ _ (heap_setCell_same _ _ 3 _ _ _ (heap_setCell_same _ _ 2 _ _ _ (heap_setCell_same _ _ 1 _ _ _ (heap_setCell_same _ _ 0 _ _ _ (set_far (set_far (set_far rQ18_.out (by dsimp only; omega)) (by dsimp only; omega)) (by dsimp only; omega)))))))))))
  have z0_ : ((((((((((((w2.setCell ⟨W.heap.size + 1, 0, none⟩ (.int .i64 i0)).setCell ⟨W.heap.size + 1, 1, none⟩ (.slice d1 m1 k1)).setCell ⟨W.heap.size + 1, 2, none⟩ (.slice d2 m2 k2)).setCell ⟨W.heap.size + 1 + 1, 0, none⟩ (.int .i64 0)).setCell ⟨W.heap.size + 1 + 1, 1, none⟩ (.int .i64 0)).setCell ⟨W.heap.size + 1 + 1, 2, none⟩ (.int .i64 0)).setCell ⟨W.heap.size + 1 + 1, 3, none⟩ (.int .i64 0)).setCell ⟨W.heap.size + 1 + 1, 4, none⟩ (.int .i64 0)).setCell ⟨W.heap.size + 1 + 1, 5, none⟩ (.int .i64 0)).setCell ⟨W.heap.size + 1 + 1, 6, none⟩ (.int .i64 0)).setCell ⟨W.heap.size + 1 + 1, 7, none⟩ (.slice none 0 0))).cell? ⟨W.heap.size + 1, 0, none⟩ = some (.int .i64 i0) := cell_of_row _ _ 0 _ _ _ yr_.out
  have z1_ : ((((((((((((w2.setCell ⟨W.heap.size + 1, 0, none⟩ (.int .i64 i0)).setCell ⟨W.heap.size + 1, 1, none⟩ (.slice d1 m1 k1)).setCell ⟨W.heap.size + 1, 2, none⟩ (.slice d2 m2 k2)).setCell ⟨W.heap.size + 1 + 1, 0, none⟩ (.int .i64 0)).setCell ⟨W.heap.size + 1 + 1, 1, none⟩ (.int .i64 0)).setCell ⟨W.heap.size + 1 + 1, 2, none⟩ (.int .i64 0)).setCell ⟨W.heap.size + 1 + 1, 3, none⟩ (.int .i64 0)).setCell ⟨W.heap.size + 1 + 1, 4, none⟩ (.int .i64 0)).setCell ⟨W.heap.size + 1 + 1, 5, none⟩ (.int .i64 0)).setCell ⟨W.heap.size + 1 + 1, 6, none⟩ (.int .i64 0)).setCell ⟨W.heap.size + 1 + 1, 7, none⟩ (.slice none 0 0))).cell? ⟨W.heap.size + 1, 1, none⟩ = some (.slice d1 m1 k1) := cell_of_row _ _ 1 _ _ _ yr_.out
  have z2_ : ((((((((((((w2.setCell ⟨W.heap.size + 1, 0, none⟩ (.int .i64 i0)).setCell ⟨W.heap.size + 1, 1, none⟩ (.slice d1 m1 k1)).setCell ⟨W.heap.size + 1, 2, none⟩ (.slice d2 m2 k2)).setCell ⟨W.heap.size + 1 + 1, 0, none⟩ (.int .i64 0)).setCell ⟨W.heap.size + 1 + 1, 1, none⟩ (.int .i64 0)).setCell ⟨W.heap.size + 1 + 1, 2, none⟩ (.int .i64 0)).setCell ⟨W.heap.size + 1 + 1, 3, none⟩ (.int .i64 0)).setCell ⟨W.heap.size + 1 + 1, 4, none⟩ (.int .i64 0)).setCell ⟨W.heap.size + 1 + 1, 5, none⟩ (.int .i64 0)).setCell ⟨W.heap.size + 1 + 1, 6, none⟩ (.int .i64 0)).setCell ⟨W.heap.size + 1 + 1, 7, none⟩ (.slice none 0 0))).cell? ⟨W.heap.size + 1, 2, none⟩ = some (.slice d2 m2 k2) := cell_of_row _ _ 2 _ _ _ yr_.out
  have y0_ : ((((((((((((w2.setCell ⟨W.heap.size + 1, 0, none⟩ (.int .i64 i0)).setCell ⟨W.heap.size + 1, 1, none⟩ (.slice d1 m1 k1)).setCell ⟨W.heap.size + 1, 2, none⟩ (.slice d2 m2 k2)).setCell ⟨W.heap.size + 1 + 1, 0, none⟩ (.int .i64 0)).setCell ⟨W.heap.size + 1 + 1, 1, none⟩ (.int .i64 0)).setCell ⟨W.heap.size + 1 + 1, 2, none⟩ (.int .i64 0)).setCell ⟨W.heap.size + 1 + 1, 3, none⟩ (.int .i64 0)).setCell ⟨W.heap.size + 1 + 1, 4, none⟩ (.int .i64 0)).setCell ⟨W.heap.size + 1 + 1, 5, none⟩ (.int .i64 0)).setCell ⟨W.heap.size + 1 + 1, 6, none⟩ (.int .i64 0)).setCell ⟨W.heap.size + 1 + 1, 7, none⟩ (.slice none 0 0))).cell? ⟨W.heap.size + 1 + 1, 0, none⟩ = some (.int .i64 0) := cell_of_row _ _ 0 _ _ _ yq_.out
  have y1_ : ((((((((((((w2.setCell ⟨W.heap.size + 1, 0, none⟩ (.int .i64 i0)).setCell ⟨W.heap.size + 1, 1, none⟩ (.slice d1 m1 k1)).setCell ⟨W.heap.size + 1, 2, none⟩ (.slice d2 m2 k2)).setCell ⟨W.heap.size + 1 + 1, 0, none⟩ (.int .i64 0)).setCell ⟨W.heap.size + 1 + 1, 1, none⟩ (.int .i64 0)).setCell ⟨W.heap.size + 1 + 1, 2, none⟩ (.int .i64 0)).setCell ⟨W.heap.size + 1 + 1, 3, none⟩ (.int .i64 0)).setCell ⟨W.heap.size + 1 + 1, 4, none⟩ (.int .i64 0)).setCell ⟨W.heap.size + 1 + 1, 5, none⟩ (.int .i64 0)).setCell ⟨W.heap.size + 1 + 1, 6, none⟩ (.int .i64 0)).setCell ⟨W.heap.size + 1 + 1, 7, none⟩ (.slice none 0 0))).cell? ⟨W.heap.size + 1 + 1, 1, none⟩ = some (.int .i64 0) := cell_of_row _ _ 1 _ _ _ yq_.out
  have y2_ : ((((((((((((w2.setCell ⟨W.heap.size + 1, 0, none⟩ (.int .i64 i0)).setCell ⟨W.heap.size + 1, 1, none⟩ (.slice d1 m1 k1)).setCell ⟨W.heap.size + 1, 2, none⟩ (.slice d2 m2 k2)).setCell ⟨W.heap.size + 1 + 1, 0, none⟩ (.int .i64 0)).setCell ⟨W.heap.size + 1 + 1, 1, none⟩ (.int .i64 0)).setCell ⟨W.heap.size + 1 + 1, 2, none⟩ (.int .i64 0)).setCell ⟨W.heap.size + 1 + 1, 3, none⟩ (.int .i64 0)).setCell ⟨W.heap.size + 1 + 1, 4, none⟩ (.int .i64 0)).setCell ⟨W.heap.size + 1 + 1, 5, none⟩ (.int .i64 0)).setCell ⟨W.heap.size + 1 + 1, 6, none⟩ (.int .i64 0)).setCell ⟨W.heap.size + 1 + 1, 7, none⟩ (.slice none 0 0))).cell? ⟨W.heap.size + 1 + 1, 2, none⟩ = some (.int .i64 0) := cell_of_row _ _ 2 _ _ _ yq_.out
  have y3_ : ((((((((((((w2.setCell ⟨W.heap.size + 1, 0, none⟩ (.int .i64 i0)).setCell ⟨W.heap.size + 1, 1, none⟩ (.slice d1 m1 k1)).setCell ⟨W.heap.size + 1, 2, none⟩ (.slice d2 m2 k2)).setCell ⟨W.heap.size + 1 + 1, 0, none⟩ (.int .i64 0)).setCell ⟨W.heap.size + 1 + 1, 1, none⟩ (.int .i64 0)).setCell ⟨W.heap.size + 1 + 1, 2, none⟩ (.int .i64 0)).setCell ⟨W.heap.size + 1 + 1, 3, none⟩ (.int .i64 0)).setCell ⟨W.heap.size + 1 + 1, 4, none⟩ (.int .i64 0)).setCell ⟨W.heap.size + 1 + 1, 5, none⟩ (.int .i64 0)).setCell ⟨W.heap.size + 1 + 1, 6, none⟩ (.int .i64 0)).setCell ⟨W.heap.size + 1 + 1, 7, none⟩ (.slice none 0 0))).cell? ⟨W.heap.size + 1 + 1, 3, none⟩ = some (.int .i64 0) := cell_of_row _ _ 3 _ _ _ yq_.out
  have y4_ : ((((((((((((w2.setCell ⟨W.heap.size + 1, 0, none⟩ (.int .i64 i0)).setCell ⟨W.heap.size + 1, 1, none⟩ (.slice d1 m1 k1)).setCell ⟨W.heap.size + 1, 2, none⟩ (.slice d2 m2 k2)).setCell ⟨W.heap.size + 1 + 1, 0, none⟩ (.int .i64 0)).setCell ⟨W.heap.size + 1 + 1, 1, none⟩ (.int .i64 0)).setCell ⟨W.heap.size + 1 + 1, 2, none⟩ (.int .i64 0)).setCell ⟨W.heap.size + 1 + 1, 3, none⟩ (.int .i64 0)).setCell ⟨W.heap.size + 1 + 1, 4, none⟩ (.int .i64 0)).setCell ⟨W.heap.size + 1 + 1, 5, none⟩ (.int .i64 0)).setCell ⟨W.heap.size + 1 + 1, 6, none⟩ (.int .i64 0)).setCell ⟨W.heap.size + 1 + 1, 7, none⟩ (.slice none 0 0))).cell? ⟨W.heap.size + 1 + 1, 4, none⟩ = some (.int .i64 0) := cell_of_row _ _ 4 _ _ _ yq_.out
  have y5_ : ((((((((((((w2.setCell ⟨W.heap.size + 1, 0, none⟩ (.int .i64 i0)).setCell ⟨W.heap.size + 1, 1, none⟩ (.slice d1 m1 k1)).setCell ⟨W.heap.size + 1, 2, none⟩ (.slice d2 m2 k2)).setCell ⟨W.heap.size + 1 + 1, 0, none⟩ (.int .i64 0)).setCell ⟨W.heap.size + 1 + 1, 1, none⟩ (.int .i64 0)).setCell ⟨W.heap.size + 1 + 1, 2, none⟩ (.int .i64 0)).setCell ⟨W.heap.size + 1 + 1, 3, none⟩ (.int .i64 0)).setCell ⟨W.heap.size + 1 + 1, 4, none⟩ (.int .i64 0)).setCell ⟨W.heap.size + 1 + 1, 5, none⟩ (.int .i64 0)).setCell ⟨W.heap.size + 1 + 1, 6, none⟩ (.int .i64 0)).setCell ⟨W.heap.size + 1 + 1, 7, none⟩ (.slice none 0 0))).cell? ⟨W.heap.size + 1 + 1, 5, none⟩ = some (.int .i64 0) := cell_of_row _ _ 5 _ _ _ yq_.out
  have y6_ : ((((((((((((w2.setCell ⟨W.heap.size + 1, 0, none⟩ (.int .i64 i0)).setCell ⟨W.heap.size + 1, 1, none⟩ (.slice d1 m1 k1)).setCell ⟨W.heap.size + 1, 2, none⟩ (.slice d2 m2 k2)).setCell ⟨W.heap.size + 1 + 1, 0, none⟩ (.int .i64 0)).setCell ⟨W.heap.size + 1 + 1, 1, none⟩ (.int .i64 0)).setCell ⟨W.heap.size + 1 + 1, 2, none⟩ (.int .i64 0)).setCell ⟨W.heap.size + 1 + 1, 3, none⟩ (.int .i64 0)).setCell ⟨W.heap.size + 1 + 1, 4, none⟩ (.int .i64 0)).setCell ⟨W.heap.size + 1 + 1, 5, none⟩ (.int .i64 0)).setCell ⟨W.heap.size + 1 + 1, 6, none⟩ (.int .i64 0)).setCell ⟨W.heap.size + 1 + 1, 7, none⟩ (.slice none 0 0))).cell? ⟨W.heap.size + 1 + 1, 6, none⟩ = some (.int .i64 0) := cell_of_row _ _ 6 _ _ _ yq_.out
  have y7_ : ((((((((((((w2.setCell ⟨W.heap.size + 1, 0, none⟩ (.int .i64 i0)).setCell ⟨W.heap.size + 1, 1, none⟩ (.slice d1 m1 k1)).setCell ⟨W.heap.size + 1, 2, none⟩ (.slice d2 m2 k2)).setCell ⟨W.heap.size + 1 + 1, 0, none⟩ (.int .i64 0)).setCell ⟨W.heap.size + 1 + 1, 1, none⟩ (.int .i64 0)).setCell ⟨W.heap.size + 1 + 1, 2, none⟩ (.int .i64 0)).setCell ⟨W.heap.size + 1 + 1, 3, none⟩ (.int .i64 0)).setCell ⟨W.heap.size + 1 + 1, 4, none⟩ (.int .i64 0)).setCell ⟨W.heap.size + 1 + 1, 5, none⟩ (.int .i64 0)).setCell ⟨W.heap.size + 1 + 1, 6, none⟩ (.int .i64 0)).setCell ⟨W.heap.size + 1 + 1, 7, none⟩ (.slice none 0 0))).cell? ⟨W.heap.size + 1 + 1, 7, none⟩ = some (.slice none 0 0) := cell_of_row _ _ 7 _ _ _ yq_.out
  go_wp2
  refine bodyPost_ret (v := .tuple #[.agg #[.int .i64 i0, .slice d1 m1 k1, .slice d2 m2 k2], .agg #[.int .i64 0, .int .i64 0, .int .i64 0, .int .i64 0, .int .i64 0, .int .i64 0, .int .i64 0, .slice none 0 0], .bool false]) (by simp [results, go_sem, z0_, z1_, z2_, y0_, y1_, y2_, y3_, y4_, y5_, y6_, y7_]) rfl ⟨_, _, _, rfl, ?_, ?_⟩
  · exact OwU.wide (lo := (W.heap.size + 1 + 1 + 1)) (by omega) (by simp only [World.size_setCell]; omega) (OwU.keep (chg_one _ _ _ _) (by omega) (OwU.keep (chg_one _ _ _ _) (by omega) (OwU.keep (chg_one _ _ _ _) (by omega) (OwU.keep (chg_one _ _ _ _) (by omega) (OwU.keep (chg_one _ _ _ _) (by omega) (OwU.keep (chg_one _ _ _ _) (by omega) (OwU.keep (chg_one _ _ _ _) (by omega) (OwU.keep (chg_one _ _ _ _) (by omega) (OwU.keep (chg_one _ _ _ _) (by omega) (OwU.keep (chg_one _ _ _ _) (by omega) (OwU.keep (chg_one _ _ _ _) (by omega) (OwU.app (ps := [own shB (.slice d1 m1 k1) xs, own shB (.slice d2 m2 k2) ys]) (qs := [own shI (.slice none 0 0) ([] : List Int)]) (m := w1.heap.size) (hi := w1.heap.size) (by omega) (Nat.le_refl _) oC20_.out (OwU.one owL_nil)))))))))))))
  · exact (gby_setnew (gby_setnew (gby_setnew (gby_setnew (gby_setnew (gby_setnew (gby_setnew (gby_setnew (gby_setnew (gby_setnew (gby_setnew G21_.out _ (by dsimp only; omega) _) _ (by dsimp only; omega) _) _ (by dsimp only; omega) _) _ (by dsimp only; omega) _) _ (by dsimp only; omega) _) _ (by dsimp only; omega) _) _ (by dsimp only; omega) _) _ (by dsimp only; omega) _) _ (by dsimp only; omega) _) _ (by dsimp only; omega) _) _ (by dsimp only; omega) _)

end Go.Proofs.Ytomiicegkdogkaa
