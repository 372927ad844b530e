/-
  Credits changed at one class: (*Credits).add.
-/
import Derived.Test.YtgagbhkidponnacClone
import Derived.Test.YtgagbhkidponnacQCredits
import Derived.Deep.RegionHeld3
import Derived.Test.YtgagbhkidponnacStepApp
import Derived.Test.YtgagbhkidponnacPkD
import Derived.Test.YtgagbhkidponnacQSPacket
import Derived.Test.YtgagbhkidponnacCrd
import Derived.Test.YtgagbhkidponnacShpI
import Derived.Test.YtgagbhkidponnacAppP
import Derived.Test.YtgagbhkidponnacIntInfo
import Derived.Deep.RegionLaw
import Derived.Deep.AppendLies
namespace Go.Proofs.Ytgagbhkidponnac
open Go Go.RowKit
set_option linter.unusedVariables false

theorem cloneD (W : World) (v : Value) (xs : List Int) (H : RdL shI W v xs) (hl : szL shI xs ≤ 1048576) :
    Calls Try.prog 123 #[v] W (fun e w' => ∃ v', e = .returned v' ∧ OwL shI w' W.heap.size w'.heap.size v' xs ∧ W.grownBy w' none) := by
  rw [szL_I] at hl
  refine (clone_any W v xs (rdI_in H) hl).mono ?_
  rintro e w' ⟨v', rfl, o, g⟩
  exact ⟨v', rfl, owI_out (by omega) o, g⟩

theorem far2 {w : World} {b j : Nat} {v : Value} {p q : Addr} {x y : Value} (h : w.cell? ⟨b, j, none⟩ = some v) (hp : b ≠ p.block) (hq : b ≠ q.block) : ((w.setCell p x).setCell q y).cell? ⟨b, j, none⟩ = some v := by
  rw [World.cell?_setCell_far _ _ _ _ (fun e => hq e.symm), World.cell?_setCell_far _ _ _ _ (fun e => hp e.symm)]; exact h

set_option maxRecDepth 8000 in
set_option maxHeartbeats 4000000 in
theorem copiedCr_d (W : World) (v0 v1 : Value) (xs0 xs1 : List Int) (H0 : RdL shI W v0 xs0) (H1 : RdL shI W v1 xs1) (hl0 : szL shI xs0 ≤ 1048576) (hl1 : szL shI xs1 ≤ 1048576) :
    Calls Try.prog 87 #[vCredits v0 v1] W (NewCredits xs0 xs1 W) := by
  have HI0 := Lib.hid H0
  have HI1 := Lib.hid H1
  clear H0 H1
  unfold vCredits
  have hrA := Lib.hid (show ((W.alloc (.cells #[v0, v1] 54)).alloc (.cells #[.slice none 0 0, .slice none 0 0] 54)).heap[W.heap.size]? = some (.cells #[v0, v1] 54) from by rw [heap_alloc_old _ _ (by simp)]; exact heap_alloc_new W _)
  have hrZ := Lib.hid (show ((W.alloc (.cells #[v0, v1] 54)).alloc (.cells #[.slice none 0 0, .slice none 0 0] 54)).heap[W.heap.size + 1]? = some (.cells #[.slice none 0 0, .slice none 0 0] 54) from heap_pair W _ _)
  have k0 : ((W.alloc (.cells #[v0, v1] 54)).alloc (.cells #[.slice none 0 0, .slice none 0 0] 54)).cell? ⟨W.heap.size, 0, none⟩ = some v0 := cell_of_row _ _ 0 _ _ _ hrA.out
  have k1 : ((W.alloc (.cells #[v0, v1] 54)).alloc (.cells #[.slice none 0 0, .slice none 0 0] 54)).cell? ⟨W.heap.size, 1, none⟩ = some v1 := cell_of_row _ _ 1 _ _ _ hrA.out
  go_enter Try.func87, Try.ntmps87
  go_wp2_with fail
  go_region_held3 (fun w' => w'.cell? ⟨W.heap.size, 0, none⟩ = some v0 ∧ w'.cell? ⟨W.heap.size, 1, none⟩ = some v1)
    (first
      | exact ⟨k0, k1⟩
      | exact ⟨gA.cell k0 (by simp), gA.cell k1 (by simp)⟩
      | exact ⟨gB.cell (gA.cell k0 (by simp)) (by simp), gB.cell (gA.cell k1 (by simp)) (by simp)⟩
      | exact ⟨far2 (gB.cell (gA.cell k0 (by simp)) (by simp)) (by simp) (by simp), far2 (gB.cell (gA.cell k1 (by simp)) (by simp)) (by simp) (by simp)⟩)
    (first
      | (go_at_call_of 123 v0; refine (cloneD _ v0 xs0 (HI0.out.grow (gby_drew (gby_alloc (gby_alloc (gby_refl _ _) _) _))) hl0).mono ?_; rintro e wA ⟨dA, rfl, oA, gA⟩; obtain ⟨pA, nA, cA, hvA⟩ := RdL.form (OwL.rd oA); subst hvA; have ZA := row_held gA (show (World.drew ((W.alloc (.cells #[v0, v1] 54)).alloc (.cells #[.slice none 0 0, .slice none 0 0] 54))).heap[W.heap.size + 1]? = _ from hrZ.out))
      | (go_at_call_of 123 v1; refine (cloneD _ v1 xs1 (HI1.out.grow (gby_trans (gby_drew (gby_alloc (gby_alloc (gby_refl _ _) _) _)) gA)) hl1).mono ?_; rintro e wB ⟨dB, rfl, oB, gB⟩; obtain ⟨pB, nB, cB, hvB⟩ := RdL.form (OwL.rd oB); subst hvB; have ZB := row_held gB ZA; have z0 : wB.cell? ⟨W.heap.size + 1, 0, none⟩ = some (.slice none 0 0) := cell_of_row _ _ 0 _ _ _ ZB; have z1 : wB.cell? ⟨W.heap.size + 1, 1, none⟩ = some (.slice none 0 0) := cell_of_row _ _ 1 _ _ _ ZB; have f0 := frozen_of_row wB _ 0 _ _ ZB; have f1 := frozen_of_row wB _ 1 _ _ ZB))
  all_goals
    have sz0 : (World.drew ((W.alloc (.cells #[v0, v1] 54)).alloc (.cells #[.slice none 0 0, .slice none 0 0] 54))).heap.size = W.heap.size + 1 + 1 := by show ((W.alloc (.cells #[v0, v1] 54)).alloc (.cells #[.slice none 0 0, .slice none 0 0] 54)).heap.size = _; simp
    have sA := gA.size
    have sB := gB.size
    rw [sz0] at oA sA
    have G := Lib.hid (show W.grownBy wB none from gby_trans (gby_trans (gby_drew (gby_alloc (gby_alloc (gby_refl W none) _) _)) gA) gB)
    have OO := Lib.hid (show OwU wB (W.heap.size + 1 + 1) wB.heap.size [] [own shI (.slice pA nA cA) xs0, own shI (.slice pB nB cB) xs1] from OwU.two (OwL.grow oA gB) oB (Nat.le_refl _) (by omega) (by omega))
    have C := Lib.hid (chg_trans (chg_one wB (W.heap.size + 1) 0 (.slice pA nA cA)) (chg_one _ (W.heap.size + 1) 1 (.slice pB nB cB)))
    have ZB2 := Lib.hid (heap_setCell_same _ _ 1 _ _ (.slice pB nB cB) (heap_setCell_same wB _ 0 _ _ (.slice pA nA cA) ZB))
    have r0 : ((wB.setCell ⟨W.heap.size + 1, 0, none⟩ (.slice pA nA cA)).setCell ⟨W.heap.size + 1, 1, none⟩ (.slice pB nB cB)).cell? ⟨W.heap.size + 1, 0, none⟩ = some (.slice pA nA cA) := cell_of_row _ _ 0 _ _ _ ZB2.out
    have r1 : ((wB.setCell ⟨W.heap.size + 1, 0, none⟩ (.slice pA nA cA)).setCell ⟨W.heap.size + 1, 1, none⟩ (.slice pB nB cB)).cell? ⟨W.heap.size + 1, 1, none⟩ = some (.slice pB nB cB) := cell_of_row _ _ 1 _ _ _ ZB2.out
    clear oA oB gA gB ZA ZB z0 z1 f0 f1 k0 k1
    go_wp2
    refine bodyPost_ret (v := vCredits (.slice pA nA cA) (.slice pB nB cB)) (by simp [results, go_sem, vCredits, r0, r1]) rfl ⟨_, _, rfl, ?_, ?_⟩
    · exact OwU.wide (by omega) (by simp) (OwU.keep C.out (.inr (by omega)) OO.out)
    · exact gby_chg G.out C.out (by omega)

end Go.Proofs.Ytgagbhkidponnac

namespace Go.Proofs.Ytgagbhkidponnac
open Go Go.RowKit
set_option linter.unusedVariables false

theorem chg_of_row {w x y : World} {B : Nat} (g : w.grownBy x none) (h : x.grownBy y (some B)) : Chg w y B (B + 1) :=
  chg_trans (chg_gby g B (B + 1)) (chg_row h (fun i e => by cases e; omega))

set_option maxRecDepth 8000 in
set_option maxHeartbeats 4000000 in
theorem l14Copy_d (W : World) (v0 v1 : Value) (xs0 xs1 : List Int) (H0 : RdL shI W v0 xs0) (H1 : RdL shI W v1 xs1) (hl0 : szL shI xs0 ≤ 1048576) (hl1 : szL shI xs1 ≤ 1048576) :
    Calls Try.prog 82 #[vCredits v0 v1] W (NewCredits xs0 xs1 W) := by
  rw [szL_I] at hl0 hl1
  obtain ⟨a0, c0, rfl, hi0, hc0⟩ := rdI_in H0
  obtain ⟨a1, c1, rfl, hi1, hc1⟩ := rdI_in H1
  obtain ⟨n0, hn0⟩ : ∃ n, n = xs0.length := ⟨_, rfl⟩
  obtain ⟨n1, hn1⟩ : ∃ n, n = xs1.length := ⟨_, rfl⟩
  rw [← hn0] at hi0 hl0 hc0 ⊢
  rw [← hn1] at hi1 hl1 hc1 ⊢
  have HI0 := Lib.hid hi0
  have HI1 := Lib.hid hi1
  have HN0 := Lib.hid hn0
  have HN1 := Lib.hid hn1
  have HK0 := Lib.hid hc0.1
  have HK1 := Lib.hid hc1.1
  clear H0 H1 hi0 hi1 hn0 hn1 hc0 hc1
  unfold vCredits
  have hrA := Lib.hid (show (((W.alloc (.cells #[.slice a0 n0 c0, .slice a1 n1 c1] 54)).alloc (.cells #[.slice none 0 0, .slice none 0 0] 54))).heap[W.heap.size]? = some (.cells #[.slice a0 n0 c0, .slice a1 n1 c1] 54) from by rw [heap_alloc_old _ _ (by simp)]; exact heap_alloc_new W _)
  have hrZ := Lib.hid (show (((W.alloc (.cells #[.slice a0 n0 c0, .slice a1 n1 c1] 54)).alloc (.cells #[.slice none 0 0, .slice none 0 0] 54))).heap[W.heap.size + 1]? = some (.cells #[.slice none 0 0, .slice none 0 0] 54) from heap_pair W _ _)
  have k0 : (((W.alloc (.cells #[.slice a0 n0 c0, .slice a1 n1 c1] 54)).alloc (.cells #[.slice none 0 0, .slice none 0 0] 54))).cell? ⟨W.heap.size, 0, none⟩ = some (.slice a0 n0 c0) := cell_of_row _ _ 0 _ _ _ hrA.out
  have k1 : (((W.alloc (.cells #[.slice a0 n0 c0, .slice a1 n1 c1] 54)).alloc (.cells #[.slice none 0 0, .slice none 0 0] 54))).cell? ⟨W.heap.size, 1, none⟩ = some (.slice a1 n1 c1) := cell_of_row _ _ 1 _ _ _ hrA.out
  go_enter Try.func82, Try.ntmps82
  go_wp2_with fail
  go_region_held3 (fun w' => w'.cell? ⟨W.heap.size, 0, none⟩ = some (.slice a0 n0 c0) ∧ w'.cell? ⟨W.heap.size, 1, none⟩ = some (.slice a1 n1 c1))
    (first | exact ⟨kB0, kB1⟩ | exact ⟨kA0, kA1⟩ | exact ⟨k0, k1⟩ | go_keep | exact ⟨far2 kB0 (by simp) (by simp), far2 kB1 (by simp) (by simp)⟩)
    (first
      | ((refine step_clone_isl _ (by rfl) _ _ (by rfl) _ (by rfl) (by first | exact heap_trip W _ _ _ | exact row_held (by repeat (first | exact gby_refl _ _ | (with_reducible refine gby_alloc ?_ _) | (with_reducible refine gby_drew ?_))) (heap_trip W _ _ _) | exact heap_quad W _ _ _ _) a0 n0 c0 xs0 (by rfl) (HI0.out.kept (by repeat (first | exact gby_alloc (gby_alloc (gby_refl _ _) _) _ | (with_reducible refine gby_alloc ?_ _) | (with_reducible refine gby_drew ?_)))) HK0.out (by omega) ?_; intro gA cA wA oA hgA hA sA
          have kA0 : wA.cell? ⟨W.heap.size, 0, none⟩ = some (.slice a0 n0 c0) := hgA.cell (by go_keep) (by first | (simp; done) | (simp; omega))
          have kA1 : wA.cell? ⟨W.heap.size, 1, none⟩ = some (.slice a1 n1 c1) := hgA.cell (by go_keep) (by first | (simp; done) | (simp; omega))
          have zA := hgA.size
          try simp at hA
          try simp at zA
          have GA := Lib.hid (show W.grownBy wA none from gby_new (by repeat (first | exact gby_alloc (gby_alloc (gby_refl _ _) _) _ | (with_reducible refine gby_alloc ?_ _) | (with_reducible refine gby_drew ?_))) hgA (fun i hi => by first | (simp at hi; omega) | omega))
          have ZA := Lib.hid (show wA.heap[W.heap.size + 1]? = some (.cells #[.slice none 0 0, .slice none 0 0] 54) from (hgA.block _ (by first | (simp; done) | (simp; omega)) (by first | (simp; done) | (simp; omega))).trans (row_held (by repeat (first | exact gby_refl _ _ | (with_reducible refine gby_alloc ?_ _) | (with_reducible refine gby_drew ?_))) hrZ.out))
          try have EA := (show wA.heap[W.heap.size + 1 + 1 + 1]? = some (.cells #[] 3 (0, 0)) from (hgA.block _ (by first | (simp; done) | (simp; omega)) (by first | (simp; done) | (simp; omega))).trans (heap_quad W _ _ _ _))
          try have EA := (show wA.heap[W.heap.size + 1 + 1]? = some (.cells #[] 3 (0, 0)) from (hgA.block _ (by first | (simp; done) | (simp; omega)) (by first | (simp; done) | (simp; omega))).trans (row_held (by repeat (first | exact gby_refl _ _ | (with_reducible refine gby_alloc ?_ _) | (with_reducible refine gby_drew ?_))) (heap_trip W _ _ _)))
          clear hgA))
      | ((refine step_clone_isl _ (by rfl) _ _ (by rfl) _ (by rfl) (by first | exact EA | exact heap_alloc_new wA _) a1 n1 c1 xs1 (by rfl) (HI1.out.kept (by repeat (first | exact GA.out | (with_reducible refine gby_alloc ?_ _) | (with_reducible refine gby_drew ?_)))) HK1.out (by omega) ?_; intro gB cB wB oB hgB hB sB
          have kB0 : wB.cell? ⟨W.heap.size, 0, none⟩ = some (.slice a0 n0 c0) := hgB.cell (by go_keep) (by first | (simp; done) | (simp; omega))
          have kB1 : wB.cell? ⟨W.heap.size, 1, none⟩ = some (.slice a1 n1 c1) := hgB.cell (by go_keep) (by first | (simp; done) | (simp; omega))
          have zB := hgB.size
          try simp at hB
          try simp at zB
          have GB := Lib.hid (show W.grownBy wB none from gby_new (by repeat (first | exact GA.out | (with_reducible refine gby_alloc ?_ _) | (with_reducible refine gby_drew ?_))) hgB (fun i hi => by first | (simp at hi; omega) | omega))
          have oA2 := Lib.hid (OwL.keep oA (chg_of_row (by repeat (first | exact gby_refl _ _ | (with_reducible refine gby_alloc ?_ _) | (with_reducible refine gby_drew ?_))) hgB) (by first | omega | (simp; omega)))
          have ZB := (show wB.heap[W.heap.size + 1]? = some (.cells #[.slice none 0 0, .slice none 0 0] 54) from (hgB.block _ (by first | (simp; done) | (simp; omega) | omega) (by first | (simp; done) | (simp; omega) | omega)).trans (row_held (by repeat (first | exact gby_refl _ _ | (with_reducible refine gby_alloc ?_ _) | (with_reducible refine gby_drew ?_))) ZA.out))
          have z0 : wB.cell? ⟨W.heap.size + 1, 0, none⟩ = some (.slice none 0 0) := cell_of_row _ _ 0 _ _ _ ZB
          have z1 : wB.cell? ⟨W.heap.size + 1, 1, none⟩ = some (.slice none 0 0) := cell_of_row _ _ 1 _ _ _ ZB
          have f0 := frozen_of_row wB _ 0 _ _ ZB
          have f1 := frozen_of_row wB _ 1 _ _ ZB
          clear hgB)))
  all_goals
    have hne : gA < gB ∨ gB < gA := by omega
    have OO := Lib.hid (show OwU wB (W.heap.size + 1 + 1) wB.heap.size [] [own shI (.slice (some ⟨gA, 0, none⟩) n0 cA) xs0, own shI (.slice (some ⟨gB, 0, none⟩) n1 cB) xs1] from
      ⟨gA, gA + 1, by omega, by omega, (fun i hi => (by cases hi)), oA2.out, gB, gB + 1, by omega, by omega, (fun i hi => (by
        obtain rfl := List.mem_singleton.1 hi
        dsimp only
        omega)), oB, trivial⟩)
    have C := Lib.hid (chg_trans (chg_one wB (W.heap.size + 1) 0 (.slice (some ⟨gA, 0, none⟩) n0 cA)) (chg_one _ (W.heap.size + 1) 1 (.slice (some ⟨gB, 0, none⟩) n1 cB)))
    have ZB2 := Lib.hid (heap_setCell_same _ _ 1 _ _ (.slice (some ⟨gB, 0, none⟩) n1 cB) (heap_setCell_same wB _ 0 _ _ (.slice (some ⟨gA, 0, none⟩) n0 cA) ZB))
    have r0 : ((wB.setCell ⟨W.heap.size + 1, 0, none⟩ (.slice (some ⟨gA, 0, none⟩) n0 cA)).setCell ⟨W.heap.size + 1, 1, none⟩ (.slice (some ⟨gB, 0, none⟩) n1 cB)).cell? ⟨W.heap.size + 1, 0, none⟩ = some (.slice (some ⟨gA, 0, none⟩) n0 cA) := cell_of_row _ _ 0 _ _ _ ZB2.out
    have r1 : ((wB.setCell ⟨W.heap.size + 1, 0, none⟩ (.slice (some ⟨gA, 0, none⟩) n0 cA)).setCell ⟨W.heap.size + 1, 1, none⟩ (.slice (some ⟨gB, 0, none⟩) n1 cB)).cell? ⟨W.heap.size + 1, 1, none⟩ = some (.slice (some ⟨gB, 0, none⟩) n1 cB) := cell_of_row _ _ 1 _ _ _ ZB2.out
    clear oB ZA ZB z0 z1 f0 f1 k0 k1 kA0 kA1 kB0 kB1 hA hB hne sA sB zA zB oA
    try clear EA
    go_wp2
    refine bodyPost_ret (v := vCredits (.slice (some ⟨gA, 0, none⟩) n0 cA) (.slice (some ⟨gB, 0, none⟩) n1 cB)) (by simp [results, go_sem, vCredits, r0, r1]) rfl ⟨_, _, rfl, ?_, ?_⟩
    · exact OwU.wide (by omega) (by simp) (OwU.keep C.out (.inr (by omega)) OO.out)
    · exact gby_chg GB.out C.out (by omega)

end Go.Proofs.Ytgagbhkidponnac

namespace Go.Proofs.Ytgagbhkidponnac
open Go Go.RowKit
set_option linter.unusedVariables false

/-- all packets are valid -/
def PksOk (xs : List DPacket) : Prop := ∀ k, k < xs.length → 0 ≤ clsD (xs.getD k default)
instance (xs : List DPacket) : Decidable (PksOk xs) := by unfold PksOk; infer_instance

theorem specCrD (W : World) (v0 v1 : Value) (xs ys : List Int) (H0 : RdL shI W v0 xs) (H1 : RdL shI W v1 ys) (hl0 : szL shI xs ≤ 1048576) (hl1 : szL shI ys ≤ 1048576) (b : Bool) (hb : b = decide (CrdOk xs ys)) :
    Calls Try.prog 89 #[vCredits v0 v1] W (AnsN (.bool b) W) := by
  rw [szL_I] at hl0 hl1
  obtain ⟨a, cap, rfl, hi, _⟩ := rdI_in H0
  obtain ⟨a', cap', rfl, hi', _⟩ := rdI_in H1
  rw [hb]
  exact specCr_any W a _ cap a' _ cap' xs ys hi hi' hl0 hl1
theorem implCrD (W : World) (v0 v1 : Value) (xs ys : List Int) (H0 : RdL shI W v0 xs) (H1 : RdL shI W v1 ys) (hl0 : szL shI xs ≤ 1048576) (hl1 : szL shI ys ≤ 1048576) (b : Bool) (hb : b = decide (CrdOk xs ys)) :
    Calls Try.prog 47 #[vCredits v0 v1] W (AnsN (.bool b) W) := by
  rw [szL_I] at hl0 hl1
  obtain ⟨a, cap, rfl, hi, _⟩ := rdI_in H0
  obtain ⟨a', cap', rfl, hi', _⟩ := rdI_in H1
  rw [hb]
  exact implCr_any W a _ cap a' _ cap' xs ys hi hi' hl0 hl1

end Go.Proofs.Ytgagbhkidponnac

namespace Go.Proofs.Ytgagbhkidponnac
open Go Go.RowKit

theorem slTI : SlT 27 3 1 := slT_of Try.underlying27 infoInt rfl (by omega)

theorem owL_I_at {w : World} {lo hi : Nat} {v : Value} {xs : List Int} (h : OwL shI w lo hi v xs) (k : Nat) (hk : k < xs.length) :
    ∃ b off c, v = .slice (some ⟨b, off, none⟩) xs.length c ∧ lo ≤ b ∧ b < hi ∧ w.cell? ⟨b, off + k, none⟩ = some (.int .i64 (xs.getD k 0)) ∧ w.frozen? ⟨b, off + k, none⟩ = false ∧ ∀ x : Int, OwL shI (w.setCell ⟨b, off + k, none⟩ (.int .i64 x)) lo hi v (xs.set k x) ∧ Chg w (w.setCell ⟨b, off + k, none⟩ (.int .i64 x)) lo hi := by
  obtain ⟨a, cap, rfl, hc, hm, hp, h⟩ := h
  obtain ⟨b, off, P, Q, C, t, rfl, hb, h4, h5⟩ := h.resolve_left (by omega)
  have hpb := hp _ rfl
  have hat : ∀ j, j < xs.length → C[off + j]? = some (.int .i64 (xs.getD j 0)) := by
    intro j hj
    obtain ⟨_, _, _, cs, hcs, ho⟩ := h4 j hj
    obtain rfl : cs = [.int .i64 (xs.getD j default)] := ho
    have := hcs 0 (by simp)
    simpa [shI] using this
  have hsz : off + k < C.size := (Array.getElem?_eq_some_iff.1 (hat k hk)).1
  refine ⟨b, off, cap, rfl, hpb.1, hpb.2, ?_, frozen_of_row w b (off + k) C t hb, fun x => ⟨?_, chg_setp (chg_gby (gby_refl _ _) _ _) ⟨b, off + k, none⟩ hpb.1 hpb.2 _⟩⟩
  · rw [cell_of_row w b (off + k) C t _ hb]; exact hat k hk
  · refine ⟨some ⟨b, off, none⟩, cap, by rw [List.length_set], by rw [List.length_set]; exact hc, by rw [List.length_set]; exact hm, hp, .inr ⟨b, off, P, Q, C.setIfInBounds (off + k) (.int .i64 x), t, rfl, heap_setCell_same w b (off + k) C t _ hb, fun j hj => ?_, fun i j h1 h2 => h5 i j h1 (by rwa [List.length_set] at h2)⟩⟩
    rw [List.length_set] at hj
    obtain ⟨p1, p2, p3, _⟩ := h4 j hj
    refine ⟨p1, p2, p3, [.int .i64 ((xs.set k x).getD j default)], fun i hi => ?_, rfl⟩
    obtain rfl : i = 0 := by simpa using hi
    show (C.setIfInBounds (off + k) (.int .i64 x))[off + j * 1 + 0]? = _
    rw [Nat.mul_one, Nat.add_zero, Array.getElem?_setIfInBounds, List.getD_eq_getElem?_getD, List.getElem?_set]
    by_cases e : k = j
    · subst e
      rw [if_pos rfl, if_pos hsz, if_pos rfl, if_pos hk]; rfl
    · rw [if_neg (by omega), if_neg e, hat j hj, List.getD_eq_getElem?_getD]; rfl

end Go.Proofs.Ytgagbhkidponnac

namespace Go.Proofs.Ytgagbhkidponnac
open Go Go.RowKit
set_option linter.unusedVariables false

theorem cset1 {w : World} {lo hi : Nat} {v0 v1 : Value} {xs ys : List Int} (h : OwU w lo hi [] [own shI v0 xs, own shI v1 ys]) (k : Nat) (hk : k < xs.length) :
    ∃ b off c, v0 = .slice (some ⟨b, off, none⟩) xs.length c ∧ lo ≤ b ∧ b < hi ∧ w.cell? ⟨b, off + k, none⟩ = some (.int .i64 (xs.getD k 0)) ∧ w.frozen? ⟨b, off + k, none⟩ = false ∧ ∀ x, OwU (w.setCell ⟨b, off + k, none⟩ (.int .i64 x)) lo hi [] [own shI v0 (xs.set k x), own shI v1 ys] := by
  obtain ⟨a, d, q1, q2, _, ho, hf⟩ := OwU.focus (pre := []) (p := own shI v0 xs) (post := [own shI v1 ys]) h
  obtain ⟨b, off, c, hv, h1, h2, h3, h4, h5⟩ := owL_I_at (show OwL shI w a d v0 xs from ho) k hk
  exact ⟨b, off, c, hv, by omega, by omega, h3, h4, fun x => hf _ (own shI v0 (xs.set k x)) (h5 x).2 (h5 x).1⟩
theorem cset2 {w : World} {lo hi : Nat} {v0 v1 : Value} {xs ys : List Int} (h : OwU w lo hi [] [own shI v0 xs, own shI v1 ys]) (k : Nat) (hk : k < ys.length) :
    ∃ b off c, v1 = .slice (some ⟨b, off, none⟩) ys.length c ∧ lo ≤ b ∧ b < hi ∧ w.cell? ⟨b, off + k, none⟩ = some (.int .i64 (ys.getD k 0)) ∧ w.frozen? ⟨b, off + k, none⟩ = false ∧ ∀ x, OwU (w.setCell ⟨b, off + k, none⟩ (.int .i64 x)) lo hi [] [own shI v0 xs, own shI v1 (ys.set k x)] := by
  obtain ⟨a, d, q1, q2, _, ho, hf⟩ := OwU.focus (pre := [own shI v0 xs]) (p := own shI v1 ys) (post := []) h
  obtain ⟨b, off, c, hv, h1, h2, h3, h4, h5⟩ := owL_I_at (show OwL shI w a d v1 ys from ho) k hk
  exact ⟨b, off, c, hv, by omega, by omega, h3, h4, fun x => hf _ (own shI v1 (ys.set k x)) (h5 x).2 (h5 x).1⟩

/-- what add leaves: the credits in block g, changed at the class k -/
def AddPost (lo hi : Nat) (v0 v1 : Value) (xs ys : List Int) (W : World) (e : Ending) (w' : World) : Prop := e = .returned (.tuple #[]) ∧ OwU w' lo hi [] [own shI v0 xs, own shI v1 ys] ∧ Chg W w' lo hi

set_option maxRecDepth 8000 in
set_option maxHeartbeats 4000000 in
theorem crAdd (W : World) (gb lo hi k : Nat) (v0 v1 vp : Value) (xs ys : List Int) (p : DPacket) (s u su : Int) (hg : W.heap[gb]? = some (.cells #[v0, v1] 54 (0, 0))) (ho : OwU W lo hi [] [own shI v0 xs, own shI v1 ys]) (hgo : gb < lo ∨ hi ≤ gb) (hhi : hi ≤ W.heap.size) (hp : RdL shI W vp p.f7) (hpf : ∀ w, Chg W w lo hi → RdL shI w vp p.f7) (hl : szL shI p.f7 ≤ 1048576) (hc : clsD p = (k : Int)) (hkx : k < xs.length) (hky : k < ys.length) (hu : untD p = u) (e0 : IntKind.i64.wrap (s * u) = su) (x y : Int) (hx : x = xs.getD k 0) (hy : y = ys.getD k 0) (e1 : IntKind.i64.wrap (x + s) = x + s) (e2 : IntKind.i64.wrap (y + su) = y + su) : Calls Try.prog 124 #[.pointer (some ⟨gb, 0, none⟩), (vPacket p.f0 p.f1 p.f2 p.f3 p.f4 p.f5 p.f6 vp), .int .i64 s] W (AddPost lo hi v0 v1 (xs.set k (x + s)) (ys.set k (y + su)) W) := by
  have HP := Lib.hid hp
  have HPF := Lib.hid hpf
  have HX := Lib.hid hx
  have HY := Lib.hid hy
  clear hx hy
  have HCL := Lib.hid (show ∀ (W : World) (v : Value), RdL shI W v p.f7 → Calls Try.prog 125 #[vPacket p.f0 p.f1 p.f2 p.f3 p.f4 p.f5 p.f6 v] W (AnsN (.int .i64 (k : Int)) W) from fun W v H => by have q := implClsD W p v H hl; rw [hc] at q; exact q)
  have HUN := Lib.hid (show ∀ (W : World) (v : Value), RdL shI W v p.f7 → Calls Try.prog 126 #[vPacket p.f0 p.f1 p.f2 p.f3 p.f4 p.f5 p.f6 v] W (AnsN (.int .i64 u) W) from fun W v H => by have q := implUntD W p v H hl (by rw [hc]; omega); rw [hu] at q; exact q)
  clear hp hpf hc hu hl
  have hgl_ : gb < W.heap.size := lt_of_block hg
  unfold vPacket
  go_enter Try.func124, Try.ntmps124
  have rK1_ := Lib.hid (show ((W.alloc (.cells #[.int .i64 p.f0, .int .i64 p.f1, .int .i64 p.f2, .int .i64 p.f3, .int .i64 p.f4, .int .i64 p.f5, .int .i64 p.f6, vp] 29))).heap[W.heap.size]? = some (.cells #[.int .i64 p.f0, .int .i64 p.f1, .int .i64 p.f2, .int .i64 p.f3, .int .i64 p.f4, .int .i64 p.f5, .int .i64 p.f6, vp] 29 (0, 0)) from by exact heap_alloc_new _ _)
  have G2_ := Lib.hid (show (W).grownBy ((W.alloc (.cells #[.int .i64 p.f0, .int .i64 p.f1, .int .i64 p.f2, .int .i64 p.f3, .int .i64 p.f4, .int .i64 p.f5, .int .i64 p.f6, vp] 29))) none from (gby_alloc (gby_refl _ _) _))
  have K_0_ : ((W.alloc (.cells #[.int .i64 p.f0, .int .i64 p.f1, .int .i64 p.f2, .int .i64 p.f3, .int .i64 p.f4, .int .i64 p.f5, .int .i64 p.f6, vp] 29))).cell? ⟨W.heap.size, 0, none⟩ = some (.int .i64 p.f0) := cell_of_row _ _ 0 _ _ _ rK1_.out
  have K_1_ : ((W.alloc (.cells #[.int .i64 p.f0, .int .i64 p.f1, .int .i64 p.f2, .int .i64 p.f3, .int .i64 p.f4, .int .i64 p.f5, .int .i64 p.f6, vp] 29))).cell? ⟨W.heap.size, 1, none⟩ = some (.int .i64 p.f1) := cell_of_row _ _ 1 _ _ _ rK1_.out
  have K_2_ : ((W.alloc (.cells #[.int .i64 p.f0, .int .i64 p.f1, .int .i64 p.f2, .int .i64 p.f3, .int .i64 p.f4, .int .i64 p.f5, .int .i64 p.f6, vp] 29))).cell? ⟨W.heap.size, 2, none⟩ = some (.int .i64 p.f2) := cell_of_row _ _ 2 _ _ _ rK1_.out
  have K_3_ : ((W.alloc (.cells #[.int .i64 p.f0, .int .i64 p.f1, .int .i64 p.f2, .int .i64 p.f3, .int .i64 p.f4, .int .i64 p.f5, .int .i64 p.f6, vp] 29))).cell? ⟨W.heap.size, 3, none⟩ = some (.int .i64 p.f3) := cell_of_row _ _ 3 _ _ _ rK1_.out
  have K_4_ : ((W.alloc (.cells #[.int .i64 p.f0, .int .i64 p.f1, .int .i64 p.f2, .int .i64 p.f3, .int .i64 p.f4, .int .i64 p.f5, .int .i64 p.f6, vp] 29))).cell? ⟨W.heap.size, 4, none⟩ = some (.int .i64 p.f4) := cell_of_row _ _ 4 _ _ _ rK1_.out
  have K_5_ : ((W.alloc (.cells #[.int .i64 p.f0, .int .i64 p.f1, .int .i64 p.f2, .int .i64 p.f3, .int .i64 p.f4, .int .i64 p.f5, .int .i64 p.f6, vp] 29))).cell? ⟨W.heap.size, 5, none⟩ = some (.int .i64 p.f5) := cell_of_row _ _ 5 _ _ _ rK1_.out
  have K_6_ : ((W.alloc (.cells #[.int .i64 p.f0, .int .i64 p.f1, .int .i64 p.f2, .int .i64 p.f3, .int .i64 p.f4, .int .i64 p.f5, .int .i64 p.f6, vp] 29))).cell? ⟨W.heap.size, 6, none⟩ = some (.int .i64 p.f6) := cell_of_row _ _ 6 _ _ _ rK1_.out
  have K_7_ : ((W.alloc (.cells #[.int .i64 p.f0, .int .i64 p.f1, .int .i64 p.f2, .int .i64 p.f3, .int .i64 p.f4, .int .i64 p.f5, .int .i64 p.f6, vp] 29))).cell? ⟨W.heap.size, 7, none⟩ = some (vp) := cell_of_row _ _ 7 _ _ _ rK1_.out
  have rG3_ := Lib.hid (show ((W.alloc (.cells #[.int .i64 p.f0, .int .i64 p.f1, .int .i64 p.f2, .int .i64 p.f3, .int .i64 p.f4, .int .i64 p.f5, .int .i64 p.f6, vp] 29))).heap[gb]? = some (.cells #[v0, v1] 54 (0, 0)) from row_held G2_.out hg)
  have oC4_ := Lib.hid (show OwU ((W.alloc (.cells #[.int .i64 p.f0, .int .i64 p.f1, .int .i64 p.f2, .int .i64 p.f3, .int .i64 p.f4, .int .i64 p.f5, .int .i64 p.f6, vp] 29))) (lo) (hi) [] [own shI v0 xs, own shI v1 ys] from ho.grow G2_.out)
  clear hg ho
  have G_0_ : ((W.alloc (.cells #[.int .i64 p.f0, .int .i64 p.f1, .int .i64 p.f2, .int .i64 p.f3, .int .i64 p.f4, .int .i64 p.f5, .int .i64 p.f6, vp] 29))).cell? ⟨gb, 0, none⟩ = some (v0) := cell_of_row _ _ 0 _ _ _ rG3_.out
  have G_1_ : ((W.alloc (.cells #[.int .i64 p.f0, .int .i64 p.f1, .int .i64 p.f2, .int .i64 p.f3, .int .i64 p.f4, .int .i64 p.f5, .int .i64 p.f6, vp] 29))).cell? ⟨gb, 1, none⟩ = some (v1) := cell_of_row _ _ 1 _ _ _ rG3_.out
  go_wp2_with fail
  go_at_call 125
  refine (HCL.out _ _ (HP.out.grow G2_.out)).mono ?_
  rintro e w1 ⟨rfl, g⟩
  have szw1 := g.size
  try simp only [World.size_alloc] at szw1
  try simp only [World.size_setCell] at szw1
  clear K_0_ K_1_ K_2_ K_3_ K_4_ K_5_ K_6_ K_7_ G_0_ G_1_
  have rK5_ := Lib.hid (show (w1).heap[W.heap.size]? = some (.cells #[.int .i64 p.f0, .int .i64 p.f1, .int .i64 p.f2, .int .i64 p.f3, .int .i64 p.f4, .int .i64 p.f5, .int .i64 p.f6, vp] 29 (0, 0)) from row_held g rK1_.out)
  clear rK1_
  have rG6_ := Lib.hid (show (w1).heap[gb]? = some (.cells #[v0, v1] 54 (0, 0)) from row_held g rG3_.out)
  clear rG3_
  have oC7_ := Lib.hid (show OwU (w1) (lo) (hi) [] [own shI v0 xs, own shI v1 ys] from OwU.grow oC4_.out g)
  clear oC4_
  have G8_ := Lib.hid (show (W).grownBy (w1) none from gby_trans G2_.out g)
  clear g
  have K_0_ : (w1).cell? ⟨W.heap.size, 0, none⟩ = some (.int .i64 p.f0) := cell_of_row _ _ 0 _ _ _ rK5_.out
  have K_1_ : (w1).cell? ⟨W.heap.size, 1, none⟩ = some (.int .i64 p.f1) := cell_of_row _ _ 1 _ _ _ rK5_.out
  have K_2_ : (w1).cell? ⟨W.heap.size, 2, none⟩ = some (.int .i64 p.f2) := cell_of_row _ _ 2 _ _ _ rK5_.out
  have K_3_ : (w1).cell? ⟨W.heap.size, 3, none⟩ = some (.int .i64 p.f3) := cell_of_row _ _ 3 _ _ _ rK5_.out
  have K_4_ : (w1).cell? ⟨W.heap.size, 4, none⟩ = some (.int .i64 p.f4) := cell_of_row _ _ 4 _ _ _ rK5_.out
  have K_5_ : (w1).cell? ⟨W.heap.size, 5, none⟩ = some (.int .i64 p.f5) := cell_of_row _ _ 5 _ _ _ rK5_.out
  have K_6_ : (w1).cell? ⟨W.heap.size, 6, none⟩ = some (.int .i64 p.f6) := cell_of_row _ _ 6 _ _ _ rK5_.out
  have K_7_ : (w1).cell? ⟨W.heap.size, 7, none⟩ = some (vp) := cell_of_row _ _ 7 _ _ _ rK5_.out
  have G_0_ : (w1).cell? ⟨gb, 0, none⟩ = some (v0) := cell_of_row _ _ 0 _ _ _ rG6_.out
  have G_1_ : (w1).cell? ⟨gb, 1, none⟩ = some (v1) := cell_of_row _ _ 1 _ _ _ rG6_.out
  clear K_0_ K_1_ K_2_ K_3_ K_4_ K_5_ K_6_ K_7_ G_0_ G_1_
  obtain ⟨b0, o0, c0, hv0, l0, h0, ce0, fr0, st0⟩ := cset1 oC7_.out k hkx
  obtain ⟨b1, o1, c1, hv1, l1, h1, _, _, _⟩ := cset2 oC7_.out k hky
  subst hv0 hv1
  have hw1_ : hi ≤ w1.heap.size := by have := szw1; omega
  rw [← HX.out] at ce0
  have HS0 := Lib.hid (st0 (x + s))
  clear st0
  have hk0 : (0 : Int) ≤ (k : Int) := by omega
  have htk : ((k : Int)).toNat = k := by omega
  have hkxi : (k : Int) < (xs.length : Int) := by omega
  have hkyi : (k : Int) < (ys.length : Int) := by omega
  have ng0 : ¬ gb = b0 := by omega
  have ng0' : ¬ b0 = gb := by omega
  have ng1 : ¬ gb = b1 := by omega
  have ng1' : ¬ b1 = gb := by omega
  have nk0 : ¬ W.heap.size = b0 := by omega
  have nk0b : ¬ b0 = W.heap.size := by omega
  have nk1 : ¬ W.heap.size = b1 := by omega
  have nk1b : ¬ b1 = W.heap.size := by omega
  have K_0_ : (w1).cell? ⟨W.heap.size, 0, none⟩ = some (.int .i64 p.f0) := cell_of_row _ _ 0 _ _ _ rK5_.out
  have K_1_ : (w1).cell? ⟨W.heap.size, 1, none⟩ = some (.int .i64 p.f1) := cell_of_row _ _ 1 _ _ _ rK5_.out
  have K_2_ : (w1).cell? ⟨W.heap.size, 2, none⟩ = some (.int .i64 p.f2) := cell_of_row _ _ 2 _ _ _ rK5_.out
  have K_3_ : (w1).cell? ⟨W.heap.size, 3, none⟩ = some (.int .i64 p.f3) := cell_of_row _ _ 3 _ _ _ rK5_.out
  have K_4_ : (w1).cell? ⟨W.heap.size, 4, none⟩ = some (.int .i64 p.f4) := cell_of_row _ _ 4 _ _ _ rK5_.out
  have K_5_ : (w1).cell? ⟨W.heap.size, 5, none⟩ = some (.int .i64 p.f5) := cell_of_row _ _ 5 _ _ _ rK5_.out
  have K_6_ : (w1).cell? ⟨W.heap.size, 6, none⟩ = some (.int .i64 p.f6) := cell_of_row _ _ 6 _ _ _ rK5_.out
  have K_7_ : (w1).cell? ⟨W.heap.size, 7, none⟩ = some (vp) := cell_of_row _ _ 7 _ _ _ rK5_.out
  have G_0_ : (w1).cell? ⟨gb, 0, none⟩ = some (.slice (some ⟨b0, o0, none⟩) xs.length c0) := cell_of_row _ _ 0 _ _ _ rG6_.out
  have G_1_ : (w1).cell? ⟨gb, 1, none⟩ = some (.slice (some ⟨b1, o1, none⟩) ys.length c1) := cell_of_row _ _ 1 _ _ _ rG6_.out
  go_wp2_with fail
  clear K_0_ K_1_ K_2_ K_3_ K_4_ K_5_ K_6_ K_7_ G_0_ G_1_
  clear ce0 fr0
  have hs1_ : ((w1.setCell ⟨b0, o0 + k, none⟩ (.int .i64 (x + s)))).heap.size = w1.heap.size := by simp only [World.size_setCell]
  have G1_ := Lib.hid (show Chg W ((w1.setCell ⟨b0, o0 + k, none⟩ (.int .i64 (x + s)))) lo hi from chg_setp (chg_gby G8_.out lo hi) ⟨b0, o0 + k, none⟩ l0 h0 _)
  have RG_ := Lib.hid (show ((w1.setCell ⟨b0, o0 + k, none⟩ (.int .i64 (x + s)))).heap[gb]? = some (.cells #[.slice (some ⟨b0, o0, none⟩) xs.length c0, .slice (some ⟨b1, o1, none⟩) ys.length c1] 54 (0, 0)) from set_far rG6_.out (by dsimp only; omega))
  have RK_ := Lib.hid (show ((w1.setCell ⟨b0, o0 + k, none⟩ (.int .i64 (x + s)))).heap[W.heap.size]? = some (.cells #[.int .i64 p.f0, .int .i64 p.f1, .int .i64 p.f2, .int .i64 p.f3, .int .i64 p.f4, .int .i64 p.f5, .int .i64 p.f6, vp] 29 (0, 0)) from set_far rK5_.out (by dsimp only; omega))
  have HP1 := Lib.hid (show RdL shI ((w1.setCell ⟨b0, o0 + k, none⟩ (.int .i64 (x + s)))) vp p.f7 from HPF.out _ (show Chg W ((w1.setCell ⟨b0, o0 + k, none⟩ (.int .i64 (x + s)))) lo hi from G1_.out))
  generalize (w1.setCell ⟨b0, o0 + k, none⟩ (.int .i64 (x + s))) = w9 at HS0 hs1_ G1_ RG_ RK_ HP1 ⊢
  obtain ⟨b2, o2, c2, hv2, l2, h2, ce1, fr1, st1⟩ := cset2 HS0.out k hky
  injection hv2 with q1_ q2_ q3_
  injection q1_ with q1_
  injection q1_ with q4_ q5_ _
  subst q4_ q5_
  clear q2_ q3_
  rw [← HY.out] at ce1
  have HS1 := Lib.hid (st1 (y + su))
  clear st1
  have hb1w : b1 < w9.heap.size := World.block_lt_of_cell? _ _ ce1
  have g1_ : w9.cell? ⟨gb, 1, none⟩ = some (.slice (some ⟨b1, o1, none⟩) ys.length c1) := cell_of_row _ _ 1 _ _ _ RG_.out
  have hRK := RK_.out
  have k0_ : w9.cell? ⟨W.heap.size, 0, none⟩ = some (.int .i64 p.f0) := cell_of_row _ _ 0 _ _ _ hRK
  have k1_ : w9.cell? ⟨W.heap.size, 1, none⟩ = some (.int .i64 p.f1) := cell_of_row _ _ 1 _ _ _ hRK
  have k2_ : w9.cell? ⟨W.heap.size, 2, none⟩ = some (.int .i64 p.f2) := cell_of_row _ _ 2 _ _ _ hRK
  have k3_ : w9.cell? ⟨W.heap.size, 3, none⟩ = some (.int .i64 p.f3) := cell_of_row _ _ 3 _ _ _ hRK
  have k4_ : w9.cell? ⟨W.heap.size, 4, none⟩ = some (.int .i64 p.f4) := cell_of_row _ _ 4 _ _ _ hRK
  have k5_ : w9.cell? ⟨W.heap.size, 5, none⟩ = some (.int .i64 p.f5) := cell_of_row _ _ 5 _ _ _ hRK
  have k6_ : w9.cell? ⟨W.heap.size, 6, none⟩ = some (.int .i64 p.f6) := cell_of_row _ _ 6 _ _ _ hRK
  have k7_ : w9.cell? ⟨W.heap.size, 7, none⟩ = some (vp) := cell_of_row _ _ 7 _ _ _ hRK
  have HP9 := Lib.hid (HP1.out.grow (gby_drew (gby_refl _ none)))
  go_wp2_with fail
  go_region_law (first
    | (go_simp; go_at_call 126; refine (HUN.out _ _ HP9.out).mono ?_; rintro e wA ⟨rfl, gA⟩; have a1_ : wA.cell? ⟨gb, 1, none⟩ = some (.slice (some ⟨b1, o1, none⟩) ys.length c1) := (gby_trans (gby_drew (gby_refl w9 none)) gA).cell g1_ (by simp); have ae_ : wA.cell? ⟨b1, o1 + k, none⟩ = some (.int .i64 y) := (gby_trans (gby_drew (gby_refl w9 none)) gA).cell ce1 (by simp); have af_ : wA.frozen? ⟨b1, o1 + k, none⟩ = false := ((gby_trans (gby_drew (gby_refl w9 none)) gA).frozen_far ⟨b1, o1 + k, none⟩ hb1w (by simp)).trans fr1; have GA := Lib.hid (gby_trans (gby_drew (gby_refl w9 none)) gA))
    | fail)
  all_goals
    go_wp2
    (try simp only [Exit.inBlock, Exit.then])
    refine bodyPost_end (results_none rfl _ _ _) rfl ?_
    obtain ⟨b3, o3, c3, hv3, l3, h3, _, _, st3⟩ := cset2 (HS0.out.grow GA.out) k hky
    injection hv3 with q1_ q2_ q3_
    injection q1_ with q1_
    injection q1_ with q4_ q5_ _
    subst q4_ q5_
    exact ⟨rfl, st3 _, chg_setp (chg_trans G1_.out (chg_gby GA.out lo hi)) ⟨b1, o1 + k, none⟩ l3 h3 _⟩

end Go.Proofs.Ytgagbhkidponnac
