/-
  Credits copied by the program.
-/
import Derived.Test.YtomiicegkdogkaaClone
import Derived.Test.YtomiicegkdogkaaQCredits
import Derived.Deep.RegionHeld3
namespace Go.Proofs.Ytomiicegkdogkaa
open Go Go.RowKit
set_option linter.unusedVariables false

theorem cloneD (W : World) (v : Value) (xs : List Int) (H : RdL shI W v xs) (hl : szL shI xs ≤ 1048576) :
    Calls Try.prog 123 #[v] W (fun e w' => ∃ v', e = .returned v' ∧ OwL shI w' W.heap.size w'.heap.size v' xs ∧ W.grownBy w' none) := by
  rw [szL_I] at hl
  refine (clone_any W v xs (rdI_in H) hl).mono ?_
  rintro e w' ⟨v', rfl, o, g⟩
  exact ⟨v', rfl, owI_out (by omega) o, g⟩

theorem far2 {w : World} {b j : Nat} {v : Value} {p q : Addr} {x y : Value} (h : w.cell? ⟨b, j, none⟩ = some v) (hp : b ≠ p.block) (hq : b ≠ q.block) : ((w.setCell p x).setCell q y).cell? ⟨b, j, none⟩ = some v := by
  rw [World.cell?_setCell_far _ _ _ _ (fun e => hq e.symm), World.cell?_setCell_far _ _ _ _ (fun e => hp e.symm)]; exact h

set_option maxRecDepth 8000 in
set_option maxHeartbeats 4000000 in
theorem copiedCr_d (W : World) (v0 v1 : Value) (xs0 xs1 : List Int) (H0 : RdL shI W v0 xs0) (H1 : RdL shI W v1 xs1) (hl0 : szL shI xs0 ≤ 1048576) (hl1 : szL shI xs1 ≤ 1048576) :
    Calls Try.prog 87 #[vCredits v0 v1] W (NewCredits xs0 xs1 W) := by
  have HI0 := Lib.hid H0
  have HI1 := Lib.hid H1
  clear H0 H1
  unfold vCredits
  have hrA := Lib.hid (show ((W.alloc (.cells #[v0, v1] 54)).alloc (.cells #[.slice none 0 0, .slice none 0 0] 54)).heap[W.heap.size]? = some (.cells #[v0, v1] 54) from by rw [heap_alloc_old _ _ (by simp)]; exact heap_alloc_new W _)
  have hrZ := Lib.hid (show ((W.alloc (.cells #[v0, v1] 54)).alloc (.cells #[.slice none 0 0, .slice none 0 0] 54)).heap[W.heap.size + 1]? = some (.cells #[.slice none 0 0, .slice none 0 0] 54) from heap_pair W _ _)
  have k0 : ((W.alloc (.cells #[v0, v1] 54)).alloc (.cells #[.slice none 0 0, .slice none 0 0] 54)).cell? ⟨W.heap.size, 0, none⟩ = some v0 := cell_of_row _ _ 0 _ _ _ hrA.out
  have k1 : ((W.alloc (.cells #[v0, v1] 54)).alloc (.cells #[.slice none 0 0, .slice none 0 0] 54)).cell? ⟨W.heap.size, 1, none⟩ = some v1 := cell_of_row _ _ 1 _ _ _ hrA.out
  go_enter Try.func87, Try.ntmps87
  go_wp2_with fail
  go_region_held3 (fun w' => w'.cell? ⟨W.heap.size, 0, none⟩ = some v0 ∧ w'.cell? ⟨W.heap.size, 1, none⟩ = some v1)
    (first
      | exact ⟨k0, k1⟩
      | exact ⟨gA.cell k0 (by simp), gA.cell k1 (by simp)⟩
      | exact ⟨gB.cell (gA.cell k0 (by simp)) (by simp), gB.cell (gA.cell k1 (by simp)) (by simp)⟩
      | exact ⟨far2 (gB.cell (gA.cell k0 (by simp)) (by simp)) (by simp) (by simp), far2 (gB.cell (gA.cell k1 (by simp)) (by simp)) (by simp) (by simp)⟩)
    (first
      | (go_at_call_of 123 v0; refine (cloneD _ v0 xs0 (HI0.out.grow (gby_drew (gby_alloc (gby_alloc (gby_refl _ _) _) _))) hl0).mono ?_; rintro e wA ⟨dA, rfl, oA, gA⟩; obtain ⟨pA, nA, cA, hvA⟩ := RdL.form (OwL.rd oA); subst hvA; have ZA := row_held gA (show (World.drew ((W.alloc (.cells #[v0, v1] 54)).alloc (.cells #[.slice none 0 0, .slice none 0 0] 54))).heap[W.heap.size + 1]? = _ from hrZ.out))
      | (go_at_call_of 123 v1; refine (cloneD _ v1 xs1 (HI1.out.grow (gby_trans (gby_drew (gby_alloc (gby_alloc (gby_refl _ _) _) _)) gA)) hl1).mono ?_; rintro e wB ⟨dB, rfl, oB, gB⟩; obtain ⟨pB, nB, cB, hvB⟩ := RdL.form (OwL.rd oB); subst hvB; have ZB := row_held gB ZA; have z0 : wB.cell? ⟨W.heap.size + 1, 0, none⟩ = some (.slice none 0 0) := cell_of_row _ _ 0 _ _ _ ZB; have z1 : wB.cell? ⟨W.heap.size + 1, 1, none⟩ = some (.slice none 0 0) := cell_of_row _ _ 1 _ _ _ ZB; have f0 := frozen_of_row wB _ 0 _ _ ZB; have f1 := frozen_of_row wB _ 1 _ _ ZB))
  all_goals
    have sz0 : (World.drew ((W.alloc (.cells #[v0, v1] 54)).alloc (.cells #[.slice none 0 0, .slice none 0 0] 54))).heap.size = W.heap.size + 1 + 1 := by show ((W.alloc (.cells #[v0, v1] 54)).alloc (.cells #[.slice none 0 0, .slice none 0 0] 54)).heap.size = _; simp
    have sA := gA.size
    have sB := gB.size
    rw [sz0] at oA sA
    have G := Lib.hid (show W.grownBy wB none from gby_trans (gby_trans (gby_drew (gby_alloc (gby_alloc (gby_refl W none) _) _)) gA) gB)
    have OO := Lib.hid (show OwU wB (W.heap.size + 1 + 1) wB.heap.size [] [own shI (.slice pA nA cA) xs0, own shI (.slice pB nB cB) xs1] from OwU.two (OwL.grow oA gB) oB (Nat.le_refl _) (by omega) (by omega))
    have C := Lib.hid (chg_trans (chg_one wB (W.heap.size + 1) 0 (.slice pA nA cA)) (chg_one _ (W.heap.size + 1) 1 (.slice pB nB cB)))
    have ZB2 := Lib.hid (heap_setCell_same _ _ 1 _ _ (.slice pB nB cB) (heap_setCell_same wB _ 0 _ _ (.slice pA nA cA) ZB))
    have r0 : ((wB.setCell ⟨W.heap.size + 1, 0, none⟩ (.slice pA nA cA)).setCell ⟨W.heap.size + 1, 1, none⟩ (.slice pB nB cB)).cell? ⟨W.heap.size + 1, 0, none⟩ = some (.slice pA nA cA) := cell_of_row _ _ 0 _ _ _ ZB2.out
    have r1 : ((wB.setCell ⟨W.heap.size + 1, 0, none⟩ (.slice pA nA cA)).setCell ⟨W.heap.size + 1, 1, none⟩ (.slice pB nB cB)).cell? ⟨W.heap.size + 1, 1, none⟩ = some (.slice pB nB cB) := cell_of_row _ _ 1 _ _ _ ZB2.out
    clear oA oB gA gB ZA ZB z0 z1 f0 f1 k0 k1
    go_wp2
    refine bodyPost_ret (v := vCredits (.slice pA nA cA) (.slice pB nB cB)) (by simp [results, go_sem, vCredits, r0, r1]) rfl ⟨_, _, rfl, ?_, ?_⟩
    · exact OwU.wide (by omega) (by simp) (OwU.keep C.out (.inr (by omega)) OO.out)
    · exact gby_chg G.out C.out (by omega)

end Go.Proofs.Ytomiicegkdogkaa
