/-
  Grant of the program.
-/
import Derived.Test.YtgagbhkidponnadGrantF
namespace Go.Proofs.Ytgagbhkidponnad
open Go Go.RowKit
set_option linter.unusedVariables false

theorem row_drew {w : World} {b : Nat} {o : Obj} (h : w.heap[b]? = some o) : w.drew.heap[b]? = some o := h
/-- what the method grant leaves: the arbiter in block g -/
def GrPost (g : Nat) (sl : Value) (p l : Int) (W : World) (e : Ending) (w' : World) : Prop := e = .returned (.int .i64 p) ∧ w'.heap[g]? = some (.cells #[sl, .int .i64 p, .int .i64 l] 44 (0, 0)) ∧ Chg W w' g (g + 1)

set_option maxRecDepth 8000 in
set_option maxHeartbeats 2000000 in
theorem grant_direct (W : World) (g : Nat) (b3 o3 k3 b2 o2 k2 n tn : Nat) (l : Int) (xs : List Int) (ask : List Bool) (hg : W.heap[g]? = some (.cells #[.slice (some ⟨b3, o3, none⟩) n k3, .int .i64 (tn : Int), .int .i64 l] 44 (0, 0))) (hW : ∀ k, k < n → W.cell? ⟨b3, o3 + k, none⟩ = some (.int .i64 (xs.getD k 0))) (hA : ∀ k, k < n → W.cell? ⟨b2, o2 + k, none⟩ = some (.bool (ak ask k))) (n1 : ¬ g = b3) (n2 : ¬ g = b2) (hn : 1 ≤ n) (hn4 : n ≤ 4) (ht : tn < n) (hl0 : 0 ≤ l) (hl9 : l ≤ 9) (hd : ak ask tn = true) (hlp : 0 < l) : Calls Try.prog 61 #[.pointer (some ⟨g, 0, none⟩), .slice (some ⟨b2, o2, none⟩) n k2] W (GrPost g (.slice (some ⟨b3, o3, none⟩) n k3) (tn : Int) (l - 1) W) := by
  have HG := Lib.hid hg
  have HW := Lib.hid hW
  have HA := Lib.hid hA
  have hti : (tn : Int) < (n : Int) := by omega
  have ht0 : (0 : Int) ≤ (tn : Int) := by omega
  have htt : ((tn : Int)).toNat = tn := by omega
  have n3 : ¬ b3 = g := fun q => n1 q.symm
  have n4 : ¬ b2 = g := fun q => n2 q.symm
  have c0_ : W.cell? ⟨g, 0, none⟩ = some (.slice (some ⟨b3, o3, none⟩) n k3) := cell_of_row _ _ 0 _ _ _ HG.out
  have c1_ : W.cell? ⟨g, 1, none⟩ = some (.int .i64 (tn : Int)) := cell_of_row _ _ 1 _ _ _ HG.out
  have c2_ : W.cell? ⟨g, 2, none⟩ = some (.int .i64 l) := cell_of_row _ _ 2 _ _ _ HG.out
  have f1_ := frozen_of_row W _ 1 _ _ HG.out
  have f2_ := frozen_of_row W _ 2 _ _ HG.out
  have at_ := HA.out tn ht
  clear hg hW hA
  rw [hd] at at_
  have e1_ : (l == 0) = false := beq_eq_false_iff_ne.2 (by omega)
  have w1_ : IntKind.i64.wrap (l - 1) = l - 1 := IntWalk.i64_in _ (by omega)
  have HR := Lib.hid (show (W.setCell ⟨g, 2, none⟩ (.int .i64 (l - 1))).heap[g]? = some (.cells #[.slice (some ⟨b3, o3, none⟩) n k3, .int .i64 (tn : Int), .int .i64 (l - 1)] 44 (0, 0)) from heap_setCell_same _ _ 2 _ _ _ HG.out)
  clear hd
  go_enter Try.func61, Try.ntmps61
  go_wp2
  go_ret
  exact ⟨rfl, HR.out, chg_one _ _ _ _⟩

set_option maxRecDepth 8000 in
set_option maxHeartbeats 4000000 in
theorem grant_found (W : World) (g : Nat) (b3 o3 k3 b2 o2 k2 n tn : Nat) (l : Int) (xs : List Int) (ask : List Bool) (hg : W.heap[g]? = some (.cells #[.slice (some ⟨b3, o3, none⟩) n k3, .int .i64 (tn : Int), .int .i64 l] 44 (0, 0))) (hW : ∀ k, k < n → W.cell? ⟨b3, o3 + k, none⟩ = some (.int .i64 (xs.getD k 0))) (hA : ∀ k, k < n → W.cell? ⟨b2, o2 + k, none⟩ = some (.bool (ak ask k))) (n1 : ¬ g = b3) (n2 : ¬ g = b2) (hn : 1 ≤ n) (hn4 : n ≤ 4) (ht : tn < n) (hl0 : 0 ≤ l) (hl9 : l ≤ 9) (hd : ak ask tn = false ∨ l = 0) (k p : Nat) (y : Int) (hN : NextAt ask tn n k) (hP : (tn + k) % n = p ∧ xs.getD p 0 = y) (hy1 : 1 ≤ y) (hy9 : y ≤ 9) : Calls Try.prog 61 #[.pointer (some ⟨g, 0, none⟩), .slice (some ⟨b2, o2, none⟩) n k2] W (GrPost g (.slice (some ⟨b3, o3, none⟩) n k3) (p : Int) (y - 1) W) := by
  have HG := Lib.hid hg
  have HW := Lib.hid hW
  have HA := Lib.hid hA
  have hti : (tn : Int) < (n : Int) := by omega
  have ht0 : (0 : Int) ≤ (tn : Int) := by omega
  have htt : ((tn : Int)).toNat = tn := by omega
  have n3 : ¬ b3 = g := fun q => n1 q.symm
  have n4 : ¬ b2 = g := fun q => n2 q.symm
  have c0_ : W.cell? ⟨g, 0, none⟩ = some (.slice (some ⟨b3, o3, none⟩) n k3) := cell_of_row _ _ 0 _ _ _ HG.out
  have c1_ : W.cell? ⟨g, 1, none⟩ = some (.int .i64 (tn : Int)) := cell_of_row _ _ 1 _ _ _ HG.out
  have c2_ : W.cell? ⟨g, 2, none⟩ = some (.int .i64 l) := cell_of_row _ _ 2 _ _ _ HG.out
  have f1_ := frozen_of_row W _ 1 _ _ HG.out
  have f2_ := frozen_of_row W _ 2 _ _ HG.out
  have at_ := HA.out tn ht
  clear hg hW hA
  have HN := Lib.hid hN
  have HP := Lib.hid hP
  have hpn : p < n := by rw [← hP.1]; exact Nat.mod_lt _ (by omega)
  have hp0 : (0 : Int) ≤ (p : Int) := by omega
  have hpi : (p : Int) < (n : Int) := by omega
  have htp : ((p : Int)).toNat = p := by omega
  have w1_ : IntKind.i64.wrap (y - 1) = y - 1 := IntWalk.i64_in _ (by omega)
  clear hN hP
  cases hak : ak ask tn with
  | false =>
    rw [hak] at at_
    clear hd hak
    go_enter Try.func61, Try.ntmps61
    go_wp2_with fail
    go_at_call 67
    refine (implNext_yes _ b2 o2 k2 n tn k ask HA.out hn hn4 ht HN.out).mono ?_
    rintro e w1 ⟨rfl, gg⟩
    rw [HP.out.1]
    have HG1 := Lib.hid (row_held gg HG.out)
    have GG := Lib.hid gg
    have cw_ := gg.cell (HW.out p hpn) (by simp)
    rw [HP.out.2] at cw_
    clear gg c0_ c1_ c2_ f1_ f2_ at_
    have c0_ : w1.cell? ⟨g, 0, none⟩ = some (.slice (some ⟨b3, o3, none⟩) n k3) := cell_of_row _ _ 0 _ _ _ HG1.out
    have c1_ : w1.cell? ⟨g, 1, none⟩ = some (.int .i64 (tn : Int)) := cell_of_row _ _ 1 _ _ _ HG1.out
    have c2_ : w1.cell? ⟨g, 2, none⟩ = some (.int .i64 l) := cell_of_row _ _ 2 _ _ _ HG1.out
    have f1_ := frozen_of_row w1 _ 1 _ _ HG1.out
    have f2_ := frozen_of_row w1 _ 2 _ _ HG1.out
    have HR := Lib.hid (show (((w1.setCell ⟨g, 1, none⟩ (.int .i64 (p : Int))).setCell ⟨g, 2, none⟩ (.int .i64 y)).setCell ⟨g, 2, none⟩ (.int .i64 (y - 1))).heap[g]? = some (.cells #[.slice (some ⟨b3, o3, none⟩) n k3, .int .i64 (p : Int), .int .i64 (y - 1)] 44 (0, 0)) from heap_setCell_same _ _ 2 _ _ _ (heap_setCell_same _ _ 2 _ _ _ (heap_setCell_same _ _ 1 _ _ _ HG1.out)))
    have HC := Lib.hid (show Chg W (((w1.setCell ⟨g, 1, none⟩ (.int .i64 (p : Int))).setCell ⟨g, 2, none⟩ (.int .i64 y)).setCell ⟨g, 2, none⟩ (.int .i64 (y - 1))) g (g + 1) from chg_trans (chg_gby GG.out _ _) (chg_trans (chg_one _ _ _ _) (chg_trans (chg_one _ _ _ _) (chg_one _ _ _ _))))
    go_wp2_with fail
    go_region_with (fail)
    all_goals
      go_wp2
      go_ret
      exact ⟨rfl, row_drew HR.out, chg_trans HC.out (chg_gby (gby_drew (gby_refl _ _)) _ _)⟩
  | true =>
    rw [hak] at at_ hd
    obtain rfl : l = 0 := hd.resolve_left (by simp)
    have e1_ : ((0 : Int) == 0) = true := rfl
    clear hd hak
    go_enter Try.func61, Try.ntmps61
    go_wp2_with fail
    go_at_call 67
    refine (implNext_yes _ b2 o2 k2 n tn k ask HA.out hn hn4 ht HN.out).mono ?_
    rintro e w1 ⟨rfl, gg⟩
    rw [HP.out.1]
    have HG1 := Lib.hid (row_held gg HG.out)
    have GG := Lib.hid gg
    have cw_ := gg.cell (HW.out p hpn) (by simp)
    rw [HP.out.2] at cw_
    clear gg c0_ c1_ c2_ f1_ f2_ at_
    have c0_ : w1.cell? ⟨g, 0, none⟩ = some (.slice (some ⟨b3, o3, none⟩) n k3) := cell_of_row _ _ 0 _ _ _ HG1.out
    have c1_ : w1.cell? ⟨g, 1, none⟩ = some (.int .i64 (tn : Int)) := cell_of_row _ _ 1 _ _ _ HG1.out
    have c2_ : w1.cell? ⟨g, 2, none⟩ = some (.int .i64 0) := cell_of_row _ _ 2 _ _ _ HG1.out
    have f1_ := frozen_of_row w1 _ 1 _ _ HG1.out
    have f2_ := frozen_of_row w1 _ 2 _ _ HG1.out
    have HR := Lib.hid (show (((w1.setCell ⟨g, 1, none⟩ (.int .i64 (p : Int))).setCell ⟨g, 2, none⟩ (.int .i64 y)).setCell ⟨g, 2, none⟩ (.int .i64 (y - 1))).heap[g]? = some (.cells #[.slice (some ⟨b3, o3, none⟩) n k3, .int .i64 (p : Int), .int .i64 (y - 1)] 44 (0, 0)) from heap_setCell_same _ _ 2 _ _ _ (heap_setCell_same _ _ 2 _ _ _ (heap_setCell_same _ _ 1 _ _ _ HG1.out)))
    have HC := Lib.hid (show Chg W (((w1.setCell ⟨g, 1, none⟩ (.int .i64 (p : Int))).setCell ⟨g, 2, none⟩ (.int .i64 y)).setCell ⟨g, 2, none⟩ (.int .i64 (y - 1))) g (g + 1) from chg_trans (chg_gby GG.out _ _) (chg_trans (chg_one _ _ _ _) (chg_trans (chg_one _ _ _ _) (chg_one _ _ _ _))))
    go_wp2_with fail
    go_region_with (fail)
    all_goals
      go_wp2
      go_ret
      exact ⟨rfl, row_drew HR.out, chg_trans HC.out (chg_gby (gby_drew (gby_refl _ _)) _ _)⟩

end Go.Proofs.Ytgagbhkidponnad
