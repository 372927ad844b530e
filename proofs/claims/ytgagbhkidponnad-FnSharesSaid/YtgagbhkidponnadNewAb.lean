/-
  NewArbiter on both sides.
-/
import Derived.Test.YtgagbhkidponnadArb
import Derived.Test.YtgagbhkidponnadClone
import Derived.Deep.RegionHeld3
namespace Go.Proofs.Ytgagbhkidponnad
open Go Go.RowKit
set_option linter.unusedVariables false

/-- no arbiter -/
theorem madeNo {W w : World} (g : W.grownBy w none) (hle : W.heap.size ≤ w.heap.size) : MadeArbiterB [] 0 0 false W (.returned (.tuple #[abV none 0 0 0 0, .bool false])) w :=
  ⟨none, 0, rfl, owS_one (owI_row (World.ownsRow_nil _ _ _ _)) hle, g⟩

set_option maxRecDepth 8000 in
set_option maxHeartbeats 2000000 in
theorem implNewAb_in (W : World) (a : Option Addr) (n c : Nat) (ws : List Int) (H : RdI W (.slice a n c) ws) (hl : n ≤ 1048576) (h0 : 0 < n) (x : Int) (hx : x = ws.getD 0 0) (hok : ArbOk ws 0 x) :
    Calls Try.prog 43 #[.slice a n c] W (MadeArbiterB ws 0 x true W) := by
  have HR := Lib.hid H
  obtain ⟨a', c', hv, hi, hcap⟩ := H
  injection hv with e1 e2 e3
  subst e1 e3
  have hd : decide (ArbOk ws 0 x) = true := decide_eq_true hok
  have hl' : ws.length ≤ 1048576 := by omega
  obtain ⟨b, off, rfl, hcell⟩ := hi.2.resolve_left (by omega)
  have hc0 := hcell 0 (by omega)
  rw [Nat.add_zero, ← hx] at hc0
  have HC := Lib.hid hc0
  have hcW : (W.alloc (.cells #[.slice none 0 0, .int .i64 0, .int .i64 0] 44)).cell? ⟨b, off, none⟩ = some (.int .i64 x) := (gby_alloc (gby_refl W none) _).cell HC.out (by simp)
  have hcW2 : ((W.alloc (.cells #[.slice none 0 0, .int .i64 0, .int .i64 0] 44)).alloc (.cells #[.slice none 0 0, .int .i64 0, .int .i64 0] 44)).cell? ⟨b, off, none⟩ = some (.int .i64 x) := (gby_alloc (gby_alloc (gby_refl W none) _) _).cell HC.out (by simp)
  have new1 := World.new_ne (W.alloc (.cells #[.slice none 0 0, .int .i64 0, .int .i64 0] 44)) ⟨b, off, none⟩ hcW
  have new2 : W.heap.size + 1 ≠ b := by simpa using new1
  have hn0 : ((n : Int) == 0) = false := by simp; omega
  have hz : (W.alloc (.cells #[.slice none 0 0, .int .i64 0, .int .i64 0] 44)).heap[W.heap.size]? = some (.cells #[.slice none 0 0, .int .i64 0, .int .i64 0] 44 (0, 0)) := heap_alloc_new W _
  have HZ := Lib.hid hz
  have hlt : (0 : Int) < (n : Int) := by omega
  clear hok e2 hi hcap hx hcell hc0 hz
  go_enter Try.func43, Try.ntmps43
  go_wp2_with fail
  go_region_held3 (fun w' => w'.cell? ⟨b, off, none⟩ = some (.int .i64 x))
    (first | exact hcW | exact gC.cell hcW (by simp) | exact (gby_alloc gC _).cell hcW (by simp) | exact gC.cell hcW2 (by simp) | exact gC.cell (show (World.drew _).cell? _ = _ from hcW2) (by simp) | exact hcW2 | (rw [World.cell?_setCell_far _ _ _ _ new2, World.cell?_setCell_far _ _ _ _ new2, World.cell?_setCell_far _ _ _ _ new2]; exact gC.cell (show (World.drew _).cell? _ = _ from hcW2) (by simp)) | go_keep)
    (first | (go_at_call 63; refine (clone_any _ _ ws (HR.out.kept (by first | exact gby_drew (gby_alloc (gby_refl _ _) _) | exact gby_alloc (gby_drew (gby_alloc (gby_refl _ _) _)) _)) hl').mono ?_; rintro e wC ⟨vC, rfl, oC, gC⟩; obtain ⟨dC, eC, rfl, pC⟩ := oC; try (have hA := row_held gC (show (World.drew ((W.alloc (.cells #[.slice none 0 0, .int .i64 0, .int .i64 0] 44)).alloc (.cells #[.slice none 0 0, .int .i64 0, .int .i64 0] 44))).heap[W.heap.size + 1]? = some (.cells #[.slice none 0 0, .int .i64 0, .int .i64 0] 44 (0, 0)) from heap_pair W _ _); obtain ⟨k0, k1, k2⟩ := ab_row hA; have f0 := frozen_of_row wC _ 0 _ _ hA; have f1 := frozen_of_row wC _ 1 _ _ hA; have f2 := frozen_of_row wC _ 2 _ _ hA)))
  all_goals
    clear hcW hcW2
    try clear k0 k1 k2 f0 f1 f2 hA
    first
      | skip
        have GC := Lib.hid (gby_trans (gby_drew (show W.grownBy (W.alloc (.cells #[.slice none 0 0, .int .i64 0, .int .i64 0] 44)) none from (gby_alloc (gby_refl _ _) _))) gC)
        have hz := row_held gC (show (World.drew (W.alloc (.cells #[.slice none 0 0, .int .i64 0, .int .i64 0] 44))).heap[W.heap.size]? = _ from HZ.out)
        have HZ' := Lib.hid hz
        have OC := Lib.hid (show OwI wC (W.heap.size + 1) wC.heap.size (.slice dC ws.length eC) ws from by
          have q : OwI wC _ wC.heap.size (.slice dC ws.length eC) ws := ⟨dC, eC, rfl, pC⟩
          have e : (World.drew (W.alloc (.cells #[.slice none 0 0, .int .i64 0, .int .i64 0] 44))).heap.size = W.heap.size + 1 := by show ((W.alloc (.cells #[.slice none 0 0, .int .i64 0, .int .i64 0] 44))).heap.size = _; simp
          rw [e] at q
          exact q)
        have sC : W.heap.size + 1 ≤ wC.heap.size := by
          have q := gC.size
          have e : (World.drew (W.alloc (.cells #[.slice none 0 0, .int .i64 0, .int .i64 0] 44))).heap.size = W.heap.size + 1 := by show ((W.alloc (.cells #[.slice none 0 0, .int .i64 0, .int .i64 0] 44))).heap.size = _; simp
          omega
        have GA := Lib.hid (show wC.grownBy (wC.alloc (.cells #[.slice dC ws.length eC, .int .i64 0, .int .i64 x] 44)) none from gby_alloc (gby_refl _ _) _)
        have HA := Lib.hid (heap_alloc_new wC (.cells #[.slice dC ws.length eC, .int .i64 0, .int .i64 x] 44))
        have OA := Lib.hid (OC.out.grow GA.out)
        have HZA := Lib.hid (row_held GA.out HZ'.out)
        have GW := Lib.hid (gby_trans GC.out GA.out)
        have sA : wC.heap.size ≤ ((wC.alloc (.cells #[.slice dC ws.length eC, .int .i64 0, .int .i64 x] 44))).heap.size := by simp
        clear hz gC pC
        go_wp2_with fail
        go_at_call 42
        refine (implAb_any _ dC _ eC ws 0 x OA.out.isl' (by omega)).mono ?_
        rw [hd]
        rintro e' w3 ⟨rfl, g3⟩
        obtain ⟨p0, p1, p2⟩ := ab_row (row_held g3 HA.out)
        have hz := row_held g3 HZA.out
        obtain ⟨q0, q1, q2⟩ := ab_row hz
        have f0 := frozen_of_row w3 _ 0 _ _ hz
        have f1 := frozen_of_row w3 _ 1 _ _ hz
        have f2 := frozen_of_row w3 _ 2 _ _ hz
        have s3 := g3.size
        have G3 := Lib.hid (gby_trans GW.out g3)
        have O3 := Lib.hid (OA.out.grow g3)
        clear g3 hz
        go_wp2
        refine bodyPost_ret (v := .tuple #[abV dC ws.length eC 0 x, .bool true]) (by simp [results, go_sem, abV, q0, q1, q2]) rfl ⟨dC, eC, rfl, ?_, ?_⟩
        · refine owS_one ?_ (by simp; omega)
          refine OwI.wide (lo := W.heap.size + 1) (hi := wC.heap.size) (OwI.kept (w := w3) (lo' := W.heap.size) (hi' := W.heap.size + 1) O3.out ?_ (.inr (by omega))) (by omega) (by simp; omega)
          repeat (with_reducible refine chg_setp ?_ _ (by dsimp only; omega) (by dsimp only; omega) _)
          exact chg_gby (gby_refl _ _) _ _
        · repeat (with_reducible refine gby_setnew ?_ _ (by dsimp only; omega) _)
          exact G3.out
      | skip
        have GC := Lib.hid (gby_trans (gby_drew (show W.grownBy ((W.alloc (.cells #[.slice none 0 0, .int .i64 0, .int .i64 0] 44)).alloc (.cells #[.slice none 0 0, .int .i64 0, .int .i64 0] 44)) none from (gby_alloc (gby_alloc (gby_refl _ _) _) _))) gC)
        have hz := row_held gC (show (World.drew ((W.alloc (.cells #[.slice none 0 0, .int .i64 0, .int .i64 0] 44)).alloc (.cells #[.slice none 0 0, .int .i64 0, .int .i64 0] 44))).heap[W.heap.size]? = _ from (show ((W.alloc (.cells #[.slice none 0 0, .int .i64 0, .int .i64 0] 44)).alloc (.cells #[.slice none 0 0, .int .i64 0, .int .i64 0] 44)).heap[W.heap.size]? = some (.cells #[.slice none 0 0, .int .i64 0, .int .i64 0] 44 (0, 0)) from by rw [heap_alloc_old _ _ (by simp)]; exact heap_alloc_new W _))
        have HZ' := Lib.hid hz
        have OC := Lib.hid (show OwI wC (W.heap.size + 2) wC.heap.size (.slice dC ws.length eC) ws from by
          have q : OwI wC _ wC.heap.size (.slice dC ws.length eC) ws := ⟨dC, eC, rfl, pC⟩
          have e : (World.drew ((W.alloc (.cells #[.slice none 0 0, .int .i64 0, .int .i64 0] 44)).alloc (.cells #[.slice none 0 0, .int .i64 0, .int .i64 0] 44))).heap.size = W.heap.size + 2 := by show (((W.alloc (.cells #[.slice none 0 0, .int .i64 0, .int .i64 0] 44)).alloc (.cells #[.slice none 0 0, .int .i64 0, .int .i64 0] 44))).heap.size = _; simp
          rw [e] at q
          exact q)
        have sC : W.heap.size + 2 ≤ wC.heap.size := by
          have q := gC.size
          have e : (World.drew ((W.alloc (.cells #[.slice none 0 0, .int .i64 0, .int .i64 0] 44)).alloc (.cells #[.slice none 0 0, .int .i64 0, .int .i64 0] 44))).heap.size = W.heap.size + 2 := by show (((W.alloc (.cells #[.slice none 0 0, .int .i64 0, .int .i64 0] 44)).alloc (.cells #[.slice none 0 0, .int .i64 0, .int .i64 0] 44))).heap.size = _; simp
          omega
        have hA := row_held gC (show (World.drew ((W.alloc (.cells #[.slice none 0 0, .int .i64 0, .int .i64 0] 44)).alloc (.cells #[.slice none 0 0, .int .i64 0, .int .i64 0] 44))).heap[W.heap.size + 1]? = some (.cells #[.slice none 0 0, .int .i64 0, .int .i64 0] 44 (0, 0)) from heap_pair W _ _)
        have HA := Lib.hid (show (((wC.setCell ⟨W.heap.size + 1, 0, none⟩ (.slice dC ws.length eC)).setCell ⟨W.heap.size + 1, 1, none⟩ (.int .i64 0)).setCell ⟨W.heap.size + 1, 2, none⟩ (.int .i64 x)).heap[W.heap.size + 1]? = some (.cells #[.slice dC ws.length eC, .int .i64 0, .int .i64 x] 44 (0, 0)) from heap_setCell_same _ _ 2 _ _ _ (heap_setCell_same _ _ 1 _ _ _ (heap_setCell_same _ _ 0 _ _ _ hA)))
        have CA : Chg wC (((wC.setCell ⟨W.heap.size + 1, 0, none⟩ (.slice dC ws.length eC)).setCell ⟨W.heap.size + 1, 1, none⟩ (.int .i64 0)).setCell ⟨W.heap.size + 1, 2, none⟩ (.int .i64 x)) (W.heap.size + 1) (W.heap.size + 2) := by
          repeat (with_reducible refine chg_setp ?_ _ (by dsimp only; omega) (by dsimp only; omega) _)
          exact chg_gby (gby_refl _ _) _ _
        have OA := Lib.hid (OC.out.kept CA (.inr (by omega)))
        have HZA := Lib.hid (CA.keep HZ'.out (.inl (by omega)))
        have GW := Lib.hid (gby_chg GC.out (chg_wide CA (lo' := W.heap.size + 1) (hi' := W.heap.size + 2) (Nat.le_refl _) (Nat.le_refl _)) (by omega))
        have sA : wC.heap.size ≤ ((((wC.setCell ⟨W.heap.size + 1, 0, none⟩ (.slice dC ws.length eC)).setCell ⟨W.heap.size + 1, 1, none⟩ (.int .i64 0)).setCell ⟨W.heap.size + 1, 2, none⟩ (.int .i64 x))).heap.size := by simp
        clear hz gC pC
        generalize (((wC.setCell ⟨W.heap.size + 1, 0, none⟩ (.slice dC ws.length eC)).setCell ⟨W.heap.size + 1, 1, none⟩ (.int .i64 0)).setCell ⟨W.heap.size + 1, 2, none⟩ (.int .i64 x)) = wS at HA OA HZA GW sA CA ⊢
        obtain ⟨y0, y1, y2⟩ := ab_row HA.out
        go_wp2_with fail
        go_at_call 42
        refine (implAb_any _ dC _ eC ws 0 x OA.out.isl' (by omega)).mono ?_
        rw [hd]
        rintro e' w3 ⟨rfl, g3⟩
        obtain ⟨p0, p1, p2⟩ := ab_row (row_held g3 HA.out)
        have hz := row_held g3 HZA.out
        obtain ⟨q0, q1, q2⟩ := ab_row hz
        have f0 := frozen_of_row w3 _ 0 _ _ hz
        have f1 := frozen_of_row w3 _ 1 _ _ hz
        have f2 := frozen_of_row w3 _ 2 _ _ hz
        have s3 := g3.size
        have G3 := Lib.hid (gby_trans GW.out g3)
        have O3 := Lib.hid (OA.out.grow g3)
        clear g3 hz
        go_wp2
        refine bodyPost_ret (v := .tuple #[abV dC ws.length eC 0 x, .bool true]) (by simp [results, go_sem, abV, q0, q1, q2]) rfl ⟨dC, eC, rfl, ?_, ?_⟩
        · refine owS_one ?_ (by simp; omega)
          refine OwI.wide (lo := W.heap.size + 2) (hi := wC.heap.size) (OwI.kept (w := w3) (lo' := W.heap.size) (hi' := W.heap.size + 1) O3.out ?_ (.inr (by omega))) (by omega) (by simp; omega)
          repeat (with_reducible refine chg_setp ?_ _ (by dsimp only; omega) (by dsimp only; omega) _)
          exact chg_gby (gby_refl _ _) _ _
        · repeat (with_reducible refine gby_setnew ?_ _ (by dsimp only; omega) _)
          exact G3.out

set_option maxRecDepth 8000 in
set_option maxHeartbeats 2000000 in
theorem implNewAb_out (W : World) (a : Option Addr) (n c : Nat) (ws : List Int) (H : RdI W (.slice a n c) ws) (hl : n ≤ 1048576) (h0 : 0 < n) (x : Int) (hx : x = ws.getD 0 0) (hok : ¬ ArbOk ws 0 x) :
    Calls Try.prog 43 #[.slice a n c] W (MadeArbiterB [] 0 0 false W) := by
  have HR := Lib.hid H
  obtain ⟨a', c', hv, hi, hcap⟩ := H
  injection hv with e1 e2 e3
  subst e1 e3
  have hd : decide (ArbOk ws 0 x) = false := decide_eq_false hok
  have hl' : ws.length ≤ 1048576 := by omega
  obtain ⟨b, off, rfl, hcell⟩ := hi.2.resolve_left (by omega)
  have hc0 := hcell 0 (by omega)
  rw [Nat.add_zero, ← hx] at hc0
  have HC := Lib.hid hc0
  have hcW : (W.alloc (.cells #[.slice none 0 0, .int .i64 0, .int .i64 0] 44)).cell? ⟨b, off, none⟩ = some (.int .i64 x) := (gby_alloc (gby_refl W none) _).cell HC.out (by simp)
  have hcW2 : ((W.alloc (.cells #[.slice none 0 0, .int .i64 0, .int .i64 0] 44)).alloc (.cells #[.slice none 0 0, .int .i64 0, .int .i64 0] 44)).cell? ⟨b, off, none⟩ = some (.int .i64 x) := (gby_alloc (gby_alloc (gby_refl W none) _) _).cell HC.out (by simp)
  have new1 := World.new_ne (W.alloc (.cells #[.slice none 0 0, .int .i64 0, .int .i64 0] 44)) ⟨b, off, none⟩ hcW
  have new2 : W.heap.size + 1 ≠ b := by simpa using new1
  have hn0 : ((n : Int) == 0) = false := by simp; omega
  have hz : (W.alloc (.cells #[.slice none 0 0, .int .i64 0, .int .i64 0] 44)).heap[W.heap.size]? = some (.cells #[.slice none 0 0, .int .i64 0, .int .i64 0] 44 (0, 0)) := heap_alloc_new W _
  have HZ := Lib.hid hz
  have hlt : (0 : Int) < (n : Int) := by omega
  clear hok e2 hi hcap hx hcell hc0 hz
  go_enter Try.func43, Try.ntmps43
  go_wp2_with fail
  go_region_held3 (fun w' => w'.cell? ⟨b, off, none⟩ = some (.int .i64 x))
    (first | exact hcW | exact gC.cell hcW (by simp) | exact (gby_alloc gC _).cell hcW (by simp) | exact gC.cell hcW2 (by simp) | exact gC.cell (show (World.drew _).cell? _ = _ from hcW2) (by simp) | exact hcW2 | (rw [World.cell?_setCell_far _ _ _ _ new2, World.cell?_setCell_far _ _ _ _ new2, World.cell?_setCell_far _ _ _ _ new2]; exact gC.cell (show (World.drew _).cell? _ = _ from hcW2) (by simp)) | go_keep)
    (first | (go_at_call 63; refine (clone_any _ _ ws (HR.out.kept (by first | exact gby_drew (gby_alloc (gby_refl _ _) _) | exact gby_alloc (gby_drew (gby_alloc (gby_refl _ _) _)) _)) hl').mono ?_; rintro e wC ⟨vC, rfl, oC, gC⟩; obtain ⟨dC, eC, rfl, pC⟩ := oC; try (have hA := row_held gC (show (World.drew ((W.alloc (.cells #[.slice none 0 0, .int .i64 0, .int .i64 0] 44)).alloc (.cells #[.slice none 0 0, .int .i64 0, .int .i64 0] 44))).heap[W.heap.size + 1]? = some (.cells #[.slice none 0 0, .int .i64 0, .int .i64 0] 44 (0, 0)) from heap_pair W _ _); obtain ⟨k0, k1, k2⟩ := ab_row hA; have f0 := frozen_of_row wC _ 0 _ _ hA; have f1 := frozen_of_row wC _ 1 _ _ hA; have f2 := frozen_of_row wC _ 2 _ _ hA)))
  all_goals
    clear hcW hcW2
    try clear k0 k1 k2 f0 f1 f2 hA
    first
      | skip
        have GC := Lib.hid (gby_trans (gby_drew (show W.grownBy (W.alloc (.cells #[.slice none 0 0, .int .i64 0, .int .i64 0] 44)) none from (gby_alloc (gby_refl _ _) _))) gC)
        have hz := row_held gC (show (World.drew (W.alloc (.cells #[.slice none 0 0, .int .i64 0, .int .i64 0] 44))).heap[W.heap.size]? = _ from HZ.out)
        have HZ' := Lib.hid hz
        have OC := Lib.hid (show OwI wC (W.heap.size + 1) wC.heap.size (.slice dC ws.length eC) ws from by
          have q : OwI wC _ wC.heap.size (.slice dC ws.length eC) ws := ⟨dC, eC, rfl, pC⟩
          have e : (World.drew (W.alloc (.cells #[.slice none 0 0, .int .i64 0, .int .i64 0] 44))).heap.size = W.heap.size + 1 := by show ((W.alloc (.cells #[.slice none 0 0, .int .i64 0, .int .i64 0] 44))).heap.size = _; simp
          rw [e] at q
          exact q)
        have sC : W.heap.size + 1 ≤ wC.heap.size := by
          have q := gC.size
          have e : (World.drew (W.alloc (.cells #[.slice none 0 0, .int .i64 0, .int .i64 0] 44))).heap.size = W.heap.size + 1 := by show ((W.alloc (.cells #[.slice none 0 0, .int .i64 0, .int .i64 0] 44))).heap.size = _; simp
          omega
        have GA := Lib.hid (show wC.grownBy (wC.alloc (.cells #[.slice dC ws.length eC, .int .i64 0, .int .i64 x] 44)) none from gby_alloc (gby_refl _ _) _)
        have HA := Lib.hid (heap_alloc_new wC (.cells #[.slice dC ws.length eC, .int .i64 0, .int .i64 x] 44))
        have OA := Lib.hid (OC.out.grow GA.out)
        have HZA := Lib.hid (row_held GA.out HZ'.out)
        have GW := Lib.hid (gby_trans GC.out GA.out)
        have sA : wC.heap.size ≤ ((wC.alloc (.cells #[.slice dC ws.length eC, .int .i64 0, .int .i64 x] 44))).heap.size := by simp
        clear hz gC pC
        go_wp2_with fail
        go_at_call 42
        refine (implAb_any _ dC _ eC ws 0 x OA.out.isl' (by omega)).mono ?_
        rw [hd]
        rintro e' w3 ⟨rfl, g3⟩
        obtain ⟨p0, p1, p2⟩ := ab_row (row_held g3 HA.out)
        have hz := row_held g3 HZA.out
        obtain ⟨q0, q1, q2⟩ := ab_row hz
        have f0 := frozen_of_row w3 _ 0 _ _ hz
        have f1 := frozen_of_row w3 _ 1 _ _ hz
        have f2 := frozen_of_row w3 _ 2 _ _ hz
        have s3 := g3.size
        have G3 := Lib.hid (gby_trans GW.out g3)
        have O3 := Lib.hid (OA.out.grow g3)
        clear g3 hz
        go_wp2
        refine bodyPost_ret (v := .tuple #[abV none 0 0 0 0, .bool false]) (by simp [results, go_sem, abV, q0, q1, q2]) rfl (madeNo ?_ (by simp; omega))
        repeat (with_reducible refine gby_setnew ?_ _ (by dsimp only; omega) _)
        exact G3.out
      | skip
        have GC := Lib.hid (gby_trans (gby_drew (show W.grownBy ((W.alloc (.cells #[.slice none 0 0, .int .i64 0, .int .i64 0] 44)).alloc (.cells #[.slice none 0 0, .int .i64 0, .int .i64 0] 44)) none from (gby_alloc (gby_alloc (gby_refl _ _) _) _))) gC)
        have hz := row_held gC (show (World.drew ((W.alloc (.cells #[.slice none 0 0, .int .i64 0, .int .i64 0] 44)).alloc (.cells #[.slice none 0 0, .int .i64 0, .int .i64 0] 44))).heap[W.heap.size]? = _ from (show ((W.alloc (.cells #[.slice none 0 0, .int .i64 0, .int .i64 0] 44)).alloc (.cells #[.slice none 0 0, .int .i64 0, .int .i64 0] 44)).heap[W.heap.size]? = some (.cells #[.slice none 0 0, .int .i64 0, .int .i64 0] 44 (0, 0)) from by rw [heap_alloc_old _ _ (by simp)]; exact heap_alloc_new W _))
        have HZ' := Lib.hid hz
        have OC := Lib.hid (show OwI wC (W.heap.size + 2) wC.heap.size (.slice dC ws.length eC) ws from by
          have q : OwI wC _ wC.heap.size (.slice dC ws.length eC) ws := ⟨dC, eC, rfl, pC⟩
          have e : (World.drew ((W.alloc (.cells #[.slice none 0 0, .int .i64 0, .int .i64 0] 44)).alloc (.cells #[.slice none 0 0, .int .i64 0, .int .i64 0] 44))).heap.size = W.heap.size + 2 := by show (((W.alloc (.cells #[.slice none 0 0, .int .i64 0, .int .i64 0] 44)).alloc (.cells #[.slice none 0 0, .int .i64 0, .int .i64 0] 44))).heap.size = _; simp
          rw [e] at q
          exact q)
        have sC : W.heap.size + 2 ≤ wC.heap.size := by
          have q := gC.size
          have e : (World.drew ((W.alloc (.cells #[.slice none 0 0, .int .i64 0, .int .i64 0] 44)).alloc (.cells #[.slice none 0 0, .int .i64 0, .int .i64 0] 44))).heap.size = W.heap.size + 2 := by show (((W.alloc (.cells #[.slice none 0 0, .int .i64 0, .int .i64 0] 44)).alloc (.cells #[.slice none 0 0, .int .i64 0, .int .i64 0] 44))).heap.size = _; simp
          omega
        have hA := row_held gC (show (World.drew ((W.alloc (.cells #[.slice none 0 0, .int .i64 0, .int .i64 0] 44)).alloc (.cells #[.slice none 0 0, .int .i64 0, .int .i64 0] 44))).heap[W.heap.size + 1]? = some (.cells #[.slice none 0 0, .int .i64 0, .int .i64 0] 44 (0, 0)) from heap_pair W _ _)
        have HA := Lib.hid (show (((wC.setCell ⟨W.heap.size + 1, 0, none⟩ (.slice dC ws.length eC)).setCell ⟨W.heap.size + 1, 1, none⟩ (.int .i64 0)).setCell ⟨W.heap.size + 1, 2, none⟩ (.int .i64 x)).heap[W.heap.size + 1]? = some (.cells #[.slice dC ws.length eC, .int .i64 0, .int .i64 x] 44 (0, 0)) from heap_setCell_same _ _ 2 _ _ _ (heap_setCell_same _ _ 1 _ _ _ (heap_setCell_same _ _ 0 _ _ _ hA)))
        have CA : Chg wC (((wC.setCell ⟨W.heap.size + 1, 0, none⟩ (.slice dC ws.length eC)).setCell ⟨W.heap.size + 1, 1, none⟩ (.int .i64 0)).setCell ⟨W.heap.size + 1, 2, none⟩ (.int .i64 x)) (W.heap.size + 1) (W.heap.size + 2) := by
          repeat (with_reducible refine chg_setp ?_ _ (by dsimp only; omega) (by dsimp only; omega) _)
          exact chg_gby (gby_refl _ _) _ _
        have OA := Lib.hid (OC.out.kept CA (.inr (by omega)))
        have HZA := Lib.hid (CA.keep HZ'.out (.inl (by omega)))
        have GW := Lib.hid (gby_chg GC.out (chg_wide CA (lo' := W.heap.size + 1) (hi' := W.heap.size + 2) (Nat.le_refl _) (Nat.le_refl _)) (by omega))
        have sA : wC.heap.size ≤ ((((wC.setCell ⟨W.heap.size + 1, 0, none⟩ (.slice dC ws.length eC)).setCell ⟨W.heap.size + 1, 1, none⟩ (.int .i64 0)).setCell ⟨W.heap.size + 1, 2, none⟩ (.int .i64 x))).heap.size := by simp
        clear hz gC pC
        generalize (((wC.setCell ⟨W.heap.size + 1, 0, none⟩ (.slice dC ws.length eC)).setCell ⟨W.heap.size + 1, 1, none⟩ (.int .i64 0)).setCell ⟨W.heap.size + 1, 2, none⟩ (.int .i64 x)) = wS at HA OA HZA GW sA CA ⊢
        obtain ⟨y0, y1, y2⟩ := ab_row HA.out
        go_wp2_with fail
        go_at_call 42
        refine (implAb_any _ dC _ eC ws 0 x OA.out.isl' (by omega)).mono ?_
        rw [hd]
        rintro e' w3 ⟨rfl, g3⟩
        obtain ⟨p0, p1, p2⟩ := ab_row (row_held g3 HA.out)
        have hz := row_held g3 HZA.out
        obtain ⟨q0, q1, q2⟩ := ab_row hz
        have f0 := frozen_of_row w3 _ 0 _ _ hz
        have f1 := frozen_of_row w3 _ 1 _ _ hz
        have f2 := frozen_of_row w3 _ 2 _ _ hz
        have s3 := g3.size
        have G3 := Lib.hid (gby_trans GW.out g3)
        have O3 := Lib.hid (OA.out.grow g3)
        clear g3 hz
        go_wp2
        refine bodyPost_ret (v := .tuple #[abV none 0 0 0 0, .bool false]) (by simp [results, go_sem, abV, q0, q1, q2]) rfl (madeNo ?_ (by simp; omega))
        repeat (with_reducible refine gby_setnew ?_ _ (by dsimp only; omega) _)
        exact G3.out

set_option maxRecDepth 8000 in
theorem implNewAb_nil (W : World) (a : Option Addr) (n c : Nat) (ws : List Int) (h0 : n = 0) :
    Calls Try.prog 43 #[.slice a n c] W (MadeArbiterB [] 0 0 false W) := by
  have hn0 : ((n : Int) == 0) = true := by simp [h0]
  clear h0
  have G := Lib.hid (gby_alloc (gby_refl W none) (.cells #[.slice none 0 0, .int .i64 0, .int .i64 0] 44))
  go_enter Try.func43, Try.ntmps43
  go_wp2
  refine bodyPost_ret (v := .tuple #[abV none 0 0 0 0, .bool false]) (by simp [results, go_sem, abV]) rfl (madeNo ?_ (by simp))
  repeat (first | exact gby_refl _ _ | with_reducible refine gby_alloc ?_ _)

end Go.Proofs.Ytgagbhkidponnad
