/-
  The walk of FnExactAckOf: at every receiver the program answers as its model and writes nothing that was there.
-/
import Derived.Test.YtokpmbagidokkacRecvLaw
import Derived.WalkKit
import Derived.Deep.RegionHeld3
import Derived.Below
namespace Go.Proofs.Ytokpmbagidokkac
open Go Go.RowKit

theorem rc_cellsAckOf {w : World} {b : Nat} {q : Int} {d : Option Addr} {len cap : Nat} {ty : TypeId} (h : w.heap[b]? = some (.cells #[.int .i64 q, .slice d len cap] ty (0, 0))) : w.cell? ⟨b, 0, none⟩ = some (.int .i64 q) ∧ w.cell? ⟨b, 1, none⟩ = some (.slice d len cap) :=
  ⟨cell_of_row w b 0 _ _ _ h, cell_of_row w b 1 _ _ _ h⟩

theorem tot_rowAckOf (L : List (List Int)) (x : List Int) (h : x ∈ L) : x.length ≤ tot L L.length := by
  obtain ⟨k, hk, rfl⟩ := List.mem_iff_getElem.1 h
  have h1 := tot_succ L k hk
  have h2 := tot_mono L (k + 1) L.length (by omega) (Nat.le_refl _)
  rw [List.getD_eq_getElem?_getD, List.getElem?_eq_getElem hk] at h1
  simp only [Option.getD_some] at h1
  omega

set_option maxRecDepth 8000 in
set_option maxHeartbeats 4000000 in
theorem walk_exactAckOf (W : World) (q : Int) (d : Option Addr) (len cap : Nat) (L : List (List Int)) (H : RLL W d len L) (hc : len ≤ 9223372036854775807) (hb : ∀ y ∈ L, y.length ≤ 9223372036854775807) :
    Calls Try.prog 7 #[rcV q d len cap] W fun e w' => e = .returned (.bool true) ∧ Below W.heap.size W w' := by
  have HI := Lib.hid H
  have hlx := H.1
  have HB0 := Lib.hid hb
  clear H hb
  by_cases hbig : 1048576 < ((len + tot L len : Nat) : Int)
  · have hneg : (-1 : Int) < 0 := by omega
    have HG := Lib.hid hbig
    clear hlx hbig
    unfold rcV
    go_enter Try.func7, Try.ntmps7
    go_wp2_with fail
    go_at_call 24
    refine (szRc_any _ q 1048576 d len cap L (HI.out.kept (gby_alloc (gby_refl _ _) _)) (by omega) (by omega) hc HB0.out).mono ?_
    rw [show lessBy 1048576 (len + tot L len) = -1 from if_pos HG.out]
    rintro e w1 ⟨rfl, g1⟩
    have G1 := Lib.hid (gby_trans (gby_alloc (gby_refl W none) _) g1)
    clear g1
    go_wp2
    go_ret
    exact ⟨rfl, gby_below G1.out⟩
  · have hl : len ≤ 1048576 := by omega
    have hbb : ∀ x ∈ L, x.length ≤ 1048576 := fun x hx => by have := tot_rowAckOf L x hx; rw [← hlx] at this; omega
    have HB := Lib.hid hbb
    obtain ⟨r, hr⟩ : ∃ r, r = lessBy 1048576 (len + tot L len) := ⟨_, rfl⟩
    have hneg : ¬ r < 0 := by rw [hr]; unfold lessBy; rw [if_neg hbig]; omega
    have HRR := Lib.hid hr
    clear hbb hbig hr hlx
    obtain ⟨z, hz⟩ : ∃ z, z = ackQ q L := ⟨_, rfl⟩
    have HS := Lib.hid (show ∀ (W : World) (a : Option Addr) (cap : Nat), RLL W a L.length L → Calls Try.prog 33 #[rcV q a L.length cap] W (AnsN (.int .i64 z) W) from fun W a cap H => by
      rw [hz]; exact specAck_any W q a L.length cap L H (by have := HI.out.1; omega) HB.out)
    have HM := Lib.hid (show ∀ (W : World) (a : Option Addr) (cap : Nat), RLL W a L.length L → Calls Try.prog 34 #[rcV q a L.length cap] W (AnsN (.int .i64 z) W) from fun W a cap H => by
      rw [hz]; exact implAck_any W q a L.length cap L H (by have := HI.out.1; omega) HB.out)
    clear hz
    have hzz : (z != z) = false := by simp
    unfold rcV
    go_enter Try.func7, Try.ntmps7
    go_wp2_with fail
    go_at_call 24
    refine (szRc_any _ q 1048576 d len cap L (HI.out.kept (gby_alloc (gby_refl _ _) _)) (by omega) (by omega) hc HB0.out).mono ?_
    rw [← HRR.out]
    rintro e w1 ⟨rfl, g1⟩
    have hr := row_held g1 (heap_alloc_new W _)
    obtain ⟨r0, r1⟩ := rc_cellsAckOf hr
    have HR1 := Lib.hid hr
    have G1 := Lib.hid (gby_trans (gby_alloc (gby_refl W none) _) g1)
    clear g1 hr
    go_wp2_with fail
    go_at_call 26
    refine (toRc_own _ q d len cap L (HI.out.kept G1.out) hl HB.out).mono ?_
    rintro e w2 ⟨d2, cap2, rfl, o2, g2⟩
    have hr := row_held g2 HR1.out
    clear r0 r1
    have HR2 := Lib.hid hr
    have I2 := Lib.hid (rll_rd o2)
    have G2 := Lib.hid (gby_trans G1.out g2)
    clear g2 hr o2
    go_wp2_with fail
    go_at_call 33
    refine (HS.out _ _ _ I2.out).mono ?_
    rintro e w3 ⟨rfl, g3⟩
    have hr := row_held g3 HR2.out
    obtain ⟨r0, r1⟩ := rc_cellsAckOf hr
    have HR3 := Lib.hid hr
    have G3 := Lib.hid (gby_trans G2.out g3)
    clear g3 hr
    go_wp2_with fail
    go_at_call 26
    refine (toRc_own _ q d len cap L (HI.out.kept G3.out) hl HB.out).mono ?_
    rintro e w4 ⟨d4, cap4, rfl, o4, g4⟩
    have hr := row_held g4 HR3.out
    clear r0 r1
    have HR4 := Lib.hid hr
    have I4 := Lib.hid (rll_rd o4)
    have G4 := Lib.hid (gby_trans G3.out g4)
    clear g4 hr o4
    unfold rcV
    go_wp2_with fail
    go_at_call 34
    refine (HM.out _ _ _ (I4.out.kept (gby_alloc (gby_refl _ _) _))).mono ?_
    rintro e w5 ⟨rfl, g5⟩
    have hx0 := row_held g5 (heap_alloc_new w4 _)
    have hr := row_held g5 (row_held (gby_alloc (gby_refl w4 none) _) HR4.out)
    have ga : w4.grownBy w5 none := gby_trans (gby_alloc (gby_refl _ _) _) g5
    have HR5 := Lib.hid hr
    have HX5 := Lib.hid hx0
    have I5 := Lib.hid (I4.out.kept ga)
    have G5 := Lib.hid (gby_trans G4.out ga)
    obtain ⟨r0, r1⟩ := rc_cellsAckOf hr
    obtain ⟨x0, x1⟩ := rc_cellsAckOf hx0
    clear g5 hr hx0 ga
    go_wp2_with fail
    go_region_held3 (fun w' => w'.cell? ⟨W.heap.size, 0, none⟩ = some (.int .i64 q) ∧ w'.cell? ⟨W.heap.size, 1, none⟩ = some (.slice d len cap) ∧ w'.cell? ⟨w4.heap.size, 0, none⟩ = some (.int .i64 q) ∧ w'.cell? ⟨w4.heap.size, 1, none⟩ = some (.slice d4 L.length cap4))
      (first
        | exact ⟨r0, r1, x0, x1⟩
        | exact ⟨g7.cell r0 (by simp), g7.cell r1 (by simp), g7.cell x0 (by simp), g7.cell x1 (by simp)⟩
        | exact ⟨g8.cell (g7.cell r0 (by simp)) (by simp), g8.cell (g7.cell r1 (by simp)) (by simp), g8.cell (g7.cell x0 (by simp)) (by simp), g8.cell (g7.cell x1 (by simp)) (by simp)⟩)
      (first
        | (go_at_call 26; refine (toRc_own _ q d len cap L (HI.out.kept (gby_drew G5.out)) hl HB.out).mono ?_; rintro e w7 ⟨d7, cap7, rfl, o7, g7⟩; have i7 := rll_rd o7)
        | (go_at_call 28; refine (eqRc_same _ q _ _ L.length _ _ L ((show RLL (World.drew w5) _ _ _ from I5.out).kept g7) i7 (by have := HI.out.1; omega) HB.out).mono ?_; rintro e w8 ⟨rfl, g8⟩))
    all_goals
      have g68 : w5.grownBy w8 none := gby_trans (gby_trans (gby_drew (gby_refl _ _)) g7) g8
      have G8 := Lib.hid (gby_trans G5.out g68)
      clear r0 r1 x0 x1 g7 g8 i7 o7 g68
      go_wp2
      go_ret
      exact ⟨rfl, gby_below G8.out⟩

end Go.Proofs.Ytokpmbagidokkac
