/-
  The walk of FnExactJudge: at every receiver and every slice the program answers as its model and writes nothing that was there.
-/
import Derived.Test.YtokpmbagidokkacJudge
import Derived.Test.YtokpmbagidokkacAckEx
import Derived.Test.YtokpmbagidokkacFrOwn
namespace Go.Proofs.Ytokpmbagidokkac
open Go Go.RowKit Go.ChangeShapes Go.WideShapes Go.ChangeAt

set_option maxRecDepth 100000 in
/-- a slice of numbers that came in, as an argument -/
theorem open_is {H : Type} {enc : TypeId × Value → H} {W : World} {base : Nat} {v : Value} {d : DataW H} {ps : List MemPlace} (hw : Value.okWide Try.prog W .any base 22 v) (h : DataW.Trod enc Try.prog W 0 (fun _ => true) true 22 v d ps) :
    ∃ a len cap xs, v = .slice a len cap ∧ ISl W a len xs ∧ len ≤ 9223372036854775807 := by
  obtain ⟨a, len, cap, rfl⟩ := okWide_slice Try.underlying22 hw
  obtain ⟨fuel, hf⟩ := h
  exact isl_of (v := .slice a len cap) hf

/-- both answer the same -/
theorem judge_both (q : Int) (L : List (List Int)) (xs : List Int) (hx : xs.length ≤ 1048576) (hl : L.length ≤ 1048576) (hb : ∀ x ∈ L, x.length ≤ 1048576) : ∃ z : Int,
    (∀ (W : World) (a : Option Addr) (cap : Nat) (v : Value), RLL W a L.length L → RdI W v xs → Calls Try.prog 25 #[rcV q a L.length cap, v] W (AnsN (.int .i64 z) W)) ∧
    ∀ (W : World) (a : Option Addr) (cap : Nat) (v : Value), RLL W a L.length L → RdI W v xs → Calls Try.prog 27 #[rcV q a L.length cap, v] W (AnsN (.int .i64 z) W) := by
  obtain ⟨y, ys, b, _, hs, hi⟩ := takeWire_both xs hx
  by_cases h : ROk q L
  · cases b with
    | false => exact ⟨3, fun W a cap v H HV => specJ_bad W q a _ cap L v xs y ys H hl hb HV hs, fun W a cap v H HV => implJ_bad W q a _ cap L v xs y ys H hl hb HV hi h⟩
    | true =>
      by_cases hy : y = q
      · exact ⟨0, fun W a cap v H HV => specJ_same W q a _ cap L v xs y ys H hl hb HV hs h hy, fun W a cap v H HV => implJ_same W q a _ cap L v xs y ys H hl hb HV hi h hy⟩
      · by_cases ho : OldQ y q
        · exact ⟨1, fun W a cap v H HV => specJ_old W q a _ cap L v xs y ys H hl hb HV hs h hy ho, fun W a cap v H HV => implJ_old W q a _ cap L v xs y ys H hl hb HV hi h hy ho⟩
        · exact ⟨2, fun W a cap v H HV => specJ_gap W q a _ cap L v xs y ys H hl hb HV hs h hy ho, fun W a cap v H HV => implJ_gap W q a _ cap L v xs y ys H hl hb HV hi h hy ho⟩
  · cases b with
    | false => exact ⟨3, fun W a cap v H HV => specJ_bad W q a _ cap L v xs y ys H hl hb HV hs, fun W a cap v H HV => implJ_no W q a _ cap L v H hl hb h⟩
    | true => exact ⟨3, fun W a cap v H HV => specJ_no W q a _ cap L v xs y ys H hl hb HV hs h, fun W a cap v H HV => implJ_no W q a _ cap L v H hl hb h⟩

set_option maxRecDepth 8000 in
set_option maxHeartbeats 4000000 in
theorem walk_exactJudge (W : World) (q : Int) (d : Option Addr) (len cap : Nat) (L : List (List Int)) (H : RLL W d len L) (hc : len ≤ 9223372036854775807) (hb : ∀ y ∈ L, y.length ≤ 9223372036854775807) (a : Option Addr) (n ca : Nat) (xs : List Int) (HW : ISl W a n xs) (hn : n ≤ 9223372036854775807) :
    Calls Try.prog 5 #[rcV q d len cap, .slice a n ca] W fun e w' => e = .returned (.bool true) ∧ Below W.heap.size W w' := by
  have HI := Lib.hid H
  have HXI := Lib.hid HW
  have hlx := H.1
  have hnx := HW.1
  have HB0 := Lib.hid hb
  clear H hb HW
  by_cases hbigx : (1048576 : Int) < (n : Int)
  · clear hlx hnx
    unfold rcV
    go_enter Try.func5, Try.ntmps5
    go_wp2
    go_ret
    exact ⟨rfl, by first | exact Below.refl _ _ | exact gby_below (gby_alloc (gby_refl W none) _)⟩
  by_cases hbig : 1048576 < ((len + tot L len : Nat) : Int)
  · have hneg : (-1 : Int) < 0 := by omega
    have HG := Lib.hid hbig
    clear hlx hbig hnx
    unfold rcV
    go_enter Try.func5, Try.ntmps5
    go_wp2_with fail
    go_at_call 24
    refine (szRc_any _ q 1048576 d len cap L (HI.out.kept (gby_alloc (gby_refl _ _) _)) (by omega) (by omega) hc HB0.out).mono ?_
    rw [show lessBy 1048576 (len + tot L len) = -1 from if_pos HG.out]
    rintro e w1 ⟨rfl, g1⟩
    have G1 := Lib.hid (gby_trans (gby_alloc (gby_refl W none) _) g1)
    clear g1
    go_wp2
    go_ret
    exact ⟨rfl, gby_below G1.out⟩
  · have hl : len ≤ 1048576 := by omega
    have hln : n ≤ 1048576 := by omega
    have hbb : ∀ x ∈ L, x.length ≤ 1048576 := fun x hx => by have := tot_rowAckOf L x hx; rw [← hlx] at this; omega
    have HB := Lib.hid hbb
    obtain ⟨r, hr⟩ : ∃ r, r = lessBy 1048576 (len + tot L len) := ⟨_, rfl⟩
    have hneg : ¬ r < 0 := by rw [hr]; unfold lessBy; rw [if_neg hbig]; omega
    have HRR := Lib.hid hr
    obtain ⟨z, hs, hi⟩ := judge_both q L xs (by omega) (by omega) hbb
    have HS := Lib.hid hs
    have HM := Lib.hid hi
    clear hbb hbig hr hlx hs hi hnx
    have hzz : (z != z) = false := by simp
    unfold rcV
    go_enter Try.func5, Try.ntmps5
    go_wp2_with fail
    go_at_call 24
    refine (szRc_any _ q 1048576 d len cap L (HI.out.kept (gby_alloc (gby_refl _ _) _)) (by omega) (by omega) hc HB0.out).mono ?_
    rw [← HRR.out]
    rintro e w1 ⟨rfl, g1⟩
    have hr := row_held g1 (heap_alloc_new W _)
    obtain ⟨r0, r1⟩ := rc_cellsAckOf hr
    have HR1 := Lib.hid hr
    have G1 := Lib.hid (gby_trans (gby_alloc (gby_refl W none) _) g1)
    clear g1 hr
    go_wp2_with fail
    go_at_call 26
    refine (toRc_own _ q d len cap L (HI.out.kept G1.out) hl HB.out).mono ?_
    rintro e w2 ⟨d2, cap2, rfl, o2, g2⟩
    have hr := row_held g2 HR1.out
    clear r0 r1
    have HR2 := Lib.hid hr
    have I2 := Lib.hid (rll_rd o2)
    have G2 := Lib.hid (gby_trans G1.out g2)
    clear g2 hr o2
    go_wp2_with fail
    go_at_call 21
    refine (toI_any _ a n ca xs (HXI.out.kept G2.out) hln).mono ?_
    rintro e w3 ⟨v3, rfl, o3, g3⟩
    have hr := row_held g3 HR2.out
    have HR3 := Lib.hid hr
    have I3 := Lib.hid (I2.out.kept g3)
    have G3 := Lib.hid (gby_trans G2.out g3)
    have X3 := Lib.hid o3.rd
    clear g3 hr o3 I2
    go_wp2_with fail
    go_at_call 25
    refine (HS.out _ _ _ _ I3.out X3.out).mono ?_
    rintro e w4 ⟨rfl, g4⟩
    have hr := row_held g4 HR3.out
    obtain ⟨r0, r1⟩ := rc_cellsAckOf hr
    have HR4 := Lib.hid hr
    have G4 := Lib.hid (gby_trans G3.out g4)
    clear g4 hr X3 I3
    go_wp2_with fail
    go_at_call 26
    refine (toRc_own _ q d len cap L (HI.out.kept G4.out) hl HB.out).mono ?_
    rintro e w5 ⟨d5, cap5, rfl, o5, g5⟩
    have hr := row_held g5 HR4.out
    clear r0 r1
    have HR5 := Lib.hid hr
    have I5 := Lib.hid (rll_rd o5)
    have G5 := Lib.hid (gby_trans G4.out g5)
    clear g5 hr o5
    unfold rcV
    go_wp2_with fail
    go_at_call 21
    refine (toI_any _ a n ca xs (HXI.out.kept (gby_alloc G5.out _)) hln).mono ?_
    rintro e w6 ⟨v6, rfl, o6, g6⟩
    have hx0 := row_held g6 (heap_alloc_new w5 _)
    have hr := row_held g6 (row_held (gby_alloc (gby_refl w5 none) _) HR5.out)
    have ga : w5.grownBy w6 none := gby_trans (gby_alloc (gby_refl _ _) _) g6
    have HR6 := Lib.hid hr
    have HX6 := Lib.hid hx0
    have I6 := Lib.hid (I5.out.kept ga)
    have G6 := Lib.hid (gby_trans G5.out ga)
    have X6 := Lib.hid o6.rd
    obtain ⟨r0, r1⟩ := rc_cellsAckOf hr
    obtain ⟨x0, x1⟩ := rc_cellsAckOf hx0
    clear g6 hr hx0 ga o6
    go_wp2_with fail
    go_at_call 27
    refine (HM.out _ _ _ _ I6.out X6.out).mono ?_
    rintro e w7 ⟨rfl, g7⟩
    have HR7 := Lib.hid (row_held g7 HR6.out)
    have HX7 := Lib.hid (row_held g7 HX6.out)
    have I7 := Lib.hid (I6.out.kept g7)
    have X7 := Lib.hid (X6.out.kept g7)
    have G7 := Lib.hid (gby_trans G6.out g7)
    clear g7 r0 r1 x0 x1 I6 X6
    obtain ⟨r0, r1⟩ := rc_cellsAckOf HR7.out
    obtain ⟨x0, x1⟩ := rc_cellsAckOf HX7.out
    obtain ⟨a6, c6, hv6, hi6, hp6⟩ := X7.out
    subst hv6
    have X8 := Lib.hid (show RdI w7 (.slice a6 xs.length c6) xs from ⟨a6, c6, rfl, hi6, hp6⟩)
    clear hi6 hp6 X7
    go_wp2_with fail
    go_region_held3 (fun w' => w'.cell? ⟨W.heap.size, 0, none⟩ = some (.int .i64 q) ∧ w'.cell? ⟨W.heap.size, 1, none⟩ = some (.slice d len cap) ∧ w'.cell? ⟨w5.heap.size, 0, none⟩ = some (.int .i64 q) ∧ w'.cell? ⟨w5.heap.size, 1, none⟩ = some (.slice d5 L.length cap5))
      (first
        | exact ⟨r0, r1, x0, x1⟩
        | exact ⟨g8.cell r0 (by simp), g8.cell r1 (by simp), g8.cell x0 (by simp), g8.cell x1 (by simp)⟩
        | exact ⟨g9.cell (g8.cell r0 (by simp)) (by simp), g9.cell (g8.cell r1 (by simp)) (by simp), g9.cell (g8.cell x0 (by simp)) (by simp), g9.cell (g8.cell x1 (by simp)) (by simp)⟩)
      (first
        | (go_at_call 26; refine (toRc_own _ q d len cap L (HI.out.kept (gby_drew G7.out)) hl HB.out).mono ?_; rintro e w8 ⟨d8, cap8, rfl, o8, g8⟩; have i8 := rll_rd o8)
        | (go_at_call 28; refine (eqRc_same _ q _ _ L.length _ _ L ((show RLL (World.drew w7) _ _ _ from I7.out).kept g8) i8 (by have := HI.out.1; omega) HB.out).mono ?_; rintro e w9 ⟨rfl, g9⟩))
    all_goals
      have g79 : w7.grownBy w9 none := gby_trans (gby_trans (gby_drew (gby_refl _ _)) g8) g9
      have G9 := Lib.hid (gby_trans G7.out g79)
      have X9 := Lib.hid (X8.out.kept g79)
      clear r0 r1 x0 x1 g8 g9 i8 o8 g79
      go_wp2_with fail
      go_at_call 21
      refine (toI_any _ a n ca xs (HXI.out.kept G9.out) hln).mono ?_
      rintro e wA ⟨vA, rfl, oA, gA⟩
      have XA := Lib.hid oA.rd
      have XB := Lib.hid (X9.out.kept gA)
      have GA := Lib.hid (gby_trans G9.out gA)
      clear oA gA X9
      go_wp2_with fail
      go_at_call 15
      refine (eqI_same _ _ _ xs XB.out XA.out (by have := HXI.out.1; omega)).mono ?_
      rintro e wB ⟨rfl, dB⟩
      have GB := Lib.hid (gby_trans GA.out (dB.gby none))
      clear dB
      go_wp2
      go_ret
      exact ⟨rfl, gby_below GB.out⟩

end Go.Proofs.Ytokpmbagidokkac
