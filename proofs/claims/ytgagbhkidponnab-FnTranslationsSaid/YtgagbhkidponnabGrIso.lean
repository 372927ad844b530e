/-
  Functions that reach no common page, on both sides.
-/
import Derived.Test.YtgagbhkidponnabGrMap
import Derived.Test.YtgagbhkidponnabRIsIsolated
namespace Go.Proofs.Ytgagbhkidponnab
open Go Go.RowKit
set_option linter.unusedVariables false

/-- grants k and i are for the functions fa and fb, and for one page -/
def Meet (xs : List DPageGrant) (fa fb : Int) (k i : Nat) : Prop := (pg xs k).f0 = fa ∧ (pg xs i).f0 = fb ∧ (pg xs k).f2 = (pg xs i).f2
def IsoP (xs : List DPageGrant) (fa fb : Int) : Prop := GOk xs ∧ ∀ k, k < xs.length → ∀ i, i < xs.length → ¬ Meet xs fa fb k i
/-- does one of the first n grants of fa lead to page t -/
def mkB (xs : List DPageGrant) (fa : Int) : Nat → Nat → Bool
  | 0, _ => false
  | n + 1, t => mkB xs fa n t || ((pg xs n).f0 == fa && (pg xs n).f2 == (t : Int))
theorem mkB_iff {xs : List DPageGrant} {fa : Int} {t : Nat} : ∀ n, mkB xs fa n t = true ↔ ∃ k, k < n ∧ (pg xs k).f0 = fa ∧ (pg xs k).f2 = (t : Int)
  | 0 => ⟨fun h => by simp [mkB] at h, fun ⟨k, hk, _⟩ => by omega⟩
  | n + 1 => by
    have ih := mkB_iff (xs := xs) (fa := fa) (t := t) n
    show (mkB xs fa n t || _) = true ↔ _
    rw [Bool.or_eq_true, ih, Bool.and_eq_true, beq_iff_eq, beq_iff_eq]
    constructor
    · rintro (⟨k, hk, q⟩ | q)
      · exact ⟨k, by omega, q⟩
      · exact ⟨n, by omega, q⟩
    · rintro ⟨k, hk, q⟩
      by_cases e : k = n
      · subst e; exact .inr q
      · exact .inl ⟨k, by omega, q⟩
def falses : Array Value := Array.replicate 256 (.bool false)
theorem zero256 (w : World) : (zeroValue 68).run Try.prog w = .ok (.agg falses) w := by kernel_rfl
theorem falses_at (t : Nat) (h : t < 256) : falses[t]? = some (.bool false) := by unfold falses; simp [h]
theorem falses_size : falses.size = 256 := by unfold falses; simp

set_option maxRecDepth 8000 in
set_option maxHeartbeats 2000000 in
theorem specIso (W : World) (v : Value) (xs : List DPageGrant) (fa fb : Int) (H : RdL shPageGrant W v xs) (hl : szL shPageGrant xs ≤ 1048576) : Calls Try.prog 16 #[v, .int .i64 fa, .int .i64 fb] W (BPost (IsoP xs fa fb) W) := by
  have HT := Lib.hid H
  have HLZ := Lib.hid hl
  rw [szL_size0 (fun _ => rfl)] at hl
  obtain ⟨a0, cap, rfl, hcap, hi⟩ := rdG_in H
  have HA := Lib.hid hi
  obtain ⟨len, hlen⟩ : ∃ len, len = xs.length := ⟨_, rfl⟩
  have HE := Lib.hid hlen
  unfold RdG at HA
  rw [← hlen] at hl HA HT ⊢
  clear H hi hlen hcap
  go_enter Try.func16, Try.ntmps16
  have HTM1_ := Lib.hid (gby_refl (W) none)
  have MG2_ := Lib.hid (show (W).grownBy (W) none from (gby_refl _ _))
  go_wp2
  go_loopw [7] (fun i wr => ∃ n : Nat, n ≤ len ∧ i = .int .i64 (n : Int) ∧ (∀ k, k < n → ∀ i, i < len → ¬ Meet xs fa fb k i) ∧ (W).grownBy wr none) (fun i _ => len - (intOf i).toNat)
  case atStart => exact ⟨0, by omega, rfl, fun k hk => absurd hk (Nat.not_lt_zero _), HTM1_.out⟩
  case round =>
    clear HTM1_
    obtain ⟨n, hn, rfl, hno, hg⟩ := hrel
    have szr_ := hg.size
    try simp only [World.size_alloc, World.size_setCell] at szr_
    have G3_ := Lib.hid (show (W).grownBy (wr) none from gby_trans MG2_.out hg)
    have HTM4_ := Lib.hid hg
    clear hg
    obtain ⟨wo, hwo_⟩ : ∃ w_, w_ = wr := ⟨_, rfl⟩
    subst hwo_
    have HNO := Lib.hid hno
    clear hno
    have hn0 : (0 : Int) ≤ (n : Int) := by omega
    have htn : ((n : Int)).toNat = n := by omega
    by_cases hlt : n < len
    rotate_left
    · obtain rfl : n = len := by omega
      have hki : ¬ (n : Int) < (n : Int) := by omega
      by_cases hg : GOk xs
      · have HG := Lib.hid hg
        clear hg
        go_wp2_with fail
        go_at_call 12
        refine ((specGOk _ _ xs (HT.out.grow G3_.out) HLZ.out).mono (bpost_yes HG.out)).mono ?_
        rintro e w1 ⟨rfl, g⟩
        have szw1 := g.size
        try simp only [World.size_alloc] at szw1
        try simp only [World.size_setCell] at szw1
        have G5_ := Lib.hid (show (W).grownBy (w1) none from gby_trans G3_.out g)
        have HTM6_ := Lib.hid (show (W).grownBy (w1) none from gby_trans HTM4_.out g)
        clear HTM4_
        clear g
        go_wp2
        go_ret
        exact ⟨true, rfl, iff_yes2 ⟨HG.out, fun k hk i hi => HNO.out k (by rw [HE.out]; exact hk) i (by rw [HE.out]; exact hi)⟩, G5_.out⟩

      · have HG := Lib.hid hg
        clear hg
        go_wp2_with fail
        go_at_call 12
        refine ((specGOk _ _ xs (HT.out.grow G3_.out) HLZ.out).mono (bpost_no HG.out)).mono ?_
        rintro e w1 ⟨rfl, g⟩
        have szw1 := g.size
        try simp only [World.size_alloc] at szw1
        try simp only [World.size_setCell] at szw1
        have G5_ := Lib.hid (show (W).grownBy (w1) none from gby_trans G3_.out g)
        have HTM6_ := Lib.hid (show (W).grownBy (w1) none from gby_trans HTM4_.out g)
        clear HTM4_
        clear g
        go_wp2
        go_ret
        exact ⟨false, rfl, iff_no2 (fun q => HG.out q.1), G5_.out⟩
    have hki : (n : Int) < (len : Int) := by omega
    obtain ⟨b, off, rfl, hcell⟩ := HA.out.resolve_left (by omega)
    obtain ⟨y_, hy_⟩ : ∃ y_, y_ = pg xs n := ⟨_, rfl⟩
    have hyc_ := hcell n (by omega)
    rw [← hy_] at hyc_
    obtain ⟨x0, x1, x2, x3⟩ := y_
    dsimp only at hyc_
    have Hx := Lib.hid hy_
    have Hx0 := Lib.hid hyc_.1
    have Hx1 := Lib.hid hyc_.2.1
    have Hx2 := Lib.hid hyc_.2.2.1
    have Hx3 := Lib.hid hyc_.2.2.2
    clear hyc_ hy_ hcell
    have x0_ := (G3_.out).cell Hx0.out (by simp)
    have x2_ := (G3_.out).cell Hx2.out (by simp)
    go_wp2
    have HTN5_ := Lib.hid (gby_refl (wo) none)
    have MG6_ := Lib.hid (show (W).grownBy (wo) none from G3_.out)
    go_loopw [8] (fun ii wr => ∃ j : Nat, j ≤ len ∧ ii = .int .i64 (j : Int) ∧ (∀ i, i < j → ¬ Meet xs fa fb n i) ∧ (wo).grownBy wr none) (fun ii _ => len - (intOf ii).toNat)
    case atStart => exact ⟨0, by omega, rfl, fun k hk => absurd hk (Nat.not_lt_zero _), HTN5_.out⟩
    case round =>
      clear x0_ x2_
      clear HTM4_
      clear HTN5_
      obtain ⟨j, hj, rfl, hne, hg⟩ := hrel
      have szr_ := hg.size
      try simp only [World.size_alloc, World.size_setCell] at szr_
      have G7_ := Lib.hid (show (W).grownBy (wr) none from gby_trans MG6_.out hg)
      have HTN8_ := Lib.hid hg
      clear hg
      have x0_ := (G7_.out).cell Hx0.out (by simp)
      have x2_ := (G7_.out).cell Hx2.out (by simp)
      have HNE := Lib.hid hne
      clear hne
      have hj0 : (0 : Int) ≤ (j : Int) := by omega
      have htj : ((j : Int)).toNat = j := by omega
      by_cases hlj : j < len
      rotate_left
      · obtain rfl : j = len := by omega
        have hji : ¬ (j : Int) < (j : Int) := by omega
        go_wp2
        refine ⟨⟨n + 1, by omega, by go_num, fun k hk i hi => ?_, by repeat (first | exact G7_.out | with_reducible refine gby_drewN ?_ _)⟩, by simp [intOf]; omega⟩
        by_cases e : k = n
        · subst e; exact HNE.out i hi
        · exact HNO.out k (by omega) i hi
      have hji : (j : Int) < (len : Int) := by omega
      obtain ⟨y_, hy_⟩ : ∃ y_, y_ = pg xs j := ⟨_, rfl⟩
      obtain ⟨b2, off2, e_, hcell2⟩ := HA.out.resolve_left (by omega)
      injection e_ with e_
      injection e_ with e1 e2
      subst e1 e2
      have hyc_ := hcell2 j (by omega)
      rw [← hy_] at hyc_
      obtain ⟨y0, y1, y2, y3⟩ := y_
      dsimp only at hyc_
      have Hy := Lib.hid hy_
      have Hy0 := Lib.hid hyc_.1
      have Hy2 := Lib.hid hyc_.2.2.1
      clear hyc_ hy_ hcell2
      have y0_ := (G7_.out).cell Hy0.out (by simp)
      have y2_ := (G7_.out).cell Hy2.out (by simp)
      by_cases hc : x0 = fa
      rotate_left
      · have hb_ : (x0 == fa) = false := beq_eq_false_iff_ne.2 hc
        have HB := Lib.hid hc
        clear hc
        go_wp2_with fail
        go_quiet (fail)
        go_wp2
        refine ⟨⟨j + 1, by omega, by go_num, fun i hi => ?_, by repeat (first | exact HTN8_.out | with_reducible refine gby_drewN ?_ _)⟩, by simp [intOf]; omega⟩
        by_cases e : i = j
        · subst e; unfold Meet; rw [← Hx.out, ← Hy.out]; exact fun q => HB.out q.1
        · exact HNE.out i (by omega)
      have hb_x0 : (x0 == fa) = true := beq_iff_eq.2 hc
      have HBx0 := Lib.hid hc
      clear hc
      by_cases hc : y0 = fb
      rotate_left
      · have hb_ : (y0 == fb) = false := beq_eq_false_iff_ne.2 hc
        have HB := Lib.hid hc
        clear hc
        go_wp2_with fail
        go_quiet (fail)
        go_wp2
        refine ⟨⟨j + 1, by omega, by go_num, fun i hi => ?_, by repeat (first | exact HTN8_.out | with_reducible refine gby_drewN ?_ _)⟩, by simp [intOf]; omega⟩
        by_cases e : i = j
        · subst e; unfold Meet; rw [← Hx.out, ← Hy.out]; exact fun q => HB.out q.2.1
        · exact HNE.out i (by omega)
      have hb_y0 : (y0 == fb) = true := beq_iff_eq.2 hc
      have HBy0 := Lib.hid hc
      clear hc
      by_cases hc : x2 = y2
      rotate_left
      · have hb_ : (x2 == y2) = false := beq_eq_false_iff_ne.2 hc
        have HB := Lib.hid hc
        clear hc
        go_wp2_with fail
        go_quiet (fail)
        go_wp2
        refine ⟨⟨j + 1, by omega, by go_num, fun i hi => ?_, by repeat (first | exact HTN8_.out | with_reducible refine gby_drewN ?_ _)⟩, by simp [intOf]; omega⟩
        by_cases e : i = j
        · subst e; unfold Meet; rw [← Hx.out, ← Hy.out]; exact fun q => HB.out q.2.2
        · exact HNE.out i (by omega)
      have hb_x2 : (x2 == y2) = true := beq_iff_eq.2 hc
      have HBx2 := Lib.hid hc
      clear hc
      go_wp2_with fail
      go_quiet (fail)
      go_wp2
      go_ret
      exact ⟨false, rfl, iff_no2 (fun q => q.2 n (by rw [← HE.out]; exact hlt) j (by rw [← HE.out]; exact hlj) (by unfold Meet; rw [← Hx.out, ← Hy.out]; exact ⟨HBx0.out, HBy0.out, HBx2.out⟩)), by repeat (first | exact G7_.out | with_reducible refine gby_drewN ?_ _)⟩

set_option maxRecDepth 20000 in
set_option maxHeartbeats 2000000 in
theorem implIso (W : World) (v : Value) (xs : List DPageGrant) (fa fb : Int) (H : RdL shPageGrant W v xs) (hl : szL shPageGrant xs ≤ 1048576) : Calls Try.prog 17 #[v, .int .i64 fa, .int .i64 fb] W (BPost (IsoP xs fa fb) W) := by
  have HT := Lib.hid H
  have HLZ := Lib.hid hl
  rw [szL_size0 (fun _ => rfl)] at hl
  obtain ⟨a0, cap, rfl, hcap, hi⟩ := rdG_in H
  have HA := Lib.hid hi
  obtain ⟨len, hlen⟩ : ∃ len, len = xs.length := ⟨_, rfl⟩
  have HE := Lib.hid hlen
  unfold RdG at HA
  rw [← hlen] at hl HA HT ⊢
  clear H hi hlen hcap
  have hz256 := zero256
  go_enter Try.func17, Try.ntmps17
  by_cases hg : GOk xs
  rotate_left
  · have HNG := Lib.hid hg
    clear hg
    go_wp2_with fail
    go_at_call 14
    refine ((implGOk _ _ xs (HT.out.grow (gby_refl _ _)) HLZ.out).mono (bpost_no HNG.out)).mono ?_
    rintro e w1 ⟨rfl, g⟩
    have szw1 := g.size
    try simp only [World.size_alloc] at szw1
    try simp only [World.size_setCell] at szw1
    have G1_ := Lib.hid (show (W).grownBy (w1) none from gby_trans (gby_refl _ _) g)
    clear g
    go_wp2
    go_ret
    exact ⟨false, rfl, iff_no2 (fun q => HNG.out q.1), G1_.out⟩
  have HG := Lib.hid hg
  clear hg
  go_wp2_with fail
  go_at_call 14
  refine ((implGOk _ _ xs (HT.out.grow (gby_refl _ _)) HLZ.out).mono (bpost_yes HG.out)).mono ?_
  rintro e w1 ⟨rfl, g⟩
  have szw1 := g.size
  try simp only [World.size_alloc] at szw1
  try simp only [World.size_setCell] at szw1
  have G1_ := Lib.hid (show (W).grownBy (w1) none from gby_trans (gby_refl _ _) g)
  clear g
  have HTM2_ := Lib.hid (gby_refl (w1) none)
  have MG3_ := Lib.hid (show (W).grownBy (w1) none from G1_.out)
  go_wp2
  go_loopw [17] (fun i wr => ∃ n : Nat, n ≤ len ∧ i = .int .i64 (n : Int) ∧ (∃ C : Array Value, wr.heap[w1.heap.size]? = some (.cells C 68 (0, 0)) ∧ C.size = 256 ∧ ∀ t, t < 256 → C[t]? = some (.bool (mkB xs fa n t))) ∧ (w1).grownBy wr none) (fun i _ => len - (intOf i).toNat)
  case atStart => exact ⟨0, by omega, rfl, ⟨falses, heap_alloc_new _ _, falses_size, fun t ht => falses_at t ht⟩, gby_alloc (gby_refl _ _) _⟩
  case round =>
    clear HTM2_
    obtain ⟨n, hn, rfl, ⟨C, hC, hCs, hCt⟩, hg⟩ := hrel
    have szr_ := hg.size
    try simp only [World.size_alloc, World.size_setCell] at szr_
    have G4_ := Lib.hid (show (W).grownBy (wr) none from gby_trans MG3_.out hg)
    have HTM5_ := Lib.hid hg
    clear hg
    have HC := Lib.hid hC
    have HCS := Lib.hid hCs
    have HCT := Lib.hid hCt
    clear hC hCs hCt
    have hn0 : (0 : Int) ≤ (n : Int) := by omega
    have htn : ((n : Int)).toNat = n := by omega
    by_cases hlt : n < len
    · have hki : (n : Int) < (len : Int) := by omega
      obtain ⟨b, off, rfl, hcell⟩ := HA.out.resolve_left (by omega)
      obtain ⟨y_, hy_⟩ : ∃ y_, y_ = pg xs n := ⟨_, rfl⟩
      have hyc_ := hcell n (by omega)
      rw [← hy_] at hyc_
      obtain ⟨y0, y1, y2, y3⟩ := y_
      dsimp only at hyc_
      have Hy := Lib.hid hy_
      have Hy0 := Lib.hid hyc_.1
      have Hy1 := Lib.hid hyc_.2.1
      have Hy2 := Lib.hid hyc_.2.2.1
      have Hy3 := Lib.hid hyc_.2.2.2
      clear hyc_ hy_ hcell
      have qy0_ := (G4_.out).cell Hy0.out (by simp)
      have qy1_ := (G4_.out).cell Hy1.out (by simp)
      have qy2_ := (G4_.out).cell Hy2.out (by simp)
      have qy3_ := (G4_.out).cell Hy3.out (by simp)
      have hing := HG.out.2.1 n (by rw [← HE.out]; exact hlt)
      rw [← Hy.out] at hing
      have hy2a := hing.2.2.1
      have hy2b := hing.2.2.2
      dsimp only at hy2a hy2b
      clear hing
      obtain ⟨m, rfl⟩ : ∃ m : Nat, y2 = (m : Int) := ⟨y2.toNat, by omega⟩
      have hm0 : (0 : Int) ≤ (m : Int) := by omega
      have hm1 : (m : Int) < 256 := by omega
      have htm : ((m : Int)).toNat = m := by omega
      have al_ : (wr).grownBy ((wr).alloc (.cells #[.int .i64 y0, .int .i64 y1, .int .i64 (m : Int), .bool y3] 59)) none := gby_alloc (gby_refl _ _) _
      have G6_ := Lib.hid (show (W).grownBy ((wr.alloc (.cells #[.int .i64 y0, .int .i64 y1, .int .i64 (m : Int), .bool y3] 59))) none from gby_trans G4_.out al_)
      have HTM7_ := Lib.hid (show (w1).grownBy ((wr.alloc (.cells #[.int .i64 y0, .int .i64 y1, .int .i64 (m : Int), .bool y3] 59))) none from gby_trans HTM5_.out al_)
      clear HTM5_
      have rGb8_ := Lib.hid (show ((wr.alloc (.cells #[.int .i64 y0, .int .i64 y1, .int .i64 (m : Int), .bool y3] 59))).heap[wr.heap.size]? = some (.cells #[.int .i64 y0, .int .i64 y1, .int .i64 (m : Int), .bool y3] 59 (0, 0)) from by first | exact heap_alloc_new _ _ | exact heap_pair _ _ _ | exact heap_trip _ _ _ _)
      clear al_
      have Gb_0_ : ((wr.alloc (.cells #[.int .i64 y0, .int .i64 y1, .int .i64 (m : Int), .bool y3] 59))).cell? ⟨wr.heap.size, 0, none⟩ = some (.int .i64 y0) := cell_of_row _ _ 0 _ _ _ rGb8_.out
      have Gb_1_ : ((wr.alloc (.cells #[.int .i64 y0, .int .i64 y1, .int .i64 (m : Int), .bool y3] 59))).cell? ⟨wr.heap.size, 1, none⟩ = some (.int .i64 y1) := cell_of_row _ _ 1 _ _ _ rGb8_.out
      have Gb_2_ : ((wr.alloc (.cells #[.int .i64 y0, .int .i64 y1, .int .i64 (m : Int), .bool y3] 59))).cell? ⟨wr.heap.size, 2, none⟩ = some (.int .i64 (m : Int)) := cell_of_row _ _ 2 _ _ _ rGb8_.out
      have Gb_3_ : ((wr.alloc (.cells #[.int .i64 y0, .int .i64 y1, .int .i64 (m : Int), .bool y3] 59))).cell? ⟨wr.heap.size, 3, none⟩ = some (.bool y3) := cell_of_row _ _ 3 _ _ _ rGb8_.out
      have HC2 := Lib.hid (show ((wr.alloc (.cells #[.int .i64 y0, .int .i64 y1, .int .i64 (m : Int), .bool y3] 59))).heap[w1.heap.size]? = some (.cells C 68 (0, 0)) from row_held (gby_alloc (gby_refl wr none) _) HC.out)
      have ca_ := cell_of_row _ _ m _ _ _ HC2.out
      rw [HCT.out m (by omega)] at ca_
      have fa_ := frozen_of_row _ _ m _ _ HC2.out
      have cw_ := heap_setCell_same _ _ m C _ (.bool true) HC2.out
      have HCW := Lib.hid cw_
      clear cw_
      by_cases h0 : y0 = fa
      rotate_left
      · have hb0 : (y0 == fa) = false := beq_eq_false_iff_ne.2 h0
        have HB := Lib.hid h0
        clear h0
        go_wp2
        refine ⟨⟨n + 1, by omega, by go_num, ⟨C, HC2.out, HCS.out, fun t ht => ?_⟩, HTM7_.out⟩, by simp [intOf]; omega⟩
        rw [HCT.out t ht]
        show _ = some (Value.bool (mkB xs fa n t || _))
        rw [← Hy.out]
        simp [HB.out]
      subst h0
      have hb0 : (y0 == y0) = true := by simp
      go_wp2
      refine ⟨⟨n + 1, by omega, by go_num, ⟨C.setIfInBounds m (.bool true), HCW.out, by simp [HCS.out], fun t ht => ?_⟩, gby_setnew HTM7_.out _ (by first | (dsimp only; omega) | exact Nat.le_refl _ | omega) _⟩, by simp [intOf]; omega⟩
      rw [Array.getElem?_setIfInBounds]
      show _ = some (Value.bool (mkB xs y0 n t || _))
      rw [← Hy.out]
      by_cases e : m = t
      · subst e; rw [if_pos rfl, if_pos (by rw [HCS.out]; exact ht)]; simp
      · rw [if_neg e, HCT.out t ht]
        have : ((m : Int) == (t : Int)) = false := beq_eq_false_iff_ne.2 (by omega)
        simp [this]
    obtain rfl : n = len := by omega
    have hki : ¬ (n : Int) < (n : Int) := by omega
    obtain ⟨wo, hwo_⟩ : ∃ w_, w_ = wr := ⟨_, rfl⟩
    subst hwo_
    have HTN6_ := Lib.hid (gby_refl (wo) none)
    have MG7_ := Lib.hid (show (W).grownBy (wo) none from G4_.out)
    go_wp2
    go_loopw [31] (fun ii wr => ∃ j : Nat, j ≤ n ∧ ii = .int .i64 (j : Int) ∧ (∀ i, i < j → ¬ ((pg xs i).f0 = fb ∧ ∃ t : Nat, (pg xs i).f2 = (t : Int) ∧ mkB xs fa n t = true)) ∧ (wo).grownBy wr none) (fun ii _ => n - (intOf ii).toNat)
    case atStart => exact ⟨0, by omega, rfl, fun k hk => absurd hk (Nat.not_lt_zero _), HTN6_.out⟩
    case round =>
      clear HTM5_
      clear HTN6_
      obtain ⟨j, hj, rfl, hne, hg⟩ := hrel
      have szr_ := hg.size
      try simp only [World.size_alloc, World.size_setCell] at szr_
      have G8_ := Lib.hid (show (W).grownBy (wr) none from gby_trans MG7_.out hg)
      have HTN9_ := Lib.hid hg
      clear hg
      have HC3 := Lib.hid (show wr.heap[w1.heap.size]? = some (.cells C 68 (0, 0)) from row_held HTN9_.out HC.out)
      have HNE := Lib.hid hne
      clear hne
      have hj0 : (0 : Int) ≤ (j : Int) := by omega
      have htj : ((j : Int)).toNat = j := by omega
      by_cases hlj : j < n
      rotate_left
      · obtain rfl : j = n := by omega
        have hji : ¬ (j : Int) < (j : Int) := by omega
        go_wp2
        go_ret
        refine ⟨true, rfl, iff_yes2 ⟨HG.out, fun k hk i hi q => ?_⟩, G8_.out⟩
        obtain ⟨q1, q2, q3⟩ := q
        have hf := (HG.out.2.1 i hi).2.2
        refine HNE.out i (by rw [HE.out]; exact hi) ⟨q2, ((pg xs i).f2).toNat, by omega, (mkB_iff _).2 ⟨k, by rw [HE.out]; exact hk, q1, by rw [q3]; omega⟩⟩
      have hji : (j : Int) < (n : Int) := by omega
      obtain ⟨b, off, rfl, hcell⟩ := HA.out.resolve_left (by omega)
      obtain ⟨y_, hy_⟩ : ∃ y_, y_ = pg xs j := ⟨_, rfl⟩
      have hyc_ := hcell j (by omega)
      rw [← hy_] at hyc_
      obtain ⟨y0, y1, y2, y3⟩ := y_
      dsimp only at hyc_
      have Hy := Lib.hid hy_
      have Hy0 := Lib.hid hyc_.1
      have Hy1 := Lib.hid hyc_.2.1
      have Hy2 := Lib.hid hyc_.2.2.1
      have Hy3 := Lib.hid hyc_.2.2.2
      clear hyc_ hy_ hcell
      have qy0_ := (G8_.out).cell Hy0.out (by simp)
      have qy1_ := (G8_.out).cell Hy1.out (by simp)
      have qy2_ := (G8_.out).cell Hy2.out (by simp)
      have qy3_ := (G8_.out).cell Hy3.out (by simp)
      have hing := HG.out.2.1 j (by rw [← HE.out]; exact hlj)
      rw [← Hy.out] at hing
      have hy2a := hing.2.2.1
      have hy2b := hing.2.2.2
      dsimp only at hy2a hy2b
      clear hing
      obtain ⟨m, rfl⟩ : ∃ m : Nat, y2 = (m : Int) := ⟨y2.toNat, by omega⟩
      have hm0 : (0 : Int) ≤ (m : Int) := by omega
      have hm1 : (m : Int) < 256 := by omega
      have htm : ((m : Int)).toNat = m := by omega
      have al_ : (wr).grownBy ((wr).alloc (.cells #[.int .i64 y0, .int .i64 y1, .int .i64 (m : Int), .bool y3] 59)) none := gby_alloc (gby_refl _ _) _
      have G10_ := Lib.hid (show (W).grownBy ((wr.alloc (.cells #[.int .i64 y0, .int .i64 y1, .int .i64 (m : Int), .bool y3] 59))) none from gby_trans G8_.out al_)
      have HTN11_ := Lib.hid (show (wo).grownBy ((wr.alloc (.cells #[.int .i64 y0, .int .i64 y1, .int .i64 (m : Int), .bool y3] 59))) none from gby_trans HTN9_.out al_)
      clear HTN9_
      have rGb12_ := Lib.hid (show ((wr.alloc (.cells #[.int .i64 y0, .int .i64 y1, .int .i64 (m : Int), .bool y3] 59))).heap[wr.heap.size]? = some (.cells #[.int .i64 y0, .int .i64 y1, .int .i64 (m : Int), .bool y3] 59 (0, 0)) from by first | exact heap_alloc_new _ _ | exact heap_pair _ _ _ | exact heap_trip _ _ _ _)
      clear al_
      have Gb_0_ : ((wr.alloc (.cells #[.int .i64 y0, .int .i64 y1, .int .i64 (m : Int), .bool y3] 59))).cell? ⟨wr.heap.size, 0, none⟩ = some (.int .i64 y0) := cell_of_row _ _ 0 _ _ _ rGb12_.out
      have Gb_1_ : ((wr.alloc (.cells #[.int .i64 y0, .int .i64 y1, .int .i64 (m : Int), .bool y3] 59))).cell? ⟨wr.heap.size, 1, none⟩ = some (.int .i64 y1) := cell_of_row _ _ 1 _ _ _ rGb12_.out
      have Gb_2_ : ((wr.alloc (.cells #[.int .i64 y0, .int .i64 y1, .int .i64 (m : Int), .bool y3] 59))).cell? ⟨wr.heap.size, 2, none⟩ = some (.int .i64 (m : Int)) := cell_of_row _ _ 2 _ _ _ rGb12_.out
      have Gb_3_ : ((wr.alloc (.cells #[.int .i64 y0, .int .i64 y1, .int .i64 (m : Int), .bool y3] 59))).cell? ⟨wr.heap.size, 3, none⟩ = some (.bool y3) := cell_of_row _ _ 3 _ _ _ rGb12_.out
      have HC4 := Lib.hid (show ((wr.alloc (.cells #[.int .i64 y0, .int .i64 y1, .int .i64 (m : Int), .bool y3] 59))).heap[w1.heap.size]? = some (.cells C 68 (0, 0)) from row_held (gby_alloc (gby_refl wr none) _) HC3.out)
      have ca_ := cell_of_row _ _ m _ _ _ HC4.out
      rw [HCT.out m (by omega)] at ca_
      by_cases h0 : y0 = fb
      rotate_left
      · have hb0 : (y0 == fb) = false := beq_eq_false_iff_ne.2 h0
        have HB := Lib.hid h0
        clear h0
        go_wp2
        refine ⟨⟨j + 1, by omega, by go_num, fun i hi => ?_, HTN11_.out⟩, by simp [intOf]; omega⟩
        by_cases e : i = j
        · subst e; rw [← Hy.out]; rintro ⟨q1, t, q2, q3⟩; exact HB.out q1
        · exact HNE.out i (by omega)
      have hb0 : (y0 == fb) = true := beq_iff_eq.2 h0
      have HY0 := Lib.hid h0
      clear h0
      obtain ⟨r, hr⟩ : ∃ r, r = mkB xs fa n m := ⟨_, rfl⟩
      rw [← hr] at ca_
      have HR := Lib.hid hr
      clear hr
      cases r
      · skip
        go_wp2
        refine ⟨⟨j + 1, by omega, by go_num, fun i hi => ?_, HTN11_.out⟩, by simp [intOf]; omega⟩
        by_cases e : i = j
        · subst e; rw [← Hy.out]; rintro ⟨q1, t, q2, q3⟩; dsimp only at q2; obtain rfl : m = t := by omega
          rw [← HR.out] at q3; cases q3
        · exact HNE.out i (by omega)
      · skip
        go_wp2
        go_ret
        refine ⟨false, rfl, iff_no2 (fun q => ?_), G10_.out⟩
        obtain ⟨k, hk, k1, k2⟩ := (mkB_iff n).1 HR.out.symm
        exact q.2 k (by rw [← HE.out]; exact hk) j (by rw [← HE.out]; exact hlj) ⟨k1, by rw [← Hy.out]; exact HY0.out, by rw [← Hy.out]; exact k2⟩

theorem isIsolated_both (xs0 : List DPageGrant) (i1 i2 : Int) (h0 : szL shPageGrant xs0 ≤ 1048576) : ∃ br0 : Bool, (∀ (W : World), ∀ u0, RdL shPageGrant W u0 xs0 → Calls Try.prog 16 #[u0, .int .i64 i1, .int .i64 i2] W (ResSIsIsolated br0 W)) ∧ ∀ (W : World), ∀ u0, RdL shPageGrant W u0 xs0 → Calls Try.prog 17 #[u0, .int .i64 i1, .int .i64 i2] W (ResIIsIsolated br0 W) := by
  by_cases h : IsoP xs0 i1 i2
  · exact ⟨true, fun W u H => ((specIso W u xs0 i1 i2 H h0).mono (bpost_yes h)), fun W u H => ((implIso W u xs0 i1 i2 H h0).mono (bpost_yes h))⟩
  · exact ⟨false, fun W u H => ((specIso W u xs0 i1 i2 H h0).mono (bpost_no h)), fun W u H => ((implIso W u xs0 i1 i2 H h0).mono (bpost_no h))⟩

end Go.Proofs.Ytgagbhkidponnab
