/-
  The model's PathBetween.
-/
import Derived.Test.YtodfbodagjmfmabBtwMath
import Derived.Test.YtodfbodagjmfmabRPathBetween
import Derived.Deep.QuietTactic
namespace Go.Proofs.Ytodfbodagjmfmab
open Go Go.RowKit
set_option linter.unusedVariables false

set_option maxRecDepth 8000 in
set_option maxHeartbeats 2000000 in
theorem specBtw_no (W : World) (v : Value) (xs : List DNode) (a b : Int) (H : RdL shNode W v xs) (hl : szL shNode xs ≤ 1048576) (x y : List Int) (hx : PthIs xs a x) (hy : PthIs xs b y) (hz : x.length = 0 ∨ y.length = 0) : Calls Try.prog 28 #[v, .int .i64 a, .int .i64 b] W (ResIPathBetween [] W) := by
  have HXP := Lib.hid hx
  have HYP := Lib.hid hy
  have hxl := pthIs_len hx
  have hyl := pthIs_len hy
  clear hx hy
  have HT := Lib.hid H
  have HL := Lib.hid hl
  obtain ⟨a0, n0, c0, rfl⟩ := RdL.form H
  have hn0 : n0 = xs.length := by obtain ⟨_, _, e, _⟩ := H; injection e
  have HE := Lib.hid hn0
  have hlx : n0 ≤ 1048576 := by have := szL_len shNode xs; omega
  clear H hn0 hl
  go_enter Try.func28, Try.ntmps28
  go_wp2_with fail
  go_at_call 24
  refine (specPath_any _ _ xs a (HT.out.grow (gby_refl _ _)) HL.out x HXP.out).mono ?_
  rintro e w1 ⟨v1, rfl, o, g⟩
  have G1_ := Lib.hid (show (W).grownBy (w1) none from gby_trans (gby_refl _ _) g)
  clear g
  obtain ⟨p1, c1, rfl, hc1, hi1⟩ := rdI1_in (OwU.rd o)
  have HI1 := Lib.hid hi1
  have hcp1 := hc1.2
  clear o hi1 hc1
  have HTX2_ := Lib.hid (gby_refl (w1) none)
  have MG3_ := Lib.hid (show (W).grownBy (w1) none from G1_.out)
  have hsz0_ := gby_size G1_.out
  go_wp2_with fail
  go_at_call 24
  refine (specPath_any _ _ xs b (HT.out.grow G1_.out) HL.out y HYP.out).mono ?_
  rintro e w2 ⟨v2, rfl, o, g⟩
  have G4_ := Lib.hid (show (W).grownBy (w2) none from gby_trans G1_.out g)
  have HTX5_ := Lib.hid (show (w1).grownBy (w2) none from gby_trans HTX2_.out g)
  clear HTX2_
  clear g
  obtain ⟨p2, c2, rfl, hc2, hi2⟩ := rdI1_in (OwU.rd o)
  have HI2 := Lib.hid hi2
  have hcp2 := hc2.2
  clear o hi2 hc2
  have hsz1_ := gby_size G4_.out
  generalize hn1 : x.length = n1 at *
  generalize hn2 : y.length = n2 at *
  have HN1 := Lib.hid hn1
  have HN2 := Lib.hid hn2
  clear hn1 hn2
  have al_ : (w2).grownBy ((w2).alloc (.cells #[] 3)) none := gby_alloc (gby_refl _ _) _
  have G6_ := Lib.hid (show (W).grownBy ((w2.alloc (.cells #[] 3))) none from gby_trans G4_.out al_)
  have HTX7_ := Lib.hid (show (w1).grownBy ((w2.alloc (.cells #[] 3))) none from gby_trans HTX5_.out al_)
  clear HTX5_
  have rO8_ := Lib.hid (show ((w2.alloc (.cells #[] 3))).heap[w2.heap.size]? = some (.cells #[] 3 (0, 0)) from by first | exact heap_alloc_new _ _ | exact heap_pair _ _ _ | exact heap_trip _ _ _ _)
  clear al_
  by_cases h1 : n1 = 0
  · have hb : ((n1 : Int) == 0) = true := by simp; omega
    go_wp2
    go_ret
    exact ⟨_, rfl, OwU.one (owL_empty (by omega) (by simp only [World.size_alloc]; omega)), G6_.out⟩
  · have h2 : n2 = 0 := by omega
    have hb : ((n1 : Int) == 0) = false := by simp; omega
    have hb2 : ((n2 : Int) == 0) = true := by simp; omega
    go_wp2
    go_ret
    exact ⟨_, rfl, OwU.one (owL_empty (by omega) (by simp only [World.size_alloc]; omega)), G6_.out⟩

set_option maxRecDepth 8000 in
set_option maxHeartbeats 4000000 in
theorem specBtw_yes (W : World) (v : Value) (xs : List DNode) (a b : Int) (H : RdL shNode W v xs) (hl : szL shNode xs ≤ 1048576) (x y : List Int) (hx : PthIs xs a x) (hy : PthIs xs b y) (hx1 : 1 ≤ x.length) (hy1 : 1 ≤ y.length) : Calls Try.prog 28 #[v, .int .i64 a, .int .i64 b] W (ResIPathBetween (btwL x y) W) := by
  have HL1 : Hid (1 ≤ lcp x y) := Lib.hid (by
    have h := (pthIs_head hx).trans (pthIs_head hy).symm
    cases x with
    | nil => simp at hx1
    | cons x0 x =>
      cases y with
      | nil => simp at hy1
      | cons y0 y =>
        simp at h
        unfold lcp
        rw [if_pos h]; omega)
  obtain ⟨i1_, hi1_, hz0_, hz1_, hz2_⟩ := info_parts infoInt
  have HXP := Lib.hid hx
  have HYP := Lib.hid hy
  have hxl := pthIs_len hx
  have hyl := pthIs_len hy
  clear hx hy
  have HT := Lib.hid H
  have HL := Lib.hid hl
  obtain ⟨a0, n0, c0, rfl⟩ := RdL.form H
  have hn0 : n0 = xs.length := by obtain ⟨_, _, e, _⟩ := H; injection e
  have HE := Lib.hid hn0
  have hlx : n0 ≤ 1048576 := by have := szL_len shNode xs; omega
  clear H hn0 hl
  go_enter Try.func28, Try.ntmps28
  go_wp2_with fail
  go_at_call 24
  refine (specPath_any _ _ xs a (HT.out.grow (gby_refl _ _)) HL.out x HXP.out).mono ?_
  rintro e w1 ⟨v1, rfl, o, g⟩
  have G1_ := Lib.hid (show (W).grownBy (w1) none from gby_trans (gby_refl _ _) g)
  clear g
  obtain ⟨p1, c1, rfl, hc1, hi1⟩ := rdI1_in (OwU.rd o)
  have HI1 := Lib.hid hi1
  have hcp1 := hc1.2
  clear o hi1 hc1
  have HTX2_ := Lib.hid (gby_refl (w1) none)
  have MG3_ := Lib.hid (show (W).grownBy (w1) none from G1_.out)
  have hsz0_ := gby_size G1_.out
  go_wp2_with fail
  go_at_call 24
  refine (specPath_any _ _ xs b (HT.out.grow G1_.out) HL.out y HYP.out).mono ?_
  rintro e w2 ⟨v2, rfl, o, g⟩
  have G4_ := Lib.hid (show (W).grownBy (w2) none from gby_trans G1_.out g)
  have HTX5_ := Lib.hid (show (w1).grownBy (w2) none from gby_trans HTX2_.out g)
  clear HTX2_
  clear g
  obtain ⟨p2, c2, rfl, hc2, hi2⟩ := rdI1_in (OwU.rd o)
  have HI2 := Lib.hid hi2
  have hcp2 := hc2.2
  clear o hi2 hc2
  have hsz1_ := gby_size G4_.out
  generalize hn1 : x.length = n1 at *
  generalize hn2 : y.length = n2 at *
  have HN1 := Lib.hid hn1
  have HN2 := Lib.hid hn2
  clear hn1 hn2
  obtain ⟨b1, o1, rfl, hx_⟩ := HI1.out.resolve_left (by have := HN1.out; omega)
  obtain ⟨b2, o2, rfl, hy_⟩ := HI2.out.resolve_left (by have := HN2.out; omega)
  have HXC := Lib.hid (show ∀ k, k < n1 → (w2).cell? ⟨b1, o1 + k, none⟩ = some (.int .i64 (x.getD k 0)) from fun k hk => (HTX5_.out).cell (hx_ k (by have := HN1.out; omega)) (by simp))
  have HYC := Lib.hid (show ∀ k, k < n2 → (w2).cell? ⟨b2, o2 + k, none⟩ = some (.int .i64 (y.getD k 0)) from fun k hk => hy_ k (by have := HN2.out; omega))
  clear hx_ hy_ HI1 HI2
  clear HTX5_
  have HTM6_ := Lib.hid (gby_refl (w2) none)
  have MG7_ := Lib.hid (show (W).grownBy (w2) none from G4_.out)
  have al_ : (w2).grownBy ((w2).alloc (.cells #[] 3)) none := gby_alloc (gby_refl _ _) _
  have G8_ := Lib.hid (show (W).grownBy ((w2.alloc (.cells #[] 3))) none from gby_trans G4_.out al_)
  have HTM9_ := Lib.hid (show (w2).grownBy ((w2.alloc (.cells #[] 3))) none from gby_trans HTM6_.out al_)
  clear HTM6_
  have rO10_ := Lib.hid (show ((w2.alloc (.cells #[] 3))).heap[w2.heap.size]? = some (.cells #[] 3 (0, 0)) from by first | exact heap_alloc_new _ _ | exact heap_pair _ _ _ | exact heap_trip _ _ _ _)
  clear al_
  have HST := Lib.hid (show ((w2.alloc (.cells #[] 3))).ownsRow (w2.heap.size) 3 1 (.slice (some ⟨w2.heap.size, 0, none⟩) 0 0) (x.drop n1).reverse.length (i64s (x.drop n1).reverse) from by rw [List.drop_of_length_le (Nat.le_of_eq HN1.out)]; exact own_emptyP (e := 3) (n := 1) rO10_.out (Nat.le_refl _))
  obtain ⟨wO, hwO⟩ : ∃ q, q = (w2.alloc (.cells #[] 3)) := ⟨_, rfl⟩
  have HWO := Lib.hid hwO
  clear hwO
  have hq1 : ((n1 : Int) == 0) = false := by simp; omega
  have hq2 : ((n2 : Int) == 0) = false := by simp; omega
  have hq3 : ¬ n1 = 0 := by omega
  have hq4 : ¬ n2 = 0 := by omega
  go_wp2
  go_loopw [10] (fun i wr => ∃ n : Nat, i = .int .i64 (n : Int) ∧ n ≤ n1 ∧ n ≤ n2 ∧ (∀ j, j < n → x.getD j 0 = y.getD j 0) ∧ ((w2.alloc (.cells #[] 3))).grownBy wr none) (fun i _ => n1 - (intOf i).toNat)
  case atStart => exact ⟨0, rfl, by omega, by omega, fun j hj => absurd hj (Nat.not_lt_zero _), gby_refl _ _⟩
  case round =>
    obtain ⟨wl, hwo_⟩ : ∃ w_, w_ = wr := ⟨_, rfl⟩
    subst hwo_
    obtain ⟨n, rfl, hna, hnb, hj, hg⟩ := hrel
    have szrwl := hg.size
    try simp only [World.size_alloc] at szrwl
    try simp only [World.size_setCell] at szrwl
    have szr_ := szrwl
    have rO11_ := Lib.hid (show (wl).heap[w2.heap.size]? = some (.cells #[] 3 (0, 0)) from row_held hg rO10_.out)
    clear rO10_
    have G12_ := Lib.hid (show (W).grownBy (wl) none from gby_trans G8_.out hg)
    have HTM13_ := Lib.hid (show (w2).grownBy (wl) none from gby_trans HTM9_.out hg)
    clear HTM9_
    have HTB_ := Lib.hid hg
    clear hg
    have HJ := Lib.hid hj
    clear hj hq1 hq2 hq3 hq4
    have hn0 : (0 : Int) ≤ (n : Int) := by omega
    have htn : ((n : Int)).toNat = n := by omega
    by_cases h1 : n < n1
    rotate_left
    · have hki1 : ¬ (n : Int) < (n1 : Int) := by omega
      have hlc : lcp x y = n := lcp_is (by rw [HN1.out]; exact hna) (by rw [HN2.out]; exact hnb) HJ.out (.inl (by rw [HN1.out]; omega))
      go_wp2_with fail
      go_quiet (fail)
      have HLC := Lib.hid hlc
      clear hlc
      have hn1_ : 1 ≤ n := by rw [← HLC.out]; exact HL1.out
      try clear hc1_ hc2_
      have hk1 : IntKind.i64.wrap ((n1 : Int) - 1) = (n1 : Int) - 1 := IntWalk.i64_in _ (by omega)
      have hk2 : IntKind.i64.wrap ((n : Int) - 1) = (n : Int) - 1 := IntWalk.i64_in _ (by omega)
      have HOs := Lib.hid (HST.out.grown (show ((w2.alloc (.cells #[] 3))).grownBy _ none from HTB_.out))
      go_wp2
      go_loopw [9, 11] (fun v i wr => ∃ (K : Nat) (z : Int), i = .int .i64 z ∧ z = (K : Int) - 1 ∧ K ≤ n1 ∧ n ≤ K + 1 ∧ wr.ownsRow (w2.heap.size) 3 1 v (x.drop K).reverse.length (i64s (x.drop K).reverse) ∧ (w2).grownBy wr none) (fun _ i _ => (intOf i + 1).toNat)
      case atStart => exact ⟨n1, _, rfl, by omega, by omega, by omega, by repeat (first | exact HOs.out | with_reducible refine World.ownsRow.drewN ?_ _), (by repeat (first | exact HTM13_.out | with_reducible refine gby_drewN ?_ _))⟩
      case round =>
        obtain ⟨K, z, rfl, hz, hK1, hK2, hown, hg⟩ := hrel
        have HO := Lib.hid hown
        have HG := Lib.hid hg
        have szr_ := hg.size
        clear hown hg HOs
        by_cases hlt : n ≤ K
        · obtain ⟨k, rfl⟩ : ∃ k, K = k + 1 := ⟨K - 1, by omega⟩
          obtain rfl : z = (k : Int) := by omega
          have hge : (n : Int) - 1 ≤ (k : Int) := by omega
          have hge2 : (k : Int) ≥ (n : Int) - 1 := by omega
          have hk0 : (0 : Int) ≤ (k : Int) := by omega
          have htk : ((k : Int)).toNat = k := by omega
          have hkn : (k : Int) < (n1 : Int) := by omega
          have hw1 : IntKind.i64.wrap ((k : Int) - 1) = (k : Int) - 1 := IntWalk.i64_in _ (by omega)
          obtain ⟨e, he⟩ : ∃ e, e = x.getD k 0 := ⟨_, rfl⟩
          have hc_ := HG.out.cell (HXC.out k (by omega)) (by simp)
          rw [← he] at hc_
          have HE := Lib.hid he
          clear he hz
          obtain ⟨m, hm⟩ : ∃ m, m = (x.drop (k + 1)).reverse.length := ⟨_, rfl⟩
          have HO1 := Lib.hid (show wr.ownsRow (w2.heap.size) 3 1 _ m (i64s (x.drop (k + 1)).reverse) from by rw [hm]; exact HO.out)
          have hb1 : m ≤ 12 := by rw [hm, List.length_reverse, List.length_drop]; have := HN1.out; omega
          have HM := Lib.hid hm
          clear hm
          go_wp2_with (at_builtin; refine wpList_append_lies _ (by rfl) _ _ _ (by rfl) (w2.heap.size) 3 i1_ _ 1 8 Try.underlying24 hi1_ hz0_ hz1_ hz2_ rfl (by omega) _ m (i64s (x.drop (k + 1)).reverse) (by rfl) (HO1.out.alloc _) ⟨wr.heap.size, 0, none⟩ 1 1 _ (by rfl) (by rfl) (World.news_of_block (t := 3) (fr := (0, 0)) (heap_alloc_new wr _)) (by simp [Value.oneCell']) (by omega) (by unfold maxLen; omega) (by omega) (by first | (simp; omega) | simp) (wr.heap.size + 1) (by simp) ?_; intro gg1 cap1 wa1 hown_ hgr_ hat_ hlt_; have HP1 := Lib.hid hown_; have HQ1 := Lib.hid (gby_new (gby_alloc HG.out _) hgr_ (fun i hi => own_from HO1.out i hi)); clear hown_ hgr_ hat_ hlt_)
          refine ⟨⟨k, _, rfl, by first | rfl | (rw [hw1]), by omega, by omega, ?_, HQ1.out⟩, by simp [intOf]⟩
          rw [drop_last x k (by have := HN1.out; omega), List.length_append, List.length_singleton, ← HM.out, i64s_append, ← HE.out]
          exact HP1.out
        · obtain rfl : n = K + 1 := by omega
          have hge : ¬ ((K + 1 : Nat) : Int) - 1 ≤ z := by omega
          have hge2 : ¬ z ≥ ((K + 1 : Nat) : Int) - 1 := by omega
          clear hz
          have hyr := rdI_cut (w := wr) (b := b2) (off := o2) (n := n2) (cap := c2) (k := K + 1) (ys := y) HN2.out.symm (by omega) (by omega) (by omega) (fun j hj => HG.out.cell (HYC.out j hj) (by simp))
          have HYR := Lib.hid hyr
          have HYR2 := Lib.hid (rdI_cells (w := wr) (b := b2) (off := o2 + (K + 1)) (len := n2 - (K + 1)) (cap := c2 - (K + 1)) (ys := y.drop (K + 1)) (by rw [List.length_drop, HN2.out]) (by omega) (by omega) (fun j hj => by rw [getD_drop, Nat.add_assoc]; exact HG.out.cell (HYC.out (K + 1 + j) (by omega)) (by simp)))
          clear hyr
          obtain ⟨m, hm⟩ : ∃ m, m = (x.drop K).reverse.length := ⟨_, rfl⟩
          have HO1 := Lib.hid (show wr.ownsRow (w2.heap.size) 3 1 _ m (i64s (x.drop K).reverse) from by rw [hm]; exact HO.out)
          have hb1 : m ≤ 12 := by rw [hm, List.length_reverse, List.length_drop]; have := HN1.out; omega
          have HM := Lib.hid hm
          clear hm
          have hcc : ¬ (c2 : Int) < ((K + 1 : Nat) : Int) := by omega
          have hcn : ¬ (n2 : Int) < ((K + 1 : Nat) : Int) := by omega
          go_wp2_with (at_builtin; refine wpList_append_plain plainI slTI _ rfl _ _ rfl (w2.heap.size) _ m (i64s (x.drop K).reverse) rfl HO1.out _ _ _ (y.drop (K + 1)) rfl (by first | exact HYR.out | exact HYR2.out) (by omega) (by omega) ?_; intro v3_ w5 hown2 hg2; have HO2 := Lib.hid hown2; have HG2 := Lib.hid (gby_new HG.out hg2 (fun i hi => own_from HO1.out i hi)); clear hown2 hg2)
          all_goals
            go_ret
            refine ⟨_, rfl, OwU.one (OwL.wide (show OwL shI w5 (w2.heap.size) w5.heap.size _ (btwL x y) from ?_) (gby_size MG7_.out) (Nat.le_refl _)), gby_trans MG7_.out HG2.out⟩
            have e_ : i64s (x.drop K).reverse ++ (y.drop (K + 1)).flatMap (fun x => [Value.int .i64 x]) = i64s (btwL x y) := by
              rw [flatI, ← i64s_append]; unfold btwL; rw [HLC.out]; rfl
            have q := HO2.out
            rw [e_] at q
            exact owI_out (by unfold btwL; rw [List.length_append, List.length_reverse, List.length_drop, List.length_drop]; have := HN1.out; have := HN2.out; omega) (owI_row q)
    by_cases h2 : n < n2
    rotate_left
    · have hki1 : (n : Int) < (n1 : Int) := by omega
      have hki2 : ¬ (n : Int) < (n2 : Int) := by omega
      have hlc : lcp x y = n := lcp_is (by rw [HN1.out]; exact hna) (by rw [HN2.out]; exact hnb) HJ.out (.inr (.inl (by rw [HN2.out]; omega)))
      go_wp2_with fail
      go_quiet (fail)
      have HLC := Lib.hid hlc
      clear hlc
      have hn1_ : 1 ≤ n := by rw [← HLC.out]; exact HL1.out
      try clear hc1_ hc2_
      have hk1 : IntKind.i64.wrap ((n1 : Int) - 1) = (n1 : Int) - 1 := IntWalk.i64_in _ (by omega)
      have hk2 : IntKind.i64.wrap ((n : Int) - 1) = (n : Int) - 1 := IntWalk.i64_in _ (by omega)
      have HOs := Lib.hid (HST.out.grown (show ((w2.alloc (.cells #[] 3))).grownBy _ none from HTB_.out))
      go_wp2
      go_loopw [9, 11] (fun v i wr => ∃ (K : Nat) (z : Int), i = .int .i64 z ∧ z = (K : Int) - 1 ∧ K ≤ n1 ∧ n ≤ K + 1 ∧ wr.ownsRow (w2.heap.size) 3 1 v (x.drop K).reverse.length (i64s (x.drop K).reverse) ∧ (w2).grownBy wr none) (fun _ i _ => (intOf i + 1).toNat)
      case atStart => exact ⟨n1, _, rfl, by omega, by omega, by omega, by repeat (first | exact HOs.out | with_reducible refine World.ownsRow.drewN ?_ _), (by repeat (first | exact HTM13_.out | with_reducible refine gby_drewN ?_ _))⟩
      case round =>
        obtain ⟨K, z, rfl, hz, hK1, hK2, hown, hg⟩ := hrel
        have HO := Lib.hid hown
        have HG := Lib.hid hg
        have szr_ := hg.size
        clear hown hg HOs
        by_cases hlt : n ≤ K
        · obtain ⟨k, rfl⟩ : ∃ k, K = k + 1 := ⟨K - 1, by omega⟩
          obtain rfl : z = (k : Int) := by omega
          have hge : (n : Int) - 1 ≤ (k : Int) := by omega
          have hge2 : (k : Int) ≥ (n : Int) - 1 := by omega
          have hk0 : (0 : Int) ≤ (k : Int) := by omega
          have htk : ((k : Int)).toNat = k := by omega
          have hkn : (k : Int) < (n1 : Int) := by omega
          have hw1 : IntKind.i64.wrap ((k : Int) - 1) = (k : Int) - 1 := IntWalk.i64_in _ (by omega)
          obtain ⟨e, he⟩ : ∃ e, e = x.getD k 0 := ⟨_, rfl⟩
          have hc_ := HG.out.cell (HXC.out k (by omega)) (by simp)
          rw [← he] at hc_
          have HE := Lib.hid he
          clear he hz
          obtain ⟨m, hm⟩ : ∃ m, m = (x.drop (k + 1)).reverse.length := ⟨_, rfl⟩
          have HO1 := Lib.hid (show wr.ownsRow (w2.heap.size) 3 1 _ m (i64s (x.drop (k + 1)).reverse) from by rw [hm]; exact HO.out)
          have hb1 : m ≤ 12 := by rw [hm, List.length_reverse, List.length_drop]; have := HN1.out; omega
          have HM := Lib.hid hm
          clear hm
          go_wp2_with (at_builtin; refine wpList_append_lies _ (by rfl) _ _ _ (by rfl) (w2.heap.size) 3 i1_ _ 1 8 Try.underlying24 hi1_ hz0_ hz1_ hz2_ rfl (by omega) _ m (i64s (x.drop (k + 1)).reverse) (by rfl) (HO1.out.alloc _) ⟨wr.heap.size, 0, none⟩ 1 1 _ (by rfl) (by rfl) (World.news_of_block (t := 3) (fr := (0, 0)) (heap_alloc_new wr _)) (by simp [Value.oneCell']) (by omega) (by unfold maxLen; omega) (by omega) (by first | (simp; omega) | simp) (wr.heap.size + 1) (by simp) ?_; intro gg1 cap1 wa1 hown_ hgr_ hat_ hlt_; have HP1 := Lib.hid hown_; have HQ1 := Lib.hid (gby_new (gby_alloc HG.out _) hgr_ (fun i hi => own_from HO1.out i hi)); clear hown_ hgr_ hat_ hlt_)
          refine ⟨⟨k, _, rfl, by first | rfl | (rw [hw1]), by omega, by omega, ?_, HQ1.out⟩, by simp [intOf]⟩
          rw [drop_last x k (by have := HN1.out; omega), List.length_append, List.length_singleton, ← HM.out, i64s_append, ← HE.out]
          exact HP1.out
        · obtain rfl : n = K + 1 := by omega
          have hge : ¬ ((K + 1 : Nat) : Int) - 1 ≤ z := by omega
          have hge2 : ¬ z ≥ ((K + 1 : Nat) : Int) - 1 := by omega
          clear hz
          have hyr := rdI_cut (w := wr) (b := b2) (off := o2) (n := n2) (cap := c2) (k := K + 1) (ys := y) HN2.out.symm (by omega) (by omega) (by omega) (fun j hj => HG.out.cell (HYC.out j hj) (by simp))
          have HYR := Lib.hid hyr
          have HYR2 := Lib.hid (rdI_cells (w := wr) (b := b2) (off := o2 + (K + 1)) (len := n2 - (K + 1)) (cap := c2 - (K + 1)) (ys := y.drop (K + 1)) (by rw [List.length_drop, HN2.out]) (by omega) (by omega) (fun j hj => by rw [getD_drop, Nat.add_assoc]; exact HG.out.cell (HYC.out (K + 1 + j) (by omega)) (by simp)))
          clear hyr
          obtain ⟨m, hm⟩ : ∃ m, m = (x.drop K).reverse.length := ⟨_, rfl⟩
          have HO1 := Lib.hid (show wr.ownsRow (w2.heap.size) 3 1 _ m (i64s (x.drop K).reverse) from by rw [hm]; exact HO.out)
          have hb1 : m ≤ 12 := by rw [hm, List.length_reverse, List.length_drop]; have := HN1.out; omega
          have HM := Lib.hid hm
          clear hm
          have hcc : ¬ (c2 : Int) < ((K + 1 : Nat) : Int) := by omega
          have hcn : ¬ (n2 : Int) < ((K + 1 : Nat) : Int) := by omega
          go_wp2_with (at_builtin; refine wpList_append_plain plainI slTI _ rfl _ _ rfl (w2.heap.size) _ m (i64s (x.drop K).reverse) rfl HO1.out _ _ _ (y.drop (K + 1)) rfl (by first | exact HYR.out | exact HYR2.out) (by omega) (by omega) ?_; intro v3_ w5 hown2 hg2; have HO2 := Lib.hid hown2; have HG2 := Lib.hid (gby_new HG.out hg2 (fun i hi => own_from HO1.out i hi)); clear hown2 hg2)
          all_goals
            go_ret
            refine ⟨_, rfl, OwU.one (OwL.wide (show OwL shI w5 (w2.heap.size) w5.heap.size _ (btwL x y) from ?_) (gby_size MG7_.out) (Nat.le_refl _)), gby_trans MG7_.out HG2.out⟩
            have e_ : i64s (x.drop K).reverse ++ (y.drop (K + 1)).flatMap (fun x => [Value.int .i64 x]) = i64s (btwL x y) := by
              rw [flatI, ← i64s_append]; unfold btwL; rw [HLC.out]; rfl
            have q := HO2.out
            rw [e_] at q
            exact owI_out (by unfold btwL; rw [List.length_append, List.length_reverse, List.length_drop, List.length_drop]; have := HN1.out; have := HN2.out; omega) (owI_row q)
    have hki1 : (n : Int) < (n1 : Int) := by omega
    have hki2 : (n : Int) < (n2 : Int) := by omega
    obtain ⟨e1, he1⟩ : ∃ e, e = x.getD n 0 := ⟨_, rfl⟩
    obtain ⟨e2, he2⟩ : ∃ e, e = y.getD n 0 := ⟨_, rfl⟩
    have hc1_ := (HTM13_.out).cell (HXC.out n (by omega)) (by simp)
    have hc2_ := (HTM13_.out).cell (HYC.out n (by omega)) (by simp)
    rw [← he1] at hc1_
    rw [← he2] at hc2_
    have HE1 := Lib.hid he1
    have HE2 := Lib.hid he2
    clear he1 he2
    by_cases he : e1 = e2
    rotate_left
    · have hb : (e1 == e2) = false := by simpa using he
      have hlc : lcp x y = n := lcp_is (by rw [HN1.out]; exact hna) (by rw [HN2.out]; exact hnb) HJ.out (.inr (.inr (by rw [← HE1.out, ← HE2.out]; exact he)))
      clear he
      go_wp2_with fail
      go_quiet (fail)
      have HLC := Lib.hid hlc
      clear hlc
      have hn1_ : 1 ≤ n := by rw [← HLC.out]; exact HL1.out
      try clear hc1_ hc2_
      have hk1 : IntKind.i64.wrap ((n1 : Int) - 1) = (n1 : Int) - 1 := IntWalk.i64_in _ (by omega)
      have hk2 : IntKind.i64.wrap ((n : Int) - 1) = (n : Int) - 1 := IntWalk.i64_in _ (by omega)
      have HOs := Lib.hid (HST.out.grown (show ((w2.alloc (.cells #[] 3))).grownBy _ none from HTB_.out))
      go_wp2
      go_loopw [9, 11] (fun v i wr => ∃ (K : Nat) (z : Int), i = .int .i64 z ∧ z = (K : Int) - 1 ∧ K ≤ n1 ∧ n ≤ K + 1 ∧ wr.ownsRow (w2.heap.size) 3 1 v (x.drop K).reverse.length (i64s (x.drop K).reverse) ∧ (w2).grownBy wr none) (fun _ i _ => (intOf i + 1).toNat)
      case atStart => exact ⟨n1, _, rfl, by omega, by omega, by omega, by repeat (first | exact HOs.out | with_reducible refine World.ownsRow.drewN ?_ _), (by repeat (first | exact HTM13_.out | with_reducible refine gby_drewN ?_ _))⟩
      case round =>
        obtain ⟨K, z, rfl, hz, hK1, hK2, hown, hg⟩ := hrel
        have HO := Lib.hid hown
        have HG := Lib.hid hg
        have szr_ := hg.size
        clear hown hg HOs
        by_cases hlt : n ≤ K
        · obtain ⟨k, rfl⟩ : ∃ k, K = k + 1 := ⟨K - 1, by omega⟩
          obtain rfl : z = (k : Int) := by omega
          have hge : (n : Int) - 1 ≤ (k : Int) := by omega
          have hge2 : (k : Int) ≥ (n : Int) - 1 := by omega
          have hk0 : (0 : Int) ≤ (k : Int) := by omega
          have htk : ((k : Int)).toNat = k := by omega
          have hkn : (k : Int) < (n1 : Int) := by omega
          have hw1 : IntKind.i64.wrap ((k : Int) - 1) = (k : Int) - 1 := IntWalk.i64_in _ (by omega)
          obtain ⟨e, he⟩ : ∃ e, e = x.getD k 0 := ⟨_, rfl⟩
          have hc_ := HG.out.cell (HXC.out k (by omega)) (by simp)
          rw [← he] at hc_
          have HE := Lib.hid he
          clear he hz
          obtain ⟨m, hm⟩ : ∃ m, m = (x.drop (k + 1)).reverse.length := ⟨_, rfl⟩
          have HO1 := Lib.hid (show wr.ownsRow (w2.heap.size) 3 1 _ m (i64s (x.drop (k + 1)).reverse) from by rw [hm]; exact HO.out)
          have hb1 : m ≤ 12 := by rw [hm, List.length_reverse, List.length_drop]; have := HN1.out; omega
          have HM := Lib.hid hm
          clear hm
          go_wp2_with (at_builtin; refine wpList_append_lies _ (by rfl) _ _ _ (by rfl) (w2.heap.size) 3 i1_ _ 1 8 Try.underlying24 hi1_ hz0_ hz1_ hz2_ rfl (by omega) _ m (i64s (x.drop (k + 1)).reverse) (by rfl) (HO1.out.alloc _) ⟨wr.heap.size, 0, none⟩ 1 1 _ (by rfl) (by rfl) (World.news_of_block (t := 3) (fr := (0, 0)) (heap_alloc_new wr _)) (by simp [Value.oneCell']) (by omega) (by unfold maxLen; omega) (by omega) (by first | (simp; omega) | simp) (wr.heap.size + 1) (by simp) ?_; intro gg1 cap1 wa1 hown_ hgr_ hat_ hlt_; have HP1 := Lib.hid hown_; have HQ1 := Lib.hid (gby_new (gby_alloc HG.out _) hgr_ (fun i hi => own_from HO1.out i hi)); clear hown_ hgr_ hat_ hlt_)
          refine ⟨⟨k, _, rfl, by first | rfl | (rw [hw1]), by omega, by omega, ?_, HQ1.out⟩, by simp [intOf]⟩
          rw [drop_last x k (by have := HN1.out; omega), List.length_append, List.length_singleton, ← HM.out, i64s_append, ← HE.out]
          exact HP1.out
        · obtain rfl : n = K + 1 := by omega
          have hge : ¬ ((K + 1 : Nat) : Int) - 1 ≤ z := by omega
          have hge2 : ¬ z ≥ ((K + 1 : Nat) : Int) - 1 := by omega
          clear hz
          have hyr := rdI_cut (w := wr) (b := b2) (off := o2) (n := n2) (cap := c2) (k := K + 1) (ys := y) HN2.out.symm (by omega) (by omega) (by omega) (fun j hj => HG.out.cell (HYC.out j hj) (by simp))
          have HYR := Lib.hid hyr
          have HYR2 := Lib.hid (rdI_cells (w := wr) (b := b2) (off := o2 + (K + 1)) (len := n2 - (K + 1)) (cap := c2 - (K + 1)) (ys := y.drop (K + 1)) (by rw [List.length_drop, HN2.out]) (by omega) (by omega) (fun j hj => by rw [getD_drop, Nat.add_assoc]; exact HG.out.cell (HYC.out (K + 1 + j) (by omega)) (by simp)))
          clear hyr
          obtain ⟨m, hm⟩ : ∃ m, m = (x.drop K).reverse.length := ⟨_, rfl⟩
          have HO1 := Lib.hid (show wr.ownsRow (w2.heap.size) 3 1 _ m (i64s (x.drop K).reverse) from by rw [hm]; exact HO.out)
          have hb1 : m ≤ 12 := by rw [hm, List.length_reverse, List.length_drop]; have := HN1.out; omega
          have HM := Lib.hid hm
          clear hm
          have hcc : ¬ (c2 : Int) < ((K + 1 : Nat) : Int) := by omega
          have hcn : ¬ (n2 : Int) < ((K + 1 : Nat) : Int) := by omega
          go_wp2_with (at_builtin; refine wpList_append_plain plainI slTI _ rfl _ _ rfl (w2.heap.size) _ m (i64s (x.drop K).reverse) rfl HO1.out _ _ _ (y.drop (K + 1)) rfl (by first | exact HYR.out | exact HYR2.out) (by omega) (by omega) ?_; intro v3_ w5 hown2 hg2; have HO2 := Lib.hid hown2; have HG2 := Lib.hid (gby_new HG.out hg2 (fun i hi => own_from HO1.out i hi)); clear hown2 hg2)
          all_goals
            go_ret
            refine ⟨_, rfl, OwU.one (OwL.wide (show OwL shI w5 (w2.heap.size) w5.heap.size _ (btwL x y) from ?_) (gby_size MG7_.out) (Nat.le_refl _)), gby_trans MG7_.out HG2.out⟩
            have e_ : i64s (x.drop K).reverse ++ (y.drop (K + 1)).flatMap (fun x => [Value.int .i64 x]) = i64s (btwL x y) := by
              rw [flatI, ← i64s_append]; unfold btwL; rw [HLC.out]; rfl
            have q := HO2.out
            rw [e_] at q
            exact owI_out (by unfold btwL; rw [List.length_append, List.length_reverse, List.length_drop, List.length_drop]; have := HN1.out; have := HN2.out; omega) (owI_row q)
    · subst he
      have hb : (e1 == e1) = true := by simp
      go_wp2_with fail
      go_quiet (fail)
      go_wp2
      refine ⟨⟨n + 1, by go_num, by omega, by omega, fun j hj => ?_, by repeat (first | exact HTB_.out | with_reducible refine gby_drewN ?_ _)⟩, by simp [intOf]; omega⟩
      by_cases e : j = n
      · subst e; rw [← HE1.out]; exact HE2.out
      · exact HJ.out j (by omega)

end Go.Proofs.Ytodfbodagjmfmab
