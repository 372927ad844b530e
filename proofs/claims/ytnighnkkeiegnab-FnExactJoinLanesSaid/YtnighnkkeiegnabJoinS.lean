/-
  JoinLanes, the model.
-/
import Derived.Test.YtnighnkkeiegnabJoinMath
namespace Go.Proofs.Ytnighnkkeiegnab
open Go Go.RowKit
set_option linter.unusedVariables false

theorem gby_sizeJ {w w' : World} {r : Option Nat} (g : w.grownBy w' r) : w.heap.size ≤ w'.heap.size := g.size

set_option maxRecDepth 8000 in
set_option maxHeartbeats 4000000 in
theorem specJoin (W : World) (v : Value) (L : List (List Int)) (H : RdL (shL shI) W v L) (hl : szL (shL shI) L ≤ 1048576) : Calls Try.prog 21 #[v] W (JPost L W) := by
  obtain ⟨i1_, hi1_, hz0_, hz1_, hz2_⟩ := info_parts infoInt
  have HRD := Lib.hid H
  have HSZ := Lib.hid hl
  have hwl_ := szLL_len hl
  have htm_ := tot_max hl
  obtain ⟨a0, cap0, rfl, _, hr⟩ := rll_in H
  have HA := Lib.hid hr.2
  obtain ⟨w0, hw0⟩ : ∃ n, n = L.length := ⟨_, rfl⟩
  have HE := Lib.hid hw0
  obtain ⟨n0, hn0⟩ : ∃ n, n = tot L L.length := ⟨_, rfl⟩
  have HN := Lib.hid hn0
  rw [← hw0] at hwl_ HA ⊢
  rw [← hn0] at htm_
  clear H hl hr hw0 hn0
  by_cases hw : IsW (w0 : Int)
  rotate_left
  · have HW := Lib.hid (show false = decide (IsW (w0 : Int)) from (decide_eq_false hw).symm)
    have HNG := Lib.hid (show ¬ GoodJ L from fun q => hw (by rw [HE.out]; exact q.1))
    clear hw
    go_enter Try.func21, Try.ntmps21
    go_wp2_with fail
    go_at_call 72
    refine (specWD (w0 : Int) false HW.out _).mono ?_
    rintro e w1 ⟨rfl, hd⟩
    have g := hd.gby none
    clear hd
    have szw1 := g.size
    try simp only [World.size_alloc] at szw1
    try simp only [World.size_setCell] at szw1
    have G1_ := Lib.hid (show (W).grownBy (w1) none from gby_trans (gby_refl _ _) g)
    clear g
    have al_ : (w1).grownBy ((w1).alloc (.cells #[] 3)) none := gby_alloc (gby_refl _ _) _
    have G2_ := Lib.hid (show (W).grownBy ((w1.alloc (.cells #[] 3))) none from gby_trans G1_.out al_)
    have rN3_ := Lib.hid (show ((w1.alloc (.cells #[] 3))).heap[w1.heap.size]? = some (.cells #[] 3 (0, 0)) from by first | exact heap_alloc_new _ _ | exact heap_pair _ _ _ | exact heap_trip _ _ _ _)
    clear al_
    go_wp2
    go_ret2
    exact ⟨_, [], false, rfl, OwU.one (owL_empty (by omega) (by simp only [World.size_alloc]; omega)), G2_.out, .inr ⟨HNG.out, rfl, rfl⟩⟩
  have HW := Lib.hid (show true = decide (IsW (w0 : Int)) from (decide_eq_true hw).symm)
  have HIW := Lib.hid (show IsW (L.length : Int) from by rw [← HE.out]; exact hw)
  clear hw
  go_enter Try.func21, Try.ntmps21
  go_wp2_with fail
  go_at_call 72
  refine (specWD (w0 : Int) true HW.out _).mono ?_
  rintro e w1 ⟨rfl, hd⟩
  have g := hd.gby none
  clear hd
  have szw1 := g.size
  try simp only [World.size_alloc] at szw1
  try simp only [World.size_setCell] at szw1
  have G1_ := Lib.hid (show (W).grownBy (w1) none from gby_trans (gby_refl _ _) g)
  clear g
  go_wp2
  go_loopw [4, 5] (fun z i wr => ∃ k : Nat, i = .int .i64 (k : Int) ∧ k ≤ w0 ∧ z = .int .i64 ((tot L k : Nat) : Int) ∧ (w1).grownBy wr none) (fun _ i _ => w0 - (intOf i).toNat)
  case atStart => exact ⟨0, rfl, by omega, rfl, gby_refl _ _⟩
  case round =>
    obtain ⟨wl, hwo_⟩ : ∃ w_, w_ = wr := ⟨_, rfl⟩
    subst hwo_
    obtain ⟨k, rfl, hk, rfl, hg⟩ := hrel
    have szrwl := hg.size
    try simp only [World.size_alloc] at szrwl
    try simp only [World.size_setCell] at szrwl
    have szr_ := szrwl
    have G2_ := Lib.hid (show (W).grownBy (wl) none from gby_trans G1_.out hg)
    have HTB_ := Lib.hid hg
    clear hg
    have hk0 : (0 : Int) ≤ (k : Int) := by omega
    have htk : ((k : Int)).toNat = k := by omega
    obtain ⟨z0, hz0⟩ : ∃ z, z = tot L k := ⟨_, rfl⟩
    have hzm_ : z0 ≤ n0 := by rw [hz0, HN.out]; exact tot_mono L k L.length (by have := HE.out; omega) (Nat.le_refl _)
    rw [← hz0]
    have HZ := Lib.hid hz0
    clear hz0
    by_cases hlt : k < w0
    rotate_left
    · have hkk_ : w0 = k := by omega
      subst hkk_
      have hki : ¬ (w0 : Int) < (w0 : Int) := by omega
      have hzn_ : n0 = z0 := by rw [HN.out, HZ.out, HE.out]
      subst hzn_
      have HTM3_ := Lib.hid (gby_refl (wl) none)
      have MG4_ := Lib.hid (show (W).grownBy (wl) none from G2_.out)
      have al_ : (wl).grownBy ((wl).alloc (.cells #[] 3)) none := gby_alloc (gby_refl _ _) _
      have G5_ := Lib.hid (show (W).grownBy ((wl.alloc (.cells #[] 3))) none from gby_trans G2_.out al_)
      have HTB6_ := Lib.hid (show (w1).grownBy ((wl.alloc (.cells #[] 3))) none from gby_trans HTB_.out al_)
      clear HTB_
      have HTM7_ := Lib.hid (show (wl).grownBy ((wl.alloc (.cells #[] 3))) none from gby_trans HTM3_.out al_)
      clear HTM3_
      have rO8_ := Lib.hid (show ((wl.alloc (.cells #[] 3))).heap[wl.heap.size]? = some (.cells #[] 3 (0, 0)) from by first | exact heap_alloc_new _ _ | exact heap_pair _ _ _ | exact heap_trip _ _ _ _)
      clear al_
      have hst_ : ((wl.alloc (.cells #[] 3))).ownsRow (wl.heap.size) 3 1 (.slice (some ⟨wl.heap.size, 0, none⟩) 0 0) ([] : List Int).length (i64s []) := own_emptyP (e := 3) (n := 1) rO8_.out (Nat.le_refl _)
      clear hki hzm_ hlt hk hk0 htk
      go_wp2
      go_loopw [6, 7] (fun v i wr => ∃ k : Nat, i = .int .i64 (k : Int) ∧ (k ≤ n0 ∧ k ≤ 41) ∧ (∀ j, j < k → FitsJ L w0 j) ∧ wr.ownsRow (wl.heap.size) 3 1 v (joinL L w0 k).length (i64s (joinL L w0 k)) ∧ (wl).grownBy wr none) (fun _ i _ => n0 - (intOf i).toNat)
      case atStart => exact ⟨0, rfl, ⟨by omega, by omega⟩, (fun j hj => absurd hj (Nat.not_lt_zero _)), hst_, HTM7_.out⟩
      case round =>
        clear rO8_
        clear HTB6_
        clear HTM7_
        obtain ⟨k, rfl, hk, hf_, hown, hg⟩ := hrel
        have szr_ := hg.size
        try simp only [World.size_alloc] at szr_
        try simp only [World.size_setCell] at szr_
        have G9_ := Lib.hid (show (W).grownBy (wr) none from gby_trans MG4_.out hg)
        have HTM10_ := Lib.hid hg
        clear hg
        clear hst_
        have HF := Lib.hid hf_
        have HO := Lib.hid hown
        clear hf_ hown
        obtain ⟨hk1_, hk2_⟩ := hk
        have hk0 : (0 : Int) ≤ (k : Int) := by omega
        have htk : ((k : Int)).toNat = k := by omega
        by_cases hlt : k < n0 ∧ k ≤ 40
        rotate_left
        · have HKE := Lib.hid (show k = n0 ∨ (k = 41 ∧ k < n0) from by omega)
          have hjl_ := joinL_len L w0 k
          have HO1 := Lib.hid (owI_out (by omega) (owI_row HO.out))
          obtain ⟨po, no, co, hv_⟩ := RdL.form (OwL.rd HO1.out)
          subst hv_
          have hno_ : no = (joinL L w0 k).length := by obtain ⟨_, _, e, _⟩ := OwL.rd HO1.out; injection e
          have HNO := Lib.hid hno_
          clear hno_
          obtain ⟨bb, hbb_⟩ : ∃ b, b = decide (AreB (joinL L w0 k)) := ⟨_, rfl⟩
          have HBB := Lib.hid hbb_
          clear hbb_
          have HGE := Lib.hid (show GoodJ L ↔ AreB (joinL L w0 k) from by have := good_end (k := k) HIW.out (by rw [← HE.out]; exact HF.out) (by rw [← HN.out]; exact HKE.out); rwa [← HE.out] at this)
          cases bb
          · by_cases hkn9 : k < n0
            · have hki : (k : Int) < (n0 : Int) := by omega
              have hkj : ¬ (k : Int) ≤ 40 := by omega
              have HNG := Lib.hid (show ¬ GoodJ L from fun q => absurd (HGE.out.1 q) (of_decide_eq_false HBB.out.symm))
              have HQ0 := Lib.hid (gby_refl (wr) none)
              go_wp2_with fail
              go_at_call 64
              refine (specByD _ _ (joinL L w0 k) ((OwL.rd HO1.out).grow HQ0.out) (by rw [szL_I, joinL_len]; omega) false HBB.out).mono ?_
              rintro e w2 ⟨rfl, g⟩
              have szw2 := g.size
              try simp only [World.size_alloc] at szw2
              try simp only [World.size_setCell] at szw2
              have G11_ := Lib.hid (show (W).grownBy (w2) none from gby_trans G9_.out g)
              have HTM12_ := Lib.hid (show (wl).grownBy (w2) none from gby_trans HTM10_.out g)
              clear HTM10_
              have HTQ13_ := Lib.hid (show (wr).grownBy (w2) none from gby_trans HQ0.out g)
              clear HQ0
              clear g
              have al_ : (w2).grownBy ((w2).alloc (.cells #[] 3)) none := gby_alloc (gby_refl _ _) _
              have G14_ := Lib.hid (show (W).grownBy ((w2.alloc (.cells #[] 3))) none from gby_trans G11_.out al_)
              have HTM15_ := Lib.hid (show (wl).grownBy ((w2.alloc (.cells #[] 3))) none from gby_trans HTM12_.out al_)
              clear HTM12_
              have HTQ16_ := Lib.hid (show (wr).grownBy ((w2.alloc (.cells #[] 3))) none from gby_trans HTQ13_.out al_)
              clear HTQ13_
              have rN17_ := Lib.hid (show ((w2.alloc (.cells #[] 3))).heap[w2.heap.size]? = some (.cells #[] 3 (0, 0)) from by first | exact heap_alloc_new _ _ | exact heap_pair _ _ _ | exact heap_trip _ _ _ _)
              clear al_
              go_wp2
              go_ret2
              exact ⟨_, [], false, rfl, OwU.one (owL_empty (by omega) (by simp only [World.size_alloc]; omega)), G14_.out, .inr ⟨HNG.out, rfl, rfl⟩⟩
            · have hki : ¬ (k : Int) < (n0 : Int) := by omega
              have HNG := Lib.hid (show ¬ GoodJ L from fun q => absurd (HGE.out.1 q) (of_decide_eq_false HBB.out.symm))
              have HQ0 := Lib.hid (gby_refl (wr) none)
              go_wp2_with fail
              go_at_call 64
              refine (specByD _ _ (joinL L w0 k) ((OwL.rd HO1.out).grow HQ0.out) (by rw [szL_I, joinL_len]; omega) false HBB.out).mono ?_
              rintro e w2 ⟨rfl, g⟩
              have szw2 := g.size
              try simp only [World.size_alloc] at szw2
              try simp only [World.size_setCell] at szw2
              have G11_ := Lib.hid (show (W).grownBy (w2) none from gby_trans G9_.out g)
              have HTM12_ := Lib.hid (show (wl).grownBy (w2) none from gby_trans HTM10_.out g)
              clear HTM10_
              have HTQ13_ := Lib.hid (show (wr).grownBy (w2) none from gby_trans HQ0.out g)
              clear HQ0
              clear g
              have al_ : (w2).grownBy ((w2).alloc (.cells #[] 3)) none := gby_alloc (gby_refl _ _) _
              have G14_ := Lib.hid (show (W).grownBy ((w2.alloc (.cells #[] 3))) none from gby_trans G11_.out al_)
              have HTM15_ := Lib.hid (show (wl).grownBy ((w2.alloc (.cells #[] 3))) none from gby_trans HTM12_.out al_)
              clear HTM12_
              have HTQ16_ := Lib.hid (show (wr).grownBy ((w2.alloc (.cells #[] 3))) none from gby_trans HTQ13_.out al_)
              clear HTQ13_
              have rN17_ := Lib.hid (show ((w2.alloc (.cells #[] 3))).heap[w2.heap.size]? = some (.cells #[] 3 (0, 0)) from by first | exact heap_alloc_new _ _ | exact heap_pair _ _ _ | exact heap_trip _ _ _ _)
              clear al_
              go_wp2
              go_ret2
              exact ⟨_, [], false, rfl, OwU.one (owL_empty (by omega) (by simp only [World.size_alloc]; omega)), G14_.out, .inr ⟨HNG.out, rfl, rfl⟩⟩
          · by_cases hkn9 : k < n0
            · have hki : (k : Int) < (n0 : Int) := by omega
              have hkj : ¬ (k : Int) ≤ 40 := by omega
              have HGD := Lib.hid (HGE.out.2 (of_decide_eq_true HBB.out.symm))
              have hkn_ : k = n0 := by have := areB_end (L := L) (k := k) (by rw [← HE.out]; exact of_decide_eq_true HBB.out.symm) (by rw [← HN.out]; exact HKE.out); rw [this, ← HN.out]
              have HKN := Lib.hid hkn_
              clear hkn_
              have HQ0 := Lib.hid (gby_refl (wr) none)
              go_wp2_with fail
              go_at_call 64
              refine (specByD _ _ (joinL L w0 k) ((OwL.rd HO1.out).grow HQ0.out) (by rw [szL_I, joinL_len]; omega) true HBB.out).mono ?_
              rintro e w2 ⟨rfl, g⟩
              have szw2 := g.size
              try simp only [World.size_alloc] at szw2
              try simp only [World.size_setCell] at szw2
              have G11_ := Lib.hid (show (W).grownBy (w2) none from gby_trans G9_.out g)
              have HTM12_ := Lib.hid (show (wl).grownBy (w2) none from gby_trans HTM10_.out g)
              clear HTM10_
              have HTQ13_ := Lib.hid (show (wr).grownBy (w2) none from gby_trans HQ0.out g)
              clear HQ0
              clear g
              have HO2 := Lib.hid (OwL.grow HO1.out HTQ13_.out)
              have szq_ := (HTQ13_.out).size
              go_wp2
              go_ret2
              exact ⟨_, joinL L w0 k, true, rfl, OwU.one (OwL.wide HO2.out (by omega) (by omega)), G11_.out, .inl ⟨HGD.out, by rw [HKN.out, HN.out, HE.out], rfl⟩⟩
            · have hki : ¬ (k : Int) < (n0 : Int) := by omega
              have HGD := Lib.hid (HGE.out.2 (of_decide_eq_true HBB.out.symm))
              have hkn_ : k = n0 := by have := areB_end (L := L) (k := k) (by rw [← HE.out]; exact of_decide_eq_true HBB.out.symm) (by rw [← HN.out]; exact HKE.out); rw [this, ← HN.out]
              have HKN := Lib.hid hkn_
              clear hkn_
              have HQ0 := Lib.hid (gby_refl (wr) none)
              go_wp2_with fail
              go_at_call 64
              refine (specByD _ _ (joinL L w0 k) ((OwL.rd HO1.out).grow HQ0.out) (by rw [szL_I, joinL_len]; omega) true HBB.out).mono ?_
              rintro e w2 ⟨rfl, g⟩
              have szw2 := g.size
              try simp only [World.size_alloc] at szw2
              try simp only [World.size_setCell] at szw2
              have G11_ := Lib.hid (show (W).grownBy (w2) none from gby_trans G9_.out g)
              have HTM12_ := Lib.hid (show (wl).grownBy (w2) none from gby_trans HTM10_.out g)
              clear HTM10_
              have HTQ13_ := Lib.hid (show (wr).grownBy (w2) none from gby_trans HQ0.out g)
              clear HQ0
              clear g
              have HO2 := Lib.hid (OwL.grow HO1.out HTQ13_.out)
              have szq_ := (HTQ13_.out).size
              go_wp2
              go_ret2
              exact ⟨_, joinL L w0 k, true, rfl, OwU.one (OwL.wide HO2.out (by omega) (by omega)), G11_.out, .inl ⟨HGD.out, by rw [HKN.out, HN.out, HE.out], rfl⟩⟩
        obtain ⟨hlt1, hlt2⟩ := hlt
        have hki : (k : Int) < (n0 : Int) := by omega
        have hkj : (k : Int) ≤ 40 := by omega
        have hwp0_ : 0 < w0 := by rcases HIW.out with h | h | h <;> (have := HE.out; omega)
        have hwp_ : 0 < w0 := by omega
        have hm_ : k % w0 < w0 := Nat.mod_lt _ hwp_
        have hd_ : k / w0 ≤ k := Nat.div_le_self _ _
        obtain ⟨km, hkm_⟩ : ∃ q, q = k % w0 := ⟨_, rfl⟩
        obtain ⟨kd, hkd_⟩ : ∃ q, q = k / w0 := ⟨_, rfl⟩
        have e1_ : (k : Int).tmod (w0 : Int) = (km : Int) := by rw [Int.tmod_eq_emod_of_nonneg (by omega), hkm_]; rfl
        have e2_ : (k : Int).tdiv (w0 : Int) = (kd : Int) := by rw [Int.tdiv_eq_ediv_of_nonneg (by omega), hkd_]; rfl
        have e3_ : (k : Int) % (w0 : Int) = (km : Int) := by rw [hkm_]; rfl
        have e4_ : (k : Int) / (w0 : Int) = (kd : Int) := by rw [hkd_]; rfl
        have hwz_ : ((w0 : Int) == 0) = false := by simp; omega
        have hwz2_ : ¬ (w0 : Int) = 0 := by omega
        have hwz3_ : ¬ w0 = 0 := by omega
        rw [← hkm_] at hm_
        rw [← hkd_] at hd_
        have HKM := Lib.hid hkm_
        have HKD := Lib.hid hkd_
        clear hkm_ hkd_
        have hm0_ : (0 : Int) ≤ (km : Int) := by omega
        have hmt_ : ((km : Int)).toNat = km := by omega
        have hmi_ : (km : Int) < (w0 : Int) := by omega
        have hd0_ : (0 : Int) ≤ (kd : Int) := by omega
        have hdt_ : ((kd : Int)).toNat = kd := by omega
        have hwr1_ : IntKind.i64.wrap (km : Int) = (km : Int) := IntWalk.i64_in _ (by omega)
        have hwr2_ : IntKind.i64.wrap (kd : Int) = (kd : Int) := IntWalk.i64_in _ (by omega)
        obtain ⟨ab, ao, rfl, hc_⟩ := HA.out.resolve_left (by omega)
        obtain ⟨u_, hu_, hru_⟩ := hc_ km hm_
        clear hc_
        obtain ⟨x, hx_⟩ : ∃ x, x = L.getD km [] := ⟨_, rfl⟩
        rw [← hx_] at hru_
        have HX := Lib.hid hx_
        obtain ⟨px, cx, rfl, hrx_⟩ := rdI_len hru_
        obtain ⟨nx, hnx_⟩ : ∃ n, n = x.length := ⟨_, rfl⟩
        rw [← hnx_] at hu_
        have HNX := Lib.hid hnx_
        have HRX := Lib.hid hrx_
        have HUC := Lib.hid hu_
        clear hx_ hru_ hrx_ hu_ hnx_
        have HFI := Lib.hid (show FitsJ L L.length k ↔ kd < nx from by unfold FitsJ; rw [← HE.out, ← HKM.out, ← HKD.out, ← HX.out, HNX.out])
        by_cases hfit : kd < nx
        rotate_left
        · have hfi_ : ¬ (kd : Int) < (nx : Int) := by omega
          have hfj_ : (nx : Int) ≤ (kd : Int) := by omega
          have HNG := Lib.hid (show ¬ GoodJ L from fun q => hfit (HFI.out.1 (q.2.1 k (by rw [← HN.out]; exact hlt1))))
          have uc_ := (G9_.out).cell HUC.out (by simp)
          have al_ : (wr).grownBy ((wr).alloc (.cells #[] 3)) none := gby_alloc (gby_refl _ _) _
          have G11_ := Lib.hid (show (W).grownBy ((wr.alloc (.cells #[] 3))) none from gby_trans G9_.out al_)
          have HTM12_ := Lib.hid (show (wl).grownBy ((wr.alloc (.cells #[] 3))) none from gby_trans HTM10_.out al_)
          clear HTM10_
          have rN13_ := Lib.hid (show ((wr.alloc (.cells #[] 3))).heap[wr.heap.size]? = some (.cells #[] 3 (0, 0)) from by first | exact heap_alloc_new _ _ | exact heap_pair _ _ _ | exact heap_trip _ _ _ _)
          clear al_
          have uc_ := (G11_.out).cell HUC.out (by simp)
          go_wp2
          go_ret2
          exact ⟨_, [], false, rfl, OwU.one (owL_empty (by omega) (by simp only [World.size_alloc]; omega)), G11_.out, .inr ⟨HNG.out, rfl, rfl⟩⟩
        have hfi_ : (kd : Int) < (nx : Int) := by omega
        have hfj_ : ¬ (nx : Int) ≤ (kd : Int) := by omega
        obtain ⟨bx, ox, rfl, hcx_⟩ := HRX.out.resolve_left (by have := HNX.out; omega)
        have hy_ := hcx_ kd (by have := HNX.out; omega)
        clear hcx_
        obtain ⟨y, hye_⟩ : ∃ y, y = x.getD kd 0 := ⟨_, rfl⟩
        rw [← hye_] at hy_
        have HYC := Lib.hid hy_
        have HYV := Lib.hid (show valJ L w0 k = y from by unfold valJ; rw [← HKM.out, ← HKD.out, ← HX.out, hye_])
        clear hy_ hye_
        have uc_ := (G9_.out).cell HUC.out (by simp)
        have yc_ := (G9_.out).cell HYC.out (by simp)
        have hjl_ := joinL_len L w0 k
        have hb_ : (joinL L w0 k).length ≤ 1048576 := by omega
        clear hjl_
        obtain ⟨m11, hm11⟩ : ∃ ml_, ml_ = (joinL L w0 k).length := ⟨_, rfl⟩
        have HO11 := Lib.hid (show (wr).ownsRow (wl.heap.size) 3 1 _ m11 (i64s (joinL L w0 k)) from by rw [hm11]; exact HO.out)
        have hb11 : m11 ≤ 1048576 := by rw [hm11]; exact hb_
        have HM11 := Lib.hid hm11
        clear hm11 hb_
        go_wp2_with (at_builtin; refine wpList_append_lies _ (by rfl) _ _ _ (by rfl) (wl.heap.size) 3 i1_ _ 1 8 Try.underlying23 hi1_ hz0_ hz1_ hz2_ rfl (by omega) _ m11 (i64s (joinL L w0 k)) (by rfl) (HO11.out.alloc _) ⟨(wr).heap.size, 0, none⟩ 1 1 _ (by rfl) (by rfl) (World.news_of_block (t := 3) (fr := (0, 0)) (heap_alloc_new (wr) _)) (by simp [Value.oneCell']) (by omega) (by unfold maxLen; omega) (by omega) (by simp; omega) ((wr).heap.size + 1) (by simp) ?_; intro gg11 cap11 wa11 hown_ hgr_ hat_ hlt_; have HP11 := Lib.hid hown_; have HQ11 := Lib.hid hgr_; clear hown_ hgr_ hat_ hlt_)
        refine ⟨⟨k + 1, by go_num, ⟨by omega, by omega⟩, fun j hj => ?_, ?_, ?_⟩, by simp [intOf]; omega⟩
        · by_cases e : j = k
          · subst e; have q := HFI.out.2 hfit; rw [← HE.out] at q; exact q
          · exact HF.out j (by omega)
        · show wa11.ownsRow _ _ _ _ (joinL L w0 k ++ [valJ L w0 k]).length (i64s (joinL L w0 k ++ [valJ L w0 k]))
          rw [HYV.out, List.length_append, List.length_singleton, ← HM11.out, i64s_append]; exact HP11.out
        · exact gby_new (gby_alloc HTM10_.out _) HQ11.out (fun b hb => by have := own_from HO11.out b hb; have := gby_sizeJ MG4_.out; (try simp only [World.size_alloc] at *); omega)
    have hki : (k : Int) < (w0 : Int) := by omega
    obtain ⟨ab, ao, rfl, hc_⟩ := HA.out.resolve_left (by omega)
    obtain ⟨u_, hu_, hru_⟩ := hc_ k hlt
    clear hc_
    obtain ⟨x, hx_⟩ : ∃ x, x = L.getD k [] := ⟨_, rfl⟩
    rw [← hx_] at hru_
    have HX := Lib.hid hx_
    obtain ⟨px, cx, rfl, hrx_⟩ := rdI_len hru_
    obtain ⟨nx, hnx_⟩ : ∃ n, n = x.length := ⟨_, rfl⟩
    rw [← hnx_] at hu_
    have HNX := Lib.hid hnx_
    have HRX := Lib.hid hrx_
    have HUC := Lib.hid hu_
    clear hx_ hru_ hrx_ hu_ hnx_
    have uc_ := (G2_.out).cell HUC.out (by simp)
    have hs_ : tot L (k + 1) = z0 + nx := by rw [HZ.out, HNX.out, HX.out]; exact tot_succ L k (by have := HE.out; omega)
    have hsm_ : z0 + nx ≤ n0 := by rw [← hs_, HN.out]; exact tot_mono L (k + 1) L.length (by have := HE.out; omega) (Nat.le_refl _)
    go_wp2
    refine ⟨⟨k + 1, by go_num, by omega, by rw [hs_]; go_num, HTB_.out⟩, by simp [intOf]; omega⟩

end Go.Proofs.Ytnighnkkeiegnab
