/-
  JoinLanes, the program.
-/
import Derived.Test.YtnighnkkeiegnabJoinMath
namespace Go.Proofs.Ytnighnkkeiegnab
open Go Go.RowKit
set_option linter.unusedVariables false

theorem ownI_made {w : World} {base n : Nat} {v : Value} (hn : n ≤ 9223372036854775807) (h : w.ownsRow base 3 1 v n (madeCells (Value.int .i64 0).cells (n * 1)).toList) : OwL shI w base w.heap.size v (List.replicate n (0 : Int)) := by
  rw [show (Value.int .i64 0).cells = #[Value.int .i64 0] from rfl, Nat.mul_one, toList_madeCells_one] at h
  refine owP_row (s := shI) (e := 3) _ plainI.len plainI.ow (by simpa using hn) ?_
  rw [List.length_replicate]
  clear hn
  have e : ∀ n : Nat, (List.replicate n (0 : Int)).flatMap (fun x => [Value.int .i64 x]) = List.replicate n (Value.int .i64 0) := by
    intro n
    induction n with
    | zero => rfl
    | succ n ih => rw [List.replicate_succ, List.flatMap_cons, ih]; rfl
  rw [e]; exact h

set_option maxRecDepth 8000 in
set_option maxHeartbeats 2000000 in
theorem sizeOf_any (W : World) (v : Value) (L : List (List Int)) (H : RdL (shL shI) W v L) (hl : szL (shL shI) L ≤ 1048576) : Calls Try.prog 74 #[v] W (AnsN (.int .i64 ((tot L L.length : Nat) : Int)) W) := by
  obtain ⟨i1_, hi1_, hz0_, hz1_, hz2_⟩ := info_parts infoInt
  have HRD := Lib.hid H
  have HSZ := Lib.hid hl
  have hwl_ := szLL_len hl
  have htm_ := tot_max hl
  obtain ⟨a0, cap0, rfl, _, hr⟩ := rll_in H
  have HA := Lib.hid hr.2
  obtain ⟨w0, hw0⟩ : ∃ n, n = L.length := ⟨_, rfl⟩
  have HE := Lib.hid hw0
  obtain ⟨n0, hn0⟩ : ∃ n, n = tot L L.length := ⟨_, rfl⟩
  have HN := Lib.hid hn0
  rw [← hw0] at hwl_ HA ⊢
  rw [← hn0] at htm_
  clear H hl hr hw0 hn0
  go_enter Try.func74, Try.ntmps74
  go_wp2
  go_loopw [3, 8] (fun z i wr => ∃ k : Nat, i = .int .i64 (k : Int) ∧ k ≤ w0 ∧ z = .int .i64 ((tot L k : Nat) : Int) ∧ (W).grownBy wr none) (fun _ i _ => w0 - (intOf i).toNat)
  case atStart => exact ⟨0, rfl, by omega, rfl, gby_refl _ _⟩
  case round =>
    obtain ⟨wl, hwo_⟩ : ∃ w_, w_ = wr := ⟨_, rfl⟩
    subst hwo_
    obtain ⟨k, rfl, hk, rfl, hg⟩ := hrel
    have szrwl := hg.size
    try simp only [World.size_alloc] at szrwl
    try simp only [World.size_setCell] at szrwl
    have szr_ := szrwl
    have G1_ := Lib.hid (show (W).grownBy (wl) none from gby_trans (gby_refl _ _) hg)
    have HTB_ := Lib.hid hg
    clear hg
    have hk0 : (0 : Int) ≤ (k : Int) := by omega
    have htk : ((k : Int)).toNat = k := by omega
    obtain ⟨z0, hz0⟩ : ∃ z, z = tot L k := ⟨_, rfl⟩
    have hzm_ : z0 ≤ n0 := by rw [hz0, HN.out]; exact tot_mono L k L.length (by have := HE.out; omega) (Nat.le_refl _)
    rw [← hz0]
    have HZ := Lib.hid hz0
    clear hz0
    by_cases hlt : k < w0
    rotate_left
    · have hkk_ : w0 = k := by omega
      subst hkk_
      have hki : ¬ (w0 : Int) < (w0 : Int) := by omega
      go_wp2
      go_ret
      exact ⟨ret_i64 (by rw [HZ.out, HE.out]), G1_.out⟩
    have hki : (k : Int) < (w0 : Int) := by omega
    obtain ⟨ab, ao, rfl, hc_⟩ := HA.out.resolve_left (by omega)
    obtain ⟨u_, hu_, hru_⟩ := hc_ k hlt
    clear hc_
    obtain ⟨x, hx_⟩ : ∃ x, x = L.getD k [] := ⟨_, rfl⟩
    rw [← hx_] at hru_
    have HX := Lib.hid hx_
    obtain ⟨px, cx, rfl, hrx_⟩ := rdI_len hru_
    obtain ⟨nx, hnx_⟩ : ∃ n, n = x.length := ⟨_, rfl⟩
    rw [← hnx_] at hu_
    have HNX := Lib.hid hnx_
    have HRX := Lib.hid hrx_
    have HUC := Lib.hid hu_
    clear hx_ hru_ hrx_ hu_ hnx_
    have uc_ := (G1_.out).cell HUC.out (by simp)
    have hs_ : tot L (k + 1) = z0 + nx := by rw [HZ.out, HNX.out, HX.out]; exact tot_succ L k (by have := HE.out; omega)
    have hsm_ : z0 + nx ≤ n0 := by rw [← hs_, HN.out]; exact tot_mono L (k + 1) L.length (by have := HE.out; omega) (Nat.le_refl _)
    go_wp2
    refine ⟨⟨k + 1, by go_num, by omega, by rw [hs_]; go_num, HTB_.out⟩, by simp [intOf]; omega⟩

set_option maxRecDepth 8000 in
set_option maxHeartbeats 4000000 in
theorem implJoin (W : World) (v : Value) (L : List (List Int)) (H : RdL (shL shI) W v L) (hl : szL (shL shI) L ≤ 1048576) : Calls Try.prog 23 #[v] W (JPost L W) := by
  obtain ⟨i1_, hi1_, hz0_, hz1_, hz2_⟩ := info_parts infoInt
  have HRD := Lib.hid H
  have HSZ := Lib.hid hl
  have hwl_ := szLL_len hl
  have htm_ := tot_max hl
  obtain ⟨a0, cap0, rfl, _, hr⟩ := rll_in H
  have HA := Lib.hid hr.2
  obtain ⟨w0, hw0⟩ : ∃ n, n = L.length := ⟨_, rfl⟩
  have HE := Lib.hid hw0
  obtain ⟨n0, hn0⟩ : ∃ n, n = tot L L.length := ⟨_, rfl⟩
  have HN := Lib.hid hn0
  rw [← hw0] at hwl_ HA ⊢
  rw [← hn0] at htm_
  clear H hl hr hw0 hn0
  by_cases hw : IsW (w0 : Int)
  rotate_left
  · have HW := Lib.hid (show false = decide (IsW (w0 : Int)) from (decide_eq_false hw).symm)
    have HNG := Lib.hid (show ¬ GoodJ L from fun q => hw (by rw [HE.out]; exact q.1))
    clear hw
    go_enter Try.func23, Try.ntmps23
    go_wp2_with fail
    go_at_call 73
    refine (implWD (w0 : Int) false HW.out _).mono ?_
    rintro e w1 ⟨rfl, hd⟩
    have g := hd.gby none
    clear hd
    have szw1 := g.size
    try simp only [World.size_alloc] at szw1
    try simp only [World.size_setCell] at szw1
    have G1_ := Lib.hid (show (W).grownBy (w1) none from gby_trans (gby_refl _ _) g)
    clear g
    go_wp2
    go_ret2
    exact ⟨_, [], false, rfl, OwU.one owL_nil, G1_.out, .inr ⟨HNG.out, rfl, rfl⟩⟩
  have HW := Lib.hid (show true = decide (IsW (w0 : Int)) from (decide_eq_true hw).symm)
  have HIW := Lib.hid (show IsW (L.length : Int) from by rw [← HE.out]; exact hw)
  clear hw
  go_enter Try.func23, Try.ntmps23
  go_wp2_with fail
  go_at_call 73
  refine (implWD (w0 : Int) true HW.out _).mono ?_
  rintro e w1 ⟨rfl, hd⟩
  have g := hd.gby none
  clear hd
  have szw1 := g.size
  try simp only [World.size_alloc] at szw1
  try simp only [World.size_setCell] at szw1
  have G1_ := Lib.hid (show (W).grownBy (w1) none from gby_trans (gby_refl _ _) g)
  clear g
  have HTOT := Lib.hid (show ((tot L L.length : Nat) : Int) = (n0 : Int) from by rw [HN.out])
  have HSO := Lib.hid (fun (w : World) (g : W.grownBy w none) => sizeOf_any w (.slice a0 w0 cap0) L ((show RdL (shL shI) W (.slice a0 w0 cap0) L from by have q := HRD.out; rwa [← HE.out] at q).grow g) HSZ.out)
  rw [HTOT.out] at HSO
  go_wp2_with fail
  go_at_call 74
  refine (HSO.out _ G1_.out).mono ?_
  rintro e w2 ⟨rfl, g⟩
  have szw2 := g.size
  try simp only [World.size_alloc] at szw2
  try simp only [World.size_setCell] at szw2
  have G2_ := Lib.hid (show (W).grownBy (w2) none from gby_trans G1_.out g)
  clear g
  obtain ⟨BW, hBW⟩ : ∃ b, b = w2.heap.size := ⟨_, rfl⟩
  have hBW1 : W.heap.size ≤ BW := by rw [hBW]; exact (G2_.out).size
  go_wp2_with (at_make; refine wpList_make_full _ rfl _ _ 23 rfl w2.heap.size 3 i1_ (.int .i64 0) 1 Try.underlying23 hi1_ hz0_ hz1_ .i64 .i64 _ _ n0 rfl rfl rfl rfl (by rw [hz2_]; omega) (by unfold maxLen; omega) (Nat.le_refl _) ?_; intro w9 hown0 hgrow0; have HO0 := Lib.hid (ownI_made (by omega) hown0); have HG0 := Lib.hid hgrow0; clear hown0 hgrow0)
  have sz9_ := HG0.out.size
  have G3_ := Lib.hid (show (W).grownBy (w9) none from gby_trans G2_.out HG0.out)
  have HO1 := Lib.hid (show OwL shI w9 BW w9.heap.size (.slice (some ⟨BW, 0, none⟩) n0 n0) (List.replicate n0 (0 : Int)) from by rw [hBW]; exact HO0.out)
  rw [← hBW]
  clear HO0 hBW
  go_wp2
  go_loopw [19] (fun i wr => ∃ (k : Nat) (ys : List Int), i = .int .i64 (k : Int) ∧ k ≤ n0 ∧ ys.length = n0 ∧ (∀ j, j < k → FitsJ L w0 j ∧ ys.getD j 0 = valJ L w0 j) ∧ OwL shI wr BW wr.heap.size (.slice (some ⟨BW, 0, none⟩) n0 n0) ys ∧ W.grownBy wr none) (fun i _ => n0 - (intOf i).toNat)
  case atStart => exact ⟨0, List.replicate n0 0, rfl, by omega, by simp, fun j hj => absurd hj (Nat.not_lt_zero _), HO1.out, G3_.out⟩
  case round =>
    obtain ⟨k, ys, rfl, hk, hyl_, hf_, hob_, hg⟩ := hrel
    have HF := Lib.hid hf_
    have HOB := Lib.hid hob_
    have HYL := Lib.hid hyl_
    clear hf_ hob_ hyl_ HO1
    have G4_ := Lib.hid (show (W).grownBy (wr) none from hg)
    clear hg
    have hk0 : (0 : Int) ≤ (k : Int) := by omega
    have htk : ((k : Int)).toNat = k := by omega
    by_cases hlt : k < n0
    rotate_left
    · have hkk_ : n0 = k := by omega
      subst hkk_
      have hki : ¬ (n0 : Int) < (n0 : Int) := by omega
      have hys_ : ys = joinL L w0 n0 := lists_eq (by rw [joinL_len]; exact HYL.out) (fun j hj => by rw [HYL.out] at hj; rw [(HF.out j hj).2, joinL_at L w0 n0 j hj])
      have HOJ := Lib.hid (show OwL shI wr BW wr.heap.size (.slice (some ⟨BW, 0, none⟩) n0 n0) (joinL L w0 n0) from by rw [← hys_]; exact HOB.out)
      clear HOB hys_
      obtain ⟨bb, hbb_⟩ : ∃ b, b = decide (AreB (joinL L w0 n0)) := ⟨_, rfl⟩
      have HBB := Lib.hid hbb_
      clear hbb_
      have HGE := Lib.hid (show GoodJ L ↔ AreB (joinL L w0 n0) from by have q := good_end (L := L) (k := n0) HIW.out (by rw [← HE.out]; exact fun j hj => (HF.out j hj).1) (.inl HN.out); rwa [← HE.out] at q)
      cases bb
      · have HNG := Lib.hid (show ¬ GoodJ L from fun q => absurd (HGE.out.1 q) (of_decide_eq_false HBB.out.symm))
        have HQ0 := Lib.hid (gby_refl (wr) none)
        go_wp2_with fail
        go_at_call 75
        refine (implByD _ _ (joinL L w0 n0) ((OwL.rd HOJ.out).grow HQ0.out) (by rw [szL_I, joinL_len]; omega) false HBB.out).mono ?_
        rintro e w3 ⟨rfl, g⟩
        have szw3 := g.size
        try simp only [World.size_alloc] at szw3
        try simp only [World.size_setCell] at szw3
        have G5_ := Lib.hid (show (W).grownBy (w3) none from gby_trans G4_.out g)
        have HTQ6_ := Lib.hid (show (wr).grownBy (w3) none from gby_trans HQ0.out g)
        clear HQ0
        clear g
        go_wp2
        go_ret2
        exact ⟨_, [], false, rfl, OwU.one owL_nil, G5_.out, .inr ⟨HNG.out, rfl, rfl⟩⟩
      · have HGD := Lib.hid (HGE.out.2 (of_decide_eq_true HBB.out.symm))
        have HQ0 := Lib.hid (gby_refl (wr) none)
        go_wp2_with fail
        go_at_call 75
        refine (implByD _ _ (joinL L w0 n0) ((OwL.rd HOJ.out).grow HQ0.out) (by rw [szL_I, joinL_len]; omega) true HBB.out).mono ?_
        rintro e w3 ⟨rfl, g⟩
        have szw3 := g.size
        try simp only [World.size_alloc] at szw3
        try simp only [World.size_setCell] at szw3
        have G5_ := Lib.hid (show (W).grownBy (w3) none from gby_trans G4_.out g)
        have HTQ6_ := Lib.hid (show (wr).grownBy (w3) none from gby_trans HQ0.out g)
        clear HQ0
        clear g
        have HO2 := Lib.hid (OwL.grow HOJ.out HTQ6_.out)
        have szq_ := (HTQ6_.out).size
        go_wp2
        go_ret2
        exact ⟨_, joinL L w0 n0, true, rfl, OwU.one (OwL.wide HO2.out (by omega) (by omega)), G5_.out, .inl ⟨HGD.out, by rw [HN.out, HE.out], rfl⟩⟩
    have hki : (k : Int) < (n0 : Int) := by omega
    have hwp0_ : 0 < w0 := by rcases HIW.out with h | h | h <;> (have := HE.out; omega)
    have hwp_ : 0 < w0 := by omega
    have hm_ : k % w0 < w0 := Nat.mod_lt _ hwp_
    have hd_ : k / w0 ≤ k := Nat.div_le_self _ _
    obtain ⟨km, hkm_⟩ : ∃ q, q = k % w0 := ⟨_, rfl⟩
    obtain ⟨kd, hkd_⟩ : ∃ q, q = k / w0 := ⟨_, rfl⟩
    have e1_ : (k : Int).tmod (w0 : Int) = (km : Int) := by rw [Int.tmod_eq_emod_of_nonneg (by omega), hkm_]; rfl
    have e2_ : (k : Int).tdiv (w0 : Int) = (kd : Int) := by rw [Int.tdiv_eq_ediv_of_nonneg (by omega), hkd_]; rfl
    have e3_ : (k : Int) % (w0 : Int) = (km : Int) := by rw [hkm_]; rfl
    have e4_ : (k : Int) / (w0 : Int) = (kd : Int) := by rw [hkd_]; rfl
    have hwz_ : ((w0 : Int) == 0) = false := by simp; omega
    have hwz2_ : ¬ (w0 : Int) = 0 := by omega
    have hwz3_ : ¬ w0 = 0 := by omega
    rw [← hkm_] at hm_
    rw [← hkd_] at hd_
    have HKM := Lib.hid hkm_
    have HKD := Lib.hid hkd_
    clear hkm_ hkd_
    have hm0_ : (0 : Int) ≤ (km : Int) := by omega
    have hmt_ : ((km : Int)).toNat = km := by omega
    have hmi_ : (km : Int) < (w0 : Int) := by omega
    have hd0_ : (0 : Int) ≤ (kd : Int) := by omega
    have hdt_ : ((kd : Int)).toNat = kd := by omega
    have hwr1_ : IntKind.i64.wrap (km : Int) = (km : Int) := IntWalk.i64_in _ (by omega)
    have hwr2_ : IntKind.i64.wrap (kd : Int) = (kd : Int) := IntWalk.i64_in _ (by omega)
    obtain ⟨ab, ao, rfl, hc_⟩ := HA.out.resolve_left (by omega)
    obtain ⟨u_, hu_, hru_⟩ := hc_ km hm_
    clear hc_
    obtain ⟨x, hx_⟩ : ∃ x, x = L.getD km [] := ⟨_, rfl⟩
    rw [← hx_] at hru_
    have HX := Lib.hid hx_
    obtain ⟨px, cx, rfl, hrx_⟩ := rdI_len hru_
    obtain ⟨nx, hnx_⟩ : ∃ n, n = x.length := ⟨_, rfl⟩
    rw [← hnx_] at hu_
    have HNX := Lib.hid hnx_
    have HRX := Lib.hid hrx_
    have HUC := Lib.hid hu_
    clear hx_ hru_ hrx_ hu_ hnx_
    have HFI := Lib.hid (show FitsJ L L.length k ↔ kd < nx from by unfold FitsJ; rw [← HE.out, ← HKM.out, ← HKD.out, ← HX.out, HNX.out])
    by_cases hfit : kd < nx
    rotate_left
    · have hfi_ : ¬ (kd : Int) < (nx : Int) := by omega
      have hfj_ : (nx : Int) ≤ (kd : Int) := by omega
      have HNG := Lib.hid (show ¬ GoodJ L from fun q => hfit (HFI.out.1 (q.2.1 k (by rw [← HN.out]; exact hlt))))
      have uc_ := (G4_.out).cell HUC.out (by simp)
      go_wp2_with fail
      go_quiet (fail)
      go_wp2
      go_ret2
      exact ⟨_, [], false, rfl, OwU.one owL_nil, by repeat (first | exact G4_.out | with_reducible refine gby_drewN ?_ _), .inr ⟨HNG.out, rfl, rfl⟩⟩
    have hfi_ : (kd : Int) < (nx : Int) := by omega
    have hfj_ : ¬ (nx : Int) ≤ (kd : Int) := by omega
    obtain ⟨bx, ox, rfl, hcx_⟩ := HRX.out.resolve_left (by have := HNX.out; omega)
    have hy_ := hcx_ kd (by have := HNX.out; omega)
    clear hcx_
    obtain ⟨y, hye_⟩ : ∃ y, y = x.getD kd 0 := ⟨_, rfl⟩
    rw [← hye_] at hy_
    have HYC := Lib.hid hy_
    have HYV := Lib.hid (show valJ L w0 k = y from by unfold valJ; rw [← HKM.out, ← HKD.out, ← HX.out, hye_])
    clear hy_ hye_
    obtain ⟨bz, oz, cz, hvz_, hbz1_, hbz2_, hcz_, hfz_, hsz_⟩ := owL_I_at HOB.out k (by have := HYL.out; omega)
    injection hvz_ with ez1_ ez2_ ez3_
    injection ez1_ with ez1_
    injection ez1_ with ez4_ ez5_
    subst ez4_ ez5_
    obtain ⟨yo, hyo_⟩ : ∃ b, b = ys.getD k 0 := ⟨_, rfl⟩
    rw [← hyo_] at hcz_
    have HSZ2 := Lib.hid (hsz_ y)
    clear hyo_ hsz_ ez2_ ez3_
    rw [Nat.zero_add] at hcz_ hfz_
    have uc_ := (G4_.out).cell HUC.out (by simp)
    have yc_ := (G4_.out).cell HYC.out (by simp)
    go_wp2_with fail
    go_quiet (fail)
    go_wp2
    refine ⟨⟨k + 1, ys.set k y, by go_num, by omega, by rw [List.length_set]; exact HYL.out, fun j hj => ?_, ?_, ?_⟩, by simp [intOf]; omega⟩
    · by_cases e : j = k
      · subst e
        refine ⟨by have q := HFI.out.2 hfit; rw [← HE.out] at q; exact q, ?_⟩
        rw [List.getD_eq_getElem?_getD, List.getElem?_set, if_pos rfl, if_pos (by have := HYL.out; omega), HYV.out]; rfl
      · have q := HF.out j (by omega)
        refine ⟨q.1, ?_⟩
        rw [List.getD_eq_getElem?_getD, List.getElem?_set, if_neg (by omega), ← List.getD_eq_getElem?_getD]
        exact q.2
    · obtain ⟨b9, o9, c9, hv9, _, _, _, _, hs9⟩ := owL_I_at (OwL.grow HOB.out (gby_drewN (gby_refl wr none) _)) k (by have := HYL.out; omega)
      injection hv9 with e1 e2 e3
      injection e1 with e1
      injection e1 with e4 e5
      subst e4 e5
      have q := (hs9 y).1
      rw [Nat.zero_add] at q
      exact OwL.wide q (Nat.le_refl _) (by simp only [World.size_setCell]; exact (gby_drewN (gby_refl wr none) _).size)
    · exact gby_setnew (gby_drewN G4_.out _) _ (by first | omega | (dsimp only; omega)) _

end Go.Proofs.Ytnighnkkeiegnab
