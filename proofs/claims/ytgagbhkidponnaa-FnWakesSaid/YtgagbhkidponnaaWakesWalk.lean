/-
  The walk of FnWakes.
-/
import Derived.Test.YtgagbhkidponnaaDrawDepths
import Derived.Test.YtgagbhkidponnaaDrawPlaces
import Derived.Test.YtgagbhkidponnaaSettleLaws
import Derived.Test.YtgagbhkidponnaaSettle
import Derived.Test.YtgagbhkidponnaaHasI
import Derived.Test.YtgagbhkidponnaaPathB
import Derived.Test.YtgagbhkidponnaaTreeB
import Derived.Test.YtgagbhkidponnaaBig
import Derived.Deep.QuietTactic
import Derived.Deep.RegionHeld3
namespace Go.Proofs.Ytgagbhkidponnaa
open Go Go.RowKit
set_option linter.unusedVariables false

set_option maxRecDepth 8000 in
set_option maxHeartbeats 8000000 in
theorem walk_wakes (a : Option Addr) (len cap : Nat) (zs : List Int) (W : World) (hB : Bytes W a len zs) :
    Calls Try.prog 5 #[.slice a len cap] W fun e w' => e = .returned (.bool true) ∧ Below W.heap.size W w' := by
  have HB := Lib.hid hB
  clear hB
  by_cases hbig : (1048576 : Int) < (len : Int)
  · go_enter Try.func5, Try.ntmps5
    go_wp2
    go_ret
    exact ⟨rfl, Below.refl _ _⟩
  · skip
    go_enter Try.func5, Try.ntmps5
    go_wp2_with fail
    go_at_call 21
    refine (big_any _ _ _ _).mono ?_
    rintro e w1 ⟨rfl, rfl⟩
    go_wp2_with fail
    go_at_call 22
    refine (drawDepths_any _ _ _ _ _ (bytes_grow HB.out (gby_refl _ _)) (by omega)).mono ?_
    rintro e w2 ⟨v_, u_, xs, ss, rfl, ht, hw, o, o2, g⟩
    have HTO := Lib.hid ht
    have HWI := Lib.hid hw
    have hssl : ss.length = xs.length := hw.2.2
    obtain ⟨ta_, tc, rfl, _, hi_⟩ := rdN_in o.rd
    obtain ⟨tb, to, rfl, hnc⟩ := hi_.resolve_left (by have := ht.1.1; omega)
    obtain ⟨wa_, wc, rfl, _, hi2_⟩ := rdI1_in o2.rd
    obtain ⟨wb, wo, rfl, hwcc⟩ := hi2_.resolve_left (by have := ht.1.1; omega)
    have HNC := Lib.hid hnc
    have HWC := Lib.hid hwcc
    have HT0 := Lib.hid o.rd
    have HW0 := Lib.hid o2.rd
    obtain ⟨n0, hn0⟩ : ∃ n, n = xs.length := ⟨_, rfl⟩
    have HE := Lib.hid hn0
    have hx1 : 1 ≤ n0 := by have := ht.1.1; omega
    have hx2 : n0 ≤ 12 := by have := ht.1.2; omega
    rw [hssl, ← hn0] at HW0 HWC ⊢
    rw [← hn0] at HNC HT0
    have HLx : Hid (szL shNode xs ≤ 1048576) := Lib.hid (by rw [szL_size0 (fun _ => rfl)]; have := ht.1.2; omega)
    have HLs : Hid (szL shI ss ≤ 1048576) := Lib.hid (by rw [szL_I]; have := ht.1.2; omega)
    have HSS := Lib.hid hssl
    clear ht hw o o2 hn0 hnc hwcc hssl
    have szw2 := g.size
    try simp only [World.size_alloc] at szw2
    have G1_ := Lib.hid (show (W).grownBy (w2) none from gby_trans (gby_refl _ _) g)
    clear g
    have HTT2_ := Lib.hid (gby_refl (w2) none)
    have MG3_ := Lib.hid (show (W).grownBy (w2) none from G1_.out)
    go_wp2_with fail
    go_at_call 26
    refine (places_any _ _ _ _ _ (bytes_grow HB.out G1_.out) (by omega)).mono ?_
    rintro e w3 ⟨v3, ps, rfl, hl12, hps, o3, g⟩
    obtain ⟨pb, po, pc, rfl, hpc⟩ := o3.twelve hl12
    have HPS := Lib.hid (fun j (hj : j < 12) => hps (ps.getD j 0) (by rw [List.getD_eq_getElem?_getD, List.getElem?_eq_getElem (by omega)]; exact List.getElem_mem _))
    have HPC := Lib.hid hpc
    clear o3 hpc hps hl12
    have szw3 := g.size
    try simp only [World.size_alloc] at szw3
    have G4_ := Lib.hid (show (W).grownBy (w3) none from gby_trans G1_.out g)
    have HTT5_ := Lib.hid (show (w2).grownBy (w3) none from gby_trans HTT2_.out g)
    clear HTT2_
    clear g
    have HTP6_ := Lib.hid (gby_refl (w3) none)
    have MG7_ := Lib.hid (show (W).grownBy (w3) none from G4_.out)
    obtain ⟨q0, hq0⟩ : ∃ q0, q0 = ps.getD 0 0 := ⟨_, rfl⟩
    obtain ⟨q01, q02⟩ := (show IsP q0 from by rw [hq0]; exact HPS.out 0 (by omega))
    have HCq0 := Lib.hid (HPC.out 0 (by omega))
    rw [← hq0] at HCq0
    clear hq0
    have p0_ : (w3).cell? ⟨pb, po, none⟩ = some (.int .i64 q0) := (HTP6_.out).cell HCq0.out (by simp)
    have hz0 : ¬ (n0 : Int) = 0 := by omega
    have hz0b : ((n0 : Int) == 0) = false := by simp; omega
    obtain ⟨u, hu⟩ : ∃ u : Nat, q0 % (n0 : Int) = (u : Int) := ⟨(q0 % (n0 : Int)).toNat, by have := Int.emod_nonneg q0 hz0; omega⟩
    have hut : Int.tmod q0 (n0 : Int) = (u : Int) := by rw [Int.tmod_eq_emod_of_nonneg (by omega)]; exact hu
    have hul : u < n0 := by have := Int.emod_lt_of_pos q0 (show (0 : Int) < (n0 : Int) by omega); omega
    have HU := Lib.hid (show u < xs.length by rw [← HE.out]; exact hul)
    obtain ⟨s, hs⟩ : ∃ q, q = settled xs ss := ⟨_, rfl⟩
    have Hs := Lib.hid hs
    clear hs
    go_wp2_with fail
    go_at_call 15
    refine ((show Calls _ _ _ _ (ResISettleSleep s _) from by rw [Hs.out]; exact implSettle_yes _ _ _ xs ss (HT0.out.grow HTT5_.out) (HW0.out.grow HTT5_.out) HLx.out (HLs.out) (HWI.out))).mono ?_
    rintro e w4 ⟨v3_, rfl, o, g⟩
    have szw4 := g.size
    have G8_ := Lib.hid (show (W).grownBy (w4) none from gby_trans G4_.out g)
    have HTT9_ := Lib.hid (show (w2).grownBy (w4) none from gby_trans HTT5_.out g)
    clear HTT5_
    have HTP10_ := Lib.hid (show (w3).grownBy (w4) none from gby_trans HTP6_.out g)
    clear HTP6_
    clear g
    obtain ⟨as_, sc, rfl, _, h3_⟩ := rdI1_in (OwU.rd o)
    have hls : s.length = n0 := by rw [Hs.out, settled_len]; have := HE.out; have := HSS.out; omega
    obtain ⟨sb, so, rfl, h4_⟩ := h3_.resolve_left (by omega)
    have HCs := Lib.hid h4_
    have HRs := Lib.hid (OwU.rd o)
    rw [hls] at HCs HRs ⊢
    have HNs := Lib.hid hls
    clear o h4_ hls
    have HTs11_ := Lib.hid (gby_refl (w4) none)
    have MG12_ := Lib.hid (show (W).grownBy (w4) none from G8_.out)
    have HLS2 : Hid (szL shI s ≤ 1048576) := Lib.hid (by rw [szL_I, HNs.out]; omega)
    have HOK := Lib.hid (show SleepP xs s by rw [Hs.out]; exact settled_ok HWI.out)
    have p0_ : (w4).cell? ⟨pb, po, none⟩ = some (.int .i64 q0) := (HTP10_.out).cell HCq0.out (by simp)
    obtain ⟨Z, hZ⟩ : ∃ Z, Z = pth xs u := ⟨_, rfl⟩
    have HZ := Lib.hid hZ
    have hZl : Z.length ≤ 12 := by rw [hZ]; have := (pth_len HTO.out u HU.out).2; omega
    obtain ⟨x, hx⟩ : ∃ x, x = wakeL s Z := ⟨_, rfl⟩
    have HX := Lib.hid hx
    have hxl : x.length = n0 := by rw [hx, wakeL_len, HNs.out]
    have HXN := Lib.hid hxl
    clear hZ hx hxl
    go_wp2_with fail
    go_at_call 27
    refine ((show Calls _ _ _ _ (ResIWakeNode x true _) from by rw [HX.out]; exact implWake_good _ _ _ xs s (u : Int) (HT0.out.grow HTT9_.out) (HRs.out.grow HTs11_.out) HLx.out HLS2.out HOK.out ⟨HTO.out, by omega, by have := HU.out; omega⟩ Z (.inl ⟨u, rfl, HTO.out, HU.out, HZ.out⟩))).mono ?_
    rintro e w5 ⟨v3_, rfl, o, g⟩
    have szw5 := g.size
    have G13_ := Lib.hid (show (W).grownBy (w5) none from gby_trans G8_.out g)
    have HTT14_ := Lib.hid (show (w2).grownBy (w5) none from gby_trans HTT9_.out g)
    clear HTT9_
    have HTP15_ := Lib.hid (show (w3).grownBy (w5) none from gby_trans HTP10_.out g)
    clear HTP10_
    have HTs16_ := Lib.hid (show (w4).grownBy (w5) none from gby_trans HTs11_.out g)
    clear HTs11_
    clear g
    obtain ⟨ax_, xc, rfl, _, h3_⟩ := rdI1_in (OwU.rd o)
    obtain ⟨xb, xo, rfl, h4_⟩ := h3_.resolve_left (by have := HXN.out; omega)
    have HCx := Lib.hid h4_
    have HRx := Lib.hid (OwU.rd o)
    rw [HXN.out] at HCx HRx ⊢
    clear o h4_ p0_
    have HTx17_ := Lib.hid (gby_refl (w5) none)
    have MG18_ := Lib.hid (show (W).grownBy (w5) none from G13_.out)
    go_wp2_with fail
    go_at_call 28
    refine ((show Calls _ _ _ _ (ResIPathTo Z _) from by rw [HZ.out]; exact implPath_yes _ _ xs u (HT0.out.grow HTT14_.out) HLx.out HTO.out HU.out)).mono ?_
    rintro e w6 ⟨vZ, rfl, o, g⟩
    have szw6 := g.size
    have G19_ := Lib.hid (show (W).grownBy (w6) none from gby_trans G13_.out g)
    have HTT20_ := Lib.hid (show (w2).grownBy (w6) none from gby_trans HTT14_.out g)
    clear HTT14_
    have HTP21_ := Lib.hid (show (w3).grownBy (w6) none from gby_trans HTP15_.out g)
    clear HTP15_
    have HTs22_ := Lib.hid (show (w4).grownBy (w6) none from gby_trans HTs16_.out g)
    clear HTs16_
    have HTx23_ := Lib.hid (show (w5).grownBy (w6) none from gby_trans HTx17_.out g)
    clear HTx17_
    clear g
    obtain ⟨pZ, nZ, cZ, hv_⟩ := RdL.form (OwU.rd o)
    subst hv_
    have HRZ := Lib.hid (OwU.rd o)
    clear o
    have HTZ24_ := Lib.hid (gby_refl (w6) none)
    have MG25_ := Lib.hid (show (W).grownBy (w6) none from G19_.out)
    have HLX2 : Hid (szL shI x ≤ 1048576) := Lib.hid (by rw [szL_I, HXN.out]; omega)
    have HOX := Lib.hid (show SleepP xs x by rw [HX.out, HZ.out]; exact wake_ok HOK.out HU.out)
    go_wp2_with fail
    go_at_call 23
    refine (((implSleep _ _ _ xs x (HT0.out.grow HTT20_.out) (HRx.out.grow HTx23_.out) HLx.out HLX2.out).mono (bpost_yes HOX.out))).mono ?_
    rintro e w7 ⟨rfl, g⟩
    have szw7 := g.size
    try simp only [World.size_alloc] at szw7
    try simp only [World.size_setCell] at szw7
    have G26_ := Lib.hid (show (W).grownBy (w7) none from gby_trans G19_.out g)
    have HTT27_ := Lib.hid (show (w2).grownBy (w7) none from gby_trans HTT20_.out g)
    clear HTT20_
    have HTP28_ := Lib.hid (show (w3).grownBy (w7) none from gby_trans HTP21_.out g)
    clear HTP21_
    have HTs29_ := Lib.hid (show (w4).grownBy (w7) none from gby_trans HTs22_.out g)
    clear HTs22_
    have HTx30_ := Lib.hid (show (w5).grownBy (w7) none from gby_trans HTx23_.out g)
    clear HTx23_
    have HTZ31_ := Lib.hid (show (w6).grownBy (w7) none from gby_trans HTZ24_.out g)
    clear HTZ24_
    clear g
    have hq1 : ((n0 : Int) != (n0 : Int)) = false := by simp
    go_wp2
    go_loopw [11] (fun i wr => ∃ i_ : Nat, i = .int .i64 (i_ : Int) ∧ i_ ≤ n0 ∧ (w7).grownBy wr none) (fun i _ => n0 - (intOf i).toNat)
    case atStart => exact ⟨0, rfl, by omega, gby_refl _ _⟩
    case round =>
      obtain ⟨i_, rfl, hi, hg⟩ := hrel
      have szrwr := hg.size
      try simp only [World.size_alloc] at szrwr
      try simp only [World.size_setCell] at szrwr
      have szr_ := szrwr
      have G32_ := Lib.hid (show (W).grownBy (wr) none from gby_trans G26_.out hg)
      have HTT33_ := Lib.hid (show (w2).grownBy (wr) none from gby_trans HTT27_.out hg)
      clear HTT27_
      have HTP34_ := Lib.hid (show (w3).grownBy (wr) none from gby_trans HTP28_.out hg)
      clear HTP28_
      have HTs35_ := Lib.hid (show (w4).grownBy (wr) none from gby_trans HTs29_.out hg)
      clear HTs29_
      have HTx36_ := Lib.hid (show (w5).grownBy (wr) none from gby_trans HTx30_.out hg)
      clear HTx30_
      have HTZ37_ := Lib.hid (show (w6).grownBy (wr) none from gby_trans HTZ31_.out hg)
      clear HTZ31_
      have HTB_ := Lib.hid hg
      clear hg
      obtain ⟨i, hii⟩ : ∃ i, i = i_ := ⟨_, rfl⟩
      subst hii
      have hi0 : (0 : Int) ≤ (i : Int) := by omega
      have hti : ((i : Int)).toNat = i := by omega
      by_cases hlt : i < n0
      rotate_left
      · obtain rfl : i = n0 := by omega
        have hji : ¬ (i : Int) < (i : Int) := by omega
        clear hut hu
        obtain ⟨d, hd⟩ := deep_ex xs s (u : Int)
        have HD := Lib.hid hd
        have hd1 := hd.1
        have hd2 := hd.2.1
        have HDF := Lib.hid (deep_facts HOK.out HU.out hd)
        clear hd
        go_wp2_with fail
        go_at_call 30
        refine ((implDeep _ _ _ xs s (u : Int) (HT0.out.grow HTT33_.out) (HRs.out.grow HTs35_.out) HLx.out HLS2.out d HD.out)).mono ?_
        rintro e w8 ⟨rfl, g⟩
        have szw8 := g.size
        try simp only [World.size_alloc] at szw8
        try simp only [World.size_setCell] at szw8
        have G38_ := Lib.hid (show (W).grownBy (w8) none from gby_trans G32_.out g)
        have HTT39_ := Lib.hid (show (w2).grownBy (w8) none from gby_trans HTT33_.out g)
        clear HTT33_
        have HTP40_ := Lib.hid (show (w3).grownBy (w8) none from gby_trans HTP34_.out g)
        clear HTP34_
        have HTs41_ := Lib.hid (show (w4).grownBy (w8) none from gby_trans HTs35_.out g)
        clear HTs35_
        have HTx42_ := Lib.hid (show (w5).grownBy (w8) none from gby_trans HTx36_.out g)
        clear HTx36_
        have HTZ43_ := Lib.hid (show (w6).grownBy (w8) none from gby_trans HTZ37_.out g)
        clear HTZ37_
        have HTB44_ := Lib.hid (show (w7).grownBy (w8) none from gby_trans HTB_.out g)
        clear HTB_
        clear g
        go_wp2_with fail
        go_at_call 31
        refine ((implSet_good _ _ _ xs s u d (HT0.out.grow HTT39_.out) (HRs.out.grow HTs41_.out) HLx.out HLS2.out HOK.out HU.out HDF.out.2.2.2)).mono ?_
        rintro e w9 ⟨v3_, rfl, o, g⟩
        have szw9 := g.size
        have G45_ := Lib.hid (show (W).grownBy (w9) none from gby_trans G38_.out g)
        have HTT46_ := Lib.hid (show (w2).grownBy (w9) none from gby_trans HTT39_.out g)
        clear HTT39_
        have HTP47_ := Lib.hid (show (w3).grownBy (w9) none from gby_trans HTP40_.out g)
        clear HTP40_
        have HTs48_ := Lib.hid (show (w4).grownBy (w9) none from gby_trans HTs41_.out g)
        clear HTs41_
        have HTx49_ := Lib.hid (show (w5).grownBy (w9) none from gby_trans HTx42_.out g)
        clear HTx42_
        have HTZ50_ := Lib.hid (show (w6).grownBy (w9) none from gby_trans HTZ43_.out g)
        clear HTZ43_
        have HTB51_ := Lib.hid (show (w7).grownBy (w9) none from gby_trans HTB44_.out g)
        clear HTB44_
        clear g
        obtain ⟨aY, nY, cY, hv_⟩ := RdL.form (OwU.rd o)
        subst hv_
        have HRY := Lib.hid (OwU.rd o)
        clear o
        have HTY52_ := Lib.hid (gby_refl (w9) none)
        have MG53_ := Lib.hid (show (W).grownBy (w9) none from G45_.out)
        have hdw : IntKind.i64.wrap (d + 1) = d + 1 := IntWalk.i64_in _ (by omega)
        go_wp2_with fail
        go_at_call 31
        refine ((implSetP _ _ _ xs s (u : Int) (d + 1) (HT0.out.grow HTT46_.out) (HRs.out.grow HTs48_.out) HLx.out HLS2.out)).mono ?_
        rintro e w10 ⟨v4_, r, rfl, hr, g⟩
        obtain rfl : r = false := by cases r; rfl; exact absurd (hr.1 rfl) HDF.out.2.2.1
        clear hr
        have szw10 := g.size
        have G54_ := Lib.hid (show (W).grownBy (w10) none from gby_trans G45_.out g)
        have HTT55_ := Lib.hid (show (w2).grownBy (w10) none from gby_trans HTT46_.out g)
        clear HTT46_
        have HTP56_ := Lib.hid (show (w3).grownBy (w10) none from gby_trans HTP47_.out g)
        clear HTP47_
        have HTs57_ := Lib.hid (show (w4).grownBy (w10) none from gby_trans HTs48_.out g)
        clear HTs48_
        have HTx58_ := Lib.hid (show (w5).grownBy (w10) none from gby_trans HTx49_.out g)
        clear HTx49_
        have HTZ59_ := Lib.hid (show (w6).grownBy (w10) none from gby_trans HTZ50_.out g)
        clear HTZ50_
        have HTB60_ := Lib.hid (show (w7).grownBy (w10) none from gby_trans HTB51_.out g)
        clear HTB51_
        have HTY61_ := Lib.hid (show (w9).grownBy (w10) none from gby_trans HTY52_.out g)
        clear HTY52_
        clear g
        obtain ⟨y, hy⟩ : ∃ y, y = s.getD u 0 := ⟨_, rfl⟩
        have sk_ := (HTs57_.out).cell (HCs.out u hul) (by simp)
        rw [← hy] at sk_
        have hge : y ≤ d := by rw [hy]; exact HDF.out.1
        clear hy
        have hge2 : decide (y ≤ d) = true := decide_eq_true hge
        have hu0 : (0 : Int) ≤ (u : Int) := by omega
        have htu : ((u : Int)).toNat = u := by omega
        have hui : (u : Int) < (i : Int) := by omega
        go_wp2_with fail
        go_at_call 23
        refine (((implSleep _ _ _ xs (s.set u d) (HT0.out.grow HTT55_.out) (HRY.out.grow HTY61_.out) HLx.out (by rw [szL_I, List.length_set]; rw [← szL_I]; exact HLS2.out)).mono (bpost_yes HDF.out.2.2.2))).mono ?_
        rintro e w11 ⟨rfl, g⟩
        have szw11 := g.size
        try simp only [World.size_alloc] at szw11
        try simp only [World.size_setCell] at szw11
        have G62_ := Lib.hid (show (W).grownBy (w11) none from gby_trans G54_.out g)
        have HTT63_ := Lib.hid (show (w2).grownBy (w11) none from gby_trans HTT55_.out g)
        clear HTT55_
        have HTP64_ := Lib.hid (show (w3).grownBy (w11) none from gby_trans HTP56_.out g)
        clear HTP56_
        have HTs65_ := Lib.hid (show (w4).grownBy (w11) none from gby_trans HTs57_.out g)
        clear HTs57_
        have HTx66_ := Lib.hid (show (w5).grownBy (w11) none from gby_trans HTx58_.out g)
        clear HTx58_
        have HTZ67_ := Lib.hid (show (w6).grownBy (w11) none from gby_trans HTZ59_.out g)
        clear HTZ59_
        have HTB68_ := Lib.hid (show (w7).grownBy (w11) none from gby_trans HTB60_.out g)
        clear HTB60_
        have HTY69_ := Lib.hid (show (w9).grownBy (w11) none from gby_trans HTY61_.out g)
        clear HTY61_
        clear g
        go_wp2
        go_ret
        exact ⟨rfl, gby_below G62_.out⟩
      have hji : (i : Int) < (n0 : Int) := by omega
      have xi_ := (HTx36_.out).cell (HCx.out i hlt) (by simp)
      rw [HX.out, wakeL_at _ _ (fun q hq => by rw [HNs.out, HE.out]; rw [HZ.out] at hq; exact pth_lt HTO.out HU.out q hq)] at xi_
      by_cases hm : (i : Int) ∈ Z
      rotate_left
      · rw [if_neg hm] at xi_
        have HM := Lib.hid hm
        clear hm
        obtain ⟨y, hy⟩ : ∃ y, y = s.getD i 0 := ⟨_, rfl⟩
        rw [← hy] at xi_
        have HY := Lib.hid hy
        clear hy
        have hyy : (y != y) = false := by simp
        have si_ := (HTs35_.out).cell (HCs.out i hlt) (by simp)
        rw [← HY.out] at si_
        go_wp2_with fail
        refine wp_region_held_drew (S := fun w' => w'.cell? ⟨xb, xo + i, none⟩ = some (.int .i64 y) ∧ w'.cell? ⟨sb, so + i, none⟩ = some (.int .i64 y)) (by kernel_rfl) (by (try dsimp only); exact ⟨xi_, si_⟩) (fun hHeld => ?_)
        refine wpAnyH_take (i := 0) (oi := { dst := some 66, op := Op.move (Operand.tmp 10), type := 23, pos := "laws.go:1160", after := #[], guard := none }) (v := ?v0_1) rfl (by kernel_rfl) (by kernel_rfl) (by kernel_rfl) (fun _ _ _ h => h) (Or.inl ⟨by rfl, ?y0_1⟩) (by assumption) ?r0_1
        case y0_1 => (intro w hSw; (try dsimp only at hSw); go_simp; all_goals (with_reducible rfl))
        try simp only [Act.put, List.setIfInBounds_toArray, List.set_cons_zero, List.set_cons_succ]
        refine wpAnyH_take (i := 1) (oi := { dst := some 67, op := Op.move (Operand.tmp 11), type := 3, pos := "laws.go:1160", after := #[], guard := none }) (v := ?v1_1) rfl (by kernel_rfl) (by kernel_rfl) (by kernel_rfl) (fun _ _ _ h => h) (Or.inl ⟨by rfl, ?y1_1⟩) (by assumption) ?r1_1
        case y1_1 => (intro w hSw; (try dsimp only at hSw); go_simp; all_goals (with_reducible rfl))
        try simp only [Act.put, List.setIfInBounds_toArray, List.set_cons_zero, List.set_cons_succ]
        refine wpAnyH_ready (rs := [2]) (by kernel_rfl) (by simp) ?_
        refine AllReadyH.cons (o := { dst := some 68, op := Op.call { callee := Callee.value (Operand.func 29), args := #[Operand.tmp 66, Operand.tmp 67], argTypes := #[23, 3] }, type := 4, pos := "laws.go:1160", after := #[{ on := 0, ground := Ground.data }, { on := 1, ground := Ground.data }], guard := none }) rfl (fun K hK => ?_) AllReadyH.nil
        go_simp
        go_at_call 29
        refine ((hasL_any _ _ Z (i : Int) (HRZ.out.grow (gby_drew HTZ37_.out)) (by omega)).mono (bpost_no HM.out)).mono ?_
        rintro e wA ⟨rfl, gA⟩
        have mxi_ : wA.cell? _ = some _ := gA.cell xi_ (by simp); have msi_ : wA.cell? _ = some _ := gA.cell si_ (by simp)
        go_wp2_with fail
        clear hHeld
        refine hK.out _ _ ?s2_1 (fun hHeld => ?_)
        case s2_1 => exact ⟨mxi_, msi_⟩
        clear hK K
        try simp only [Act.put, List.setIfInBounds_toArray, List.set_cons_zero, List.set_cons_succ]
        refine wpAnyH_take (i := 3) (oi := { dst := some 69, op := Op.move (Operand.tmp 68), type := 4, pos := "laws.go:1160", after := #[{ on := 2, ground := Ground.data }, { on := 2, ground := Ground.chain }], guard := none }) (v := ?v3_1) rfl (by kernel_rfl) (by kernel_rfl) (by kernel_rfl) (fun _ _ _ h => h) (Or.inl ⟨by rfl, ?y3_1⟩) (by assumption) ?r3_1
        case y3_1 => (intro w hSw; (try dsimp only at hSw); go_simp; all_goals (with_reducible rfl))
        try simp only [Act.put, List.setIfInBounds_toArray, List.set_cons_zero, List.set_cons_succ]
        refine wpAnyH_take (i := 4) (oi := { dst := some 70, op := Op.move (Operand.tmp 8), type := 23, pos := "laws.go:1160", after := #[{ on := 3, ground := Ground.guard }], guard := some (3, true) }) (v := undef) rfl (by kernel_rfl) (by kernel_rfl) (by kernel_rfl) (fun _ _ _ h => h) (Or.inr ⟨by rfl, rfl⟩) (by assumption) ?r4_1
        try simp only [Act.put, List.setIfInBounds_toArray, List.set_cons_zero, List.set_cons_succ]
        refine wpAnyH_take (i := 5) (oi := { dst := some 71, op := Op.move (Operand.tmp 11), type := 3, pos := "laws.go:1160", after := #[{ on := 3, ground := Ground.guard }], guard := some (3, true) }) (v := undef) rfl (by kernel_rfl) (by kernel_rfl) (by kernel_rfl) (fun _ _ _ h => h) (Or.inr ⟨by rfl, rfl⟩) (by assumption) ?r5_1
        try simp only [Act.put, List.setIfInBounds_toArray, List.set_cons_zero, List.set_cons_succ]
        refine wpAnyH_take (i := 6) (oi := { dst := some 72, op := Op.indexAddr 23 (Operand.tmp 70) (Operand.tmp 71), type := 0, pos := "laws.go:1160", after := #[{ on := 4, ground := Ground.data }, { on := 5, ground := Ground.data }, { on := 3, ground := Ground.guard }], guard := some (3, true) }) (v := undef) rfl (by kernel_rfl) (by kernel_rfl) (by kernel_rfl) (fun _ _ _ h => h) (Or.inr ⟨by rfl, rfl⟩) (by assumption) ?r6_1
        try simp only [Act.put, List.setIfInBounds_toArray, List.set_cons_zero, List.set_cons_succ]
        refine wpAnyH_take (i := 7) (oi := { dst := some 73, op := Op.load 3 (Operand.tmp 72), type := 3, pos := "laws.go:1160", after := #[{ on := 6, ground := Ground.data }, { on := 3, ground := Ground.guard }], guard := some (3, true) }) (v := undef) rfl (by kernel_rfl) (by kernel_rfl) (by kernel_rfl) (fun _ _ _ h => h) (Or.inr ⟨by rfl, rfl⟩) (by assumption) ?r7_1
        try simp only [Act.put, List.setIfInBounds_toArray, List.set_cons_zero, List.set_cons_succ]
        refine wpAnyH_take (i := 8) (oi := { dst := some 74, op := Op.binOp BinOp.neq 3 (Operand.tmp 73) (Operand.const (Value.int IntKind.i64 0)) 3, type := 4, pos := "laws.go:1160", after := #[{ on := 7, ground := Ground.data }, { on := 3, ground := Ground.guard }], guard := some (3, true) }) (v := undef) rfl (by kernel_rfl) (by kernel_rfl) (by kernel_rfl) (fun _ _ _ h => h) (Or.inr ⟨by rfl, rfl⟩) (by assumption) ?r8_1
        try simp only [Act.put, List.setIfInBounds_toArray, List.set_cons_zero, List.set_cons_succ]
        refine wpAnyH_take (i := 9) (oi := { dst := some 75, op := Op.pick (Operand.tmp 69) (Operand.tmp 74) (Operand.const (Value.bool false)), type := 4, pos := "laws.go:1160", after := #[{ on := 3, ground := Ground.data }, { on := 8, ground := Ground.data }], guard := none }) (v := ?v9_1) rfl (by kernel_rfl) (by kernel_rfl) (by kernel_rfl) (fun _ _ _ h => h) (Or.inl ⟨by rfl, ?y9_1⟩) (by assumption) ?r9_1
        case y9_1 => (intro w hSw; (try dsimp only at hSw); go_simp; all_goals (with_reducible rfl))
        try simp only [Act.put, List.setIfInBounds_toArray, List.set_cons_zero, List.set_cons_succ]
        refine wpAnyH_take (i := 10) (oi := { dst := some 76, op := Op.move (Operand.tmp 75), type := 4, pos := "laws.go:1160", after := #[{ on := 9, ground := Ground.data }, { on := 3, ground := Ground.chain }], guard := none }) (v := ?v10_1) rfl (by kernel_rfl) (by kernel_rfl) (by kernel_rfl) (fun _ _ _ h => h) (Or.inl ⟨by rfl, ?y10_1⟩) (by assumption) ?r10_1
        case y10_1 => (intro w hSw; (try dsimp only at hSw); go_simp; all_goals (with_reducible rfl))
        try simp only [Act.put, List.setIfInBounds_toArray, List.set_cons_zero, List.set_cons_succ]
        refine wpAnyH_take (i := 11) (oi := { dst := some 77, op := Op.move (Operand.tmp 10), type := 23, pos := "laws.go:1160", after := #[{ on := 10, ground := Ground.guard }], guard := some (10, false) }) (v := ?v11_1) rfl (by kernel_rfl) (by kernel_rfl) (by kernel_rfl) (fun _ _ _ h => h) (Or.inl ⟨by rfl, ?y11_1⟩) (by assumption) ?r11_1
        case y11_1 => (intro w hSw; (try dsimp only at hSw); go_simp; all_goals (with_reducible rfl))
        try simp only [Act.put, List.setIfInBounds_toArray, List.set_cons_zero, List.set_cons_succ]
        refine wpAnyH_take (i := 12) (oi := { dst := some 78, op := Op.move (Operand.tmp 11), type := 3, pos := "laws.go:1160", after := #[{ on := 10, ground := Ground.guard }], guard := some (10, false) }) (v := ?v12_1) rfl (by kernel_rfl) (by kernel_rfl) (by kernel_rfl) (fun _ _ _ h => h) (Or.inl ⟨by rfl, ?y12_1⟩) (by assumption) ?r12_1
        case y12_1 => (intro w hSw; (try dsimp only at hSw); go_simp; all_goals (with_reducible rfl))
        try simp only [Act.put, List.setIfInBounds_toArray, List.set_cons_zero, List.set_cons_succ]
        refine wpAnyH_ready (rs := [13]) (by kernel_rfl) (by simp) ?_
        refine AllReadyH.cons (o := { dst := some 79, op := Op.call { callee := Callee.value (Operand.func 29), args := #[Operand.tmp 77, Operand.tmp 78], argTypes := #[23, 3] }, type := 4, pos := "laws.go:1160", after := #[{ on := 11, ground := Ground.data }, { on := 12, ground := Ground.data }, { on := 10, ground := Ground.chain }, { on := 10, ground := Ground.guard }], guard := some (10, false) }) rfl (fun K hK => ?_) AllReadyH.nil
        go_simp
        go_at_call 29
        refine ((hasL_any _ _ Z (i : Int) (HRZ.out.grow (gby_trans (gby_drew HTZ37_.out) gA)) (by omega)).mono (bpost_no HM.out)).mono ?_
        rintro e wB ⟨rfl, gB⟩
        have nxi_ : wB.cell? _ = some _ := gB.cell mxi_ (by simp); have nsi_ : wB.cell? _ = some _ := gB.cell msi_ (by simp)
        go_wp2_with fail
        clear hHeld
        refine hK.out _ _ ?s13_1 (fun hHeld => ?_)
        case s13_1 => exact ⟨nxi_, nsi_⟩
        clear hK K
        try simp only [Act.put, List.setIfInBounds_toArray, List.set_cons_zero, List.set_cons_succ]
        refine wpAnyH_take (i := 14) (oi := { dst := some 80, op := Op.unOp UnOp.not 4 (Operand.tmp 79), type := 4, pos := "laws.go:1160", after := #[{ on := 13, ground := Ground.data }, { on := 10, ground := Ground.guard }], guard := some (10, false) }) (v := ?v14_1) rfl (by kernel_rfl) (by kernel_rfl) (by kernel_rfl) (fun _ _ _ h => h) (Or.inl ⟨by rfl, ?y14_1⟩) (by assumption) ?r14_1
        case y14_1 => (intro w hSw; (try dsimp only at hSw); go_simp; all_goals (with_reducible rfl))
        try simp only [Act.put, List.setIfInBounds_toArray, List.set_cons_zero, List.set_cons_succ]
        refine wpAnyH_take (i := 15) (oi := { dst := some 81, op := Op.move (Operand.tmp 80), type := 4, pos := "laws.go:1160", after := #[{ on := 14, ground := Ground.data }, { on := 13, ground := Ground.chain }, { on := 10, ground := Ground.guard }], guard := some (10, false) }) (v := ?v15_1) rfl (by kernel_rfl) (by kernel_rfl) (by kernel_rfl) (fun _ _ _ h => h) (Or.inl ⟨by rfl, ?y15_1⟩) (by assumption) ?r15_1
        case y15_1 => (intro w hSw; (try dsimp only at hSw); go_simp; all_goals (with_reducible rfl))
        try simp only [Act.put, List.setIfInBounds_toArray, List.set_cons_zero, List.set_cons_succ]
        refine wpAnyH_take (i := 16) (oi := { dst := some 82, op := Op.move (Operand.tmp 8), type := 23, pos := "laws.go:1160", after := #[{ on := 15, ground := Ground.guard }], guard := some (15, true) }) (v := ?v16_1) rfl (by kernel_rfl) (by kernel_rfl) (by kernel_rfl) (fun _ _ _ h => h) (Or.inl ⟨by rfl, ?y16_1⟩) (by assumption) ?r16_1
        case y16_1 => (intro w hSw; (try dsimp only at hSw); go_simp; all_goals (with_reducible rfl))
        try simp only [Act.put, List.setIfInBounds_toArray, List.set_cons_zero, List.set_cons_succ]
        refine wpAnyH_take (i := 17) (oi := { dst := some 83, op := Op.move (Operand.tmp 11), type := 3, pos := "laws.go:1160", after := #[{ on := 15, ground := Ground.guard }], guard := some (15, true) }) (v := ?v17_1) rfl (by kernel_rfl) (by kernel_rfl) (by kernel_rfl) (fun _ _ _ h => h) (Or.inl ⟨by rfl, ?y17_1⟩) (by assumption) ?r17_1
        case y17_1 => (intro w hSw; (try dsimp only at hSw); go_simp; all_goals (with_reducible rfl))
        try simp only [Act.put, List.setIfInBounds_toArray, List.set_cons_zero, List.set_cons_succ]
        refine wpAnyH_take (i := 18) (oi := { dst := some 84, op := Op.indexAddr 23 (Operand.tmp 82) (Operand.tmp 83), type := 0, pos := "laws.go:1160", after := #[{ on := 16, ground := Ground.data }, { on := 17, ground := Ground.data }, { on := 15, ground := Ground.guard }], guard := some (15, true) }) (v := ?v18_1) rfl (by kernel_rfl) (by kernel_rfl) (by kernel_rfl) (fun _ _ _ h => h) (Or.inl ⟨by rfl, ?y18_1⟩) (by assumption) ?r18_1
        case y18_1 => (intro w hSw; (try dsimp only at hSw); go_simp; all_goals (with_reducible rfl))
        try simp only [Act.put, List.setIfInBounds_toArray, List.set_cons_zero, List.set_cons_succ]
        refine wpAnyH_take (i := 19) (oi := { dst := some 85, op := Op.load 3 (Operand.tmp 84), type := 3, pos := "laws.go:1160", after := #[{ on := 18, ground := Ground.data }, { on := 15, ground := Ground.guard }], guard := some (15, true) }) (v := ?v19_1) rfl (by kernel_rfl) (by kernel_rfl) (by kernel_rfl) (fun _ _ _ h => h) (Or.inl ⟨by rfl, ?y19_1⟩) (by assumption) ?r19_1
        case y19_1 => (intro w hSw; (try dsimp only at hSw); go_simp; all_goals (with_reducible rfl))
        try simp only [Act.put, List.setIfInBounds_toArray, List.set_cons_zero, List.set_cons_succ]
        refine wpAnyH_take (i := 20) (oi := { dst := some 86, op := Op.move (Operand.tmp 6), type := 23, pos := "laws.go:1160", after := #[{ on := 15, ground := Ground.guard }], guard := some (15, true) }) (v := ?v20_1) rfl (by kernel_rfl) (by kernel_rfl) (by kernel_rfl) (fun _ _ _ h => h) (Or.inl ⟨by rfl, ?y20_1⟩) (by assumption) ?r20_1
        case y20_1 => (intro w hSw; (try dsimp only at hSw); go_simp; all_goals (with_reducible rfl))
        try simp only [Act.put, List.setIfInBounds_toArray, List.set_cons_zero, List.set_cons_succ]
        refine wpAnyH_take (i := 21) (oi := { dst := some 87, op := Op.move (Operand.tmp 11), type := 3, pos := "laws.go:1160", after := #[{ on := 15, ground := Ground.guard }], guard := some (15, true) }) (v := ?v21_1) rfl (by kernel_rfl) (by kernel_rfl) (by kernel_rfl) (fun _ _ _ h => h) (Or.inl ⟨by rfl, ?y21_1⟩) (by assumption) ?r21_1
        case y21_1 => (intro w hSw; (try dsimp only at hSw); go_simp; all_goals (with_reducible rfl))
        try simp only [Act.put, List.setIfInBounds_toArray, List.set_cons_zero, List.set_cons_succ]
        refine wpAnyH_take (i := 22) (oi := { dst := some 88, op := Op.indexAddr 23 (Operand.tmp 86) (Operand.tmp 87), type := 0, pos := "laws.go:1160", after := #[{ on := 20, ground := Ground.data }, { on := 21, ground := Ground.data }, { on := 15, ground := Ground.guard }], guard := some (15, true) }) (v := ?v22_1) rfl (by kernel_rfl) (by kernel_rfl) (by kernel_rfl) (fun _ _ _ h => h) (Or.inl ⟨by rfl, ?y22_1⟩) (by assumption) ?r22_1
        case y22_1 => (intro w hSw; (try dsimp only at hSw); go_simp; all_goals (with_reducible rfl))
        try simp only [Act.put, List.setIfInBounds_toArray, List.set_cons_zero, List.set_cons_succ]
        refine wpAnyH_take (i := 23) (oi := { dst := some 89, op := Op.load 3 (Operand.tmp 88), type := 3, pos := "laws.go:1160", after := #[{ on := 22, ground := Ground.data }, { on := 15, ground := Ground.guard }], guard := some (15, true) }) (v := ?v23_1) rfl (by kernel_rfl) (by kernel_rfl) (by kernel_rfl) (fun _ _ _ h => h) (Or.inl ⟨by rfl, ?y23_1⟩) (by assumption) ?r23_1
        case y23_1 => (intro w hSw; (try dsimp only at hSw); go_simp; all_goals (with_reducible rfl))
        try simp only [Act.put, List.setIfInBounds_toArray, List.set_cons_zero, List.set_cons_succ]
        refine wpAnyH_take (i := 24) (oi := { dst := some 90, op := Op.binOp BinOp.neq 3 (Operand.tmp 85) (Operand.tmp 89) 3, type := 4, pos := "laws.go:1160", after := #[{ on := 19, ground := Ground.data }, { on := 23, ground := Ground.data }, { on := 15, ground := Ground.guard }], guard := some (15, true) }) (v := ?v24_1) rfl (by kernel_rfl) (by kernel_rfl) (by kernel_rfl) (fun _ _ _ h => h) (Or.inl ⟨by rfl, ?y24_1⟩) (by assumption) ?r24_1
        case y24_1 => (intro w hSw; (try dsimp only at hSw); go_simp; all_goals (with_reducible rfl))
        try simp only [Act.put, List.setIfInBounds_toArray, List.set_cons_zero, List.set_cons_succ]
        refine wpAnyH_take (i := 25) (oi := { dst := some 91, op := Op.pick (Operand.tmp 81) (Operand.tmp 90) (Operand.const (Value.bool false)), type := 4, pos := "laws.go:1160", after := #[{ on := 15, ground := Ground.data }, { on := 24, ground := Ground.data }, { on := 10, ground := Ground.guard }], guard := some (10, false) }) (v := ?v25_1) rfl (by kernel_rfl) (by kernel_rfl) (by kernel_rfl) (fun _ _ _ h => h) (Or.inl ⟨by rfl, ?y25_1⟩) (by assumption) ?r25_1
        case y25_1 => (intro w hSw; (try dsimp only at hSw); go_simp; all_goals (with_reducible rfl))
        try simp only [Act.put, List.setIfInBounds_toArray, List.set_cons_zero, List.set_cons_succ]
        refine wpAnyH_take (i := 26) (oi := { dst := some 92, op := Op.pick (Operand.tmp 76) (Operand.const (Value.bool true)) (Operand.tmp 91), type := 4, pos := "laws.go:1160", after := #[{ on := 10, ground := Ground.data }, { on := 25, ground := Ground.data }], guard := none }) (v := ?v26_1) rfl (by kernel_rfl) (by kernel_rfl) (by kernel_rfl) (fun _ _ _ h => h) (Or.inl ⟨by rfl, ?y26_1⟩) (by assumption) ?r26_1
        case y26_1 => (intro w hSw; (try dsimp only at hSw); go_simp; all_goals (with_reducible rfl))
        try simp only [Act.put, List.setIfInBounds_toArray, List.set_cons_zero, List.set_cons_succ]
        refine wpAnyH_done (by kernel_rfl) ?_ _
        have g : (wr).grownBy wB none := gby_trans (gby_trans (gby_drew (gby_refl _ _)) gA) gB
        clear gA gB mxi_ msi_ nxi_ nsi_ xi_ si_
        have G38_ := Lib.hid (show (W).grownBy (wB) none from gby_trans G32_.out g)
        have HTT39_ := Lib.hid (show (w2).grownBy (wB) none from gby_trans HTT33_.out g)
        clear HTT33_
        have HTP40_ := Lib.hid (show (w3).grownBy (wB) none from gby_trans HTP34_.out g)
        clear HTP34_
        have HTs41_ := Lib.hid (show (w4).grownBy (wB) none from gby_trans HTs35_.out g)
        clear HTs35_
        have HTx42_ := Lib.hid (show (w5).grownBy (wB) none from gby_trans HTx36_.out g)
        clear HTx36_
        have HTZ43_ := Lib.hid (show (w6).grownBy (wB) none from gby_trans HTZ37_.out g)
        clear HTZ37_
        have HTB44_ := Lib.hid (show (w7).grownBy (wB) none from gby_trans HTB_.out g)
        clear HTB_
        clear g
        go_wp2
        refine ⟨⟨i + 1, by go_num, by omega, by repeat (first | exact HTB44_.out | with_reducible refine gby_drewN ?_ _)⟩, by simp [intOf]; omega⟩
      rw [if_pos hm] at xi_
      have HM := Lib.hid hm
      clear hm
      have h00 : ((0 : Int) != 0) = false := by decide
      go_wp2_with fail
      refine wp_region_held_drew (S := fun w' => w'.cell? ⟨xb, xo + i, none⟩ = some (.int .i64 0)) (by kernel_rfl) (by (try dsimp only); exact xi_) (fun hHeld => ?_)
      refine wpAnyH_take (i := 0) (oi := { dst := some 66, op := Op.move (Operand.tmp 10), type := 23, pos := "laws.go:1160", after := #[], guard := none }) (v := ?v0_2) rfl (by kernel_rfl) (by kernel_rfl) (by kernel_rfl) (fun _ _ _ h => h) (Or.inl ⟨by rfl, ?y0_2⟩) (by assumption) ?r0_2
      case y0_2 => (intro w hSw; (try dsimp only at hSw); go_simp; all_goals (with_reducible rfl))
      try simp only [Act.put, List.setIfInBounds_toArray, List.set_cons_zero, List.set_cons_succ]
      refine wpAnyH_take (i := 1) (oi := { dst := some 67, op := Op.move (Operand.tmp 11), type := 3, pos := "laws.go:1160", after := #[], guard := none }) (v := ?v1_2) rfl (by kernel_rfl) (by kernel_rfl) (by kernel_rfl) (fun _ _ _ h => h) (Or.inl ⟨by rfl, ?y1_2⟩) (by assumption) ?r1_2
      case y1_2 => (intro w hSw; (try dsimp only at hSw); go_simp; all_goals (with_reducible rfl))
      try simp only [Act.put, List.setIfInBounds_toArray, List.set_cons_zero, List.set_cons_succ]
      refine wpAnyH_ready (rs := [2]) (by kernel_rfl) (by simp) ?_
      refine AllReadyH.cons (o := { dst := some 68, op := Op.call { callee := Callee.value (Operand.func 29), args := #[Operand.tmp 66, Operand.tmp 67], argTypes := #[23, 3] }, type := 4, pos := "laws.go:1160", after := #[{ on := 0, ground := Ground.data }, { on := 1, ground := Ground.data }], guard := none }) rfl (fun K hK => ?_) AllReadyH.nil
      go_simp
      go_at_call 29
      refine ((hasL_any _ _ Z (i : Int) (HRZ.out.grow (gby_drew HTZ37_.out)) (by omega)).mono (bpost_yes HM.out)).mono ?_
      rintro e wA ⟨rfl, gA⟩
      have mxi_ : wA.cell? _ = some _ := gA.cell xi_ (by simp)
      go_wp2_with fail
      clear hHeld
      refine hK.out _ _ ?s2_2 (fun hHeld => ?_)
      case s2_2 => exact mxi_
      clear hK K
      try simp only [Act.put, List.setIfInBounds_toArray, List.set_cons_zero, List.set_cons_succ]
      refine wpAnyH_take (i := 3) (oi := { dst := some 69, op := Op.move (Operand.tmp 68), type := 4, pos := "laws.go:1160", after := #[{ on := 2, ground := Ground.data }, { on := 2, ground := Ground.chain }], guard := none }) (v := ?v3_2) rfl (by kernel_rfl) (by kernel_rfl) (by kernel_rfl) (fun _ _ _ h => h) (Or.inl ⟨by rfl, ?y3_2⟩) (by assumption) ?r3_2
      case y3_2 => (intro w hSw; (try dsimp only at hSw); go_simp; all_goals (with_reducible rfl))
      try simp only [Act.put, List.setIfInBounds_toArray, List.set_cons_zero, List.set_cons_succ]
      refine wpAnyH_take (i := 4) (oi := { dst := some 70, op := Op.move (Operand.tmp 8), type := 23, pos := "laws.go:1160", after := #[{ on := 3, ground := Ground.guard }], guard := some (3, true) }) (v := ?v4_2) rfl (by kernel_rfl) (by kernel_rfl) (by kernel_rfl) (fun _ _ _ h => h) (Or.inl ⟨by rfl, ?y4_2⟩) (by assumption) ?r4_2
      case y4_2 => (intro w hSw; (try dsimp only at hSw); go_simp; all_goals (with_reducible rfl))
      try simp only [Act.put, List.setIfInBounds_toArray, List.set_cons_zero, List.set_cons_succ]
      refine wpAnyH_take (i := 5) (oi := { dst := some 71, op := Op.move (Operand.tmp 11), type := 3, pos := "laws.go:1160", after := #[{ on := 3, ground := Ground.guard }], guard := some (3, true) }) (v := ?v5_2) rfl (by kernel_rfl) (by kernel_rfl) (by kernel_rfl) (fun _ _ _ h => h) (Or.inl ⟨by rfl, ?y5_2⟩) (by assumption) ?r5_2
      case y5_2 => (intro w hSw; (try dsimp only at hSw); go_simp; all_goals (with_reducible rfl))
      try simp only [Act.put, List.setIfInBounds_toArray, List.set_cons_zero, List.set_cons_succ]
      refine wpAnyH_take (i := 6) (oi := { dst := some 72, op := Op.indexAddr 23 (Operand.tmp 70) (Operand.tmp 71), type := 0, pos := "laws.go:1160", after := #[{ on := 4, ground := Ground.data }, { on := 5, ground := Ground.data }, { on := 3, ground := Ground.guard }], guard := some (3, true) }) (v := ?v6_2) rfl (by kernel_rfl) (by kernel_rfl) (by kernel_rfl) (fun _ _ _ h => h) (Or.inl ⟨by rfl, ?y6_2⟩) (by assumption) ?r6_2
      case y6_2 => (intro w hSw; (try dsimp only at hSw); go_simp; all_goals (with_reducible rfl))
      try simp only [Act.put, List.setIfInBounds_toArray, List.set_cons_zero, List.set_cons_succ]
      refine wpAnyH_take (i := 7) (oi := { dst := some 73, op := Op.load 3 (Operand.tmp 72), type := 3, pos := "laws.go:1160", after := #[{ on := 6, ground := Ground.data }, { on := 3, ground := Ground.guard }], guard := some (3, true) }) (v := ?v7_2) rfl (by kernel_rfl) (by kernel_rfl) (by kernel_rfl) (fun _ _ _ h => h) (Or.inl ⟨by rfl, ?y7_2⟩) (by assumption) ?r7_2
      case y7_2 => (intro w hSw; (try dsimp only at hSw); go_simp; all_goals (with_reducible rfl))
      try simp only [Act.put, List.setIfInBounds_toArray, List.set_cons_zero, List.set_cons_succ]
      refine wpAnyH_take (i := 8) (oi := { dst := some 74, op := Op.binOp BinOp.neq 3 (Operand.tmp 73) (Operand.const (Value.int IntKind.i64 0)) 3, type := 4, pos := "laws.go:1160", after := #[{ on := 7, ground := Ground.data }, { on := 3, ground := Ground.guard }], guard := some (3, true) }) (v := ?v8_2) rfl (by kernel_rfl) (by kernel_rfl) (by kernel_rfl) (fun _ _ _ h => h) (Or.inl ⟨by rfl, ?y8_2⟩) (by assumption) ?r8_2
      case y8_2 => (intro w hSw; (try dsimp only at hSw); go_simp; all_goals (with_reducible rfl))
      try simp only [Act.put, List.setIfInBounds_toArray, List.set_cons_zero, List.set_cons_succ]
      refine wpAnyH_take (i := 9) (oi := { dst := some 75, op := Op.pick (Operand.tmp 69) (Operand.tmp 74) (Operand.const (Value.bool false)), type := 4, pos := "laws.go:1160", after := #[{ on := 3, ground := Ground.data }, { on := 8, ground := Ground.data }], guard := none }) (v := ?v9_2) rfl (by kernel_rfl) (by kernel_rfl) (by kernel_rfl) (fun _ _ _ h => h) (Or.inl ⟨by rfl, ?y9_2⟩) (by assumption) ?r9_2
      case y9_2 => (intro w hSw; (try dsimp only at hSw); go_simp; all_goals (with_reducible rfl))
      try simp only [Act.put, List.setIfInBounds_toArray, List.set_cons_zero, List.set_cons_succ]
      refine wpAnyH_take (i := 10) (oi := { dst := some 76, op := Op.move (Operand.tmp 75), type := 4, pos := "laws.go:1160", after := #[{ on := 9, ground := Ground.data }, { on := 3, ground := Ground.chain }], guard := none }) (v := ?v10_2) rfl (by kernel_rfl) (by kernel_rfl) (by kernel_rfl) (fun _ _ _ h => h) (Or.inl ⟨by rfl, ?y10_2⟩) (by assumption) ?r10_2
      case y10_2 => (intro w hSw; (try dsimp only at hSw); go_simp; all_goals (with_reducible rfl))
      try simp only [Act.put, List.setIfInBounds_toArray, List.set_cons_zero, List.set_cons_succ]
      refine wpAnyH_take (i := 11) (oi := { dst := some 77, op := Op.move (Operand.tmp 10), type := 23, pos := "laws.go:1160", after := #[{ on := 10, ground := Ground.guard }], guard := some (10, false) }) (v := ?v11_2) rfl (by kernel_rfl) (by kernel_rfl) (by kernel_rfl) (fun _ _ _ h => h) (Or.inl ⟨by rfl, ?y11_2⟩) (by assumption) ?r11_2
      case y11_2 => (intro w hSw; (try dsimp only at hSw); go_simp; all_goals (with_reducible rfl))
      try simp only [Act.put, List.setIfInBounds_toArray, List.set_cons_zero, List.set_cons_succ]
      refine wpAnyH_take (i := 12) (oi := { dst := some 78, op := Op.move (Operand.tmp 11), type := 3, pos := "laws.go:1160", after := #[{ on := 10, ground := Ground.guard }], guard := some (10, false) }) (v := ?v12_2) rfl (by kernel_rfl) (by kernel_rfl) (by kernel_rfl) (fun _ _ _ h => h) (Or.inl ⟨by rfl, ?y12_2⟩) (by assumption) ?r12_2
      case y12_2 => (intro w hSw; (try dsimp only at hSw); go_simp; all_goals (with_reducible rfl))
      try simp only [Act.put, List.setIfInBounds_toArray, List.set_cons_zero, List.set_cons_succ]
      refine wpAnyH_ready (rs := [13]) (by kernel_rfl) (by simp) ?_
      refine AllReadyH.cons (o := { dst := some 79, op := Op.call { callee := Callee.value (Operand.func 29), args := #[Operand.tmp 77, Operand.tmp 78], argTypes := #[23, 3] }, type := 4, pos := "laws.go:1160", after := #[{ on := 11, ground := Ground.data }, { on := 12, ground := Ground.data }, { on := 10, ground := Ground.chain }, { on := 10, ground := Ground.guard }], guard := some (10, false) }) rfl (fun K hK => ?_) AllReadyH.nil
      go_simp
      go_at_call 29
      refine ((hasL_any _ _ Z (i : Int) (HRZ.out.grow (gby_trans (gby_drew HTZ37_.out) gA)) (by omega)).mono (bpost_yes HM.out)).mono ?_
      rintro e wB ⟨rfl, gB⟩
      have nxi_ : wB.cell? _ = some _ := gB.cell mxi_ (by simp)
      go_wp2_with fail
      clear hHeld
      refine hK.out _ _ ?s13_2 (fun hHeld => ?_)
      case s13_2 => exact nxi_
      clear hK K
      try simp only [Act.put, List.setIfInBounds_toArray, List.set_cons_zero, List.set_cons_succ]
      refine wpAnyH_take (i := 14) (oi := { dst := some 80, op := Op.unOp UnOp.not 4 (Operand.tmp 79), type := 4, pos := "laws.go:1160", after := #[{ on := 13, ground := Ground.data }, { on := 10, ground := Ground.guard }], guard := some (10, false) }) (v := ?v14_2) rfl (by kernel_rfl) (by kernel_rfl) (by kernel_rfl) (fun _ _ _ h => h) (Or.inl ⟨by rfl, ?y14_2⟩) (by assumption) ?r14_2
      case y14_2 => (intro w hSw; (try dsimp only at hSw); go_simp; all_goals (with_reducible rfl))
      try simp only [Act.put, List.setIfInBounds_toArray, List.set_cons_zero, List.set_cons_succ]
      refine wpAnyH_take (i := 15) (oi := { dst := some 81, op := Op.move (Operand.tmp 80), type := 4, pos := "laws.go:1160", after := #[{ on := 14, ground := Ground.data }, { on := 13, ground := Ground.chain }, { on := 10, ground := Ground.guard }], guard := some (10, false) }) (v := ?v15_2) rfl (by kernel_rfl) (by kernel_rfl) (by kernel_rfl) (fun _ _ _ h => h) (Or.inl ⟨by rfl, ?y15_2⟩) (by assumption) ?r15_2
      case y15_2 => (intro w hSw; (try dsimp only at hSw); go_simp; all_goals (with_reducible rfl))
      try simp only [Act.put, List.setIfInBounds_toArray, List.set_cons_zero, List.set_cons_succ]
      refine wpAnyH_take (i := 16) (oi := { dst := some 82, op := Op.move (Operand.tmp 8), type := 23, pos := "laws.go:1160", after := #[{ on := 15, ground := Ground.guard }], guard := some (15, true) }) (v := undef) rfl (by kernel_rfl) (by kernel_rfl) (by kernel_rfl) (fun _ _ _ h => h) (Or.inr ⟨by rfl, rfl⟩) (by assumption) ?r16_2
      try simp only [Act.put, List.setIfInBounds_toArray, List.set_cons_zero, List.set_cons_succ]
      refine wpAnyH_take (i := 17) (oi := { dst := some 83, op := Op.move (Operand.tmp 11), type := 3, pos := "laws.go:1160", after := #[{ on := 15, ground := Ground.guard }], guard := some (15, true) }) (v := undef) rfl (by kernel_rfl) (by kernel_rfl) (by kernel_rfl) (fun _ _ _ h => h) (Or.inr ⟨by rfl, rfl⟩) (by assumption) ?r17_2
      try simp only [Act.put, List.setIfInBounds_toArray, List.set_cons_zero, List.set_cons_succ]
      refine wpAnyH_take (i := 18) (oi := { dst := some 84, op := Op.indexAddr 23 (Operand.tmp 82) (Operand.tmp 83), type := 0, pos := "laws.go:1160", after := #[{ on := 16, ground := Ground.data }, { on := 17, ground := Ground.data }, { on := 15, ground := Ground.guard }], guard := some (15, true) }) (v := undef) rfl (by kernel_rfl) (by kernel_rfl) (by kernel_rfl) (fun _ _ _ h => h) (Or.inr ⟨by rfl, rfl⟩) (by assumption) ?r18_2
      try simp only [Act.put, List.setIfInBounds_toArray, List.set_cons_zero, List.set_cons_succ]
      refine wpAnyH_take (i := 19) (oi := { dst := some 85, op := Op.load 3 (Operand.tmp 84), type := 3, pos := "laws.go:1160", after := #[{ on := 18, ground := Ground.data }, { on := 15, ground := Ground.guard }], guard := some (15, true) }) (v := undef) rfl (by kernel_rfl) (by kernel_rfl) (by kernel_rfl) (fun _ _ _ h => h) (Or.inr ⟨by rfl, rfl⟩) (by assumption) ?r19_2
      try simp only [Act.put, List.setIfInBounds_toArray, List.set_cons_zero, List.set_cons_succ]
      refine wpAnyH_take (i := 20) (oi := { dst := some 86, op := Op.move (Operand.tmp 6), type := 23, pos := "laws.go:1160", after := #[{ on := 15, ground := Ground.guard }], guard := some (15, true) }) (v := undef) rfl (by kernel_rfl) (by kernel_rfl) (by kernel_rfl) (fun _ _ _ h => h) (Or.inr ⟨by rfl, rfl⟩) (by assumption) ?r20_2
      try simp only [Act.put, List.setIfInBounds_toArray, List.set_cons_zero, List.set_cons_succ]
      refine wpAnyH_take (i := 21) (oi := { dst := some 87, op := Op.move (Operand.tmp 11), type := 3, pos := "laws.go:1160", after := #[{ on := 15, ground := Ground.guard }], guard := some (15, true) }) (v := undef) rfl (by kernel_rfl) (by kernel_rfl) (by kernel_rfl) (fun _ _ _ h => h) (Or.inr ⟨by rfl, rfl⟩) (by assumption) ?r21_2
      try simp only [Act.put, List.setIfInBounds_toArray, List.set_cons_zero, List.set_cons_succ]
      refine wpAnyH_take (i := 22) (oi := { dst := some 88, op := Op.indexAddr 23 (Operand.tmp 86) (Operand.tmp 87), type := 0, pos := "laws.go:1160", after := #[{ on := 20, ground := Ground.data }, { on := 21, ground := Ground.data }, { on := 15, ground := Ground.guard }], guard := some (15, true) }) (v := undef) rfl (by kernel_rfl) (by kernel_rfl) (by kernel_rfl) (fun _ _ _ h => h) (Or.inr ⟨by rfl, rfl⟩) (by assumption) ?r22_2
      try simp only [Act.put, List.setIfInBounds_toArray, List.set_cons_zero, List.set_cons_succ]
      refine wpAnyH_take (i := 23) (oi := { dst := some 89, op := Op.load 3 (Operand.tmp 88), type := 3, pos := "laws.go:1160", after := #[{ on := 22, ground := Ground.data }, { on := 15, ground := Ground.guard }], guard := some (15, true) }) (v := undef) rfl (by kernel_rfl) (by kernel_rfl) (by kernel_rfl) (fun _ _ _ h => h) (Or.inr ⟨by rfl, rfl⟩) (by assumption) ?r23_2
      try simp only [Act.put, List.setIfInBounds_toArray, List.set_cons_zero, List.set_cons_succ]
      refine wpAnyH_take (i := 24) (oi := { dst := some 90, op := Op.binOp BinOp.neq 3 (Operand.tmp 85) (Operand.tmp 89) 3, type := 4, pos := "laws.go:1160", after := #[{ on := 19, ground := Ground.data }, { on := 23, ground := Ground.data }, { on := 15, ground := Ground.guard }], guard := some (15, true) }) (v := undef) rfl (by kernel_rfl) (by kernel_rfl) (by kernel_rfl) (fun _ _ _ h => h) (Or.inr ⟨by rfl, rfl⟩) (by assumption) ?r24_2
      try simp only [Act.put, List.setIfInBounds_toArray, List.set_cons_zero, List.set_cons_succ]
      refine wpAnyH_take (i := 25) (oi := { dst := some 91, op := Op.pick (Operand.tmp 81) (Operand.tmp 90) (Operand.const (Value.bool false)), type := 4, pos := "laws.go:1160", after := #[{ on := 15, ground := Ground.data }, { on := 24, ground := Ground.data }, { on := 10, ground := Ground.guard }], guard := some (10, false) }) (v := ?v25_2) rfl (by kernel_rfl) (by kernel_rfl) (by kernel_rfl) (fun _ _ _ h => h) (Or.inl ⟨by rfl, ?y25_2⟩) (by assumption) ?r25_2
      case y25_2 => (intro w hSw; (try dsimp only at hSw); go_simp; all_goals (with_reducible rfl))
      try simp only [Act.put, List.setIfInBounds_toArray, List.set_cons_zero, List.set_cons_succ]
      refine wpAnyH_take (i := 26) (oi := { dst := some 92, op := Op.pick (Operand.tmp 76) (Operand.const (Value.bool true)) (Operand.tmp 91), type := 4, pos := "laws.go:1160", after := #[{ on := 10, ground := Ground.data }, { on := 25, ground := Ground.data }], guard := none }) (v := ?v26_2) rfl (by kernel_rfl) (by kernel_rfl) (by kernel_rfl) (fun _ _ _ h => h) (Or.inl ⟨by rfl, ?y26_2⟩) (by assumption) ?r26_2
      case y26_2 => (intro w hSw; (try dsimp only at hSw); go_simp; all_goals (with_reducible rfl))
      try simp only [Act.put, List.setIfInBounds_toArray, List.set_cons_zero, List.set_cons_succ]
      refine wpAnyH_done (by kernel_rfl) ?_ _
      have g : (wr).grownBy wB none := gby_trans (gby_trans (gby_drew (gby_refl _ _)) gA) gB
      clear gA gB mxi_ nxi_ xi_
      have G38_ := Lib.hid (show (W).grownBy (wB) none from gby_trans G32_.out g)
      have HTT39_ := Lib.hid (show (w2).grownBy (wB) none from gby_trans HTT33_.out g)
      clear HTT33_
      have HTP40_ := Lib.hid (show (w3).grownBy (wB) none from gby_trans HTP34_.out g)
      clear HTP34_
      have HTs41_ := Lib.hid (show (w4).grownBy (wB) none from gby_trans HTs35_.out g)
      clear HTs35_
      have HTx42_ := Lib.hid (show (w5).grownBy (wB) none from gby_trans HTx36_.out g)
      clear HTx36_
      have HTZ43_ := Lib.hid (show (w6).grownBy (wB) none from gby_trans HTZ37_.out g)
      clear HTZ37_
      have HTB44_ := Lib.hid (show (w7).grownBy (wB) none from gby_trans HTB_.out g)
      clear HTB_
      clear g
      go_wp2
      refine ⟨⟨i + 1, by go_num, by omega, by repeat (first | exact HTB44_.out | with_reducible refine gby_drewN ?_ _)⟩, by simp [intOf]; omega⟩

end Go.Proofs.Ytgagbhkidponnaa
