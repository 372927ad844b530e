/-
  The walk of FnSleeps.
-/
import Derived.Test.YtgagbhkidponnaaDrawDepths
import Derived.Test.YtgagbhkidponnaaSettleLaws
import Derived.Test.YtgagbhkidponnaaSettle
import Derived.Test.YtgagbhkidponnaaSameInts
import Derived.Test.YtgagbhkidponnaaTreeB
import Derived.Test.YtgagbhkidponnaaBig
import Derived.Deep.QuietTactic
namespace Go.Proofs.Ytgagbhkidponnaa
open Go Go.RowKit
set_option linter.unusedVariables false

theorem same_true2 (W : World) (v u : Value) (ys : List Int) (H1 : RdL shI W v ys) (H2 : RdL shI W u ys) (hl : ys.length ≤ 1048576) : Calls Try.prog 25 #[v, u] W (AnsN (.bool true) W) := by
  obtain ⟨a1, c1, rfl, h1, _⟩ := rdI_in H1
  obtain ⟨a2, c2, rfl, h2, _⟩ := rdI_in H2
  refine (sameInts_any W a1 a2 ys.length ys.length c1 c2 ys ys h1 h2 hl (by omega)).mono (fun e w' h => ?_)
  rw [decide_eq_true rfl] at h
  exact ⟨h.1, h.2.gby none⟩

set_option maxRecDepth 8000 in
set_option maxHeartbeats 8000000 in
theorem walk_sleeps (a : Option Addr) (len cap : Nat) (zs : List Int) (W : World) (hB : Bytes W a len zs) :
    Calls Try.prog 4 #[.slice a len cap] W fun e w' => e = .returned (.bool true) ∧ Below W.heap.size W w' := by
  have HB := Lib.hid hB
  clear hB
  by_cases hbig : (1048576 : Int) < (len : Int)
  · go_enter Try.func4, Try.ntmps4
    go_wp2
    go_ret
    exact ⟨rfl, Below.refl _ _⟩
  · skip
    go_enter Try.func4, Try.ntmps4
    go_wp2_with fail
    go_at_call 21
    refine (big_any _ _ _ _).mono ?_
    rintro e w1 ⟨rfl, rfl⟩
    go_wp2_with fail
    go_at_call 22
    refine (drawDepths_any _ _ _ _ _ (bytes_grow HB.out (gby_refl _ _)) (by omega)).mono ?_
    rintro e w2 ⟨v_, u_, xs, ss, rfl, ht, hw, o, o2, g⟩
    have HTO := Lib.hid ht
    have HWI := Lib.hid hw
    have hssl : ss.length = xs.length := hw.2.2
    obtain ⟨ta_, tc, rfl, _, hi_⟩ := rdN_in o.rd
    obtain ⟨tb, to, rfl, hnc⟩ := hi_.resolve_left (by have := ht.1.1; omega)
    obtain ⟨wa_, wc, rfl, _, hi2_⟩ := rdI1_in o2.rd
    obtain ⟨wb, wo, rfl, hwcc⟩ := hi2_.resolve_left (by have := ht.1.1; omega)
    have HNC := Lib.hid hnc
    have HWC := Lib.hid hwcc
    have HT0 := Lib.hid o.rd
    have HW0 := Lib.hid o2.rd
    obtain ⟨n0, hn0⟩ : ∃ n, n = xs.length := ⟨_, rfl⟩
    have HE := Lib.hid hn0
    have hx1 : 1 ≤ n0 := by have := ht.1.1; omega
    have hx2 : n0 ≤ 12 := by have := ht.1.2; omega
    rw [hssl, ← hn0] at HW0 HWC ⊢
    rw [← hn0] at HNC HT0
    have HLx : Hid (szL shNode xs ≤ 1048576) := Lib.hid (by rw [szL_size0 (fun _ => rfl)]; have := ht.1.2; omega)
    have HLs : Hid (szL shI ss ≤ 1048576) := Lib.hid (by rw [szL_I]; have := ht.1.2; omega)
    have HSS := Lib.hid hssl
    clear ht hw o o2 hn0 hnc hwcc hssl
    have szw2 := g.size
    try simp only [World.size_alloc] at szw2
    have G1_ := Lib.hid (show (W).grownBy (w2) none from gby_trans (gby_refl _ _) g)
    clear g
    have HTT2_ := Lib.hid (gby_refl (w2) none)
    have MG3_ := Lib.hid (show (W).grownBy (w2) none from G1_.out)
    obtain ⟨s, hs⟩ : ∃ q, q = settled xs ss := ⟨_, rfl⟩
    have Hs := Lib.hid hs
    clear hs
    go_wp2_with fail
    go_at_call 15
    refine ((show Calls _ _ _ _ (ResISettleSleep s _) from by rw [Hs.out]; exact implSettle_yes _ _ _ xs ss (HT0.out.grow HTT2_.out) (HW0.out.grow HTT2_.out) HLx.out (HLs.out) (HWI.out))).mono ?_
    rintro e w3 ⟨v3_, rfl, o, g⟩
    have szw3 := g.size
    have G4_ := Lib.hid (show (W).grownBy (w3) none from gby_trans G1_.out g)
    have HTT5_ := Lib.hid (show (w2).grownBy (w3) none from gby_trans HTT2_.out g)
    clear HTT2_
    clear g
    obtain ⟨as_, sc, rfl, _, h3_⟩ := rdI1_in (OwU.rd o)
    have hls : s.length = n0 := by rw [Hs.out, settled_len]; have := HE.out; have := HSS.out; omega
    obtain ⟨sb, so, rfl, h4_⟩ := h3_.resolve_left (by omega)
    have HCs := Lib.hid h4_
    have HRs := Lib.hid (OwU.rd o)
    rw [hls] at HCs HRs ⊢
    have HNs := Lib.hid hls
    clear o h4_ hls
    have HTs6_ := Lib.hid (gby_refl (w3) none)
    have MG7_ := Lib.hid (show (W).grownBy (w3) none from G4_.out)
    have HLS2 : Hid (szL shI s ≤ 1048576) := Lib.hid (by rw [szL_I, HNs.out]; omega)
    have HOK := Lib.hid (show SleepP xs s by rw [Hs.out]; exact settled_ok HWI.out)
    go_wp2_with fail
    go_at_call 23
    refine (((implSleep _ _ _ xs s (HT0.out.grow HTT5_.out) (HRs.out.grow HTs6_.out) HLx.out HLS2.out).mono (bpost_yes HOK.out))).mono ?_
    rintro e w4 ⟨rfl, g⟩
    have szw4 := g.size
    try simp only [World.size_alloc] at szw4
    try simp only [World.size_setCell] at szw4
    have G8_ := Lib.hid (show (W).grownBy (w4) none from gby_trans G4_.out g)
    have HTT9_ := Lib.hid (show (w2).grownBy (w4) none from gby_trans HTT5_.out g)
    clear HTT5_
    have HTs10_ := Lib.hid (show (w3).grownBy (w4) none from gby_trans HTs6_.out g)
    clear HTs6_
    clear g
    have hq1 : ((n0 : Int) != (n0 : Int)) = false := by simp
    go_wp2
    go_loopw [6] (fun k wr => ∃ k_ : Nat, k = .int .i64 (k_ : Int) ∧ k_ ≤ n0 ∧ (w4).grownBy wr none) (fun k _ => n0 - (intOf k).toNat)
    case atStart => exact ⟨0, rfl, by omega, gby_refl _ _⟩
    case round =>
      obtain ⟨wo, hwo_⟩ : ∃ w_, w_ = wr := ⟨_, rfl⟩
      subst hwo_
      obtain ⟨k_, rfl, hk, hg⟩ := hrel
      have szrwo := hg.size
      try simp only [World.size_alloc] at szrwo
      try simp only [World.size_setCell] at szrwo
      have szr_ := szrwo
      have G11_ := Lib.hid (show (W).grownBy (wo) none from gby_trans G8_.out hg)
      have HTT12_ := Lib.hid (show (w2).grownBy (wo) none from gby_trans HTT9_.out hg)
      clear HTT9_
      have HTs13_ := Lib.hid (show (w3).grownBy (wo) none from gby_trans HTs10_.out hg)
      clear HTs10_
      have HTB_ := Lib.hid hg
      clear hg
      obtain ⟨k, hkk⟩ : ∃ k, k = k_ := ⟨_, rfl⟩
      subst hkk
      have hk0 : (0 : Int) ≤ (k : Int) := by omega
      have htk : ((k : Int)).toNat = k := by omega
      by_cases hlt : k < n0
      rotate_left
      · obtain rfl : k = n0 := by omega
        have hki : ¬ (k : Int) < (k : Int) := by omega
        obtain ⟨r, hr⟩ : ∃ r, r = settled xs s := ⟨_, rfl⟩
        have hrs : r = s := by rw [hr]; exact settled_same HOK.out
        have HR := Lib.hid hr
        have HRS := Lib.hid hrs
        clear hr hrs
        go_wp2_with fail
        go_at_call 15
        refine ((show Calls _ _ _ _ (ResISettleSleep r _) from by rw [HR.out]; exact implSettle_yes _ _ _ xs s (HT0.out.grow HTT12_.out) (HRs.out.grow HTs13_.out) HLx.out HLS2.out HOK.out.1)).mono ?_
        rintro e w5 ⟨v3_, rfl, o, g⟩
        have szw5 := g.size
        have G14_ := Lib.hid (show (W).grownBy (w5) none from gby_trans G11_.out g)
        have HTT15_ := Lib.hid (show (w2).grownBy (w5) none from gby_trans HTT12_.out g)
        clear HTT12_
        have HTs16_ := Lib.hid (show (w3).grownBy (w5) none from gby_trans HTs13_.out g)
        clear HTs13_
        have HTB17_ := Lib.hid (show (w4).grownBy (w5) none from gby_trans HTB_.out g)
        clear HTB_
        clear g
        rw [HRS.out] at o
        obtain ⟨a3, n3, c3, hv_⟩ := RdL.form (OwU.rd o)
        subst hv_
        have HR3 := Lib.hid (OwU.rd o)
        clear o
        go_wp2_with fail
        go_at_call 25
        refine (same_true2 _ _ _ s HR3.out (HRs.out.grow HTs16_.out) (by have := HNs.out; omega)).mono ?_
        rintro e w9 ⟨rfl, g⟩
        go_wp2
        go_ret
        exact ⟨rfl, gby_below (gby_trans G14_.out g)⟩
      have hki : (k : Int) < (n0 : Int) := by omega
      have HK := Lib.hid (show k < xs.length by rw [← HE.out]; exact hlt)
      go_wp2
      go_loopw [7, 8] (fun l i wr => ∃ (x : Int) (j : Nat), l = .int .i64 x ∧ i = .int .i64 (j : Int) ∧ j ≤ n0 ∧ LeastP xs ss k j x ∧ (wo).grownBy wr none) (fun _ i _ => n0 - (intOf i).toNat)
      case atStart => exact ⟨3, 0, rfl, rfl, by omega, least_zero _ _ _, gby_refl _ _⟩
      case round =>
        obtain ⟨wi, hwo_⟩ : ∃ w_, w_ = wr := ⟨_, rfl⟩
        subst hwo_
        obtain ⟨x, j, rfl, rfl, hj, hle, hg⟩ := hrel
        have szrwi := hg.size
        try simp only [World.size_alloc] at szrwi
        try simp only [World.size_setCell] at szrwi
        have szr_ := szrwi
        have G14_ := Lib.hid (show (W).grownBy (wi) none from gby_trans G11_.out hg)
        have HTT15_ := Lib.hid (show (w2).grownBy (wi) none from gby_trans HTT12_.out hg)
        clear HTT12_
        have HTs16_ := Lib.hid (show (w3).grownBy (wi) none from gby_trans HTs13_.out hg)
        clear HTs13_
        have HTB17_ := Lib.hid (show (w4).grownBy (wi) none from gby_trans HTB_.out hg)
        clear HTB_
        have HTC_ := Lib.hid hg
        clear hg
        have HLE := Lib.hid hle
        clear hle
        have hj0 : (0 : Int) ≤ (j : Int) := by omega
        have htj : ((j : Int)).toNat = j := by omega
        by_cases hlj : j < n0
        rotate_left
        · obtain rfl : j = n0 := by omega
          have hji : ¬ (j : Int) < (j : Int) := by omega
          have sk_ := (HTs16_.out).cell (HCs.out k hlt) (by simp)
          rw [Hs.out, least_is HWI.out HK.out (by rw [← HE.out]; exact HLE.out)] at sk_
          have hbx : (x != x) = false := by simp
          go_wp2
          refine ⟨⟨k + 1, by go_num, by omega, by repeat (first | exact HTB17_.out | with_reducible refine gby_drewN ?_ _)⟩, by simp [intOf]; omega⟩
        have hji : (j : Int) < (n0 : Int) := by omega
        by_cases hb : BelowP xs (j : Int) (k : Int)
        rotate_left
        · have HNB := Lib.hid hb
          clear hb
          go_wp2_with fail
          go_at_call 24
          refine (implBelow_no _ _ xs (j : Int) (k : Int) (HT0.out.grow HTT15_.out) HLx.out HNB.out).mono ?_
          rintro e w5 ⟨rfl, g⟩
          have szw5 := g.size
          try simp only [World.size_alloc] at szw5
          try simp only [World.size_setCell] at szw5
          have G18_ := Lib.hid (show (W).grownBy (w5) none from gby_trans G14_.out g)
          have HTT19_ := Lib.hid (show (w2).grownBy (w5) none from gby_trans HTT15_.out g)
          clear HTT15_
          have HTs20_ := Lib.hid (show (w3).grownBy (w5) none from gby_trans HTs16_.out g)
          clear HTs16_
          have HTB21_ := Lib.hid (show (w4).grownBy (w5) none from gby_trans HTB17_.out g)
          clear HTB17_
          have HTC22_ := Lib.hid (show (wo).grownBy (w5) none from gby_trans HTC_.out g)
          clear HTC_
          clear g
          go_wp2
          refine ⟨⟨x, j + 1, by first | rfl | go_num, by go_num, by omega, least_skip HLE.out HNB.out, by repeat (first | exact HTC22_.out | with_reducible refine gby_drewN ?_ _)⟩, by simp [intOf]; omega⟩
        have HYB := Lib.hid hb
        clear hb
        go_wp2_with fail
        go_at_call 24
        refine (implBelow_yes _ _ xs (j : Int) (k : Int) (HT0.out.grow HTT15_.out) HLx.out HYB.out).mono ?_
        rintro e w5 ⟨rfl, g⟩
        have szw5 := g.size
        try simp only [World.size_alloc] at szw5
        try simp only [World.size_setCell] at szw5
        have G18_ := Lib.hid (show (W).grownBy (w5) none from gby_trans G14_.out g)
        have HTT19_ := Lib.hid (show (w2).grownBy (w5) none from gby_trans HTT15_.out g)
        clear HTT15_
        have HTs20_ := Lib.hid (show (w3).grownBy (w5) none from gby_trans HTs16_.out g)
        clear HTs16_
        have HTB21_ := Lib.hid (show (w4).grownBy (w5) none from gby_trans HTB17_.out g)
        clear HTB17_
        have HTC22_ := Lib.hid (show (wo).grownBy (w5) none from gby_trans HTC_.out g)
        clear HTC_
        clear g
        obtain ⟨y, hy⟩ : ∃ y, y = ss.getD j 0 := ⟨_, rfl⟩
        have wj_ := (HTT19_.out).cell (HWC.out j hlj) (by simp)
        rw [← hy] at wj_
        have HY := Lib.hid hy
        clear hy
        go_wp2
        refine ⟨⟨min x y, j + 1, by first | rfl | go_num, by go_num, by omega, by rw [HY.out]; exact least_take HLE.out HYB.out, by repeat (first | exact HTC22_.out | with_reducible refine gby_drewN ?_ _)⟩, by simp [intOf]; omega⟩

end Go.Proofs.Ytgagbhkidponnaa
