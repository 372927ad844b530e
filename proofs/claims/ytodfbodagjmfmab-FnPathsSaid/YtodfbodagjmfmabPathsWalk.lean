/-
  The walk of FnPaths.
-/
import Derived.Test.YtodfbodagjmfmabBtwB
import Derived.Test.YtodfbodagjmfmabDrawTree
import Derived.Test.YtodfbodagjmfmabDrawPlaces
import Derived.Test.YtodfbodagjmfmabSameInts
import Derived.Test.YtodfbodagjmfmabBig
import Derived.Deep.QuietTactic
namespace Go.Proofs.Ytodfbodagjmfmab
open Go Go.RowKit
set_option linter.unusedVariables false

theorem lcp_comm : ∀ x y : List Int, lcp x y = lcp y x
  | [], [] => rfl
  | [], _ :: _ => rfl
  | _ :: _, [] => rfl
  | a :: x, b :: y => by
    unfold lcp
    rw [lcp_comm x y]
    by_cases e : a = b
    · rw [if_pos e, if_pos e.symm]
    · rw [if_neg e, if_neg (fun q => e q.symm)]
/-- two ways from the root -/
structure TwoW (x y : List Int) (a b : Nat) : Prop where
  x1 : 1 ≤ x.length
  y1 : 1 ≤ y.length
  xl : x.getD (x.length - 1) 0 = (a : Int)
  yl : y.getD (y.length - 1) 0 = (b : Int)
  h0 : x.getD 0 0 = y.getD 0 0
theorem twoW {xs : List DNode} (h : TOk xs) {a b : Nat} (ha : a < xs.length) (hb : b < xs.length) : TwoW (pth xs a) (pth xs b) a b :=
  ⟨(pth_len h a ha).1, (pth_len h b hb).1, pth_last h a ha, pth_last h b hb, (pth_head h a ha).trans (pth_head h b hb).symm⟩
theorem btwL_pos {x y : List Int} {a b : Nat} (h : TwoW x y a b) : 1 ≤ (btwL x y).length := by
  obtain ⟨n1, _, _⟩ := lcp_le x y
  have := lcp_pos h.x1 h.y1 h.h0
  rw [btwL_len]; have := h.x1; omega
theorem btwL_first {x y : List Int} {a b : Nat} (h : TwoW x y a b) : (btwL x y).getD 0 0 = (a : Int) := by
  obtain ⟨n1, _, _⟩ := lcp_le x y
  have := lcp_pos h.x1 h.y1 h.h0
  rw [btwL_up (by have := h.x1; omega), Nat.sub_zero]; exact h.xl
theorem btwL_comm_len {x y : List Int} {a b : Nat} (h : TwoW x y a b) : (btwL y x).length = (btwL x y).length := by
  obtain ⟨n1, n2, _⟩ := lcp_le x y
  have := lcp_pos h.x1 h.y1 h.h0
  rw [btwL_len, btwL_len, lcp_comm y x]; omega
theorem btwL_back {x y : List Int} {a b : Nat} (h : TwoW x y a b) {k : Nat} (hk : k < (btwL x y).length) : (btwL y x).getD ((btwL x y).length - 1 - k) 0 = (btwL x y).getD k 0 := by
  obtain ⟨n1, n2, he⟩ := lcp_le x y
  have hp := lcp_pos h.x1 h.y1 h.h0
  have hl := btwL_len x y
  rw [hl] at hk ⊢
  have hc := lcp_comm y x
  by_cases h1 : k < x.length - (lcp x y - 1)
  · rw [btwL_up h1]
    by_cases h2 : k + 1 = x.length - (lcp x y - 1)
    · rw [btwL_up (x := y) (y := x) (by rw [hc]; omega), show x.length - 1 - k = lcp x y - 1 by omega, he _ (by omega)]
      congr 1; omega
    · rw [btwL_down (x := y) (y := x) (by rw [hc]; omega), hc]
      congr 1; omega
  · rw [btwL_down (x := x) (y := y) (by omega), btwL_up (x := y) (y := x) (by rw [hc]; omega)]
    congr 1; omega
theorem btwL_last {x y : List Int} {a b : Nat} (h : TwoW x y a b) : (btwL x y).getD ((btwL x y).length - 1) 0 = (b : Int) := by
  have h2 : TwoW y x b a := ⟨h.y1, h.x1, h.yl, h.xl, h.h0.symm⟩
  have := btwL_back h2 (k := 0) (by have := btwL_pos h2; omega)
  rw [Nat.sub_zero, btwL_comm_len h, btwL_first h2] at this
  exact this
theorem btwL_in {xs : List DNode} (ht : TOk xs) {a b : Nat} (ha : a < xs.length) (hb : b < xs.length) {k : Nat} (hk : k < (btwL (pth xs a) (pth xs b)).length) : 0 ≤ (btwL (pth xs a) (pth xs b)).getD k 0 ∧ (btwL (pth xs a) (pth xs b)).getD k 0 < (xs.length : Int) := by
  have hat : ∀ c, c < xs.length → ∀ i, i < (pth xs c).length → 0 ≤ (pth xs c).getD i 0 ∧ (pth xs c).getD i 0 < (xs.length : Int) := fun c hc i hi => by
    have := pth_in ht c hc ((pth xs c).getD i 0) (by rw [List.getD_eq_getElem?_getD, List.getElem?_eq_getElem hi]; exact List.getElem_mem _)
    omega
  have hl := btwL_len (pth xs a) (pth xs b)
  obtain ⟨n1, n2, _⟩ := lcp_le (pth xs a) (pth xs b)
  have h1 := (pth_len ht a ha).1
  by_cases h : k < (pth xs a).length - (lcp (pth xs a) (pth xs b) - 1)
  · rw [btwL_up h]; exact hat a ha _ (by omega)
  · rw [btwL_down (by omega)]; exact hat b hb _ (by omega)
theorem btwL_root {xs : List DNode} (ht : TOk xs) {a : Nat} (ha : a < xs.length) : btwL (pth xs 0) (pth xs a) = pth xs a := by
  have h1 := (pth_len ht a ha).1
  have h2 := pth_head ht a ha
  rw [pth_zero]
  cases e : pth xs a with
  | nil => rw [e] at h1; simp at h1
  | cons b l =>
    rw [e] at h2
    simp at h2
    subst h2
    cases l <;> simp [btwL, lcp]

end Go.Proofs.Ytodfbodagjmfmab

namespace Go.Proofs.Ytodfbodagjmfmab
open Go Go.RowKit
set_option linter.unusedVariables false

theorem same_true (W : World) (v u : Value) (ys : List Int) (H1 : RdL shI W v ys) (H2 : RdL shI W u ys) (hl : ys.length ≤ 1048576) : Calls Try.prog 33 #[v, u] W (AnsN (.bool true) W) := by
  obtain ⟨a1, c1, rfl, h1, _⟩ := rdI_in H1
  obtain ⟨a2, c2, rfl, h2, _⟩ := rdI_in H2
  refine (sameInts_any W a1 a2 ys.length ys.length c1 c2 ys ys h1 h2 hl (by omega)).mono (fun e w' h => ?_)
  rw [decide_eq_true rfl] at h
  exact ⟨h.1, h.2.gby none⟩

set_option maxRecDepth 8000 in
set_option maxHeartbeats 8000000 in
theorem walk_paths (a : Option Addr) (len cap : Nat) (zs : List Int) (W : World) (hB : Bytes W a len zs) :
    Calls Try.prog 7 #[.slice a len cap] W fun e w' => e = .returned (.bool true) ∧ Below W.heap.size W w' := by
  have HB := Lib.hid hB
  clear hB
  by_cases hbig : (1048576 : Int) < (len : Int)
  · go_enter Try.func7, Try.ntmps7
    go_wp2
    go_ret
    exact ⟨rfl, Below.refl _ _⟩
  · skip
    go_enter Try.func7, Try.ntmps7
    go_wp2_with fail
    go_at_call 30
    refine (big_any _ _ _ _).mono ?_
    rintro e w1 ⟨rfl, rfl⟩
    go_wp2_with fail
    go_at_call 31
    refine (drawTree_any _ _ _ _ _ (bytes_grow HB.out (gby_refl _ _)) (by omega)).mono ?_
    rintro e w2 ⟨v_, xs, rfl, ht, o, g⟩
    have HTO := Lib.hid ht
    obtain ⟨ta_, tc, rfl, _, hi_⟩ := rdN_in o.rd
    obtain ⟨tb, to, rfl, hnc⟩ := hi_.resolve_left (by have := ht.1.1; omega)
    have HNC := Lib.hid hnc
    have HT0 := Lib.hid o.rd
    obtain ⟨n0, hn0⟩ : ∃ n, n = xs.length := ⟨_, rfl⟩
    have HE := Lib.hid hn0
    have hx1 : 1 ≤ n0 := by have := ht.1.1; omega
    have hx2 : n0 ≤ 12 := by have := ht.1.2; omega
    rw [← hn0] at HNC HT0 ⊢
    have HLx : Hid (szL shNode xs ≤ 1048576) := Lib.hid (by rw [szL_size0 (fun _ => rfl)]; have := ht.1.2; omega)
    clear ht o hn0 hnc
    have szw2 := g.size
    try simp only [World.size_alloc] at szw2
    have G1_ := Lib.hid (show (W).grownBy (w2) none from gby_trans (gby_refl _ _) g)
    clear g
    have HTT2_ := Lib.hid (gby_refl (w2) none)
    have MG3_ := Lib.hid (show (W).grownBy (w2) none from G1_.out)
    go_wp2_with fail
    go_at_call 32
    refine (places_any _ _ _ _ _ (bytes_grow HB.out G1_.out) (by omega)).mono ?_
    rintro e w3 ⟨v3, ps, rfl, hl12, hps, o3, g⟩
    obtain ⟨pb, po, pc, rfl, hpc⟩ := o3.twelve hl12
    have HPS := Lib.hid (fun j (hj : j < 12) => hps (ps.getD j 0) (by rw [List.getD_eq_getElem?_getD, List.getElem?_eq_getElem (by omega)]; exact List.getElem_mem _))
    have HPC := Lib.hid hpc
    clear o3 hpc hps hl12
    have szw3 := g.size
    try simp only [World.size_alloc] at szw3
    have G4_ := Lib.hid (show (W).grownBy (w3) none from gby_trans G1_.out g)
    have HTT5_ := Lib.hid (show (w2).grownBy (w3) none from gby_trans HTT2_.out g)
    clear HTT2_
    clear g
    have HTP6_ := Lib.hid (gby_refl (w3) none)
    have MG7_ := Lib.hid (show (W).grownBy (w3) none from G4_.out)
    obtain ⟨q0, hq0⟩ : ∃ q0, q0 = ps.getD 0 0 := ⟨_, rfl⟩
    obtain ⟨q01, q02⟩ := (show IsP q0 from by rw [hq0]; exact HPS.out 0 (by omega))
    have HCq0 := Lib.hid (HPC.out 0 (by omega))
    rw [← hq0] at HCq0
    clear hq0
    have p0_ : (w3).cell? ⟨pb, po, none⟩ = some (.int .i64 q0) := (HTP6_.out).cell HCq0.out (by simp)
    obtain ⟨q1, hq1⟩ : ∃ q1, q1 = ps.getD 1 0 := ⟨_, rfl⟩
    obtain ⟨q11, q12⟩ := (show IsP q1 from by rw [hq1]; exact HPS.out 1 (by omega))
    have HCq1 := Lib.hid (HPC.out 1 (by omega))
    rw [← hq1] at HCq1
    clear hq1
    have p1_ : (w3).cell? ⟨pb, po + 1, none⟩ = some (.int .i64 q1) := (HTP6_.out).cell HCq1.out (by simp)
    have hz0 : ¬ (n0 : Int) = 0 := by omega
    have hz0b : ((n0 : Int) == 0) = false := by simp; omega
    obtain ⟨u, hu⟩ : ∃ u : Nat, q0 % (n0 : Int) = (u : Int) := ⟨(q0 % (n0 : Int)).toNat, by have := Int.emod_nonneg q0 hz0; omega⟩
    have hut : Int.tmod q0 (n0 : Int) = (u : Int) := by rw [Int.tmod_eq_emod_of_nonneg (by omega)]; exact hu
    have hul : u < n0 := by have := Int.emod_lt_of_pos q0 (show (0 : Int) < (n0 : Int) by omega); omega
    obtain ⟨v, hv⟩ : ∃ v : Nat, q1 % (n0 : Int) = (v : Int) := ⟨(q1 % (n0 : Int)).toNat, by have := Int.emod_nonneg q1 hz0; omega⟩
    have hvt : Int.tmod q1 (n0 : Int) = (v : Int) := by rw [Int.tmod_eq_emod_of_nonneg (by omega)]; exact hv
    have hvl : v < n0 := by have := Int.emod_lt_of_pos q1 (show (0 : Int) < (n0 : Int) by omega); omega
    have HU := Lib.hid (show u < xs.length by rw [← HE.out]; exact hul)
    have HV := Lib.hid (show v < xs.length by rw [← HE.out]; exact hvl)
    obtain ⟨X, hX⟩ : ∃ X, X = btwL (pth xs u) (pth xs v) := ⟨_, rfl⟩
    obtain ⟨Y, hY⟩ : ∃ Y, Y = btwL (pth xs v) (pth xs u) := ⟨_, rfl⟩
    have HX := Lib.hid hX
    have HY := Lib.hid hY
    clear hX hY
    go_wp2_with fail
    go_at_call 29
    refine ((show Calls _ _ _ _ (ResIPathBetween X _) from by rw [HX.out]; exact implBtw_yes _ _ xs u v (HT0.out.grow HTT5_.out) HLx.out HTO.out HU.out HV.out _ _ rfl rfl)).mono ?_
    rintro e w4 ⟨vX, rfl, o, g⟩
    have szw4 := g.size
    have G8_ := Lib.hid (show (W).grownBy (w4) none from gby_trans G4_.out g)
    have HTT9_ := Lib.hid (show (w2).grownBy (w4) none from gby_trans HTT5_.out g)
    clear HTT5_
    have HTP10_ := Lib.hid (show (w3).grownBy (w4) none from gby_trans HTP6_.out g)
    clear HTP6_
    clear g
    obtain ⟨pX, cX, rfl, hcX, hiX⟩ := rdI1_in (OwU.rd o)
    have HIX := Lib.hid hiX
    clear hiX hcX o
    have HTBX11_ := Lib.hid (gby_refl (w4) none)
    have MG12_ := Lib.hid (show (W).grownBy (w4) none from G8_.out)
    clear p0_ p1_ hu hut hv hvt
    go_wp2_with fail
    go_at_call 29
    refine ((show Calls _ _ _ _ (ResIPathBetween Y _) from by rw [HY.out]; exact implBtw_yes _ _ xs v u (HT0.out.grow HTT9_.out) HLx.out HTO.out HV.out HU.out _ _ rfl rfl)).mono ?_
    rintro e w5 ⟨vY, rfl, o, g⟩
    have szw5 := g.size
    have G13_ := Lib.hid (show (W).grownBy (w5) none from gby_trans G8_.out g)
    have HTT14_ := Lib.hid (show (w2).grownBy (w5) none from gby_trans HTT9_.out g)
    clear HTT9_
    have HTP15_ := Lib.hid (show (w3).grownBy (w5) none from gby_trans HTP10_.out g)
    clear HTP10_
    have HTBX16_ := Lib.hid (show (w4).grownBy (w5) none from gby_trans HTBX11_.out g)
    clear HTBX11_
    clear g
    obtain ⟨pY, cY, rfl, hcY, hiY⟩ := rdI1_in (OwU.rd o)
    have HIY := Lib.hid hiY
    clear hiY hcY o
    have HTBY17_ := Lib.hid (gby_refl (w5) none)
    have MG18_ := Lib.hid (show (W).grownBy (w5) none from G13_.out)
    have htw := twoW HTO.out HU.out HV.out
    have hX1 : 1 ≤ X.length := by rw [HX.out]; exact btwL_pos htw
    have hXY : Y.length = X.length := by rw [HX.out, HY.out]; exact btwL_comm_len htw
    have HF := Lib.hid (show X.getD 0 0 = (u : Int) by rw [HX.out]; exact btwL_first htw)
    have HLA := Lib.hid (show X.getD (X.length - 1) 0 = (v : Int) by rw [HX.out]; exact btwL_last htw)
    have HBK := Lib.hid (show ∀ k, k < X.length → Y.getD (X.length - 1 - k) 0 = X.getD k 0 from fun k hk => by rw [HX.out] at hk ⊢; rw [HY.out]; exact btwL_back htw hk)
    have HIN := Lib.hid (show ∀ k, k < X.length → 0 ≤ X.getD k 0 ∧ X.getD k 0 < (n0 : Int) from fun k hk => by rw [HX.out] at hk ⊢; rw [HE.out]; exact btwL_in HTO.out HU.out HV.out hk)
    have HST := Lib.hid (show ∀ k, k + 1 < X.length → DownP xs (X.getD k 0) (X.getD (k + 1) 0) ∨ DownP xs (X.getD (k + 1) 0) (X.getD k 0) from fun k hk => by rw [HX.out] at hk ⊢; exact btw_step HTO.out HU.out HV.out hk)
    have hX24 : X.length ≤ 24 := by rw [HX.out, btwL_len]; have := (pth_len HTO.out u HU.out).2; have := (pth_len HTO.out v HV.out).2; have := HTO.out.1.2; have := HU.out; have := HV.out; omega
    clear htw
    obtain ⟨bX, oX, rfl, hcX⟩ := HIX.out.resolve_left (by omega)
    obtain ⟨bY, oY, rfl, hcY⟩ := HIY.out.resolve_left (by omega)
    have HCX := Lib.hid hcX
    have HCY := Lib.hid hcY
    clear hcX hcY
    generalize hnX : X.length = nX at *
    rw [hXY] at HCY ⊢
    have HNX := Lib.hid hnX
    clear hnX hXY
    have x0_ := (HTBX16_.out).cell (HCX.out 0 (by omega)) (by simp)
    rw [HF.out, Nat.add_zero] at x0_
    have xl_ := (HTBX16_.out).cell (HCX.out (nX - 1) (by omega)) (by simp)
    rw [HLA.out] at xl_
    obtain ⟨l, hl⟩ : ∃ l, nX = l + 1 := ⟨nX - 1, by omega⟩
    subst hl
    rw [Nat.add_sub_cancel] at xl_
    have hw1 : IntKind.i64.wrap (((l + 1 : Nat) : Int) - 1) = (l : Int) := by rw [show ((l + 1 : Nat) : Int) - 1 = (l : Int) by omega]; exact IntWalk.i64_in _ (by omega)
    have hw2 : ((l + 1 : Nat) : Int) - 1 = (l : Int) := by omega
    have hl0 : (0 : Int) ≤ (l : Int) := by omega
    have htl : ((l : Int)).toNat = l := by omega
    have hq1 : (((l + 1 : Nat) : Int) == 0) = false := by simp; omega
    have hq1b : ((l : Int) + 1 == 0) = false := by simp; omega
    have hq2 : ¬ l + 1 = 0 := by omega
    have hq3 : (((l + 1 : Nat) : Int) != ((l + 1 : Nat) : Int)) = false := by simp
    have hq4 : ((u : Int) != (u : Int)) = false := by simp
    have hq5 : ((v : Int) != (v : Int)) = false := by simp
    have hli : (0 : Int) < ((l + 1 : Nat) : Int) := by omega
    have hll : (l : Int) < ((l + 1 : Nat) : Int) := by omega
    go_wp2
    clear x0_ xl_
    go_loopw [9] (fun i wr => ∃ k : Nat, i = .int .i64 (k : Int) ∧ k ≤ l + 1 ∧ (w5).grownBy wr none) (fun i _ => l + 1 - (intOf i).toNat)
    case atStart => exact ⟨0, rfl, by omega, gby_refl _ _⟩
    case round =>
      obtain ⟨k, rfl, hk, hg⟩ := hrel
      have szrwr := hg.size
      try simp only [World.size_alloc] at szrwr
      try simp only [World.size_setCell] at szrwr
      have szr_ := szrwr
      have G19_ := Lib.hid (show (W).grownBy (wr) none from gby_trans G13_.out hg)
      have HTT20_ := Lib.hid (show (w2).grownBy (wr) none from gby_trans HTT14_.out hg)
      clear HTT14_
      have HTP21_ := Lib.hid (show (w3).grownBy (wr) none from gby_trans HTP15_.out hg)
      clear HTP15_
      have HTBX22_ := Lib.hid (show (w4).grownBy (wr) none from gby_trans HTBX16_.out hg)
      clear HTBX16_
      have HTBY23_ := Lib.hid (show (w5).grownBy (wr) none from gby_trans HTBY17_.out hg)
      clear HTBY17_
      have HTB_ := Lib.hid hg
      clear hg
      have hk0 : (0 : Int) ≤ (k : Int) := by omega
      have htk : ((k : Int)).toNat = k := by omega
      by_cases hlt : k < l + 1
      rotate_left
      · obtain rfl : k = l + 1 := by omega
        have hki : ¬ ((l + 1 : Nat) : Int) < ((l + 1 : Nat) : Int) := by omega
        obtain ⟨Z, hZ⟩ : ∃ Z, Z = pth xs u := ⟨_, rfl⟩
        have HZ := Lib.hid hZ
        clear hZ
        go_wp2_with fail
        go_at_call 25
        refine ((show Calls _ _ _ _ (ResIPathTo Z _) from by rw [HZ.out]; exact implPath_yes _ _ xs u (HT0.out.grow HTT20_.out) HLx.out HTO.out HU.out)).mono ?_
        rintro e w6 ⟨vZ, rfl, o, g⟩
        have szw6 := g.size
        have G24_ := Lib.hid (show (W).grownBy (w6) none from gby_trans G19_.out g)
        have HTT25_ := Lib.hid (show (w2).grownBy (w6) none from gby_trans HTT20_.out g)
        clear HTT20_
        have HTP26_ := Lib.hid (show (w3).grownBy (w6) none from gby_trans HTP21_.out g)
        clear HTP21_
        have HTBX27_ := Lib.hid (show (w4).grownBy (w6) none from gby_trans HTBX22_.out g)
        clear HTBX22_
        have HTBY28_ := Lib.hid (show (w5).grownBy (w6) none from gby_trans HTBY23_.out g)
        clear HTBY23_
        have HTB29_ := Lib.hid (show (w5).grownBy (w6) none from gby_trans HTB_.out g)
        clear HTB_
        clear g
        obtain ⟨pZ, cZ, rfl, hcZ, hiZ⟩ := rdI1_in (OwU.rd o)
        have HIZ := Lib.hid hiZ
        have HRZ := Lib.hid (OwU.rd o)
        clear hiZ hcZ o
        have HTZ30_ := Lib.hid (gby_refl (w6) none)
        have MG31_ := Lib.hid (show (W).grownBy (w6) none from G24_.out)
        have hZ1 : 1 ≤ Z.length := by rw [HZ.out]; exact (pth_len HTO.out u HU.out).1
        have hZ12 : Z.length ≤ 12 := by rw [HZ.out]; have := (pth_len HTO.out u HU.out).2; have := HTO.out.1.2; have := HU.out; omega
        have HZ0 := Lib.hid (show Z.getD 0 0 = 0 by rw [HZ.out]; exact pth_head HTO.out u HU.out)
        have HZL := Lib.hid (show Z.getD (Z.length - 1) 0 = (u : Int) by rw [HZ.out]; exact pth_last HTO.out u HU.out)
        obtain ⟨bZ, oZ, rfl, hcZ⟩ := HIZ.out.resolve_left (by omega)
        obtain ⟨z, hz⟩ : ∃ z, Z.length = z + 1 := ⟨Z.length - 1, by omega⟩
        rw [hz] at hcZ HZL ⊢ hZ12 HRZ
        rw [Nat.add_sub_cancel] at HZL
        have z0_ := hcZ 0 (by omega)
        rw [HZ0.out, Nat.add_zero] at z0_
        have zl_ := hcZ z (by omega)
        rw [HZL.out] at zl_
        have HNZ := Lib.hid hz
        clear hz hcZ HIZ
        have hw5 : IntKind.i64.wrap (((z + 1 : Nat) : Int) - 1) = (z : Int) := by rw [show ((z + 1 : Nat) : Int) - 1 = (z : Int) by omega]; exact IntWalk.i64_in _ (by omega)
        have hw6 : ((z + 1 : Nat) : Int) - 1 = (z : Int) := by omega
        have hz0' : (0 : Int) ≤ (z : Int) := by omega
        have htz : ((z : Int)).toNat = z := by omega
        have hzi : (0 : Int) < ((z + 1 : Nat) : Int) := by omega
        have hzl : (z : Int) < ((z + 1 : Nat) : Int) := by omega
        have hb0 : ((0 : Int) == 0) = true := by decide
        have hbu : ((u : Int) == (u : Int)) = true := by simp
        go_wp2_with fail
        go_at_call 29
        refine ((show Calls _ _ _ _ (ResIPathBetween Z _) from by rw [HZ.out, ← btwL_root HTO.out HU.out]; exact implBtw_yes _ _ xs 0 u (HT0.out.grow HTT25_.out) HLx.out HTO.out (by have := HU.out; omega) HU.out _ _ rfl rfl)).mono ?_
        rintro e w7 ⟨vQ, rfl, o, g⟩
        have szw7 := g.size
        have G32_ := Lib.hid (show (W).grownBy (w7) none from gby_trans G24_.out g)
        have HTT33_ := Lib.hid (show (w2).grownBy (w7) none from gby_trans HTT25_.out g)
        clear HTT25_
        have HTP34_ := Lib.hid (show (w3).grownBy (w7) none from gby_trans HTP26_.out g)
        clear HTP26_
        have HTBX35_ := Lib.hid (show (w4).grownBy (w7) none from gby_trans HTBX27_.out g)
        clear HTBX27_
        have HTBY36_ := Lib.hid (show (w5).grownBy (w7) none from gby_trans HTBY28_.out g)
        clear HTBY28_
        have HTB37_ := Lib.hid (show (w5).grownBy (w7) none from gby_trans HTB29_.out g)
        clear HTB29_
        have HTZ38_ := Lib.hid (show (w6).grownBy (w7) none from gby_trans HTZ30_.out g)
        clear HTZ30_
        clear g
        obtain ⟨pQ, nQ, cQ, hv_⟩ := RdL.form (OwU.rd o)
        have hnQ : nQ = Z.length := by obtain ⟨_, _, e, _⟩ := OwU.rd o; rw [hv_] at e; injection e
        subst hv_
        have HRQ := Lib.hid (OwU.rd o)
        rw [HNZ.out] at hnQ
        subst hnQ
        clear o
        go_wp2_with fail
        go_at_call 33
        refine (same_true _ _ _ Z HRQ.out (HRZ.out.grow HTZ38_.out) (by rw [HNZ.out]; omega)).mono ?_
        rintro e w9 ⟨rfl, g⟩
        go_wp2
        go_ret
        exact ⟨rfl, gby_below (gby_trans G32_.out g)⟩
      have hki : (k : Int) < ((l + 1 : Nat) : Int) := by omega
      obtain ⟨m, hm⟩ : ∃ m : Nat, X.getD k 0 = (m : Int) := ⟨(X.getD k 0).toNat, by have := (HIN.out k hlt).1; omega⟩
      have hmn : m < n0 := by have := (HIN.out k hlt).2; omega
      have HM := Lib.hid hm
      have xk_ := (HTBX22_.out).cell (HCX.out k hlt) (by simp)
      rw [hm] at xk_
      obtain ⟨r, hr⟩ : ∃ r, r = l - k := ⟨_, rfl⟩
      have yk_ := (HTBY23_.out).cell (HCY.out (l - k) (by omega)) (by simp)
      rw [show l - k = l + 1 - 1 - k by omega, HBK.out k hlt, hm, show l + 1 - 1 - k = l - k by omega, ← hr] at yk_
      have hw3 : IntKind.i64.wrap ((l : Int) - (k : Int)) = (r : Int) := by rw [show (l : Int) - (k : Int) = (r : Int) by omega]; exact IntWalk.i64_in _ (by omega)
      have hw4 : (l : Int) - (k : Int) = (r : Int) := by omega
      have hw7 : IntKind.i64.wrap (l : Int) = (l : Int) := IntWalk.i64_in _ (by omega)
      have hw8 : IntKind.i64.wrap (r : Int) = (r : Int) := IntWalk.i64_in _ (by omega)
      have hlk0 : (0 : Int) ≤ (r : Int) := by omega
      have htlk : ((r : Int)).toNat = r := by omega
      have hlki : (r : Int) < ((l + 1 : Nat) : Int) := by omega
      clear hr
      clear hm
      have hmi : (m : Int) < (n0 : Int) := by omega
      have hm0 : (0 : Int) ≤ (m : Int) := by omega
      have hm0' : ¬ (m : Int) < 0 := by omega
      have hmi' : ¬ (n0 : Int) ≤ (m : Int) := by omega
      have hmi2 : ¬ (m : Int) ≥ (n0 : Int) := by omega
      have htm : ((m : Int)).toNat = m := by omega
      have hmm : ((m : Int) != (m : Int)) = false := by simp
      have hd1 : decide ((m : Int) < 0) = false := decide_eq_false hm0'
      have hd2 : decide ((n0 : Int) ≤ (m : Int)) = false := decide_eq_false hmi'
      have hd4 : decide (n0 ≤ m) = false := decide_eq_false (by omega)
      go_wp2_with fail
      go_quiet (fail)
      by_cases k0 : k = 0
      · have hgt : ¬ (0 : Int) < (k : Int) := by omega
        have hgd : decide ((0 : Int) < (k : Int)) = false := decide_eq_false hgt
        have hgd2 : decide (0 < k) = false := decide_eq_false (by omega)
        go_wp2_with fail
        go_quiet (fail)
        go_wp2
        refine ⟨⟨k + 1, by go_num, by omega, by repeat (first | exact HTB_.out | with_reducible refine gby_drewN ?_ _)⟩, by simp [intOf]; omega⟩
      have hgt : (0 : Int) < (k : Int) := by omega
      have hgd : decide ((0 : Int) < (k : Int)) = true := decide_eq_true hgt
      have hgd2 : decide (0 < k) = true := decide_eq_true (by omega)
      have hst := HST.out (k - 1) (by omega)
      rw [show k - 1 + 1 = k by omega, HM.out] at hst
      obtain ⟨p, hp⟩ : ∃ p : Nat, X.getD (k - 1) 0 = (p : Int) := ⟨(X.getD (k - 1) 0).toNat, by have := (HIN.out (k - 1) (by omega)).1; omega⟩
      have hpn : p < n0 := by have := (HIN.out (k - 1) (by omega)).2; omega
      rw [hp] at hst
      obtain ⟨j, hj⟩ : ∃ j, j = k - 1 := ⟨_, rfl⟩
      rw [← hj] at hp
      have hjw : IntKind.i64.wrap ((k : Int) - 1) = (j : Int) := by rw [show (k : Int) - 1 = (j : Int) by omega]; exact IntWalk.i64_in _ (by omega)
      have hjw2 : (k : Int) - 1 = (j : Int) := by omega
      have hjw3 : IntKind.i64.wrap (j : Int) = (j : Int) := IntWalk.i64_in _ (by omega)
      have hj0 : (0 : Int) ≤ (j : Int) := by omega
      have htj : ((j : Int)).toNat = j := by omega
      have hji : (j : Int) < ((l + 1 : Nat) : Int) := by omega
      have hjl : j < l + 1 := by omega
      clear hj
      have xj_ := (HTBX22_.out).cell (HCX.out j hjl) (by simp)
      rw [hp] at xj_
      clear hp
      have hpi : (p : Int) < (n0 : Int) := by omega
      have hp0 : (0 : Int) ≤ (p : Int) := by omega
      have htp : ((p : Int)).toNat = p := by omega
      obtain ⟨fm, hfm⟩ : ∃ f, f = (nd xs m).f0 := ⟨_, rfl⟩
      obtain ⟨fp, hfp⟩ : ∃ f, f = (nd xs p).f0 := ⟨_, rfl⟩
      have nm_ := (HTT20_.out).cell (HNC.out m hmn).1 (by simp)
      have np_ := (HTT20_.out).cell (HNC.out p hpn).1 (by simp)
      rw [← hfm] at nm_
      rw [← hfp] at np_
      have HFM := Lib.hid hfm
      have HFP := Lib.hid hfp
      clear hfm hfp
      rcases hst with ⟨r, hr1, r1, r2, hr2⟩ | ⟨r, hr1, r1, r2, hr2⟩
      · have hfe : fm = (p : Int) := by rw [HFM.out, hr2, ← par_eq HTO.out r1 r2]; congr 2; omega
        have hb1 : (fm != (p : Int)) = false := by simpa using hfe
        clear hr1 r1 r2 hr2 hfe
        go_wp2_with fail
        go_quiet (fail)
        go_wp2
        refine ⟨⟨k + 1, by go_num, by omega, by repeat (first | exact HTB_.out | with_reducible refine gby_drewN ?_ _)⟩, by simp [intOf]; omega⟩
      · have hfe : fp = (m : Int) := by rw [HFP.out, hr2, ← par_eq HTO.out r1 r2]; congr 2; omega
        have hne : ¬ fm = (p : Int) := by
          have hpr : p = r := by omega
          have hmr : m = par xs r := by omega
          have hlt := par_lt HTO.out r1 r2
          rw [HFM.out]
          by_cases m0 : m = 0
          · rw [m0, HTO.out.2.1.1]; omega
          · rw [par_eq HTO.out (by omega) (by omega)]
            have := par_lt HTO.out (k := m) (by omega) (by omega)
            omega
        have hb1 : (fm != (p : Int)) = true := by simpa using hne
        have hb2 : (fp != (m : Int)) = false := by simpa using hfe
        clear hr1 r1 r2 hr2 hfe hne
        go_wp2_with fail
        go_quiet (fail)
        go_wp2
        refine ⟨⟨k + 1, by go_num, by omega, by repeat (first | exact HTB_.out | with_reducible refine gby_drewN ?_ _)⟩, by simp [intOf]; omega⟩

end Go.Proofs.Ytodfbodagjmfmab
