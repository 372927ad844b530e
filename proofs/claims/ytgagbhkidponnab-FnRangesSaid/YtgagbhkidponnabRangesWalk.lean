/-
  The walk of FnRanges.
-/
import Derived.Test.YtgagbhkidponnabDrawGr
import Derived.Test.YtgagbhkidponnabDrawPlaces
import Derived.Test.YtgagbhkidponnabGrRg
import Derived.Test.YtgagbhkidponnabOpen64
import Derived.Test.YtgagbhkidponnabBig
import Derived.Deep.QuietTactic
namespace Go.Proofs.Ytgagbhkidponnab
open Go Go.RowKit
set_option linter.unusedVariables false

theorem i64_16 : I64 16 := by unfold I64; decide
theorem i64_17 : I64 17 := by unfold I64; decide

set_option maxRecDepth 8000 in
set_option maxHeartbeats 8000000 in
theorem walk_ranges (a : Option Addr) (len cap : Nat) (zs : List Int) (W : World) (hB : Bytes W a len zs) :
    Calls Try.prog 7 #[.slice a len cap] W fun e w' => e = .returned (.bool true) ∧ Below W.heap.size W w' := by
  have HB := Lib.hid hB
  clear hB
  by_cases hbig : (1048576 : Int) < (len : Int)
  · go_enter Try.func7, Try.ntmps7
    go_wp2
    go_ret
    exact ⟨rfl, Below.refl _ _⟩
  · skip
    go_enter Try.func7, Try.ntmps7
    go_wp2_with fail
    go_at_call 26
    refine (big_any _ _ _ _).mono ?_
    rintro e w1 ⟨rfl, rfl⟩
    go_wp2_with fail
    go_at_call 27
    refine (drawGr_any _ _ _ _ _ (bytes_grow HB.out (gby_refl _ _)) (by omega)).mono ?_
    rintro e w2 ⟨v_, xs, rfl, ht, o, g⟩
    have HGK := Lib.hid ht
    obtain ⟨ta, n0, tc, hv_⟩ := RdL.form o.rd
    have hn0 : n0 = xs.length := by obtain ⟨_, _, e, _⟩ := o.rd; rw [hv_] at e; injection e
    subst hv_
    have HE := Lib.hid hn0
    have HT0 := Lib.hid o.rd
    have HLx : Hid (szL shPageGrant xs ≤ 1048576) := Lib.hid (by rw [szL_size0 (fun _ => rfl)]; have := ht.1; omega)
    clear ht o hn0
    have szw2 := g.size
    try simp only [World.size_alloc] at szw2
    have G1_ := Lib.hid (show (W).grownBy (w2) none from gby_trans (gby_refl _ _) g)
    clear g
    have HTT2_ := Lib.hid (gby_refl (w2) none)
    have MG3_ := Lib.hid (show (W).grownBy (w2) none from G1_.out)
    go_wp2_with fail
    go_at_call 28
    refine (places_any _ _ _ _ _ (bytes_grow HB.out G1_.out) (by omega)).mono ?_
    rintro e w3 ⟨v3, ps, rfl, hl12, hps, o3, g⟩
    obtain ⟨pb, po, pc, rfl, hpc⟩ := o3.twelve hl12
    have HPS := Lib.hid (fun j (hj : j < 12) => hps (ps.getD j 0) (by rw [List.getD_eq_getElem?_getD, List.getElem?_eq_getElem (by omega)]; exact List.getElem_mem _))
    have HPC := Lib.hid hpc
    clear o3 hpc hps hl12
    have szw3 := g.size
    try simp only [World.size_alloc] at szw3
    have G4_ := Lib.hid (show (W).grownBy (w3) none from gby_trans G1_.out g)
    have HTT5_ := Lib.hid (show (w2).grownBy (w3) none from gby_trans HTT2_.out g)
    clear HTT2_
    clear g
    have HTP6_ := Lib.hid (gby_refl (w3) none)
    have MG7_ := Lib.hid (show (W).grownBy (w3) none from G4_.out)
    obtain ⟨q0, hq0⟩ : ∃ q0, q0 = ps.getD 0 0 := ⟨_, rfl⟩
    obtain ⟨q01, q02⟩ := (show IsP q0 from by rw [hq0]; exact HPS.out 0 (by omega))
    have HCq0 := Lib.hid (HPC.out 0 (by omega))
    rw [← hq0] at HCq0
    clear hq0
    have p0_ : (w3).cell? ⟨pb, po, none⟩ = some (.int .i64 q0) := (HTP6_.out).cell HCq0.out (by simp)
    obtain ⟨q1, hq1⟩ : ∃ q1, q1 = ps.getD 1 0 := ⟨_, rfl⟩
    obtain ⟨q11, q12⟩ := (show IsP q1 from by rw [hq1]; exact HPS.out 1 (by omega))
    have HCq1 := Lib.hid (HPC.out 1 (by omega))
    rw [← hq1] at HCq1
    clear hq1
    have p1_ : (w3).cell? ⟨pb, po + 1, none⟩ = some (.int .i64 q1) := (HTP6_.out).cell HCq1.out (by simp)
    obtain ⟨q2, hq2⟩ : ∃ q2, q2 = ps.getD 2 0 := ⟨_, rfl⟩
    obtain ⟨q21, q22⟩ := (show IsP q2 from by rw [hq2]; exact HPS.out 2 (by omega))
    have HCq2 := Lib.hid (HPC.out 2 (by omega))
    rw [← hq2] at HCq2
    clear hq2
    have p2_ : (w3).cell? ⟨pb, po + 2, none⟩ = some (.int .i64 q2) := (HTP6_.out).cell HCq2.out (by simp)
    obtain ⟨u, hu⟩ : ∃ u, u = q1 % 64 := ⟨_, rfl⟩
    have htu : Int.tmod q1 64 = u := by rw [Int.tmod_eq_emod_of_nonneg (by omega)]; exact hu.symm
    have ua : 0 ≤ u := by rw [hu]; exact Int.emod_nonneg _ (by decide)
    have ub : u < 64 := by rw [hu]; exact Int.emod_lt_of_pos _ (by decide)
    clear hu
    obtain ⟨z, hz⟩ : ∃ z, z = q2 % 2 := ⟨_, rfl⟩
    have htz : Int.tmod q2 2 = z := by rw [Int.tmod_eq_emod_of_nonneg (by omega)]; exact hz.symm
    have za : 0 ≤ z := by rw [hz]; exact Int.emod_nonneg _ (by decide)
    have zb : z < 2 := by rw [hz]; exact Int.emod_lt_of_pos _ (by decide)
    clear hz
    obtain ⟨a, ha⟩ : ∃ a, a = q0 % 1024 := ⟨_, rfl⟩
    have hta : Int.tmod q0 1024 = a := by rw [Int.tmod_eq_emod_of_nonneg (by omega)]; exact ha.symm
    have aa : 0 ≤ a := by rw [ha]; exact Int.emod_nonneg _ (by decide)
    have ab : a < 1024 := by rw [ha]; exact Int.emod_lt_of_pos _ (by decide)
    clear ha
    obtain ⟨wt, hwt⟩ : ∃ wt, wt = (z == 0) := ⟨_, rfl⟩
    have hwt2 : (z == 0) = wt := hwt.symm
    clear hwt
    obtain ⟨n, hn⟩ : ∃ n : Nat, 1 + u = (n : Int) := ⟨(1 + u).toNat, by omega⟩
    have hnw : IntKind.i64.wrap (1 + u) = (n : Int) := by rw [hn]; exact IntWalk.i64_in _ (by omega)
    have hn1 : 1 ≤ n := by omega
    have hn64 : n ≤ 64 := by omega
    obtain ⟨L, c, hrg⟩ := rg_ex xs 16 a (n : Int) wt
    have HRG := Lib.hid hrg
    have hLl : (c = 0 ∧ L.length = n ∧ TrOk xs 16 a wt n ∧ ∀ k, k < n → L.getD k 0 = (tr xs 16 (a + (k : Int)) wt).1) ∨ (L.length = 0 ∧ ∃ k : Nat, k < n ∧ TrOk xs 16 a wt k ∧ (tr xs 16 (a + (k : Int)) wt).2 ≠ 0 ∧ c = (tr xs 16 (a + (k : Int)) wt).2) := by
      rcases hrg with ⟨h, _⟩ | ⟨_, _, ⟨h, rfl, rfl⟩ | ⟨k, hk, h1, h2, rfl, h3⟩⟩
      · omega
      · left; rw [Int.toNat_natCast] at *; exact ⟨rfl, trs_len _ _ _ _ _, h, fun k hk => trs_at _ _ _ _ _ _ hk⟩
      · right; exact ⟨rfl, k, by omega, h1, h2, h3⟩
    clear hrg
    go_wp2_with fail
    go_at_call 21
    refine ((implRg _ _ xs 16 a (n : Int) wt (HT0.out.grow HTT5_.out) HLx.out i64_16).mono (rgPost_to HRG.out)).mono ?_
    rintro e w4 ⟨vX, rfl, o, g⟩
    have szw4 := g.size
    have G8_ := Lib.hid (show (W).grownBy (w4) none from gby_trans G4_.out g)
    have HTT9_ := Lib.hid (show (w2).grownBy (w4) none from gby_trans HTT5_.out g)
    clear HTT5_
    have HTP10_ := Lib.hid (show (w3).grownBy (w4) none from gby_trans HTP6_.out g)
    clear HTP6_
    clear g
    obtain ⟨xa_, xc, rfl, _, hi_⟩ := rdI1_in (OwU.rd o)
    unfold RdN1 at hi_
    have HI := Lib.hid hi_
    clear hi_ o
    have HTX11_ := Lib.hid (gby_refl (w4) none)
    have MG12_ := Lib.hid (show (W).grownBy (w4) none from G8_.out)
    try clear p0_ p1_ p2_
    generalize hnl : L.length = nl at *
    have HNL := Lib.hid hnl
    clear hnl
    go_wp2
    go_loopw [9] (fun k wr => ∃ k_ : Nat, k = .int .i64 (k_ : Int) ∧ k_ ≤ n ∧ TrOk xs 16 a wt k_ ∧ (w4).grownBy wr none) (fun k _ => n - (intOf k).toNat)
    case atStart => exact ⟨0, rfl, by omega, (fun j hj => absurd hj (Nat.not_lt_zero _)), gby_refl _ _⟩
    case round =>
      obtain ⟨k_, rfl, hk, hok, hg⟩ := hrel
      have szrwr := hg.size
      try simp only [World.size_alloc] at szrwr
      try simp only [World.size_setCell] at szrwr
      have szr_ := szrwr
      have G13_ := Lib.hid (show (W).grownBy (wr) none from gby_trans G8_.out hg)
      have HTT14_ := Lib.hid (show (w2).grownBy (wr) none from gby_trans HTT9_.out hg)
      clear HTT9_
      have HTP15_ := Lib.hid (show (w3).grownBy (wr) none from gby_trans HTP10_.out hg)
      clear HTP10_
      have HTX16_ := Lib.hid (show (w4).grownBy (wr) none from gby_trans HTX11_.out hg)
      clear HTX11_
      have HTB_ := Lib.hid hg
      clear hg
      obtain ⟨k, hkk⟩ : ∃ k, k = k_ := ⟨_, rfl⟩
      subst hkk
      have HOK := Lib.hid hok
      clear hok
      have hk0 : (0 : Int) ≤ (k : Int) := by omega
      have htk : ((k : Int)).toNat = k := by omega
      by_cases hlt : k < n
      rotate_left
      · obtain rfl : n = k := by omega
        have hki : ¬ (n : Int) < (n : Int) := by omega
        obtain ⟨rfl, hl1, _⟩ := hLl.resolve_right (fun q => by obtain ⟨_, j, hj, _, h2, _⟩ := q; exact h2 (HOK.out j hj))
        subst hl1
        have hnn : ((nl : Int) == (nl : Int)) = true := by simp
        go_wp2
        go_ret
        exact ⟨rfl, gby_below G13_.out⟩
      have hki : (k : Int) < (n : Int) := by omega
      have haw : IntKind.i64.wrap (a + (k : Int)) = a + (k : Int) := IntWalk.i64_in _ (by omega)
      obtain ⟨x, hx⟩ : ∃ x, x = (tr xs 16 (a + (k : Int)) wt).1 := ⟨_, rfl⟩
      obtain ⟨d, hd⟩ : ∃ d, d = (tr xs 16 (a + (k : Int)) wt).2 := ⟨_, rfl⟩
      have HX := Lib.hid hx
      have HD := Lib.hid hd
      clear hx hd
      have p0_ : (wr).cell? ⟨pb, po, none⟩ = some (.int .i64 q0) := (HTP15_.out).cell HCq0.out (by simp)
      go_wp2_with fail
      go_at_call 19
      refine ((show Calls _ _ _ _ (fun e w' => e = .returned (.tuple #[.int .i64 x, .int .i64 d]) ∧ (wr).grownBy w' none) from by rw [HX.out, HD.out]; exact implTr _ _ xs 16 (a + (k : Int)) wt (HT0.out.grow HTT14_.out) HLx.out i64_16)).mono ?_
      rintro e w5 ⟨rfl, g⟩
      have szw5 := g.size
      have G17_ := Lib.hid (show (W).grownBy (w5) none from gby_trans G13_.out g)
      have HTT18_ := Lib.hid (show (w2).grownBy (w5) none from gby_trans HTT14_.out g)
      clear HTT14_
      have HTP19_ := Lib.hid (show (w3).grownBy (w5) none from gby_trans HTP15_.out g)
      clear HTP15_
      have HTX20_ := Lib.hid (show (w4).grownBy (w5) none from gby_trans HTX16_.out g)
      clear HTX16_
      have HTB21_ := Lib.hid (show (w4).grownBy (w5) none from gby_trans HTB_.out g)
      clear HTB_
      clear g
      try clear p0_
      by_cases hd0 : d = 0
      rotate_left
      · have hb0 : (d != 0) = true := bne_iff_ne.2 hd0
        have hcl : c = d ∧ nl = 0 := by
          rcases hLl with ⟨_, _, h, _⟩ | ⟨h1, j, hj, j1, j2, j3⟩
          · exact absurd (HD.out.trans (h k hlt)) hd0
          · obtain rfl := trOk_one j1 j2 HOK.out (by rw [← HD.out]; exact hd0)
            exact ⟨j3.trans HD.out.symm, h1⟩
        obtain ⟨rfl, rfl⟩ := hcl
        have hcc : (c == c) = true := by simp
        have h00 : (((0 : Nat) : Int) == 0) = true := by decide
        clear hLl hd0
        go_wp2
        go_ret
        exact ⟨rfl, gby_below G17_.out⟩
      subst hd0
      have hb0 : ((0 : Int) != 0) = false := by decide
      have HOK2 := Lib.hid (trOk_succ HOK.out HD.out.symm)
      by_cases hc0 : c = 0
      rotate_left
      · have hb1 : (c == 0) = false := beq_eq_false_iff_ne.2 hc0
        go_wp2
        refine ⟨⟨k + 1, by go_num, by omega, HOK2.out, by repeat (first | exact HTB21_.out | with_reducible refine gby_drewN ?_ _)⟩, by simp [intOf]; omega⟩
      subst hc0
      have hb1 : ((0 : Int) == 0) = true := by decide
      obtain ⟨_, hl1, _, hat⟩ := hLl.resolve_right (fun q => by obtain ⟨_, j, _, _, h2, h3⟩ := q; exact h2 h3.symm)
      subst hl1
      have hat2 := hat k hlt
      rw [← HX.out] at hat2
      clear hat hLl
      obtain ⟨xb, xo, rfl, hcx⟩ := HI.out.resolve_left (by have := HNL.out; omega)
      have xk_ := (HTX20_.out).cell (hcx k hlt) (by simp)
      rw [hat2] at xk_
      clear hcx hat2
      have hnn : ((nl : Int) != (nl : Int)) = false := by simp
      have hxx : (x != x) = false := by simp
      go_wp2
      refine ⟨⟨k + 1, by go_num, by omega, HOK2.out, by repeat (first | exact HTB21_.out | with_reducible refine gby_drewN ?_ _)⟩, by simp [intOf]; omega⟩

end Go.Proofs.Ytgagbhkidponnab
