/-
  The walk of FnChecks.
-/
import Derived.Test.YtokpmbagidokkaaEncodeEx
import Derived.Test.YtokpmbagidokkaaLaws6
import Derived.Test.YtokpmbagidokkaaDrawPacket
import Derived.Test.YtokpmbagidokkaaDrawPlaces
import Derived.Test.YtokpmbagidokkaaSameInts
import Derived.Test.YtokpmbagidokkaaWireMath
namespace Go.Proofs.Ytokpmbagidokkaa
open Go Go.RowKit

/-- bits changed, one behind the other -/
def flips (xs : List Int) (ps : List Nat) : List Int := ps.foldl flipI xs
theorem flips_cons (xs : List Int) (p : Nat) (ps : List Nat) : flips xs (p :: ps) = flips (flipI xs p) ps := rfl
theorem flips_snoc (xs : List Int) (ps : List Nat) (p : Nat) : flips xs (ps ++ [p]) = flipI (flips xs ps) p := by simp [flips]
theorem flips_length : ∀ (ps : List Nat) (xs : List Int), (flips xs ps).length = xs.length := by
  intro ps
  induction ps with
  | nil => intro xs; rfl
  | cons p ps ih => intro xs; rw [flips_cons, ih, flipI_length]
theorem flips_byte : ∀ (ps : List Nat) {xs : List Int}, AreB xs → AreB (flips xs ps) := by
  intro ps
  induction ps with
  | nil => intro xs h; exact h
  | cons p ps ih => intro xs h; exact ih (flipI_byte h p)
theorem toN_flips : ∀ (ps : List Nat) (xs : List Int), toN (flips xs ps) = ps.foldl flipL (toN xs) := by
  intro ps
  induction ps with
  | nil => intro xs; rfl
  | cons p ps ih => intro xs; rw [flips_cons, ih, toN_flip]; rfl

theorem flips_dist : ∀ (ps : List Nat) (xs : List Int), distTo (toN xs) (toN (flips xs ps)) xs.length ≤ ps.length := by
  intro ps
  induction ps with
  | nil => intro xs; rw [show flips xs [] = xs from rfl, distTo_self]; exact Nat.le_refl _
  | cons p ps ih =>
    intro xs
    have h1 := distTo_tri (toN xs) (toN (flipI xs p)) (toN (flips xs (p :: ps))) xs.length
    have h2 := distTo_flip (toN xs) p xs.length (by rw [toN_length]; exact Nat.le_refl _)
    have h3 := ih (flipI xs p)
    rw [flipI_length] at h3
    rw [flips_cons, toN_flip] at h1
    rw [toN_flip] at h3
    rw [flips_cons, List.length_cons]
    by_cases e : p / 8 < xs.length
    · rw [if_pos e] at h2; omega
    · rw [if_neg e] at h2; omega

theorem toN_inj {xs ys : List Int} (hx : ∀ x ∈ xs, 0 ≤ x ∧ x ≤ 255) (hy : ∀ x ∈ ys, 0 ≤ x ∧ x ≤ 255) (h : toN xs = toN ys) : xs = ys := by
  rw [← toN_back hx, ← toN_back hy, h]

theorem flips_ok {xs : List Int} (h : FrameOk xs) (ps : List Nat) (hp : ∀ p ∈ ps, p < 8 * xs.length) (hk : ps.length ≤ 3) : distTo (toN xs) (toN (flips xs ps)) xs.length = 0 ↔ FrameOk (flips xs ps) := by
  have hb := flips_byte ps h.1
  have hlen := flips_length ps xs
  constructor
  · intro hz
    have e : xs = flips xs ps := by
      apply toN_inj h.1.1 hb.1
      apply List.ext_getElem
      · rw [toN_length, toN_length, hlen]
      · intro i h1 h2
        have := distTo_zero (toN xs) (toN (flips xs ps)) (toN_byte h.1.1) (toN_byte hb.1) xs.length hz i (by rw [toN_length] at h1; exact h1)
        rw [List.getD_eq_getElem?_getD, List.getD_eq_getElem?_getD, List.getElem?_eq_getElem h1, List.getElem?_eq_getElem h2] at this
        simpa using this
    rw [← e]; exact h
  · intro hf
    have hz := hf.2.2
    rw [toN_flips] at hz
    have e := flips_noticed (toN xs) ps (toN_byte h.1.1) (by rw [toN_length]; have := h.1.2; omega) h.2.2 (by rw [toN_length]; exact hp) hk hz
    rw [toN_flips, e, distTo_self]

/-- the drawn numbers, one by one -/
theorem OwI.num {w : World} {lo hi : Nat} {v : Value} {xs : List Int} (h : OwI w lo hi v xs) (hl : xs.length = 12) : ∃ b off cap, v = .slice (some ⟨b, off, none⟩) 12 cap ∧ ∀ k, k < 12 → w.cell? ⟨b, off + k, none⟩ = some (.int .i64 (xs.getD k 0)) := by
  obtain ⟨a, cap, rfl, h, _⟩ := h
  obtain ⟨b, off, rfl, hc⟩ := h.isl.2.resolve_left (by omega)
  exact ⟨b, off, cap, by rw [hl], fun k hk => hc k (by omega)⟩

set_option maxRecDepth 4000 in
set_option maxHeartbeats 4000000 in
theorem walk_checks (a : Option Addr) (len cap : Nat) (zs : List Int) (w : World) (hB : Bytes w a len zs) :
    Calls Try.prog 8 #[.slice a len cap] w fun e w' => e = .returned (.bool true) ∧ Below w.heap.size w w' := by
  have HB := Lib.hid hB
  clear hB
  by_cases hbig : (1048576 : Int) < (len : Int)
  · go_enter Try.func8, Try.ntmps8
    go_wp2
    go_ret
    exact ⟨rfl, Below.refl _ _⟩
  · go_enter Try.func8, Try.ntmps8
    go_wp2_with fail
    go_at_call 15
    refine (big_any _ _ _ _).mono ?_
    rintro e w1 ⟨rfl, rfl⟩
    go_wp2_with fail
    go_at_call 16
    refine (drawPacket_any _ _ _ _ _ HB.out (by omega)).mono ?_
    rintro e w1 ⟨k, f, t, ad, l, g, s, d, n, cp, xs, rfl, hP, hi, h8, g1⟩
    have G1 := Lib.hid g1
    obtain ⟨L, hL, hLy, _, _, hE⟩ := enc_both k f t ad l g s xs (by have := hi.1; omega)
    have hLb : AreB L := by rw [hLy hP]; exact encL_byte hP
    have HI := Lib.hid hi
    have HE := Lib.hid hE
    have HLB := Lib.hid hLb
    clear hi hE hLb hLy hP g1
    unfold pkV
    go_wp2_with fail
    go_at_call 17
    refine (HE.out _ _ _ _ HI.out).mono ?_
    rintro e w2 ⟨v2, rfl, o2, g2⟩
    have O2 := Lib.hid o2
    have G2 := Lib.hid (gby_trans G1.out g2)
    clear o2 g2
    go_wp2_with fail
    go_at_call 37
    refine (places_any _ _ _ _ _ (bytes_kept HB.out G2.out) (by omega)).mono ?_
    rintro e w3 ⟨v3, ps, rfl, hl12, hps, o3, g3⟩
    obtain ⟨pb, po, pc, rfl, hpc⟩ := o3.num hl12
    have HPC := Lib.hid hpc
    have HPS := Lib.hid hps
    have HL12 := Lib.hid hl12
    have O3 := Lib.hid (O2.out.grow g3)
    have G3 := Lib.hid (gby_trans G2.out g3)
    have s3 := g3.size
    clear o3 g3 hpc hps hl12
    go_wp2_with fail
    go_at_call 38
    refine (implAdd_yes _ _ L O3.out.rd HLB.out (by omega)).mono ?_
    rintro e w4 ⟨v4, rfl, o4, g4⟩
    have O4 := Lib.hid (O3.out.grow g4)
    have F4 := Lib.hid o4
    have G4 := Lib.hid (gby_trans G3.out g4)
    have P4 := Lib.hid g4
    clear o4 g4
    go_wp2_with fail
    go_at_call 39
    have hfok := addC_ok HLB.out (by omega)
    have hfl := addC_length L
    have htk : (addC L).take ((addC L).length - 2) = L := by rw [hfl]; simp [addC]
    refine (implTake_yes _ _ (addC L) F4.out.rd hfok).mono ?_
    rw [htk]
    rintro e w5 ⟨v5, rfl, o5, g5⟩
    have O5 := Lib.hid (O4.out.grow g5)
    have F5 := Lib.hid (F4.out.grow g5)
    have X5 := Lib.hid o5
    have G5 := Lib.hid (gby_trans G4.out g5)
    have P5 := Lib.hid (gby_trans P4.out g5)
    have HOK := Lib.hid hfok
    have HFL := Lib.hid hfl
    clear o5 g5 hfok htk hfl
    go_wp2_with fail
    go_at_call 23
    obtain ⟨xa, xc, rfl, xi, _⟩ := X5.out.rd
    obtain ⟨oa, oc, rfl, oi, _⟩ := O5.out.rd
    refine (sameInts_any _ _ _ _ _ _ _ L L xi oi (by omega) (by omega)).mono ?_
    rw [show decide (L = L) = true from decide_eq_true rfl]
    rintro e w6 ⟨rfl, d6⟩
    have F6 := Lib.hid (F5.out.grow (d6.gby none))
    have G6 := Lib.hid (gby_trans G5.out (d6.gby none))
    have P6 := Lib.hid (gby_trans P5.out (d6.gby none))
    clear d6 xi oi
    obtain ⟨fa, fc, rfl, fi, fcap⟩ := F6.out.rd
    obtain ⟨m, hm⟩ : ∃ m, m = (addC L).length := ⟨_, rfl⟩
    rw [← hm] at fi fcap ⊢
    have FI := Lib.hid fi
    have FC := Lib.hid fcap
    have hmL : m = L.length + 2 := by rw [hm, HFL.out]
    have hne : ((m : Int) != (L.length : Int) + 2) = false := by simp; omega
    have hm40 : m ≤ 26 := by omega
    have hm2 : 2 ≤ m := by omega
    have HM := Lib.hid hm
    have q0b := HPS.out (ps.getD 0 0) (by rw [List.getD_eq_getElem?_getD, List.getElem?_eq_getElem (by have := HL12.out; omega)]; exact List.getElem_mem _)
    obtain ⟨q0, hq0⟩ : ∃ q0, q0 = ps.getD 0 0 := ⟨_, rfl⟩
    rw [← hq0] at q0b
    have hq1 := q0b.1
    have eq0 : q0.tmod 3 = q0 % 3 := Int.tmod_eq_emod_of_nonneg q0b.1
    obtain ⟨t, ht⟩ : ∃ t, t = 1 + q0 % 3 := ⟨_, rfl⟩
    have ht1 : 1 ≤ t ∧ t ≤ 3 := by omega
    have HT := Lib.hid ht
    have HQ0 := Lib.hid hq0
    clear fi fcap hmL hm ht hq0
    go_wp2_with fail
    go_loopw [9, 10] (fun gv i wr => ∃ (j : Nat) (qs : List Nat), (j : Int) ≤ t ∧ i = .int .i64 (j : Int) ∧ qs.length = j ∧ (∀ p ∈ qs, p < 8 * m) ∧ RdI wr gv (flips (addC L) qs) ∧ w6.grownBy wr none) (fun _ i _ => 4 - (intOf i).toNat)
    case atStart => exact ⟨0, [], by omega, rfl, rfl, (fun p hp => by simp at hp), rdI_of (by have := FI.out; rw [HM.out] at this; have e : flips (addC L) [] = addC L := rfl; rw [e, HM.out]; exact this) (by have := FC.out; exact this), gby_refl _ _⟩
    case round =>
      obtain ⟨j, qs, hj, rfl, hjl, hqs, hrd, hg⟩ := hrel
      have HJL := Lib.hid hjl
      have HQS := Lib.hid hqs
      have HRD := Lib.hid hrd
      have HG := Lib.hid hg
      have HP := Lib.hid (fun k hk => (gby_trans P6.out hg).cell (HPC.out k hk) (by simp))
      have c0 : wr.cell? ⟨pb, po, none⟩ = some (.int .i64 q0) := by have := HP.out 0 (by omega); rw [← HQ0.out] at this; exact this
      clear hjl hqs hrd hg
      have tq : 1 + q0 % 3 = t := HT.out.symm
      by_cases hlt : (j : Int) < t
      · have i0 : (0 : Int) ≤ 1 + (j : Int) := by omega
        have i1 : 1 + (j : Int) < 12 := by omega
        have i2 : (1 + (j : Int)).toNat = 1 + j := by omega
        have cj := HP.out (1 + j) (by omega)
        have qb := HPS.out (ps.getD (1 + j) 0) (by rw [List.getD_eq_getElem?_getD, List.getElem?_eq_getElem (by have := HL12.out; omega)]; exact List.getElem_mem _)
        obtain ⟨q, hq⟩ : ∃ q, q = ps.getD (1 + j) 0 := ⟨_, rfl⟩
        rw [← hq] at cj qb
        have em : q.tmod (8 * (m : Int)) = q % (8 * (m : Int)) := Int.tmod_eq_emod_of_nonneg qb.1
        have hn0 : ¬ (8 * (m : Int) = 0) := by omega
        obtain ⟨r, hr⟩ : ∃ r : Nat, q % (8 * (m : Int)) = (r : Int) := ⟨_, (Int.toNat_of_nonneg (Int.emod_nonneg _ hn0)).symm⟩
        have hrm : (r : Int) < 8 * (m : Int) := by rw [← hr]; exact Int.emod_lt_of_pos _ (by omega)
        rw [hr] at em
        have HR := Lib.hid hr
        clear hq qb hr
        go_wp2_with fail
        go_at_call 40
        have hfl : (flips (addC L) qs).length = m := by rw [flips_length, ← HM.out]
        refine (implFlip_any _ _ (flips (addC L) qs) (r : Int) HRD.out (by omega)).mono ?_
        have hfo : flipOr (flips (addC L) qs) (r : Int) = flips (addC L) (qs ++ [r]) := by
          unfold flipOr
          rw [if_pos ⟨flips_byte qs HOK.out.1, by omega, by omega⟩, flips_snoc, Int.toNat_natCast]
        rw [hfo]
        rintro e w7 ⟨v7, rfl, o7, g7⟩
        have R7 := Lib.hid o7.rd
        have G7 := Lib.hid (gby_trans HG.out g7)
        clear o7 g7 hfl hfo
        go_wp2
        refine ⟨⟨j + 1, qs ++ [r], by omega, by go_num, by simp [HJL.out], ?_, R7.out, G7.out⟩, by simp [intOf]; omega⟩
        intro p hp
        rcases List.mem_append.1 hp with hp | hp
        · exact HQS.out p hp
        · obtain rfl := List.mem_singleton.1 hp; omega
      · have hj3 : qs.length ≤ 3 := by have := HJL.out; omega
        have hlm : (flips (addC L) qs).length = (addC L).length := flips_length qs (addC L)
        have hfb := flips_byte qs HOK.out.1
        have hdl := flips_dist qs (addC L)
        have hiff := flips_ok HOK.out qs (by intro p hp; have := HQS.out p hp; rw [← HM.out]; exact this) hj3
        obtain ⟨dd, hdd⟩ : ∃ dd, dd = distTo (toN (addC L)) (toN (flips (addC L) qs)) (addC L).length := ⟨_, rfl⟩
        have HF := Lib.hid (fun (W : World) (Hg : w6.grownBy W none) => show RdI W (.slice fa m fc) (addC L) from by
          have := rdI_of (w := W) (cap := fc) (FI.out.kept Hg) FC.out
          exact this)
        have HD := Lib.hid (fun (W : World) (v : Value) (H1 : RdI W (.slice fa m fc) (addC L)) (H2 : RdI W v (flips (addC L) qs)) => show Calls Try.prog 41 #[.slice fa m fc, v] W (Ans (.int .i64 (dd : Int)) W) from hdd ▸ implDist_in W _ v _ _ H1 H2 HOK.out.1 hfb hlm)
        rw [← hdd] at hdl hiff
        have hd3 : dd ≤ 3 := by omega
        have HIFF := Lib.hid hiff
        have HLM := Lib.hid (show (flips (addC L) qs).length ≤ 1048576 by rw [hlm, ← HM.out]; omega)
        clear hdd hdl hiff hlm hfb
        go_wp2_with fail
        go_at_call 41
        refine (HD.out _ _ (HF.out _ HG.out) HRD.out).mono ?_
        rintro e w7 ⟨rfl, d7⟩
        have R7 := Lib.hid (HRD.out.kept (d7.gby none))
        have G7 := Lib.hid (gby_trans HG.out (d7.gby none))
        clear d7
        go_wp2_with fail
        go_at_call 39
        by_cases hok : FrameOk (flips (addC L) qs)
        · obtain rfl : dd = 0 := HIFF.out.2 hok
          refine (implTake_yes _ _ _ R7.out hok).mono ?_
          rintro e w8 ⟨v8, rfl, o8, g8⟩
          have G8 := Lib.hid (gby_trans G6.out (gby_trans G7.out g8))
          clear o8 g8
          go_wp2
          go_ret
          exact ⟨rfl, gby_below G8.out⟩
        · have hd0 : dd ≠ 0 := fun e => hok (HIFF.out.1 e)
          have hz : ((dd : Int) == 0) = false := by simpa using hd0
          refine (implTake_no _ _ _ R7.out HLM.out hok).mono ?_
          rintro e w8 ⟨v8, rfl, o8, g8⟩
          have G8 := Lib.hid (gby_trans G6.out (gby_trans G7.out g8))
          clear o8 g8 hd0
          go_wp2
          go_ret
          exact ⟨rfl, gby_below G8.out⟩

end Go.Proofs.Ytokpmbagidokkaa
