/-
  The walk of FnTranslations.
-/
import Derived.Test.YtgagbhkidponnabDrawGr
import Derived.Test.YtgagbhkidponnabDrawPlaces
import Derived.Test.YtgagbhkidponnabGrTr
import Derived.Test.YtgagbhkidponnabGrIso
import Derived.Test.YtgagbhkidponnabRev
import Derived.Test.YtgagbhkidponnabOpen64
import Derived.Test.YtgagbhkidponnabBig
import Derived.Deep.QuietTactic
import Derived.Deep.RegionHeld3
namespace Go.Proofs.Ytgagbhkidponnab
open Go Go.RowKit
set_option linter.unusedVariables false

theorem i64_16 : I64 16 := by unfold I64; decide
theorem i64_17 : I64 17 := by unfold I64; decide
theorem iso_symm {xs : List DPageGrant} {a b : Int} (h : IsoP xs a b) : IsoP xs b a := ⟨h.1, fun k hk i hi q => h.2 i hi k hk ⟨q.2.1, q.1, q.2.2.symm⟩⟩
/-- what is translated comes from a grant -/
theorem tr_zero {xs : List DPageGrant} {id a : Int} {wt : Bool} (h : (tr xs id a wt).2 = 0) : GOk xs ∧ (0 ≤ a ∧ a ≤ 65535) ∧ ∃ k, k < xs.length ∧ AtK xs k id (a / 256) ∧ (tr xs id a wt).1 = (pg xs k).f2 * 256 + a % 256 := by
  by_cases hg : GOk xs
  rotate_left
  · rw [tr_bad id a wt hg] at h; exact absurd h (by decide)
  by_cases ha : a < 0 ∨ 65535 < a
  · rw [tr_out xs id wt ha] at h; exact absurd h (by decide)
  by_cases hk : ∃ k, k < xs.length ∧ AtK xs k id (a / 256)
  rotate_left
  · rw [tr_none wt (fun k h1 h2 => hk ⟨k, h1, h2⟩)] at h; exact absurd h (by decide)
  obtain ⟨k, h1, h2⟩ := hk
  have e := tr_hit wt hg (by omega) (by omega) h1 h2
  rw [e] at h ⊢
  unfold giv at h ⊢
  split at h
  · exact absurd h (by decide)
  · next q => rw [if_neg q]; exact ⟨hg, by omega, k, h1, h2, rfl⟩
theorem tr_nz {xs : List DPageGrant} {id a : Int} {wt : Bool} (h : (tr xs id a wt).2 ≠ 0) : (tr xs id a wt).1 = 0 := by
  by_cases hg : GOk xs
  rotate_left
  · rw [tr_bad id a wt hg]
  by_cases ha : a < 0 ∨ 65535 < a
  · rw [tr_out xs id wt ha]
  by_cases hk : ∃ k, k < xs.length ∧ AtK xs k id (a / 256)
  rotate_left
  · rw [tr_none wt (fun k h1 h2 => hk ⟨k, h1, h2⟩)]
  obtain ⟨k, h1, h2⟩ := hk
  have e := tr_hit wt hg (by omega) (by omega) h1 h2
  rw [e] at h ⊢
  unfold giv at h ⊢
  split at h
  · next q => rw [if_pos q]
  · exact absurd rfl h
theorem tr_range {xs : List DPageGrant} {id a : Int} {wt : Bool} (h : (tr xs id a wt).2 = 0) : 0 ≤ (tr xs id a wt).1 ∧ (tr xs id a wt).1 ≤ 65535 ∧ (tr xs id a wt).1 % 256 = a % 256 := by
  obtain ⟨hg, ha, k, hk, _, e⟩ := tr_zero h
  have hf := (hg.2.1 k hk).2.2
  rw [e]
  omega
theorem tr_ge {xs : List DPageGrant} {id a : Int} {wt : Bool} : 0 ≤ (tr xs id a wt).1 ∧ (tr xs id a wt).1 ≤ 65535 := by
  by_cases h : (tr xs id a wt).2 = 0
  · exact ⟨(tr_range h).1, (tr_range h).2.1⟩
  · rw [tr_nz h]; decide
theorem iso_ne {xs : List DPageGrant} {a b : Int} {w1 w2 : Bool} {ia ib : Int} (hi : IsoP xs ia ib) (h1 : (tr xs ia a w1).2 = 0) (h2 : (tr xs ib b w2).2 = 0) : (tr xs ia a w1).1 ≠ (tr xs ib b w2).1 := by
  obtain ⟨hg, ha, k, hk, k1, e1⟩ := tr_zero h1
  obtain ⟨_, hb, i, hi2, i1, e2⟩ := tr_zero h2
  rw [e1, e2]
  intro q
  have f1 := (hg.2.1 k hk).2.2
  have f2 := (hg.2.1 i hi2).2.2
  exact hi.2 k hk i hi2 ⟨k1.1, i1.1, by omega⟩
theorem revL_mem {p : Int} {xs : List DPageGrant} {y : DPageGrant} : ∀ n, y ∈ revL p xs n → ∃ k, k < n ∧ y = pg xs k ∧ (pg xs k).f2 ≠ p
  | 0 => fun h => by simp [revL] at h
  | n + 1 => fun h => by
    unfold revL at h
    rw [List.mem_append] at h
    rcases h with h | h
    · obtain ⟨k, hk, q⟩ := revL_mem n h
      exact ⟨k, by omega, q⟩
    · split at h
      · simp at h
      · next q => rw [List.mem_singleton] at h; exact ⟨n, by omega, h, q⟩
theorem pg_mem {xs : List DPageGrant} {k : Nat} (h : k < xs.length) : pg xs k ∈ xs := by
  unfold pg; rw [List.getD_eq_getElem?_getD, List.getElem?_eq_getElem h]; exact List.getElem_mem _
theorem tr_rev {xs : List DPageGrant} {id a : Int} {wt w2 : Bool} (h : (tr xs id a wt).2 = 0) : tr (revL ((tr xs id a wt).1 / 256) xs xs.length) id a w2 = (0, 1) := by
  obtain ⟨hg, ha, k, hk, k1, e⟩ := tr_zero h
  have hf := (hg.2.1 k hk).2.2
  refine tr_none w2 (fun j hj hq => ?_)
  obtain ⟨i, hi, e1, e2⟩ := revL_mem _ (pg_mem hj)
  unfold AtK at hq
  rw [e1] at hq
  obtain rfl := atK_one hg hi hk hq k1
  exact e2 (by rw [e]; omega)

set_option maxRecDepth 8000 in
set_option maxHeartbeats 8000000 in
theorem walk_trans (a : Option Addr) (len cap : Nat) (zs : List Int) (W : World) (hB : Bytes W a len zs) :
    Calls Try.prog 8 #[.slice a len cap] W fun e w' => e = .returned (.bool true) ∧ Below W.heap.size W w' := by
  have HB := Lib.hid hB
  clear hB
  by_cases hbig : (1048576 : Int) < (len : Int)
  · go_enter Try.func8, Try.ntmps8
    go_wp2
    go_ret
    exact ⟨rfl, Below.refl _ _⟩
  · skip
    go_enter Try.func8, Try.ntmps8
    go_wp2_with fail
    go_at_call 26
    refine (big_any _ _ _ _).mono ?_
    rintro e w1 ⟨rfl, rfl⟩
    go_wp2_with fail
    go_at_call 27
    refine (drawGr_any _ _ _ _ _ (bytes_grow HB.out (gby_refl _ _)) (by omega)).mono ?_
    rintro e w2 ⟨v_, xs, rfl, ht, o, g⟩
    have HGK := Lib.hid ht
    obtain ⟨ta, n0, tc, hv_⟩ := RdL.form o.rd
    have hn0 : n0 = xs.length := by obtain ⟨_, _, e, _⟩ := o.rd; rw [hv_] at e; injection e
    subst hv_
    have HE := Lib.hid hn0
    have HT0 := Lib.hid o.rd
    have HLx : Hid (szL shPageGrant xs ≤ 1048576) := Lib.hid (by rw [szL_size0 (fun _ => rfl)]; have := ht.1; omega)
    clear ht o hn0
    have szw2 := g.size
    try simp only [World.size_alloc] at szw2
    have G1_ := Lib.hid (show (W).grownBy (w2) none from gby_trans (gby_refl _ _) g)
    clear g
    have HTT2_ := Lib.hid (gby_refl (w2) none)
    have MG3_ := Lib.hid (show (W).grownBy (w2) none from G1_.out)
    go_wp2_with fail
    go_at_call 28
    refine (places_any _ _ _ _ _ (bytes_grow HB.out G1_.out) (by omega)).mono ?_
    rintro e w3 ⟨v3, ps, rfl, hl12, hps, o3, g⟩
    obtain ⟨pb, po, pc, rfl, hpc⟩ := o3.twelve hl12
    have HPS := Lib.hid (fun j (hj : j < 12) => hps (ps.getD j 0) (by rw [List.getD_eq_getElem?_getD, List.getElem?_eq_getElem (by omega)]; exact List.getElem_mem _))
    have HPC := Lib.hid hpc
    clear o3 hpc hps hl12
    have szw3 := g.size
    try simp only [World.size_alloc] at szw3
    have G4_ := Lib.hid (show (W).grownBy (w3) none from gby_trans G1_.out g)
    have HTT5_ := Lib.hid (show (w2).grownBy (w3) none from gby_trans HTT2_.out g)
    clear HTT2_
    clear g
    have HTP6_ := Lib.hid (gby_refl (w3) none)
    have MG7_ := Lib.hid (show (W).grownBy (w3) none from G4_.out)
    obtain ⟨q0, hq0⟩ : ∃ q0, q0 = ps.getD 0 0 := ⟨_, rfl⟩
    obtain ⟨q01, q02⟩ := (show IsP q0 from by rw [hq0]; exact HPS.out 0 (by omega))
    have HCq0 := Lib.hid (HPC.out 0 (by omega))
    rw [← hq0] at HCq0
    clear hq0
    have p0_ : (w3).cell? ⟨pb, po, none⟩ = some (.int .i64 q0) := (HTP6_.out).cell HCq0.out (by simp)
    obtain ⟨q1, hq1⟩ : ∃ q1, q1 = ps.getD 1 0 := ⟨_, rfl⟩
    obtain ⟨q11, q12⟩ := (show IsP q1 from by rw [hq1]; exact HPS.out 1 (by omega))
    have HCq1 := Lib.hid (HPC.out 1 (by omega))
    rw [← hq1] at HCq1
    clear hq1
    have p1_ : (w3).cell? ⟨pb, po + 1, none⟩ = some (.int .i64 q1) := (HTP6_.out).cell HCq1.out (by simp)
    obtain ⟨a, ha⟩ : ∃ a, a = q0 % 1024 := ⟨_, rfl⟩
    have hta : Int.tmod q0 1024 = a := by rw [Int.tmod_eq_emod_of_nonneg (by omega)]; exact ha.symm
    have aa : 0 ≤ a := by rw [ha]; exact Int.emod_nonneg _ (by decide)
    have ab : a < 1024 := by rw [ha]; exact Int.emod_lt_of_pos _ (by decide)
    clear ha
    obtain ⟨b, hb⟩ : ∃ b, b = q1 % 1024 := ⟨_, rfl⟩
    have htb : Int.tmod q1 1024 = b := by rw [Int.tmod_eq_emod_of_nonneg (by omega)]; exact hb.symm
    have ba : 0 ≤ b := by rw [hb]; exact Int.emod_nonneg _ (by decide)
    have bb : b < 1024 := by rw [hb]; exact Int.emod_lt_of_pos _ (by decide)
    clear hb
    obtain ⟨x, hx⟩ : ∃ x, x = (tr xs 16 a false).1 := ⟨_, rfl⟩
    obtain ⟨m, hm⟩ : ∃ m, m = (tr xs 16 a false).2 := ⟨_, rfl⟩
    have Hx := Lib.hid hx
    have Hm := Lib.hid hm
    clear hx hm
    go_wp2_with fail
    go_at_call 19
    refine ((show Calls _ _ _ _ (fun e w' => e = .returned (.tuple #[.int .i64 x, .int .i64 m]) ∧ (w3).grownBy w' none) from by rw [Hx.out, Hm.out]; exact implTr _ _ xs 16 a false (HT0.out.grow HTT5_.out) HLx.out i64_16)).mono ?_
    rintro e w4 ⟨rfl, g⟩
    have szw4 := g.size
    have G8_ := Lib.hid (show (W).grownBy (w4) none from gby_trans G4_.out g)
    have HTT9_ := Lib.hid (show (w2).grownBy (w4) none from gby_trans HTT5_.out g)
    clear HTT5_
    have HTP10_ := Lib.hid (show (w3).grownBy (w4) none from gby_trans HTP6_.out g)
    clear HTP6_
    clear g
    try clear p0_ p1_
    have p0_ : (w4).cell? ⟨pb, po, none⟩ = some (.int .i64 q0) := (HTP10_.out).cell HCq0.out (by simp)
    have p1_ : (w4).cell? ⟨pb, po + 1, none⟩ = some (.int .i64 q1) := (HTP10_.out).cell HCq1.out (by simp)
    obtain ⟨y, hy⟩ : ∃ y, y = (tr xs 17 b true).1 := ⟨_, rfl⟩
    obtain ⟨n, hn⟩ : ∃ n, n = (tr xs 17 b true).2 := ⟨_, rfl⟩
    have Hy := Lib.hid hy
    have Hn := Lib.hid hn
    clear hy hn
    go_wp2_with fail
    go_at_call 19
    refine ((show Calls _ _ _ _ (fun e w' => e = .returned (.tuple #[.int .i64 y, .int .i64 n]) ∧ (w4).grownBy w' none) from by rw [Hy.out, Hn.out]; exact implTr _ _ xs 17 b true (HT0.out.grow HTT9_.out) HLx.out i64_17)).mono ?_
    rintro e w5 ⟨rfl, g⟩
    have szw5 := g.size
    have G11_ := Lib.hid (show (W).grownBy (w5) none from gby_trans G8_.out g)
    have HTT12_ := Lib.hid (show (w2).grownBy (w5) none from gby_trans HTT9_.out g)
    clear HTT9_
    have HTP13_ := Lib.hid (show (w3).grownBy (w5) none from gby_trans HTP10_.out g)
    clear HTP10_
    clear g
    try clear p0_ p1_
    have p0_ : (w5).cell? ⟨pb, po, none⟩ = some (.int .i64 q0) := (HTP13_.out).cell HCq0.out (by simp)
    have p1_ : (w5).cell? ⟨pb, po + 1, none⟩ = some (.int .i64 q1) := (HTP13_.out).cell HCq1.out (by simp)
    obtain ⟨hx0, hx1⟩ : 0 ≤ x ∧ x ≤ 65535 := by rw [Hx.out]; exact tr_ge
    obtain ⟨px, hpx⟩ : ∃ px, px = x / 256 := ⟨_, rfl⟩
    have htx : Int.tdiv x 256 = px := by rw [Int.tdiv_eq_ediv_of_nonneg hx0]; exact hpx.symm
    have hpw : IntKind.i64.wrap px = px := IntWalk.i64_in _ (by omega)
    have HPX := Lib.hid hpx
    clear hpx
    have hxn : ¬ x < 0 := by omega
    have hxn2 : decide (x < 0) = false := decide_eq_false hxn
    have hxm : ¬ 65535 < x := by omega
    have hxm2 : decide (65535 < x) = false := decide_eq_false hxm
    obtain ⟨rx, hrx⟩ : ∃ r, r = x % 256 := ⟨_, rfl⟩
    obtain ⟨ra, hra⟩ : ∃ r, r = a % 256 := ⟨_, rfl⟩
    have htrx : Int.tmod x 256 = rx := by rw [Int.tmod_eq_emod_of_nonneg hx0]; exact hrx.symm
    have htra : Int.tmod a 256 = ra := by rw [Int.tmod_eq_emod_of_nonneg aa]; exact hra.symm
    have HRX := Lib.hid hrx
    have HRA := Lib.hid hra
    clear hrx hra
    obtain ⟨L, hL⟩ : ∃ L, L = revL px xs xs.length := ⟨_, rfl⟩
    have HL := Lib.hid hL
    have hLl : L.length ≤ 40 := by rw [hL]; have := revL_len px xs xs.length; have := HGK.out.1; omega
    clear hL
    obtain ⟨z, hz⟩ : ∃ z, z = (tr L 16 a false).1 := ⟨_, rfl⟩
    obtain ⟨k, hk⟩ : ∃ k, k = (tr L 16 a false).2 := ⟨_, rfl⟩
    have Hz := Lib.hid hz
    have Hk := Lib.hid hk
    clear hz hk
    by_cases hi : IsoP xs 16 17
    · have HI := Lib.hid hi
      have HI2 := Lib.hid (iso_symm hi)
      clear hi
      by_cases hm : m = 0
      · skip
        have hm2 : (tr xs 16 a false).2 = 0 := by rw [← Hm.out]; exact hm
        obtain ⟨_, _, hr3⟩ := tr_range hm2
        have hrr : rx = ra := by rw [HRX.out, HRA.out, Hx.out]; exact hr3
        have hz0 : z = 0 := by rw [Hz.out, HL.out, HPX.out, Hx.out, tr_rev hm2]
        have hk1 : k = 1 := by rw [Hk.out, HL.out, HPX.out, Hx.out, tr_rev hm2]
        have HM2 := Lib.hid hm2
        subst hm
        clear hm2 hr3
        subst hrr
        have hb1 : ((0 : Int) == 0) = true := by decide
        have hb2 : ((0 : Int) != 0) = false := by decide
        have hb3 : ((1 : Int) != 0) = true := by decide
        have hb4 : (rx != rx) = false := by simp
        have hzb : (z == 0) = true := beq_iff_eq.2 hz0
        have hkb : (k != 0) = true := bne_iff_ne.2 (by omega)
        clear hz0 hk1
        by_cases hn : n = 0
        · have hxy : (x == y) = false := beq_eq_false_iff_ne.2 (by rw [Hx.out, Hy.out]; exact iso_ne HI.out HM2.out (by rw [← Hn.out]; exact hn))
          have hn1 : (n == 0) = true := beq_iff_eq.2 hn
          clear hn
          go_wp2_with fail
          go_at_call 17
          refine ((implIso _ _ xs 16 17 (HT0.out.grow HTT12_.out) HLx.out).mono (bpost_yes HI.out)).mono ?_
          rintro e w6 ⟨rfl, g⟩
          have szw6 := g.size
          try simp only [World.size_alloc] at szw6
          try simp only [World.size_setCell] at szw6
          have G14_ := Lib.hid (show (W).grownBy (w6) none from gby_trans G11_.out g)
          have HTT15_ := Lib.hid (show (w2).grownBy (w6) none from gby_trans HTT12_.out g)
          clear HTT12_
          have HTP16_ := Lib.hid (show (w3).grownBy (w6) none from gby_trans HTP13_.out g)
          clear HTP13_
          clear g
          try clear p0_ p1_
          have p0_ : (w6).cell? ⟨pb, po, none⟩ = some (.int .i64 q0) := (HTP16_.out).cell HCq0.out (by simp)
          have p1_ : (w6).cell? ⟨pb, po + 1, none⟩ = some (.int .i64 q1) := (HTP16_.out).cell HCq1.out (by simp)
          try clear p1_
          go_wp2_with fail
          go_region_held3 (fun w' => w'.cell? ⟨pb, po, none⟩ = some (.int .i64 q0))
            (first | exact np0_ | exact mp0_ | exact p0_ | go_keep)
            (first
              | (go_at_call 29; refine (show Calls _ _ _ _ (ResIRevokePage L _) from by rw [HL.out]; exact implRev _ _ xs px (HT0.out.grow (gby_drew HTT15_.out)) HLx.out).mono ?_; rintro e wA ⟨vA, rfl, oA, gA⟩; obtain ⟨pA, nA, cA, hvA⟩ := RdL.form (OwU.rd oA); subst hvA; have HRA9 := Lib.hid (OwU.rd oA); clear oA; have mp0_ : wA.cell? ⟨pb, po, none⟩ = some (.int .i64 q0) := gA.cell (by go_keep) (by simp))
              | (go_at_call 19; refine (show Calls _ _ _ _ (fun e w' => e = .returned (.tuple #[.int .i64 z, .int .i64 k]) ∧ (_ : World).grownBy w' none) from by rw [Hz.out, Hk.out]; exact implTr _ _ L 16 a false (HRA9.out.grow (by repeat (first | exact gby_refl _ _ | with_reducible refine gby_drew ?_))) (by rw [szL_size0 (fun _ => rfl)]; omega) i64_16).mono ?_; rintro e wB ⟨rfl, gB⟩; have np0_ : wB.cell? ⟨pb, po, none⟩ = some (.int .i64 q0) := gB.cell (by go_keep) (by simp))
              | fail)
          all_goals
            have gA2 := Lib.hid (show (w6).grownBy wA none from by repeat (first | exact gA | exact gby_trans (gby_drew (gby_refl _ _)) gA))
            have g : (w6).grownBy wB none := by repeat (first | exact gby_trans gA2.out gB | exact gby_trans (gby_drew gA2.out) gB)
            clear gA gB mp0_ np0_ p0_
          have G17_ := Lib.hid (show (W).grownBy (wB) none from gby_trans G14_.out g)
          have HTT18_ := Lib.hid (show (w2).grownBy (wB) none from gby_trans HTT15_.out g)
          clear HTT15_
          have HTP19_ := Lib.hid (show (w3).grownBy (wB) none from gby_trans HTP16_.out g)
          clear HTP16_
          clear g gA2
          go_wp2_with fail
          go_at_call 14
          refine ((implGOk _ _ xs (HT0.out.grow HTT18_.out) HLx.out).mono (bpost_yes HGK.out)).mono ?_
          rintro e w8 ⟨rfl, g⟩
          have szw8 := g.size
          try simp only [World.size_alloc] at szw8
          try simp only [World.size_setCell] at szw8
          have G20_ := Lib.hid (show (W).grownBy (w8) none from gby_trans G17_.out g)
          have HTT21_ := Lib.hid (show (w2).grownBy (w8) none from gby_trans HTT18_.out g)
          clear HTT18_
          have HTP22_ := Lib.hid (show (w3).grownBy (w8) none from gby_trans HTP19_.out g)
          clear HTP19_
          clear g
          go_wp2_with fail
          go_at_call 17
          refine ((implIso _ _ xs 16 17 (HT0.out.grow HTT21_.out) HLx.out).mono (bpost_yes HI.out)).mono ?_
          rintro e w9 ⟨rfl, g⟩
          have szw9 := g.size
          try simp only [World.size_alloc] at szw9
          try simp only [World.size_setCell] at szw9
          have G23_ := Lib.hid (show (W).grownBy (w9) none from gby_trans G20_.out g)
          have HTT24_ := Lib.hid (show (w2).grownBy (w9) none from gby_trans HTT21_.out g)
          clear HTT21_
          have HTP25_ := Lib.hid (show (w3).grownBy (w9) none from gby_trans HTP22_.out g)
          clear HTP22_
          clear g
          go_wp2_with fail
          go_at_call 17
          refine ((implIso _ _ xs 17 16 (HT0.out.grow HTT24_.out) HLx.out).mono (bpost_yes HI2.out)).mono ?_
          rintro e w10 ⟨rfl, g⟩
          have szw10 := g.size
          try simp only [World.size_alloc] at szw10
          try simp only [World.size_setCell] at szw10
          have G26_ := Lib.hid (show (W).grownBy (w10) none from gby_trans G23_.out g)
          have HTT27_ := Lib.hid (show (w2).grownBy (w10) none from gby_trans HTT24_.out g)
          clear HTT24_
          have HTP28_ := Lib.hid (show (w3).grownBy (w10) none from gby_trans HTP25_.out g)
          clear HTP25_
          clear g
          go_wp2
          go_ret
          exact ⟨rfl, gby_below G26_.out⟩
        · have hn1 : (n == 0) = false := beq_eq_false_iff_ne.2 hn
          clear hn
          go_wp2_with fail
          go_at_call 17
          refine ((implIso _ _ xs 16 17 (HT0.out.grow HTT12_.out) HLx.out).mono (bpost_yes HI.out)).mono ?_
          rintro e w6 ⟨rfl, g⟩
          have szw6 := g.size
          try simp only [World.size_alloc] at szw6
          try simp only [World.size_setCell] at szw6
          have G14_ := Lib.hid (show (W).grownBy (w6) none from gby_trans G11_.out g)
          have HTT15_ := Lib.hid (show (w2).grownBy (w6) none from gby_trans HTT12_.out g)
          clear HTT12_
          have HTP16_ := Lib.hid (show (w3).grownBy (w6) none from gby_trans HTP13_.out g)
          clear HTP13_
          clear g
          try clear p0_ p1_
          have p0_ : (w6).cell? ⟨pb, po, none⟩ = some (.int .i64 q0) := (HTP16_.out).cell HCq0.out (by simp)
          have p1_ : (w6).cell? ⟨pb, po + 1, none⟩ = some (.int .i64 q1) := (HTP16_.out).cell HCq1.out (by simp)
          try clear p1_
          go_wp2_with fail
          go_region_held3 (fun w' => w'.cell? ⟨pb, po, none⟩ = some (.int .i64 q0))
            (first | exact np0_ | exact mp0_ | exact p0_ | go_keep)
            (first
              | (go_at_call 29; refine (show Calls _ _ _ _ (ResIRevokePage L _) from by rw [HL.out]; exact implRev _ _ xs px (HT0.out.grow (gby_drew HTT15_.out)) HLx.out).mono ?_; rintro e wA ⟨vA, rfl, oA, gA⟩; obtain ⟨pA, nA, cA, hvA⟩ := RdL.form (OwU.rd oA); subst hvA; have HRA9 := Lib.hid (OwU.rd oA); clear oA; have mp0_ : wA.cell? ⟨pb, po, none⟩ = some (.int .i64 q0) := gA.cell (by go_keep) (by simp))
              | (go_at_call 19; refine (show Calls _ _ _ _ (fun e w' => e = .returned (.tuple #[.int .i64 z, .int .i64 k]) ∧ (_ : World).grownBy w' none) from by rw [Hz.out, Hk.out]; exact implTr _ _ L 16 a false (HRA9.out.grow (by repeat (first | exact gby_refl _ _ | with_reducible refine gby_drew ?_))) (by rw [szL_size0 (fun _ => rfl)]; omega) i64_16).mono ?_; rintro e wB ⟨rfl, gB⟩; have np0_ : wB.cell? ⟨pb, po, none⟩ = some (.int .i64 q0) := gB.cell (by go_keep) (by simp))
              | fail)
          all_goals
            have gA2 := Lib.hid (show (w6).grownBy wA none from by repeat (first | exact gA | exact gby_trans (gby_drew (gby_refl _ _)) gA))
            have g : (w6).grownBy wB none := by repeat (first | exact gby_trans gA2.out gB | exact gby_trans (gby_drew gA2.out) gB)
            clear gA gB mp0_ np0_ p0_
          have G17_ := Lib.hid (show (W).grownBy (wB) none from gby_trans G14_.out g)
          have HTT18_ := Lib.hid (show (w2).grownBy (wB) none from gby_trans HTT15_.out g)
          clear HTT15_
          have HTP19_ := Lib.hid (show (w3).grownBy (wB) none from gby_trans HTP16_.out g)
          clear HTP16_
          clear g gA2
          go_wp2_with fail
          go_at_call 14
          refine ((implGOk _ _ xs (HT0.out.grow HTT18_.out) HLx.out).mono (bpost_yes HGK.out)).mono ?_
          rintro e w8 ⟨rfl, g⟩
          have szw8 := g.size
          try simp only [World.size_alloc] at szw8
          try simp only [World.size_setCell] at szw8
          have G20_ := Lib.hid (show (W).grownBy (w8) none from gby_trans G17_.out g)
          have HTT21_ := Lib.hid (show (w2).grownBy (w8) none from gby_trans HTT18_.out g)
          clear HTT18_
          have HTP22_ := Lib.hid (show (w3).grownBy (w8) none from gby_trans HTP19_.out g)
          clear HTP19_
          clear g
          go_wp2_with fail
          go_at_call 17
          refine ((implIso _ _ xs 16 17 (HT0.out.grow HTT21_.out) HLx.out).mono (bpost_yes HI.out)).mono ?_
          rintro e w9 ⟨rfl, g⟩
          have szw9 := g.size
          try simp only [World.size_alloc] at szw9
          try simp only [World.size_setCell] at szw9
          have G23_ := Lib.hid (show (W).grownBy (w9) none from gby_trans G20_.out g)
          have HTT24_ := Lib.hid (show (w2).grownBy (w9) none from gby_trans HTT21_.out g)
          clear HTT21_
          have HTP25_ := Lib.hid (show (w3).grownBy (w9) none from gby_trans HTP22_.out g)
          clear HTP22_
          clear g
          go_wp2_with fail
          go_at_call 17
          refine ((implIso _ _ xs 17 16 (HT0.out.grow HTT24_.out) HLx.out).mono (bpost_yes HI2.out)).mono ?_
          rintro e w10 ⟨rfl, g⟩
          have szw10 := g.size
          try simp only [World.size_alloc] at szw10
          try simp only [World.size_setCell] at szw10
          have G26_ := Lib.hid (show (W).grownBy (w10) none from gby_trans G23_.out g)
          have HTT27_ := Lib.hid (show (w2).grownBy (w10) none from gby_trans HTT24_.out g)
          clear HTT24_
          have HTP28_ := Lib.hid (show (w3).grownBy (w10) none from gby_trans HTP25_.out g)
          clear HTP25_
          clear g
          go_wp2
          go_ret
          exact ⟨rfl, gby_below G26_.out⟩
      · skip
        have hb1 : (m == 0) = false := beq_eq_false_iff_ne.2 hm
        have hb2 : (m != 0) = true := bne_iff_ne.2 hm
        clear hm
        go_wp2_with fail
        go_at_call 17
        refine ((implIso _ _ xs 16 17 (HT0.out.grow HTT12_.out) HLx.out).mono (bpost_yes HI.out)).mono ?_
        rintro e w6 ⟨rfl, g⟩
        have szw6 := g.size
        try simp only [World.size_alloc] at szw6
        try simp only [World.size_setCell] at szw6
        have G14_ := Lib.hid (show (W).grownBy (w6) none from gby_trans G11_.out g)
        have HTT15_ := Lib.hid (show (w2).grownBy (w6) none from gby_trans HTT12_.out g)
        clear HTT12_
        have HTP16_ := Lib.hid (show (w3).grownBy (w6) none from gby_trans HTP13_.out g)
        clear HTP13_
        clear g
        try clear p0_ p1_
        have p0_ : (w6).cell? ⟨pb, po, none⟩ = some (.int .i64 q0) := (HTP16_.out).cell HCq0.out (by simp)
        have p1_ : (w6).cell? ⟨pb, po + 1, none⟩ = some (.int .i64 q1) := (HTP16_.out).cell HCq1.out (by simp)
        try clear p1_
        go_wp2_with fail
        go_region_held3 (fun w' => w'.cell? ⟨pb, po, none⟩ = some (.int .i64 q0))
          (first | exact np0_ | exact mp0_ | exact p0_ | go_keep)
          (first
            | (go_at_call 29; refine (show Calls _ _ _ _ (ResIRevokePage L _) from by rw [HL.out]; exact implRev _ _ xs px (HT0.out.grow (gby_drew HTT15_.out)) HLx.out).mono ?_; rintro e wA ⟨vA, rfl, oA, gA⟩; obtain ⟨pA, nA, cA, hvA⟩ := RdL.form (OwU.rd oA); subst hvA; have HRA9 := Lib.hid (OwU.rd oA); clear oA; have mp0_ : wA.cell? ⟨pb, po, none⟩ = some (.int .i64 q0) := gA.cell (by go_keep) (by simp))
            | (go_at_call 19; refine (show Calls _ _ _ _ (fun e w' => e = .returned (.tuple #[.int .i64 z, .int .i64 k]) ∧ (_ : World).grownBy w' none) from by rw [Hz.out, Hk.out]; exact implTr _ _ L 16 a false (HRA9.out.grow (by repeat (first | exact gby_refl _ _ | with_reducible refine gby_drew ?_))) (by rw [szL_size0 (fun _ => rfl)]; omega) i64_16).mono ?_; rintro e wB ⟨rfl, gB⟩; have np0_ : wB.cell? ⟨pb, po, none⟩ = some (.int .i64 q0) := gB.cell (by go_keep) (by simp))
            | fail)
        all_goals
          have gA2 := Lib.hid (show (w6).grownBy wA none from by repeat (first | exact gA | exact gby_trans (gby_drew (gby_refl _ _)) gA))
          have g : (w6).grownBy wB none := by repeat (first | exact gby_trans gA2.out gB | exact gby_trans (gby_drew gA2.out) gB)
          clear gA gB mp0_ np0_ p0_
        have G17_ := Lib.hid (show (W).grownBy (wB) none from gby_trans G14_.out g)
        have HTT18_ := Lib.hid (show (w2).grownBy (wB) none from gby_trans HTT15_.out g)
        clear HTT15_
        have HTP19_ := Lib.hid (show (w3).grownBy (wB) none from gby_trans HTP16_.out g)
        clear HTP16_
        clear g gA2
        go_wp2_with fail
        go_at_call 14
        refine ((implGOk _ _ xs (HT0.out.grow HTT18_.out) HLx.out).mono (bpost_yes HGK.out)).mono ?_
        rintro e w8 ⟨rfl, g⟩
        have szw8 := g.size
        try simp only [World.size_alloc] at szw8
        try simp only [World.size_setCell] at szw8
        have G20_ := Lib.hid (show (W).grownBy (w8) none from gby_trans G17_.out g)
        have HTT21_ := Lib.hid (show (w2).grownBy (w8) none from gby_trans HTT18_.out g)
        clear HTT18_
        have HTP22_ := Lib.hid (show (w3).grownBy (w8) none from gby_trans HTP19_.out g)
        clear HTP19_
        clear g
        go_wp2_with fail
        go_at_call 17
        refine ((implIso _ _ xs 16 17 (HT0.out.grow HTT21_.out) HLx.out).mono (bpost_yes HI.out)).mono ?_
        rintro e w9 ⟨rfl, g⟩
        have szw9 := g.size
        try simp only [World.size_alloc] at szw9
        try simp only [World.size_setCell] at szw9
        have G23_ := Lib.hid (show (W).grownBy (w9) none from gby_trans G20_.out g)
        have HTT24_ := Lib.hid (show (w2).grownBy (w9) none from gby_trans HTT21_.out g)
        clear HTT21_
        have HTP25_ := Lib.hid (show (w3).grownBy (w9) none from gby_trans HTP22_.out g)
        clear HTP22_
        clear g
        go_wp2_with fail
        go_at_call 17
        refine ((implIso _ _ xs 17 16 (HT0.out.grow HTT24_.out) HLx.out).mono (bpost_yes HI2.out)).mono ?_
        rintro e w10 ⟨rfl, g⟩
        have szw10 := g.size
        try simp only [World.size_alloc] at szw10
        try simp only [World.size_setCell] at szw10
        have G26_ := Lib.hid (show (W).grownBy (w10) none from gby_trans G23_.out g)
        have HTT27_ := Lib.hid (show (w2).grownBy (w10) none from gby_trans HTT24_.out g)
        clear HTT24_
        have HTP28_ := Lib.hid (show (w3).grownBy (w10) none from gby_trans HTP25_.out g)
        clear HTP25_
        clear g
        go_wp2
        go_ret
        exact ⟨rfl, gby_below G26_.out⟩
    · have HI := Lib.hid hi
      have HI2 := Lib.hid (fun q => hi (iso_symm q))
      clear hi
      by_cases hm : m = 0
      · skip
        have hm2 : (tr xs 16 a false).2 = 0 := by rw [← Hm.out]; exact hm
        obtain ⟨_, _, hr3⟩ := tr_range hm2
        have hrr : rx = ra := by rw [HRX.out, HRA.out, Hx.out]; exact hr3
        have hz0 : z = 0 := by rw [Hz.out, HL.out, HPX.out, Hx.out, tr_rev hm2]
        have hk1 : k = 1 := by rw [Hk.out, HL.out, HPX.out, Hx.out, tr_rev hm2]
        have HM2 := Lib.hid hm2
        subst hm
        clear hm2 hr3
        subst hrr
        have hb1 : ((0 : Int) == 0) = true := by decide
        have hb2 : ((0 : Int) != 0) = false := by decide
        have hb3 : ((1 : Int) != 0) = true := by decide
        have hb4 : (rx != rx) = false := by simp
        have hzb : (z == 0) = true := beq_iff_eq.2 hz0
        have hkb : (k != 0) = true := bne_iff_ne.2 (by omega)
        clear hz0 hk1
        go_wp2_with fail
        go_at_call 17
        refine ((implIso _ _ xs 16 17 (HT0.out.grow HTT12_.out) HLx.out).mono (bpost_no HI.out)).mono ?_
        rintro e w6 ⟨rfl, g⟩
        have szw6 := g.size
        try simp only [World.size_alloc] at szw6
        try simp only [World.size_setCell] at szw6
        have G14_ := Lib.hid (show (W).grownBy (w6) none from gby_trans G11_.out g)
        have HTT15_ := Lib.hid (show (w2).grownBy (w6) none from gby_trans HTT12_.out g)
        clear HTT12_
        have HTP16_ := Lib.hid (show (w3).grownBy (w6) none from gby_trans HTP13_.out g)
        clear HTP13_
        clear g
        try clear p0_ p1_
        have p0_ : (w6).cell? ⟨pb, po, none⟩ = some (.int .i64 q0) := (HTP16_.out).cell HCq0.out (by simp)
        have p1_ : (w6).cell? ⟨pb, po + 1, none⟩ = some (.int .i64 q1) := (HTP16_.out).cell HCq1.out (by simp)
        try clear p1_
        go_wp2_with fail
        go_region_held3 (fun w' => w'.cell? ⟨pb, po, none⟩ = some (.int .i64 q0))
          (first | exact np0_ | exact mp0_ | exact p0_ | go_keep)
          (first
            | (go_at_call 29; refine (show Calls _ _ _ _ (ResIRevokePage L _) from by rw [HL.out]; exact implRev _ _ xs px (HT0.out.grow (gby_drew HTT15_.out)) HLx.out).mono ?_; rintro e wA ⟨vA, rfl, oA, gA⟩; obtain ⟨pA, nA, cA, hvA⟩ := RdL.form (OwU.rd oA); subst hvA; have HRA9 := Lib.hid (OwU.rd oA); clear oA; have mp0_ : wA.cell? ⟨pb, po, none⟩ = some (.int .i64 q0) := gA.cell (by go_keep) (by simp))
            | (go_at_call 19; refine (show Calls _ _ _ _ (fun e w' => e = .returned (.tuple #[.int .i64 z, .int .i64 k]) ∧ (_ : World).grownBy w' none) from by rw [Hz.out, Hk.out]; exact implTr _ _ L 16 a false (HRA9.out.grow (by repeat (first | exact gby_refl _ _ | with_reducible refine gby_drew ?_))) (by rw [szL_size0 (fun _ => rfl)]; omega) i64_16).mono ?_; rintro e wB ⟨rfl, gB⟩; have np0_ : wB.cell? ⟨pb, po, none⟩ = some (.int .i64 q0) := gB.cell (by go_keep) (by simp))
            | fail)
        all_goals
          have gA2 := Lib.hid (show (w6).grownBy wA none from by repeat (first | exact gA | exact gby_trans (gby_drew (gby_refl _ _)) gA))
          have g : (w6).grownBy wB none := by repeat (first | exact gby_trans gA2.out gB | exact gby_trans (gby_drew gA2.out) gB)
          clear gA gB mp0_ np0_ p0_
        have G17_ := Lib.hid (show (W).grownBy (wB) none from gby_trans G14_.out g)
        have HTT18_ := Lib.hid (show (w2).grownBy (wB) none from gby_trans HTT15_.out g)
        clear HTT15_
        have HTP19_ := Lib.hid (show (w3).grownBy (wB) none from gby_trans HTP16_.out g)
        clear HTP16_
        clear g gA2
        go_wp2_with fail
        go_at_call 14
        refine ((implGOk _ _ xs (HT0.out.grow HTT18_.out) HLx.out).mono (bpost_yes HGK.out)).mono ?_
        rintro e w8 ⟨rfl, g⟩
        have szw8 := g.size
        try simp only [World.size_alloc] at szw8
        try simp only [World.size_setCell] at szw8
        have G20_ := Lib.hid (show (W).grownBy (w8) none from gby_trans G17_.out g)
        have HTT21_ := Lib.hid (show (w2).grownBy (w8) none from gby_trans HTT18_.out g)
        clear HTT18_
        have HTP22_ := Lib.hid (show (w3).grownBy (w8) none from gby_trans HTP19_.out g)
        clear HTP19_
        clear g
        go_wp2_with fail
        go_at_call 17
        refine ((implIso _ _ xs 16 17 (HT0.out.grow HTT21_.out) HLx.out).mono (bpost_no HI.out)).mono ?_
        rintro e w9 ⟨rfl, g⟩
        have szw9 := g.size
        try simp only [World.size_alloc] at szw9
        try simp only [World.size_setCell] at szw9
        have G23_ := Lib.hid (show (W).grownBy (w9) none from gby_trans G20_.out g)
        have HTT24_ := Lib.hid (show (w2).grownBy (w9) none from gby_trans HTT21_.out g)
        clear HTT21_
        have HTP25_ := Lib.hid (show (w3).grownBy (w9) none from gby_trans HTP22_.out g)
        clear HTP22_
        clear g
        go_wp2_with fail
        go_at_call 17
        refine ((implIso _ _ xs 17 16 (HT0.out.grow HTT24_.out) HLx.out).mono (bpost_no HI2.out)).mono ?_
        rintro e w10 ⟨rfl, g⟩
        have szw10 := g.size
        try simp only [World.size_alloc] at szw10
        try simp only [World.size_setCell] at szw10
        have G26_ := Lib.hid (show (W).grownBy (w10) none from gby_trans G23_.out g)
        have HTT27_ := Lib.hid (show (w2).grownBy (w10) none from gby_trans HTT24_.out g)
        clear HTT24_
        have HTP28_ := Lib.hid (show (w3).grownBy (w10) none from gby_trans HTP25_.out g)
        clear HTP25_
        clear g
        go_wp2
        go_ret
        exact ⟨rfl, gby_below G26_.out⟩
      · skip
        have hb1 : (m == 0) = false := beq_eq_false_iff_ne.2 hm
        have hb2 : (m != 0) = true := bne_iff_ne.2 hm
        clear hm
        go_wp2_with fail
        go_at_call 17
        refine ((implIso _ _ xs 16 17 (HT0.out.grow HTT12_.out) HLx.out).mono (bpost_no HI.out)).mono ?_
        rintro e w6 ⟨rfl, g⟩
        have szw6 := g.size
        try simp only [World.size_alloc] at szw6
        try simp only [World.size_setCell] at szw6
        have G14_ := Lib.hid (show (W).grownBy (w6) none from gby_trans G11_.out g)
        have HTT15_ := Lib.hid (show (w2).grownBy (w6) none from gby_trans HTT12_.out g)
        clear HTT12_
        have HTP16_ := Lib.hid (show (w3).grownBy (w6) none from gby_trans HTP13_.out g)
        clear HTP13_
        clear g
        try clear p0_ p1_
        have p0_ : (w6).cell? ⟨pb, po, none⟩ = some (.int .i64 q0) := (HTP16_.out).cell HCq0.out (by simp)
        have p1_ : (w6).cell? ⟨pb, po + 1, none⟩ = some (.int .i64 q1) := (HTP16_.out).cell HCq1.out (by simp)
        try clear p1_
        go_wp2_with fail
        go_region_held3 (fun w' => w'.cell? ⟨pb, po, none⟩ = some (.int .i64 q0))
          (first | exact np0_ | exact mp0_ | exact p0_ | go_keep)
          (first
            | (go_at_call 29; refine (show Calls _ _ _ _ (ResIRevokePage L _) from by rw [HL.out]; exact implRev _ _ xs px (HT0.out.grow (gby_drew HTT15_.out)) HLx.out).mono ?_; rintro e wA ⟨vA, rfl, oA, gA⟩; obtain ⟨pA, nA, cA, hvA⟩ := RdL.form (OwU.rd oA); subst hvA; have HRA9 := Lib.hid (OwU.rd oA); clear oA; have mp0_ : wA.cell? ⟨pb, po, none⟩ = some (.int .i64 q0) := gA.cell (by go_keep) (by simp))
            | (go_at_call 19; refine (show Calls _ _ _ _ (fun e w' => e = .returned (.tuple #[.int .i64 z, .int .i64 k]) ∧ (_ : World).grownBy w' none) from by rw [Hz.out, Hk.out]; exact implTr _ _ L 16 a false (HRA9.out.grow (by repeat (first | exact gby_refl _ _ | with_reducible refine gby_drew ?_))) (by rw [szL_size0 (fun _ => rfl)]; omega) i64_16).mono ?_; rintro e wB ⟨rfl, gB⟩; have np0_ : wB.cell? ⟨pb, po, none⟩ = some (.int .i64 q0) := gB.cell (by go_keep) (by simp))
            | fail)
        all_goals
          have gA2 := Lib.hid (show (w6).grownBy wA none from by repeat (first | exact gA | exact gby_trans (gby_drew (gby_refl _ _)) gA))
          have g : (w6).grownBy wB none := by repeat (first | exact gby_trans gA2.out gB | exact gby_trans (gby_drew gA2.out) gB)
          clear gA gB mp0_ np0_ p0_
        have G17_ := Lib.hid (show (W).grownBy (wB) none from gby_trans G14_.out g)
        have HTT18_ := Lib.hid (show (w2).grownBy (wB) none from gby_trans HTT15_.out g)
        clear HTT15_
        have HTP19_ := Lib.hid (show (w3).grownBy (wB) none from gby_trans HTP16_.out g)
        clear HTP16_
        clear g gA2
        go_wp2_with fail
        go_at_call 14
        refine ((implGOk _ _ xs (HT0.out.grow HTT18_.out) HLx.out).mono (bpost_yes HGK.out)).mono ?_
        rintro e w8 ⟨rfl, g⟩
        have szw8 := g.size
        try simp only [World.size_alloc] at szw8
        try simp only [World.size_setCell] at szw8
        have G20_ := Lib.hid (show (W).grownBy (w8) none from gby_trans G17_.out g)
        have HTT21_ := Lib.hid (show (w2).grownBy (w8) none from gby_trans HTT18_.out g)
        clear HTT18_
        have HTP22_ := Lib.hid (show (w3).grownBy (w8) none from gby_trans HTP19_.out g)
        clear HTP19_
        clear g
        go_wp2_with fail
        go_at_call 17
        refine ((implIso _ _ xs 16 17 (HT0.out.grow HTT21_.out) HLx.out).mono (bpost_no HI.out)).mono ?_
        rintro e w9 ⟨rfl, g⟩
        have szw9 := g.size
        try simp only [World.size_alloc] at szw9
        try simp only [World.size_setCell] at szw9
        have G23_ := Lib.hid (show (W).grownBy (w9) none from gby_trans G20_.out g)
        have HTT24_ := Lib.hid (show (w2).grownBy (w9) none from gby_trans HTT21_.out g)
        clear HTT21_
        have HTP25_ := Lib.hid (show (w3).grownBy (w9) none from gby_trans HTP22_.out g)
        clear HTP22_
        clear g
        go_wp2_with fail
        go_at_call 17
        refine ((implIso _ _ xs 17 16 (HT0.out.grow HTT24_.out) HLx.out).mono (bpost_no HI2.out)).mono ?_
        rintro e w10 ⟨rfl, g⟩
        have szw10 := g.size
        try simp only [World.size_alloc] at szw10
        try simp only [World.size_setCell] at szw10
        have G26_ := Lib.hid (show (W).grownBy (w10) none from gby_trans G23_.out g)
        have HTT27_ := Lib.hid (show (w2).grownBy (w10) none from gby_trans HTT24_.out g)
        clear HTT24_
        have HTP28_ := Lib.hid (show (w3).grownBy (w10) none from gby_trans HTP25_.out g)
        clear HTP25_
        clear g
        go_wp2
        go_ret
        exact ⟨rfl, gby_below G26_.out⟩

end Go.Proofs.Ytgagbhkidponnab
