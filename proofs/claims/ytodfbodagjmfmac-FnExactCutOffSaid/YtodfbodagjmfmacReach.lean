/-
  Can one node reach another, on both sides.
-/
import Derived.Test.YtodfbodagjmfmacBtwB
import Derived.Test.YtodfbodagjmfmacGuard
import Derived.Test.YtodfbodagjmfmacRCanReach
namespace Go.Proofs.Ytodfbodagjmfmac
open Go Go.RowKit
set_option linter.unusedVariables false

theorem pthIs_one {xs : List DNode} {k : Int} {y z : List Int} (h : PthIs xs k y) (g : PthIs xs k z) : y = z := by
  rcases h with ⟨n, rfl, h1, h2, rfl⟩ | ⟨h, rfl⟩
  · rcases g with ⟨m, e, _, _, rfl⟩ | ⟨h3, _⟩
    · obtain rfl : n = m := by omega
      rfl
    · exact absurd ⟨h1, by omega, by omega⟩ h3
  · rcases g with ⟨m, rfl, h1, h2, rfl⟩ | ⟨_, rfl⟩
    · exact absurd ⟨h1, by omega, by omega⟩ h
    · rfl
theorem btwIs_one {xs : List DNode} {a b : Int} {y z : List Int} (h : BtwIs xs a b y) (g : BtwIs xs a b z) : y = z := by
  obtain ⟨x1, y1, h1, h2, h3⟩ := h
  obtain ⟨x2, y2, g1, g2, g3⟩ := g
  obtain rfl := pthIs_one h1 g1
  obtain rfl := pthIs_one h2 g2
  rcases h3 with ⟨e1, e2, rfl⟩ | ⟨e, rfl⟩
  · rcases g3 with ⟨_, _, rfl⟩ | ⟨e, rfl⟩
    · rfl
    · rcases e with rfl | rfl
      · simp at e1
      · simp at e2
  · rcases g3 with ⟨e1, e2, rfl⟩ | ⟨_, rfl⟩
    · rcases e with rfl | rfl
      · simp at e1
      · simp at e2
    · rfl
/-- every channel of the way is open -/
def OpenZ (os : List Bool) (zs : List Int) : Prop := ∀ k, k + 1 < zs.length → os.getD (max (zs.getD k 0) (zs.getD (k + 1) 0)).toNat false = true
/-- b can be reached from a -/
def ReachP (xs : List DNode) (os : List Bool) (a b : Int) : Prop := GuardP xs os ∧ ∃ zs, BtwIs xs a b zs ∧ 1 ≤ zs.length ∧ OpenZ os zs
theorem reach_iff {xs : List DNode} {os : List Bool} {a b : Int} {zs : List Int} (h : BtwIs xs a b zs) : ReachP xs os a b ↔ GuardP xs os ∧ 1 ≤ zs.length ∧ OpenZ os zs := by
  constructor
  · rintro ⟨h1, ys, h2, h3⟩
    obtain rfl := btwIs_one h h2
    exact ⟨h1, h3⟩
  · exact fun q => ⟨q.1, zs, h, q.2⟩
theorem btwIs_step {xs : List DNode} {a b : Int} {zs : List Int} (h : BtwIs xs a b zs) {k : Nat} (hk : k + 1 < zs.length) : DownP xs (zs.getD k 0) (zs.getD (k + 1) 0) ∨ DownP xs (zs.getD (k + 1) 0) (zs.getD k 0) := by
  obtain ⟨x, y, hx, hy, h⟩ := h
  rcases h with ⟨h1, h2, rfl⟩ | ⟨_, rfl⟩
  · rcases hx with ⟨n, rfl, ht, hn, rfl⟩ | ⟨_, rfl⟩
    · rcases hy with ⟨m, rfl, _, hm, rfl⟩ | ⟨_, rfl⟩
      · exact btw_step ht hn hm hk
      · simp at h2
    · simp at h1
  · simp at hk
theorem btwIs_node {xs : List DNode} {a b : Int} {zs : List Int} (h : BtwIs xs a b zs) : 1 ≤ zs.length ↔ NodeP xs a ∧ NodeP xs b := by
  obtain ⟨x, y, hx, hy, h⟩ := h
  rw [pthIs_node hx, pthIs_node hy]
  rcases h with ⟨h1, h2, rfl⟩ | ⟨h, rfl⟩
  · refine ⟨fun _ => ⟨h1, h2⟩, fun _ => ?_⟩
    obtain ⟨n1, _, _⟩ := lcp_le x y
    rw [btwL_len]; omega
  · refine ⟨fun q => absurd q (by simp), fun q => ?_⟩
    rcases h with rfl | rfl
    · simp at q
    · simp at q

set_option maxRecDepth 8000 in
set_option maxHeartbeats 4000000 in
theorem specReach (W : World) (v u : Value) (xs : List DNode) (os : List Bool) (a b : Int) (H : RdL shNode W v xs) (Hs : RdL shB W u os) (hl : szL shNode xs ≤ 1048576) (hls : szL shB os ≤ 1048576) : Calls Try.prog 90 #[v, vGuard u, .int .i64 a, .int .i64 b] W (BPost (ReachP xs os a b) W) := by
  obtain ⟨zs, hzs⟩ := btwIs_ex xs a b
  have HZS := Lib.hid hzs
  have hzl := btwIs_len hzs
  clear hzs
  have HT := Lib.hid H
  have HS := Lib.hid Hs
  have HL := Lib.hid hl
  have HLS := Lib.hid hls
  have hlx : xs.length ≤ 1048576 := by have := szL_len shNode xs; omega
  rw [szL_B] at hls
  obtain ⟨a0, c0, rfl, hcap, hi⟩ := rdN_in H
  obtain ⟨a1, cap1, rfl, hcap1, hi1⟩ := rdB_in Hs
  have HA := Lib.hid hi
  have HA1 := Lib.hid hi1
  obtain ⟨n0, hn0⟩ : ∃ len, len = xs.length := ⟨_, rfl⟩
  obtain ⟨len1, hlen1⟩ : ∃ len, len = os.length := ⟨_, rfl⟩
  have HE := Lib.hid hn0
  have HE1 := Lib.hid hlen1
  unfold RdN at HA
  unfold RdB at HA1
  rw [← hn0] at hlx HT HA ⊢
  rw [← hlen1] at hls HS HA1 ⊢
  clear H Hs hi hi1 hn0 hlen1 hl hcap hcap1
  unfold vGuard
  by_cases hg : GuardP xs os
  rotate_left
  · have HG_ := Lib.hid hg
    clear hg
    go_enter Try.func90, Try.ntmps90
    have rA1_ := Lib.hid (show ((W.alloc (.cells #[.slice a1 len1 cap1] 53))).heap[W.heap.size]? = some (.cells #[.slice a1 len1 cap1] 53 (0, 0)) from by exact heap_alloc_new _ _)
    have G2_ := Lib.hid (show (W).grownBy ((W.alloc (.cells #[.slice a1 len1 cap1] 53))) none from (gby_alloc (gby_refl _ _) _))
    have A_0_ : ((W.alloc (.cells #[.slice a1 len1 cap1] 53))).cell? ⟨W.heap.size, 0, none⟩ = some (.slice a1 len1 cap1) := cell_of_row _ _ 0 _ _ _ rA1_.out
    go_wp2_with fail
    go_at_call 121
    refine (specBtw_any _ _ xs a b (HT.out.grow G2_.out) HL.out zs HZS.out).mono ?_
    rintro e w1 ⟨vz, rfl, o, g⟩
    have szw1 := g.size
    try simp only [World.size_alloc] at szw1
    clear A_0_
    have rA3_ := Lib.hid (show (w1).heap[W.heap.size]? = some (.cells #[.slice a1 len1 cap1] 53 (0, 0)) from row_held g rA1_.out)
    clear rA1_
    have G4_ := Lib.hid (show (W).grownBy (w1) none from gby_trans G2_.out g)
    clear g
    obtain ⟨pz, cz, rfl, hcz, hiz⟩ := rdI1_in (OwU.rd o)
    have HIZ := Lib.hid hiz
    clear hiz hcz o
    generalize hnz : zs.length = nz at *
    have HNZ := Lib.hid hnz
    clear hnz
    have A_0_ : (w1).cell? ⟨W.heap.size, 0, none⟩ = some (.slice a1 len1 cap1) := cell_of_row _ _ 0 _ _ _ rA3_.out
    have HTP5_ := Lib.hid (gby_refl (w1) none)
    have MG6_ := Lib.hid (show (W).grownBy (w1) none from G4_.out)
    have MR7_ := Lib.hid rA3_.out
    go_wp2_with fail
    go_at_call 89
    refine (((specGuard _ _ _ xs os (HT.out.grow G4_.out) (HS.out.grow G4_.out) HL.out HLS.out).mono (bpost_no HG_.out))).mono ?_
    rintro e w2 ⟨rfl, g⟩
    have szw2 := g.size
    try simp only [World.size_alloc] at szw2
    try simp only [World.size_setCell] at szw2
    clear A_0_
    have rA8_ := Lib.hid (show (w2).heap[W.heap.size]? = some (.cells #[.slice a1 len1 cap1] 53 (0, 0)) from row_held g rA3_.out)
    clear rA3_
    have G9_ := Lib.hid (show (W).grownBy (w2) none from gby_trans G4_.out g)
    have HTP10_ := Lib.hid (show (w1).grownBy (w2) none from gby_trans HTP5_.out g)
    clear HTP5_
    clear g
    have A_0_ : (w2).cell? ⟨W.heap.size, 0, none⟩ = some (.slice a1 len1 cap1) := cell_of_row _ _ 0 _ _ _ rA8_.out
    go_wp2
    go_ret
    exact ⟨false, rfl, iff_no (fun q => HG_.out q.1), G9_.out⟩
  have HG_ := Lib.hid hg
  clear hg
  by_cases hz1 : zs.length = 0
  · have HZ1 := Lib.hid hz1
    go_enter Try.func90, Try.ntmps90
    have rA1_ := Lib.hid (show ((W.alloc (.cells #[.slice a1 len1 cap1] 53))).heap[W.heap.size]? = some (.cells #[.slice a1 len1 cap1] 53 (0, 0)) from by exact heap_alloc_new _ _)
    have G2_ := Lib.hid (show (W).grownBy ((W.alloc (.cells #[.slice a1 len1 cap1] 53))) none from (gby_alloc (gby_refl _ _) _))
    have A_0_ : ((W.alloc (.cells #[.slice a1 len1 cap1] 53))).cell? ⟨W.heap.size, 0, none⟩ = some (.slice a1 len1 cap1) := cell_of_row _ _ 0 _ _ _ rA1_.out
    go_wp2_with fail
    go_at_call 121
    refine (specBtw_any _ _ xs a b (HT.out.grow G2_.out) HL.out zs HZS.out).mono ?_
    rintro e w1 ⟨vz, rfl, o, g⟩
    have szw1 := g.size
    try simp only [World.size_alloc] at szw1
    clear A_0_
    have rA3_ := Lib.hid (show (w1).heap[W.heap.size]? = some (.cells #[.slice a1 len1 cap1] 53 (0, 0)) from row_held g rA1_.out)
    clear rA1_
    have G4_ := Lib.hid (show (W).grownBy (w1) none from gby_trans G2_.out g)
    clear g
    obtain ⟨pz, cz, rfl, hcz, hiz⟩ := rdI1_in (OwU.rd o)
    have HIZ := Lib.hid hiz
    clear hiz hcz o
    generalize hnz : zs.length = nz at *
    have HNZ := Lib.hid hnz
    clear hnz
    have A_0_ : (w1).cell? ⟨W.heap.size, 0, none⟩ = some (.slice a1 len1 cap1) := cell_of_row _ _ 0 _ _ _ rA3_.out
    have HTP5_ := Lib.hid (gby_refl (w1) none)
    have MG6_ := Lib.hid (show (W).grownBy (w1) none from G4_.out)
    have MR7_ := Lib.hid rA3_.out
    have hb : ((nz : Int) == 0) = true := by simp; omega
    go_wp2_with fail
    go_at_call 89
    refine (((specGuard _ _ _ xs os (HT.out.grow G4_.out) (HS.out.grow G4_.out) HL.out HLS.out).mono (bpost_yes HG_.out))).mono ?_
    rintro e w2 ⟨rfl, g⟩
    have szw2 := g.size
    try simp only [World.size_alloc] at szw2
    try simp only [World.size_setCell] at szw2
    clear A_0_
    have rA8_ := Lib.hid (show (w2).heap[W.heap.size]? = some (.cells #[.slice a1 len1 cap1] 53 (0, 0)) from row_held g rA3_.out)
    clear rA3_
    have G9_ := Lib.hid (show (W).grownBy (w2) none from gby_trans G4_.out g)
    have HTP10_ := Lib.hid (show (w1).grownBy (w2) none from gby_trans HTP5_.out g)
    clear HTP5_
    clear g
    have A_0_ : (w2).cell? ⟨W.heap.size, 0, none⟩ = some (.slice a1 len1 cap1) := cell_of_row _ _ 0 _ _ _ rA8_.out
    go_wp2
    go_ret
    exact ⟨false, rfl, iff_no (fun q => by have := ((reach_iff HZS.out).1 q).2.1; have := HZ1.out; have := HNZ.out; omega), G9_.out⟩
  have HTO := HG_.out.1
  obtain ⟨b2, off, rfl, hcell⟩ := HA.out.resolve_left (by have := HG_.out.1.1; have := HE.out; omega)
  have HC := Lib.hid hcell
  obtain ⟨b1, off1, rfl, hcell1⟩ := HA1.out.resolve_left (by have := HG_.out.1.1; have := HG_.out.2.1; have := HE1.out; omega)
  have HOC : Hid (∀ k, k < len1 → W.cell? ⟨b1, off1 + k, none⟩ = some (.bool (os.getD k false))) := Lib.hid (fun k hk => hcell1 k (by have := HE1.out; omega))
  clear hcell hcell1 HTO
  go_enter Try.func90, Try.ntmps90
  have rA1_ := Lib.hid (show ((W.alloc (.cells #[.slice (some ⟨b1, off1, none⟩) len1 cap1] 53))).heap[W.heap.size]? = some (.cells #[.slice (some ⟨b1, off1, none⟩) len1 cap1] 53 (0, 0)) from by exact heap_alloc_new _ _)
  have G2_ := Lib.hid (show (W).grownBy ((W.alloc (.cells #[.slice (some ⟨b1, off1, none⟩) len1 cap1] 53))) none from (gby_alloc (gby_refl _ _) _))
  have A_0_ : ((W.alloc (.cells #[.slice (some ⟨b1, off1, none⟩) len1 cap1] 53))).cell? ⟨W.heap.size, 0, none⟩ = some (.slice (some ⟨b1, off1, none⟩) len1 cap1) := cell_of_row _ _ 0 _ _ _ rA1_.out
  go_wp2_with fail
  go_at_call 121
  refine (specBtw_any _ _ xs a b (HT.out.grow G2_.out) HL.out zs HZS.out).mono ?_
  rintro e w1 ⟨vz, rfl, o, g⟩
  have szw1 := g.size
  try simp only [World.size_alloc] at szw1
  clear A_0_
  have rA3_ := Lib.hid (show (w1).heap[W.heap.size]? = some (.cells #[.slice (some ⟨b1, off1, none⟩) len1 cap1] 53 (0, 0)) from row_held g rA1_.out)
  clear rA1_
  have G4_ := Lib.hid (show (W).grownBy (w1) none from gby_trans G2_.out g)
  clear g
  obtain ⟨pz, cz, rfl, hcz, hiz⟩ := rdI1_in (OwU.rd o)
  have HIZ := Lib.hid hiz
  clear hiz hcz o
  generalize hnz : zs.length = nz at *
  have HNZ := Lib.hid hnz
  clear hnz
  have A_0_ : (w1).cell? ⟨W.heap.size, 0, none⟩ = some (.slice (some ⟨b1, off1, none⟩) len1 cap1) := cell_of_row _ _ 0 _ _ _ rA3_.out
  have HTP5_ := Lib.hid (gby_refl (w1) none)
  have MG6_ := Lib.hid (show (W).grownBy (w1) none from G4_.out)
  have MR7_ := Lib.hid rA3_.out
  have hb : ((nz : Int) == 0) = false := by simp; omega
  have hb2 : ¬ nz = 0 := by omega
  go_wp2_with fail
  go_at_call 89
  refine (((specGuard _ _ _ xs os (HT.out.grow G4_.out) (HS.out.grow G4_.out) HL.out HLS.out).mono (bpost_yes HG_.out))).mono ?_
  rintro e w2 ⟨rfl, g⟩
  have szw2 := g.size
  try simp only [World.size_alloc] at szw2
  try simp only [World.size_setCell] at szw2
  clear A_0_
  have rA8_ := Lib.hid (show (w2).heap[W.heap.size]? = some (.cells #[.slice (some ⟨b1, off1, none⟩) len1 cap1] 53 (0, 0)) from row_held g rA3_.out)
  clear rA3_
  have G9_ := Lib.hid (show (W).grownBy (w2) none from gby_trans G4_.out g)
  have HTP10_ := Lib.hid (show (w1).grownBy (w2) none from gby_trans HTP5_.out g)
  clear HTP5_
  clear g
  have A_0_ : (w2).cell? ⟨W.heap.size, 0, none⟩ = some (.slice (some ⟨b1, off1, none⟩) len1 cap1) := cell_of_row _ _ 0 _ _ _ rA8_.out
  obtain ⟨bz, oz, rfl, hzc⟩ := HIZ.out.resolve_left (by have := HNZ.out; omega)
  have HZC := Lib.hid (fun k (hk : k < nz) => hzc k (by rw [HNZ.out]; exact hk))
  clear hzc HIZ
  go_wp2
  go_loopw [10, 11] (fun i z wr => ∃ n : Nat, i = .int .i64 (n : Int) ∧ n + 1 ≤ nz ∧ (∃ q, z = q) ∧ (∀ j, j < n → os.getD (max (zs.getD j 0) (zs.getD (j + 1) 0)).toNat false = true) ∧ (w2).grownBy wr none) (fun i _ _ => nz + 1 - (intOf i).toNat)
  case atStart => exact ⟨0, rfl, by omega, ⟨_, rfl⟩, fun j hj => absurd hj (Nat.not_lt_zero _), gby_refl _ _⟩
  case round =>
    clear A_0_
    obtain ⟨n, rfl, hn, ⟨z, rfl⟩, hj, hg⟩ := hrel
    have szrwr := hg.size
    try simp only [World.size_alloc] at szrwr
    try simp only [World.size_setCell] at szrwr
    have szr_ := szrwr
    have rA11_ := Lib.hid (show (wr).heap[W.heap.size]? = some (.cells #[.slice (some ⟨b1, off1, none⟩) len1 cap1] 53 (0, 0)) from row_held hg rA8_.out)
    clear rA8_
    have G12_ := Lib.hid (show (W).grownBy (wr) none from gby_trans G9_.out hg)
    have HTP13_ := Lib.hid (show (w1).grownBy (wr) none from gby_trans HTP10_.out hg)
    clear HTP10_
    have HTB_ := Lib.hid hg
    clear hg
    have A_0_ : (wr).cell? ⟨W.heap.size, 0, none⟩ = some (.slice (some ⟨b1, off1, none⟩) len1 cap1) := cell_of_row _ _ 0 _ _ _ rA11_.out
    have HJ := Lib.hid hj
    clear hj
    have hn0 : (0 : Int) ≤ (n : Int) := by omega
    have htn : ((n : Int)).toNat = n := by omega
    have htn1 : ((n : Int) + 1).toNat = n + 1 := by omega
    have hw1 : IntKind.i64.wrap ((n : Int) + 1) = (n : Int) + 1 := IntWalk.i64_in _ (by omega)
    by_cases hlt : n + 1 < nz
    rotate_left
    · have hki : ¬ (n : Int) + 1 < (nz : Int) := by omega
      have hki2 : ¬ ((n + 1 : Nat) : Int) < (nz : Int) := by omega
      go_wp2
      go_ret
      exact ⟨true, rfl, iff_yes ((reach_iff HZS.out).2 ⟨HG_.out, by have := HNZ.out; omega, fun k hk => HJ.out k (by have := HNZ.out; omega)⟩), G12_.out⟩
    have hki : (n : Int) + 1 < (nz : Int) := by omega
    have hki2 : ((n + 1 : Nat) : Int) < (nz : Int) := by omega
    have hki3 : (n : Int) < (nz : Int) := by omega
    have hst := btwIs_step HZS.out (k := n) (by rw [HNZ.out]; exact hlt)
    obtain ⟨u, hu⟩ : ∃ u, u = zs.getD n 0 := ⟨_, rfl⟩
    obtain ⟨w, hw⟩ : ∃ w, w = zs.getD (n + 1) 0 := ⟨_, rfl⟩
    have hcu := HZC.out n (by omega)
    have hcw := HZC.out (n + 1) hlt
    rw [← hu] at hcu hst
    rw [← hw] at hcw hst
    have HU := Lib.hid hu
    have HW := Lib.hid hw
    have HCU := Lib.hid hcu
    have HCW := Lib.hid hcw
    clear hu hw hcu hcw
    rcases hst with ⟨m, rfl, m1, m2, hpu⟩ | ⟨m, rfl, m1, m2, hpu⟩
    · skip
      have hmx : max u (m : Int) = (m : Int) := by have := par_lt HG_.out.1 m1 m2; omega
      have hpl : par xs m < m := par_lt HG_.out.1 m1 m2
      obtain ⟨p, hp⟩ : ∃ p, p = par xs m := ⟨_, rfl⟩
      rw [← hp] at hpl hpu
      subst hpu
      have HPM := Lib.hid hp
      clear hp
      have hmi : (m : Int) < (n0 : Int) := by have := HE.out; omega
      have hm0 : (0 : Int) ≤ (m : Int) := by omega
      have htm : ((m : Int)).toNat = m := by omega
      have hpi : (p : Int) < (n0 : Int) := by omega
      have hp0 : (0 : Int) ≤ (p : Int) := by omega
      have htp : ((p : Int)).toNat = p := by omega
      have hlpm : (p : Int) < (m : Int) := by omega
      have hlpm2 : ¬ (m : Int) < (p : Int) := by omega
      have HMX := Lib.hid hmx
      clear hmx
      have hnc : Hid (W.cell? ⟨b2, off + m * 3, none⟩ = some (.int .i64 (p : Int))) := Lib.hid (by have := (HC.out m (by omega)).1; rw [par_eq HG_.out.1 m1 m2, ← HPM.out] at this; exact this)
      have hbq : ((p : Int) == (p : Int)) = true := by simp
      have hml : m < len1 := by have := HG_.out.2.1; have := HE.out; have := HE1.out; omega
      have hmi1 : (m : Int) < (len1 : Int) := by omega
      obtain ⟨o, ho⟩ : ∃ o, o = os.getD m false := ⟨_, rfl⟩
      have hoc := HOC.out m hml
      rw [← ho] at hoc
      have HO := Lib.hid ho
      have HOCm := Lib.hid hoc
      clear ho hoc
      have zu_ := (HTP13_.out).cell HCU.out (by simp)
      have zw_ := (HTP13_.out).cell HCW.out (by simp)
      have nc_ := (G12_.out).cell hnc.out (by simp)
      have oc_ := (G12_.out).cell HOCm.out (by simp)
      cases o
      · skip
        go_wp2_with fail
        go_quiet (fail)
        go_wp2
        go_ret
        exact ⟨false, rfl, iff_no (fun q => by have := ((reach_iff HZS.out).1 q).2.2 n (by rw [HNZ.out]; exact hlt); rw [← HU.out, ← HW.out, HMX.out, htm, ← HO.out] at this; cases this), by repeat (first | exact G12_.out | with_reducible refine gby_drewN ?_ _)⟩
      · skip
        go_wp2_with fail
        go_quiet (fail)
        go_wp2
        refine ⟨⟨n + 1, by go_num, by omega, ⟨_, rfl⟩, fun j hj => ?_, by repeat (first | exact HTB_.out | with_reducible refine gby_drewN ?_ _)⟩, by simp [intOf]; omega⟩
        by_cases e : j = n
        · subst e; rw [← HU.out, ← HW.out, HMX.out, htm]; exact HO.out.symm
        · exact HJ.out j (by omega)
    · skip
      have hmx : max (m : Int) w = (m : Int) := by have := par_lt HG_.out.1 m1 m2; omega
      have hpl : par xs m < m := par_lt HG_.out.1 m1 m2
      obtain ⟨p, hp⟩ : ∃ p, p = par xs m := ⟨_, rfl⟩
      rw [← hp] at hpl hpu
      subst hpu
      have HPM := Lib.hid hp
      clear hp
      have hmi : (m : Int) < (n0 : Int) := by have := HE.out; omega
      have hm0 : (0 : Int) ≤ (m : Int) := by omega
      have htm : ((m : Int)).toNat = m := by omega
      have hpi : (p : Int) < (n0 : Int) := by omega
      have hp0 : (0 : Int) ≤ (p : Int) := by omega
      have htp : ((p : Int)).toNat = p := by omega
      have hlpm : (p : Int) < (m : Int) := by omega
      have hlpm2 : ¬ (m : Int) < (p : Int) := by omega
      have HMX := Lib.hid hmx
      clear hmx
      obtain ⟨r, hr⟩ : ∃ r, r = (nd xs p).f0 := ⟨_, rfl⟩
      have hnc : Hid (W.cell? ⟨b2, off + p * 3, none⟩ = some (.int .i64 r)) := Lib.hid (by rw [hr]; exact (HC.out p (by omega)).1)
      have hrm : ¬ r = (m : Int) := by
        rw [hr]
        by_cases p0 : p = 0
        · rw [p0, HG_.out.1.2.1.1]; omega
        · rw [par_eq HG_.out.1 (by omega) (by have := HE.out; omega)]
          have := par_lt HG_.out.1 (k := p) (by omega) (by have := HE.out; omega)
          omega
      have hbq : (r == (m : Int)) = false := by simpa using hrm
      clear hr hrm
      have hml : m < len1 := by have := HG_.out.2.1; have := HE.out; have := HE1.out; omega
      have hmi1 : (m : Int) < (len1 : Int) := by omega
      obtain ⟨o, ho⟩ : ∃ o, o = os.getD m false := ⟨_, rfl⟩
      have hoc := HOC.out m hml
      rw [← ho] at hoc
      have HO := Lib.hid ho
      have HOCm := Lib.hid hoc
      clear ho hoc
      have zu_ := (HTP13_.out).cell HCU.out (by simp)
      have zw_ := (HTP13_.out).cell HCW.out (by simp)
      have nc_ := (G12_.out).cell hnc.out (by simp)
      have oc_ := (G12_.out).cell HOCm.out (by simp)
      cases o
      · skip
        go_wp2_with fail
        go_quiet (fail)
        go_wp2
        go_ret
        exact ⟨false, rfl, iff_no (fun q => by have := ((reach_iff HZS.out).1 q).2.2 n (by rw [HNZ.out]; exact hlt); rw [← HU.out, ← HW.out, HMX.out, htm, ← HO.out] at this; cases this), by repeat (first | exact G12_.out | with_reducible refine gby_drewN ?_ _)⟩
      · skip
        go_wp2_with fail
        go_quiet (fail)
        go_wp2
        refine ⟨⟨n + 1, by go_num, by omega, ⟨_, rfl⟩, fun j hj => ?_, by repeat (first | exact HTB_.out | with_reducible refine gby_drewN ?_ _)⟩, by simp [intOf]; omega⟩
        by_cases e : j = n
        · subst e; rw [← HU.out, ← HW.out, HMX.out, htm]; exact HO.out.symm
        · exact HJ.out j (by omega)

set_option maxRecDepth 8000 in
set_option maxHeartbeats 4000000 in
theorem implReach (W : World) (v u : Value) (xs : List DNode) (os : List Bool) (a b : Int) (H : RdL shNode W v xs) (Hs : RdL shB W u os) (hl : szL shNode xs ≤ 1048576) (hls : szL shB os ≤ 1048576) : Calls Try.prog 54 #[v, vGuard u, .int .i64 a, .int .i64 b] W (BPost (ReachP xs os a b) W) := by
  obtain ⟨zs, hzs⟩ := btwIs_ex xs a b
  have HZS := Lib.hid hzs
  have hzl := btwIs_len hzs
  clear hzs
  have HT := Lib.hid H
  have HS := Lib.hid Hs
  have HL := Lib.hid hl
  have HLS := Lib.hid hls
  have hlx : xs.length ≤ 1048576 := by have := szL_len shNode xs; omega
  rw [szL_B] at hls
  obtain ⟨a0, c0, rfl, hcap, hi⟩ := rdN_in H
  obtain ⟨a1, cap1, rfl, hcap1, hi1⟩ := rdB_in Hs
  have HA := Lib.hid hi
  have HA1 := Lib.hid hi1
  obtain ⟨n0, hn0⟩ : ∃ len, len = xs.length := ⟨_, rfl⟩
  obtain ⟨len1, hlen1⟩ : ∃ len, len = os.length := ⟨_, rfl⟩
  have HE := Lib.hid hn0
  have HE1 := Lib.hid hlen1
  unfold RdN at HA
  unfold RdB at HA1
  rw [← hn0] at hlx HT HA ⊢
  rw [← hlen1] at hls HS HA1 ⊢
  clear H Hs hi hi1 hn0 hlen1 hl hcap hcap1
  unfold vGuard
  by_cases hg : GuardP xs os
  rotate_left
  · have HG_ := Lib.hid hg
    clear hg
    go_enter Try.func54, Try.ntmps54
    have rA1_ := Lib.hid (show ((W.alloc (.cells #[.slice a1 len1 cap1] 53))).heap[W.heap.size]? = some (.cells #[.slice a1 len1 cap1] 53 (0, 0)) from by exact heap_alloc_new _ _)
    have G2_ := Lib.hid (show (W).grownBy ((W.alloc (.cells #[.slice a1 len1 cap1] 53))) none from (gby_alloc (gby_refl _ _) _))
    have A_0_ : ((W.alloc (.cells #[.slice a1 len1 cap1] 53))).cell? ⟨W.heap.size, 0, none⟩ = some (.slice a1 len1 cap1) := cell_of_row _ _ 0 _ _ _ rA1_.out
    go_wp2_with fail
    go_at_call 58
    refine (((implGuard _ _ _ xs os (HT.out.grow G2_.out) (HS.out.grow G2_.out) HL.out HLS.out).mono (bpost_no HG_.out))).mono ?_
    rintro e w1 ⟨rfl, g⟩
    have szw1 := g.size
    try simp only [World.size_alloc] at szw1
    try simp only [World.size_setCell] at szw1
    clear A_0_
    have rA3_ := Lib.hid (show (w1).heap[W.heap.size]? = some (.cells #[.slice a1 len1 cap1] 53 (0, 0)) from row_held g rA1_.out)
    clear rA1_
    have G4_ := Lib.hid (show (W).grownBy (w1) none from gby_trans G2_.out g)
    clear g
    have A_0_ : (w1).cell? ⟨W.heap.size, 0, none⟩ = some (.slice a1 len1 cap1) := cell_of_row _ _ 0 _ _ _ rA3_.out
    go_wp2
    go_ret
    exact ⟨false, rfl, iff_no (fun q => HG_.out q.1), G4_.out⟩
  have HG_ := Lib.hid hg
  clear hg
  by_cases ha : NodeP xs a
  rotate_left
  · have HN_ := Lib.hid ha
    clear ha
    go_enter Try.func54, Try.ntmps54
    have rA1_ := Lib.hid (show ((W.alloc (.cells #[.slice a1 len1 cap1] 53))).heap[W.heap.size]? = some (.cells #[.slice a1 len1 cap1] 53 (0, 0)) from by exact heap_alloc_new _ _)
    have G2_ := Lib.hid (show (W).grownBy ((W.alloc (.cells #[.slice a1 len1 cap1] 53))) none from (gby_alloc (gby_refl _ _) _))
    have A_0_ : ((W.alloc (.cells #[.slice a1 len1 cap1] 53))).cell? ⟨W.heap.size, 0, none⟩ = some (.slice a1 len1 cap1) := cell_of_row _ _ 0 _ _ _ rA1_.out
    go_wp2_with fail
    go_at_call 58
    refine (((implGuard _ _ _ xs os (HT.out.grow G2_.out) (HS.out.grow G2_.out) HL.out HLS.out).mono (bpost_yes HG_.out))).mono ?_
    rintro e w1 ⟨rfl, g⟩
    have szw1 := g.size
    try simp only [World.size_alloc] at szw1
    try simp only [World.size_setCell] at szw1
    clear A_0_
    have rA3_ := Lib.hid (show (w1).heap[W.heap.size]? = some (.cells #[.slice a1 len1 cap1] 53 (0, 0)) from row_held g rA1_.out)
    clear rA1_
    have G4_ := Lib.hid (show (W).grownBy (w1) none from gby_trans G2_.out g)
    clear g
    have A_0_ : (w1).cell? ⟨W.heap.size, 0, none⟩ = some (.slice a1 len1 cap1) := cell_of_row _ _ 0 _ _ _ rA3_.out
    go_wp2_with fail
    go_at_call 87
    refine (implNode_no _ _ xs _ (HT.out.grow G4_.out) HL.out HN_.out).mono ?_
    rintro e w2 ⟨rfl, g⟩
    have szw2 := g.size
    try simp only [World.size_alloc] at szw2
    try simp only [World.size_setCell] at szw2
    clear A_0_
    have rA5_ := Lib.hid (show (w2).heap[W.heap.size]? = some (.cells #[.slice a1 len1 cap1] 53 (0, 0)) from row_held g rA3_.out)
    clear rA3_
    have G6_ := Lib.hid (show (W).grownBy (w2) none from gby_trans G4_.out g)
    clear g
    have A_0_ : (w2).cell? ⟨W.heap.size, 0, none⟩ = some (.slice a1 len1 cap1) := cell_of_row _ _ 0 _ _ _ rA5_.out
    go_wp2
    go_ret
    exact ⟨false, rfl, iff_no (fun q => HN_.out ((btwIs_node HZS.out).1 ((reach_iff HZS.out).1 q).2.1).1), G6_.out⟩
  have HNA := Lib.hid ha
  clear ha
  by_cases hb : NodeP xs b
  rotate_left
  · have HN_ := Lib.hid hb
    clear hb
    go_enter Try.func54, Try.ntmps54
    have rA1_ := Lib.hid (show ((W.alloc (.cells #[.slice a1 len1 cap1] 53))).heap[W.heap.size]? = some (.cells #[.slice a1 len1 cap1] 53 (0, 0)) from by exact heap_alloc_new _ _)
    have G2_ := Lib.hid (show (W).grownBy ((W.alloc (.cells #[.slice a1 len1 cap1] 53))) none from (gby_alloc (gby_refl _ _) _))
    have A_0_ : ((W.alloc (.cells #[.slice a1 len1 cap1] 53))).cell? ⟨W.heap.size, 0, none⟩ = some (.slice a1 len1 cap1) := cell_of_row _ _ 0 _ _ _ rA1_.out
    go_wp2_with fail
    go_at_call 58
    refine (((implGuard _ _ _ xs os (HT.out.grow G2_.out) (HS.out.grow G2_.out) HL.out HLS.out).mono (bpost_yes HG_.out))).mono ?_
    rintro e w1 ⟨rfl, g⟩
    have szw1 := g.size
    try simp only [World.size_alloc] at szw1
    try simp only [World.size_setCell] at szw1
    clear A_0_
    have rA3_ := Lib.hid (show (w1).heap[W.heap.size]? = some (.cells #[.slice a1 len1 cap1] 53 (0, 0)) from row_held g rA1_.out)
    clear rA1_
    have G4_ := Lib.hid (show (W).grownBy (w1) none from gby_trans G2_.out g)
    clear g
    have A_0_ : (w1).cell? ⟨W.heap.size, 0, none⟩ = some (.slice a1 len1 cap1) := cell_of_row _ _ 0 _ _ _ rA3_.out
    go_wp2_with fail
    go_at_call 87
    refine (implNode_yes _ _ xs _ (HT.out.grow G4_.out) HL.out HNA.out).mono ?_
    rintro e w2 ⟨rfl, g⟩
    have szw2 := g.size
    try simp only [World.size_alloc] at szw2
    try simp only [World.size_setCell] at szw2
    clear A_0_
    have rA5_ := Lib.hid (show (w2).heap[W.heap.size]? = some (.cells #[.slice a1 len1 cap1] 53 (0, 0)) from row_held g rA3_.out)
    clear rA3_
    have G6_ := Lib.hid (show (W).grownBy (w2) none from gby_trans G4_.out g)
    clear g
    have A_0_ : (w2).cell? ⟨W.heap.size, 0, none⟩ = some (.slice a1 len1 cap1) := cell_of_row _ _ 0 _ _ _ rA5_.out
    go_wp2_with fail
    go_at_call 87
    refine (implNode_no _ _ xs _ (HT.out.grow G6_.out) HL.out HN_.out).mono ?_
    rintro e w3 ⟨rfl, g⟩
    have szw3 := g.size
    try simp only [World.size_alloc] at szw3
    try simp only [World.size_setCell] at szw3
    clear A_0_
    have rA7_ := Lib.hid (show (w3).heap[W.heap.size]? = some (.cells #[.slice a1 len1 cap1] 53 (0, 0)) from row_held g rA5_.out)
    clear rA5_
    have G8_ := Lib.hid (show (W).grownBy (w3) none from gby_trans G6_.out g)
    clear g
    have A_0_ : (w3).cell? ⟨W.heap.size, 0, none⟩ = some (.slice a1 len1 cap1) := cell_of_row _ _ 0 _ _ _ rA7_.out
    go_wp2
    go_ret
    exact ⟨false, rfl, iff_no (fun q => HN_.out ((btwIs_node HZS.out).1 ((reach_iff HZS.out).1 q).2.1).2), G8_.out⟩
  have HNB := Lib.hid hb
  clear hb
  have hz1 : 1 ≤ zs.length := (btwIs_node HZS.out).2 ⟨HNA.out, HNB.out⟩
  have HTO := HG_.out.1
  obtain ⟨b2, off, rfl, hcell⟩ := HA.out.resolve_left (by have := HG_.out.1.1; have := HE.out; omega)
  have HC := Lib.hid hcell
  obtain ⟨b1, off1, rfl, hcell1⟩ := HA1.out.resolve_left (by have := HG_.out.1.1; have := HG_.out.2.1; have := HE1.out; omega)
  have HOC : Hid (∀ k, k < len1 → W.cell? ⟨b1, off1 + k, none⟩ = some (.bool (os.getD k false))) := Lib.hid (fun k hk => hcell1 k (by have := HE1.out; omega))
  clear hcell hcell1 HTO
  go_enter Try.func54, Try.ntmps54
  have rA1_ := Lib.hid (show ((W.alloc (.cells #[.slice (some ⟨b1, off1, none⟩) len1 cap1] 53))).heap[W.heap.size]? = some (.cells #[.slice (some ⟨b1, off1, none⟩) len1 cap1] 53 (0, 0)) from by exact heap_alloc_new _ _)
  have G2_ := Lib.hid (show (W).grownBy ((W.alloc (.cells #[.slice (some ⟨b1, off1, none⟩) len1 cap1] 53))) none from (gby_alloc (gby_refl _ _) _))
  have A_0_ : ((W.alloc (.cells #[.slice (some ⟨b1, off1, none⟩) len1 cap1] 53))).cell? ⟨W.heap.size, 0, none⟩ = some (.slice (some ⟨b1, off1, none⟩) len1 cap1) := cell_of_row _ _ 0 _ _ _ rA1_.out
  go_wp2_with fail
  go_at_call 58
  refine (((implGuard _ _ _ xs os (HT.out.grow G2_.out) (HS.out.grow G2_.out) HL.out HLS.out).mono (bpost_yes HG_.out))).mono ?_
  rintro e w1 ⟨rfl, g⟩
  have szw1 := g.size
  try simp only [World.size_alloc] at szw1
  try simp only [World.size_setCell] at szw1
  clear A_0_
  have rA3_ := Lib.hid (show (w1).heap[W.heap.size]? = some (.cells #[.slice (some ⟨b1, off1, none⟩) len1 cap1] 53 (0, 0)) from row_held g rA1_.out)
  clear rA1_
  have G4_ := Lib.hid (show (W).grownBy (w1) none from gby_trans G2_.out g)
  clear g
  have A_0_ : (w1).cell? ⟨W.heap.size, 0, none⟩ = some (.slice (some ⟨b1, off1, none⟩) len1 cap1) := cell_of_row _ _ 0 _ _ _ rA3_.out
  go_wp2_with fail
  go_at_call 87
  refine (implNode_yes _ _ xs _ (HT.out.grow G4_.out) HL.out HNA.out).mono ?_
  rintro e w2 ⟨rfl, g⟩
  have szw2 := g.size
  try simp only [World.size_alloc] at szw2
  try simp only [World.size_setCell] at szw2
  clear A_0_
  have rA5_ := Lib.hid (show (w2).heap[W.heap.size]? = some (.cells #[.slice (some ⟨b1, off1, none⟩) len1 cap1] 53 (0, 0)) from row_held g rA3_.out)
  clear rA3_
  have G6_ := Lib.hid (show (W).grownBy (w2) none from gby_trans G4_.out g)
  clear g
  have A_0_ : (w2).cell? ⟨W.heap.size, 0, none⟩ = some (.slice (some ⟨b1, off1, none⟩) len1 cap1) := cell_of_row _ _ 0 _ _ _ rA5_.out
  go_wp2_with fail
  go_at_call 87
  refine (implNode_yes _ _ xs _ (HT.out.grow G6_.out) HL.out HNB.out).mono ?_
  rintro e w3 ⟨rfl, g⟩
  have szw3 := g.size
  try simp only [World.size_alloc] at szw3
  try simp only [World.size_setCell] at szw3
  clear A_0_
  have rA7_ := Lib.hid (show (w3).heap[W.heap.size]? = some (.cells #[.slice (some ⟨b1, off1, none⟩) len1 cap1] 53 (0, 0)) from row_held g rA5_.out)
  clear rA5_
  have G8_ := Lib.hid (show (W).grownBy (w3) none from gby_trans G6_.out g)
  clear g
  have A_0_ : (w3).cell? ⟨W.heap.size, 0, none⟩ = some (.slice (some ⟨b1, off1, none⟩) len1 cap1) := cell_of_row _ _ 0 _ _ _ rA7_.out
  go_wp2_with fail
  go_at_call 101
  refine (implBtw_any _ _ xs a b (HT.out.grow G8_.out) HL.out zs HZS.out).mono ?_
  rintro e w4 ⟨vz, rfl, o, g⟩
  have szw4 := g.size
  try simp only [World.size_alloc] at szw4
  clear A_0_
  have rA9_ := Lib.hid (show (w4).heap[W.heap.size]? = some (.cells #[.slice (some ⟨b1, off1, none⟩) len1 cap1] 53 (0, 0)) from row_held g rA7_.out)
  clear rA7_
  have G10_ := Lib.hid (show (W).grownBy (w4) none from gby_trans G8_.out g)
  clear g
  obtain ⟨pz, cz, rfl, hcz, hiz⟩ := rdI1_in (OwU.rd o)
  have HIZ := Lib.hid hiz
  clear hiz hcz o
  generalize hnz : zs.length = nz at *
  have HNZ := Lib.hid hnz
  clear hnz
  have A_0_ : (w4).cell? ⟨W.heap.size, 0, none⟩ = some (.slice (some ⟨b1, off1, none⟩) len1 cap1) := cell_of_row _ _ 0 _ _ _ rA9_.out
  have HTP11_ := Lib.hid (gby_refl (w4) none)
  have MG12_ := Lib.hid (show (W).grownBy (w4) none from G10_.out)
  have MR13_ := Lib.hid rA9_.out
  obtain ⟨bz, oz, rfl, hzc⟩ := HIZ.out.resolve_left (by have := HNZ.out; omega)
  have HZC := Lib.hid (fun k (hk : k < nz) => hzc k (by rw [HNZ.out]; exact hk))
  clear hzc HIZ
  go_wp2
  go_loopw [10, 11] (fun i z wr => ∃ n : Nat, i = .int .i64 ((n + 1 : Nat) : Int) ∧ n + 1 ≤ nz ∧ (∃ q, z = q) ∧ (∀ j, j < n → os.getD (max (zs.getD j 0) (zs.getD (j + 1) 0)).toNat false = true) ∧ (w4).grownBy wr none) (fun i _ _ => nz + 1 - (intOf i).toNat)
  case atStart => exact ⟨0, rfl, by omega, ⟨_, rfl⟩, fun j hj => absurd hj (Nat.not_lt_zero _), gby_refl _ _⟩
  case round =>
    clear A_0_
    obtain ⟨n, rfl, hn, ⟨z, rfl⟩, hj, hg⟩ := hrel
    have szrwr := hg.size
    try simp only [World.size_alloc] at szrwr
    try simp only [World.size_setCell] at szrwr
    have szr_ := szrwr
    have rA14_ := Lib.hid (show (wr).heap[W.heap.size]? = some (.cells #[.slice (some ⟨b1, off1, none⟩) len1 cap1] 53 (0, 0)) from row_held hg rA9_.out)
    clear rA9_
    have G15_ := Lib.hid (show (W).grownBy (wr) none from gby_trans G10_.out hg)
    have HTP16_ := Lib.hid (show (w4).grownBy (wr) none from gby_trans HTP11_.out hg)
    clear HTP11_
    have HTB_ := Lib.hid hg
    clear hg
    have A_0_ : (wr).cell? ⟨W.heap.size, 0, none⟩ = some (.slice (some ⟨b1, off1, none⟩) len1 cap1) := cell_of_row _ _ 0 _ _ _ rA14_.out
    have HJ := Lib.hid hj
    clear hj
    have hn0 : (0 : Int) ≤ (n : Int) := by omega
    have htn : ((n : Int)).toNat = n := by omega
    have htn1 : ((n : Int) + 1).toNat = n + 1 := by omega
    have hw1 : IntKind.i64.wrap ((n : Int) + 1) = (n : Int) + 1 := IntWalk.i64_in _ (by omega)
    have hw0 : IntKind.i64.wrap (((n + 1 : Nat) : Int) - 1) = (n : Int) := by rw [show ((n + 1 : Nat) : Int) - 1 = (n : Int) by omega]; exact IntWalk.i64_in _ (by omega)
    have hw2 : ((n + 1 : Nat) : Int) - 1 = (n : Int) := by omega
    have hw3 : (((n + 1 : Nat) : Int)).toNat = n + 1 := by omega
    have hw4 : (n : Int) + 1 - 1 = (n : Int) := by omega
    by_cases hlt : n + 1 < nz
    rotate_left
    · have hki : ¬ (n : Int) + 1 < (nz : Int) := by omega
      have hki2 : ¬ ((n + 1 : Nat) : Int) < (nz : Int) := by omega
      go_wp2
      go_ret
      exact ⟨true, rfl, iff_yes ((reach_iff HZS.out).2 ⟨HG_.out, by have := HNZ.out; omega, fun k hk => HJ.out k (by have := HNZ.out; omega)⟩), G15_.out⟩
    have hki : (n : Int) + 1 < (nz : Int) := by omega
    have hki2 : ((n + 1 : Nat) : Int) < (nz : Int) := by omega
    have hki3 : (n : Int) < (nz : Int) := by omega
    have hst := btwIs_step HZS.out (k := n) (by rw [HNZ.out]; exact hlt)
    obtain ⟨u, hu⟩ : ∃ u, u = zs.getD n 0 := ⟨_, rfl⟩
    obtain ⟨w, hw⟩ : ∃ w, w = zs.getD (n + 1) 0 := ⟨_, rfl⟩
    have hcu := HZC.out n (by omega)
    have hcw := HZC.out (n + 1) hlt
    rw [← hu] at hcu hst
    rw [← hw] at hcw hst
    have HU := Lib.hid hu
    have HW := Lib.hid hw
    have HCU := Lib.hid hcu
    have HCW := Lib.hid hcw
    clear hu hw hcu hcw
    rcases hst with ⟨m, rfl, m1, m2, hpu⟩ | ⟨m, rfl, m1, m2, hpu⟩
    · skip
      have hmx : max u (m : Int) = (m : Int) := by have := par_lt HG_.out.1 m1 m2; omega
      have hpl : par xs m < m := par_lt HG_.out.1 m1 m2
      obtain ⟨p, hp⟩ : ∃ p, p = par xs m := ⟨_, rfl⟩
      rw [← hp] at hpl hpu
      subst hpu
      have HPM := Lib.hid hp
      clear hp
      have hmi : (m : Int) < (n0 : Int) := by have := HE.out; omega
      have hm0 : (0 : Int) ≤ (m : Int) := by omega
      have htm : ((m : Int)).toNat = m := by omega
      have hpi : (p : Int) < (n0 : Int) := by omega
      have hp0 : (0 : Int) ≤ (p : Int) := by omega
      have htp : ((p : Int)).toNat = p := by omega
      have hlpm : (p : Int) < (m : Int) := by omega
      have hlpm2 : ¬ (m : Int) < (p : Int) := by omega
      have HMX := Lib.hid hmx
      have hml : m < len1 := by have := HG_.out.2.1; have := HE.out; have := HE1.out; omega
      have hmi1 : (m : Int) < (len1 : Int) := by omega
      obtain ⟨o, ho⟩ : ∃ o, o = os.getD m false := ⟨_, rfl⟩
      have hoc := HOC.out m hml
      rw [← ho] at hoc
      have HO := Lib.hid ho
      have HOCm := Lib.hid hoc
      clear ho hoc
      have zu_ := (HTP16_.out).cell HCU.out (by simp)
      have zw_ := (HTP16_.out).cell HCW.out (by simp)
      have oc_ := (G15_.out).cell HOCm.out (by simp)
      cases o
      · skip
        go_wp2_with fail
        go_quiet (fail)
        go_wp2
        go_ret
        exact ⟨false, rfl, iff_no (fun q => by have := ((reach_iff HZS.out).1 q).2.2 n (by rw [HNZ.out]; exact hlt); rw [← HU.out, ← HW.out, HMX.out, htm, ← HO.out] at this; cases this), by repeat (first | exact G15_.out | with_reducible refine gby_drewN ?_ _)⟩
      · skip
        go_wp2_with fail
        go_quiet (fail)
        go_wp2
        refine ⟨⟨n + 1, by go_num, by omega, ⟨_, rfl⟩, fun j hj => ?_, by repeat (first | exact HTB_.out | with_reducible refine gby_drewN ?_ _)⟩, by simp [intOf]; omega⟩
        by_cases e : j = n
        · subst e; rw [← HU.out, ← HW.out, HMX.out, htm]; exact HO.out.symm
        · exact HJ.out j (by omega)
    · skip
      have hmx : max (m : Int) w = (m : Int) := by have := par_lt HG_.out.1 m1 m2; omega
      have hpl : par xs m < m := par_lt HG_.out.1 m1 m2
      obtain ⟨p, hp⟩ : ∃ p, p = par xs m := ⟨_, rfl⟩
      rw [← hp] at hpl hpu
      subst hpu
      have HPM := Lib.hid hp
      clear hp
      have hmi : (m : Int) < (n0 : Int) := by have := HE.out; omega
      have hm0 : (0 : Int) ≤ (m : Int) := by omega
      have htm : ((m : Int)).toNat = m := by omega
      have hpi : (p : Int) < (n0 : Int) := by omega
      have hp0 : (0 : Int) ≤ (p : Int) := by omega
      have htp : ((p : Int)).toNat = p := by omega
      have hlpm : (p : Int) < (m : Int) := by omega
      have hlpm2 : ¬ (m : Int) < (p : Int) := by omega
      have HMX := Lib.hid hmx
      have hml : m < len1 := by have := HG_.out.2.1; have := HE.out; have := HE1.out; omega
      have hmi1 : (m : Int) < (len1 : Int) := by omega
      obtain ⟨o, ho⟩ : ∃ o, o = os.getD m false := ⟨_, rfl⟩
      have hoc := HOC.out m hml
      rw [← ho] at hoc
      have HO := Lib.hid ho
      have HOCm := Lib.hid hoc
      clear ho hoc
      have zu_ := (HTP16_.out).cell HCU.out (by simp)
      have zw_ := (HTP16_.out).cell HCW.out (by simp)
      have oc_ := (G15_.out).cell HOCm.out (by simp)
      cases o
      · skip
        go_wp2_with fail
        go_quiet (fail)
        go_wp2
        go_ret
        exact ⟨false, rfl, iff_no (fun q => by have := ((reach_iff HZS.out).1 q).2.2 n (by rw [HNZ.out]; exact hlt); rw [← HU.out, ← HW.out, HMX.out, htm, ← HO.out] at this; cases this), by repeat (first | exact G15_.out | with_reducible refine gby_drewN ?_ _)⟩
      · skip
        go_wp2_with fail
        go_quiet (fail)
        go_wp2
        refine ⟨⟨n + 1, by go_num, by omega, ⟨_, rfl⟩, fun j hj => ?_, by repeat (first | exact HTB_.out | with_reducible refine gby_drewN ?_ _)⟩, by simp [intOf]; omega⟩
        by_cases e : j = n
        · subst e; rw [← HU.out, ← HW.out, HMX.out, htm]; exact HO.out.symm
        · exact HJ.out j (by omega)

theorem canReach_both (xs0 : List DNode) (xs1_0 : List Bool) (i2 i3 : Int) (h0 : szL shNode xs0 ≤ 1048576) (h1 : szL shB xs1_0 ≤ 1048576) : ∃ br0 : Bool, (∀ (W : World), ∀ u0 u1_0, RdL shNode W u0 xs0 → RdL shB W u1_0 xs1_0 → Calls Try.prog 90 #[u0, .agg #[u1_0], .int .i64 i2, .int .i64 i3] W (ResSCanReach br0 W)) ∧ ∀ (W : World), ∀ u0 u1_0, RdL shNode W u0 xs0 → RdL shB W u1_0 xs1_0 → Calls Try.prog 54 #[u0, .agg #[u1_0], .int .i64 i2, .int .i64 i3] W (ResICanReach br0 W) := by
  by_cases h : ReachP xs0 xs1_0 i2 i3
  · exact ⟨true, fun W u0 u1 H0 H1 => (specReach W u0 u1 _ _ _ _ H0 H1 h0 h1).mono (bpost_yes h), fun W u0 u1 H0 H1 => (implReach W u0 u1 _ _ _ _ H0 H1 h0 h1).mono (bpost_yes h)⟩
  · exact ⟨false, fun W u0 u1 H0 H1 => (specReach W u0 u1 _ _ _ _ H0 H1 h0 h1).mono (bpost_no h), fun W u0 u1 H0 H1 => (implReach W u0 u1 _ _ _ _ H0 H1 h0 h1).mono (bpost_no h)⟩

end Go.Proofs.Ytodfbodagjmfmac
