/-
  IsNested, the program.
-/
import Derived.Test.YtdddidnibelmhaaNestMath
import Derived.Deep.QuietTactic
import Derived.Deep.RegionHeld3
namespace Go.Proofs.Ytdddidnibelmhaa
open Go Go.RowKit
set_option linter.unusedVariables false

set_option maxRecDepth 8000 in
set_option maxHeartbeats 1000000 in
theorem implWithin (s b ps pb : Int) (W : World) (hs : I64 s) (hb : I64 b) (hps : I64 ps) (hpb : I64 pb) (h0 : 0 < s) : Calls Try.prog 45 #[.agg #[.int .i64 s, .int .i64 b], .agg #[.int .i64 ps, .int .i64 pb]] W (BPost (InP s b ps pb) W) := by
  have key := in_impl hs hb hps hpb h0
  by_cases h1 : SpansP ps pb b
  rotate_left
  · have HN := Lib.hid h1
    clear h1
    go_enter Try.func45, Try.ntmps45
    have rA1_ := Lib.hid (show (((W.alloc (.cells #[.int .i64 s, .int .i64 b] 46)).alloc (.cells #[.int .i64 ps, .int .i64 pb] 46))).heap[W.heap.size]? = some (.cells #[.int .i64 s, .int .i64 b] 46 (0, 0)) from by rw [heap_alloc_old _ _ (by simp only [World.size_alloc]; omega)]; exact heap_alloc_new _ _)
    have rB2_ := Lib.hid (show (((W.alloc (.cells #[.int .i64 s, .int .i64 b] 46)).alloc (.cells #[.int .i64 ps, .int .i64 pb] 46))).heap[W.heap.size + 1]? = some (.cells #[.int .i64 ps, .int .i64 pb] 46 (0, 0)) from by exact heap_pair _ _ _)
    have G3_ := Lib.hid (show (W).grownBy (((W.alloc (.cells #[.int .i64 s, .int .i64 b] 46)).alloc (.cells #[.int .i64 ps, .int .i64 pb] 46))) none from (gby_alloc (gby_alloc (gby_refl _ _) _) _))
    have A_0_ : (((W.alloc (.cells #[.int .i64 s, .int .i64 b] 46)).alloc (.cells #[.int .i64 ps, .int .i64 pb] 46))).cell? ⟨W.heap.size, 0, none⟩ = some (.int .i64 s) := cell_of_row _ _ 0 _ _ _ rA1_.out
    have A_1_ : (((W.alloc (.cells #[.int .i64 s, .int .i64 b] 46)).alloc (.cells #[.int .i64 ps, .int .i64 pb] 46))).cell? ⟨W.heap.size, 1, none⟩ = some (.int .i64 b) := cell_of_row _ _ 1 _ _ _ rA1_.out
    have B_0_ : (((W.alloc (.cells #[.int .i64 s, .int .i64 b] 46)).alloc (.cells #[.int .i64 ps, .int .i64 pb] 46))).cell? ⟨W.heap.size + 1, 0, none⟩ = some (.int .i64 ps) := cell_of_row _ _ 0 _ _ _ rB2_.out
    have B_1_ : (((W.alloc (.cells #[.int .i64 s, .int .i64 b] 46)).alloc (.cells #[.int .i64 ps, .int .i64 pb] 46))).cell? ⟨W.heap.size + 1, 1, none⟩ = some (.int .i64 pb) := cell_of_row _ _ 1 _ _ _ rB2_.out
    go_wp2_with fail
    go_at_call 42
    refine (spans_no _ HN.out).mono ?_
    rintro e w1 ⟨rfl, g⟩
    have szw1 := g.size
    try simp only [World.size_alloc] at szw1
    try simp only [World.size_setCell] at szw1
    clear A_0_ A_1_ B_0_ B_1_
    have rA4_ := Lib.hid (show (w1).heap[W.heap.size]? = some (.cells #[.int .i64 s, .int .i64 b] 46 (0, 0)) from row_held g rA1_.out)
    clear rA1_
    have rB5_ := Lib.hid (show (w1).heap[W.heap.size + 1]? = some (.cells #[.int .i64 ps, .int .i64 pb] 46 (0, 0)) from row_held g rB2_.out)
    clear rB2_
    have G6_ := Lib.hid (show (W).grownBy (w1) none from gby_trans G3_.out g)
    clear g
    have A_0_ : (w1).cell? ⟨W.heap.size, 0, none⟩ = some (.int .i64 s) := cell_of_row _ _ 0 _ _ _ rA4_.out
    have A_1_ : (w1).cell? ⟨W.heap.size, 1, none⟩ = some (.int .i64 b) := cell_of_row _ _ 1 _ _ _ rA4_.out
    have B_0_ : (w1).cell? ⟨W.heap.size + 1, 0, none⟩ = some (.int .i64 ps) := cell_of_row _ _ 0 _ _ _ rB5_.out
    have B_1_ : (w1).cell? ⟨W.heap.size + 1, 1, none⟩ = some (.int .i64 pb) := cell_of_row _ _ 1 _ _ _ rB5_.out
    go_wp2
    go_ret
    exact ⟨false, rfl, iff_no (fun q => HN.out (key.1 q).1), G6_.out⟩
  have HY := Lib.hid h1
  have q := (spans64 hps hpb hb).1 h1
  have w1_ : IntKind.i64.wrap (b - pb) = b - pb := IntWalk.i64_in _ (by unfold I64 at *; omega)
  have w2_ : IntKind.i64.wrap (ps - (b - pb)) = ps - (b - pb) := IntWalk.i64_in _ (by unfold I64 at *; omega)
  have KEY := Lib.hid (show decide (s ≤ ps - (b - pb)) = true ↔ InP s b ps pb from decide_eq_true_iff.trans ⟨fun z => key.2 ⟨h1, z⟩, fun z => (key.1 z).2⟩)
  clear key q h1
  go_enter Try.func45, Try.ntmps45
  have rA1_ := Lib.hid (show (((W.alloc (.cells #[.int .i64 s, .int .i64 b] 46)).alloc (.cells #[.int .i64 ps, .int .i64 pb] 46))).heap[W.heap.size]? = some (.cells #[.int .i64 s, .int .i64 b] 46 (0, 0)) from by rw [heap_alloc_old _ _ (by simp only [World.size_alloc]; omega)]; exact heap_alloc_new _ _)
  have rB2_ := Lib.hid (show (((W.alloc (.cells #[.int .i64 s, .int .i64 b] 46)).alloc (.cells #[.int .i64 ps, .int .i64 pb] 46))).heap[W.heap.size + 1]? = some (.cells #[.int .i64 ps, .int .i64 pb] 46 (0, 0)) from by exact heap_pair _ _ _)
  have G3_ := Lib.hid (show (W).grownBy (((W.alloc (.cells #[.int .i64 s, .int .i64 b] 46)).alloc (.cells #[.int .i64 ps, .int .i64 pb] 46))) none from (gby_alloc (gby_alloc (gby_refl _ _) _) _))
  have A_0_ : (((W.alloc (.cells #[.int .i64 s, .int .i64 b] 46)).alloc (.cells #[.int .i64 ps, .int .i64 pb] 46))).cell? ⟨W.heap.size, 0, none⟩ = some (.int .i64 s) := cell_of_row _ _ 0 _ _ _ rA1_.out
  have A_1_ : (((W.alloc (.cells #[.int .i64 s, .int .i64 b] 46)).alloc (.cells #[.int .i64 ps, .int .i64 pb] 46))).cell? ⟨W.heap.size, 1, none⟩ = some (.int .i64 b) := cell_of_row _ _ 1 _ _ _ rA1_.out
  have B_0_ : (((W.alloc (.cells #[.int .i64 s, .int .i64 b] 46)).alloc (.cells #[.int .i64 ps, .int .i64 pb] 46))).cell? ⟨W.heap.size + 1, 0, none⟩ = some (.int .i64 ps) := cell_of_row _ _ 0 _ _ _ rB2_.out
  have B_1_ : (((W.alloc (.cells #[.int .i64 s, .int .i64 b] 46)).alloc (.cells #[.int .i64 ps, .int .i64 pb] 46))).cell? ⟨W.heap.size + 1, 1, none⟩ = some (.int .i64 pb) := cell_of_row _ _ 1 _ _ _ rB2_.out
  go_wp2_with fail
  go_at_call 42
  refine (spans_yes _ HY.out).mono ?_
  rintro e w1 ⟨rfl, g⟩
  have szw1 := g.size
  try simp only [World.size_alloc] at szw1
  try simp only [World.size_setCell] at szw1
  clear A_0_ A_1_ B_0_ B_1_
  have rA4_ := Lib.hid (show (w1).heap[W.heap.size]? = some (.cells #[.int .i64 s, .int .i64 b] 46 (0, 0)) from row_held g rA1_.out)
  clear rA1_
  have rB5_ := Lib.hid (show (w1).heap[W.heap.size + 1]? = some (.cells #[.int .i64 ps, .int .i64 pb] 46 (0, 0)) from row_held g rB2_.out)
  clear rB2_
  have G6_ := Lib.hid (show (W).grownBy (w1) none from gby_trans G3_.out g)
  clear g
  have A_0_ : (w1).cell? ⟨W.heap.size, 0, none⟩ = some (.int .i64 s) := cell_of_row _ _ 0 _ _ _ rA4_.out
  have A_1_ : (w1).cell? ⟨W.heap.size, 1, none⟩ = some (.int .i64 b) := cell_of_row _ _ 1 _ _ _ rA4_.out
  have B_0_ : (w1).cell? ⟨W.heap.size + 1, 0, none⟩ = some (.int .i64 ps) := cell_of_row _ _ 0 _ _ _ rB5_.out
  have B_1_ : (w1).cell? ⟨W.heap.size + 1, 1, none⟩ = some (.int .i64 pb) := cell_of_row _ _ 1 _ _ _ rB5_.out
  go_wp2
  go_ret
  exact ⟨_, rfl, KEY.out, G6_.out⟩

set_option maxRecDepth 8000 in
set_option maxHeartbeats 1000000 in
theorem implHaveW (W : World) (v u : Value) (ys : List DBar) (xs : List DNode) (H0 : RdL shBar W v ys) (H1 : RdL shNode W u xs) (hl0 : szL shBar ys ≤ 1048576) (hl1 : szL shNode xs ≤ 1048576) (hb : B64 ys) : Calls Try.prog 31 #[u, v] W (BPost (TOk xs ∧ ys.length = xs.length) W) := by
  have HT := Lib.hid H1
  have HL := Lib.hid hl1
  have HB64 := Lib.hid hb
  have hlx : xs.length ≤ 1048576 := by have := szL_len shNode xs; omega
  have hly : ys.length ≤ 1048576 := by have := szL_len shBar ys; omega
  obtain ⟨a1, cap1, rfl, _, hi1⟩ := rdN_in H1
  obtain ⟨a0, cap0, rfl, hi0⟩ := rdBd_in H0
  have HA1 := Lib.hid hi1
  have HA0 := Lib.hid hi0
  obtain ⟨len, hlen⟩ : ∃ len, len = xs.length := ⟨_, rfl⟩
  obtain ⟨len0, hlen0⟩ : ∃ len, len = ys.length := ⟨_, rfl⟩
  have HE := Lib.hid hlen
  have HE0 := Lib.hid hlen0
  unfold RdN at HA1
  rw [← hlen] at hlx HT HA1 ⊢
  rw [← hlen0] at hly HA0 ⊢
  clear H0 H1 hi0 hi1 hlen hlen0 hl1 hl0 hb
  by_cases ht : TOk xs
  rotate_left
  · have HNT := Lib.hid ht
    clear ht
    go_enter Try.func31, Try.ntmps31
    go_wp2_with fail
    go_at_call 43
    refine (implTree_no _ _ xs (HT.out.grow (gby_refl _ _)) HL.out HNT.out).mono ?_
    rintro e w1 ⟨rfl, g⟩
    have szw1 := g.size
    try simp only [World.size_alloc] at szw1
    try simp only [World.size_setCell] at szw1
    have G1_ := Lib.hid (show (W).grownBy (w1) none from gby_trans (gby_refl _ _) g)
    clear g
    go_wp2
    go_ret
    exact ⟨false, rfl, iff_no (fun q => HNT.out q.1), G1_.out⟩
  have HYT := Lib.hid ht
  clear ht
  by_cases hq : len0 = len
  · subst hq
    have e2_ : ((len0 : Int) == (len0 : Int)) = true := by simp
    go_enter Try.func31, Try.ntmps31
    go_wp2_with fail
    go_at_call 43
    refine (implTree_yes _ _ xs (HT.out.grow (gby_refl _ _)) HL.out HYT.out).mono ?_
    rintro e w1 ⟨rfl, g⟩
    have szw1 := g.size
    try simp only [World.size_alloc] at szw1
    try simp only [World.size_setCell] at szw1
    have G1_ := Lib.hid (show (W).grownBy (w1) none from gby_trans (gby_refl _ _) g)
    clear g
    go_wp2
    go_ret
    exact ⟨true, rfl, iff_yes ⟨HYT.out, by first | trivial | exact HE0.out.symm.trans HE.out⟩, G1_.out⟩
  · have e2_ : ((len0 : Int) == (len : Int)) = false := beq_eq_false_iff_ne.2 (by omega)
    have HQ := Lib.hid hq
    clear hq
    go_enter Try.func31, Try.ntmps31
    go_wp2_with fail
    go_at_call 43
    refine (implTree_yes _ _ xs (HT.out.grow (gby_refl _ _)) HL.out HYT.out).mono ?_
    rintro e w1 ⟨rfl, g⟩
    have szw1 := g.size
    try simp only [World.size_alloc] at szw1
    try simp only [World.size_setCell] at szw1
    have G1_ := Lib.hid (show (W).grownBy (w1) none from gby_trans (gby_refl _ _) g)
    clear g
    go_wp2
    go_ret
    exact ⟨false, rfl, iff_no (fun q => HQ.out (by have := HE.out; have := HE0.out; have := q.2; omega)), G1_.out⟩

theorem implOv_yes (s b t c : Int) (W : World) (h : OvP s b t c) : Calls Try.prog 44 #[.agg #[.int .i64 s, .int .i64 b], .agg #[.int .i64 t, .int .i64 c]] W (AnsN (.bool true) W) := by
  have q := implOv s b t c W
  rw [decide_eq_true h] at q
  exact q
theorem implOv_no (s b t c : Int) (W : World) (h : ¬ OvP s b t c) : Calls Try.prog 44 #[.agg #[.int .i64 s, .int .i64 b], .agg #[.int .i64 t, .int .i64 c]] W (AnsN (.bool false) W) := by
  have q := implOv s b t c W
  rw [decide_eq_false h] at q
  exact q

set_option maxRecDepth 8000 in
set_option maxHeartbeats 4000000 in
theorem implApart (W : World) (v u : Value) (ys : List DBar) (xs : List DNode) (H0 : RdL shBar W v ys) (H1 : RdL shNode W u xs) (hl0 : szL shBar ys ≤ 1048576) (hl1 : szL shNode xs ≤ 1048576) (hb : B64 ys) (kn : Nat) (ht : TOk xs) (hq : ys.length = xs.length) (hk1 : 1 ≤ kn) (hlt' : kn < xs.length) (hpos : 0 < (bd ys kn).f0) : Calls Try.prog 32 #[v, u, .int .i64 (kn : Int)] W (BPost ((∀ i, i < xs.length → ¬ i = kn → (nd xs i).f0 = (nd xs kn).f0 → ¬ NOv ys kn i) ∧ NIn ys xs kn) W) := by
  have HT := Lib.hid H1
  have HL := Lib.hid hl1
  have HB64 := Lib.hid hb
  have hlx : xs.length ≤ 1048576 := by have := szL_len shNode xs; omega
  have hly : ys.length ≤ 1048576 := by have := szL_len shBar ys; omega
  obtain ⟨a1, cap1, rfl, _, hi1⟩ := rdN_in H1
  obtain ⟨a0, cap0, rfl, hi0⟩ := rdBd_in H0
  have HA1 := Lib.hid hi1
  have HA0 := Lib.hid hi0
  obtain ⟨len, hlen⟩ : ∃ len, len = xs.length := ⟨_, rfl⟩
  obtain ⟨len0, hlen0⟩ : ∃ len, len = ys.length := ⟨_, rfl⟩
  have HE := Lib.hid hlen
  have HE0 := Lib.hid hlen0
  unfold RdN at HA1
  rw [← hlen] at hlx HT HA1 ⊢
  rw [← hlen0] at hly HA0 ⊢
  clear H0 H1 hi0 hi1 hlen hlen0 hl1 hl0 hb
  have HYT := Lib.hid ht
  obtain rfl : len0 = len := by have := HE.out; have := HE0.out; omega
  have l1 := ht.1.1
  have l2 := ht.1.2
  have hn1 : 1 ≤ len0 := by have := HE.out; omega
  have hn12 : len0 ≤ 12 := by have := HE.out; omega
  clear ht hq
  obtain ⟨tb, to, rfl, htc⟩ := HA1.out.resolve_left (by omega)
  obtain ⟨ab, ao, rfl, hac⟩ := HA0.out.resolve_left (by omega)
  have HTC := Lib.hid htc
  have HAC := Lib.hid hac
  clear htc hac HA1 HA0
  have hlt : kn < len0 := by have := HE.out; omega
  clear hlt'
  go_enter Try.func32, Try.ntmps32
  have hk0 : (0 : Int) ≤ (kn : Int) := by omega
  have htk : ((kn : Int)).toNat = kn := by omega
  have hki : (kn : Int) < (len0 : Int) := by omega
  have hkx : kn < xs.length := by have := HE.out; omega
  have hpl := (HYT.out.2.2 kn hk1 hkx).1
  obtain ⟨pk, hpk⟩ : ∃ p : Nat, (nd xs kn).f0 = (p : Int) := ⟨((nd xs kn).f0).toNat, by omega⟩
  have HPK := Lib.hid hpk
  have hpk2 : pk < len0 := by omega
  have hpi : (pk : Int) < (len0 : Int) := by omega
  have hp0 : (0 : Int) ≤ (pk : Int) := by omega
  have htp : ((pk : Int)).toNat = pk := by omega
  have t0_ := (HTC.out kn hlt).1
  rw [hpk] at t0_
  have HTK := Lib.hid t0_
  have HPP := Lib.hid (show parI xs kn = pk from by unfold parI; rw [hpk]; omega)
  clear hpl hpk t0_
  have tk_ := ((gby_refl W none)).cell HTK.out (by simp)
  obtain ⟨sk, hsk_⟩ : ∃ z, z = (bd ys kn).f0 := ⟨_, rfl⟩
  obtain ⟨bk, hbk_⟩ : ∃ z, z = (bd ys kn).f1 := ⟨_, rfl⟩
  obtain ⟨z0_, z1_⟩ := HAC.out kn (by omega)
  rw [← hsk_] at z0_
  rw [← hbk_] at z1_
  have Hsk := Lib.hid hsk_
  have Hbk := Lib.hid hbk_
  have HCk0 := Lib.hid z0_
  have HCk1 := Lib.hid z1_
  clear z0_ z1_ hsk_ hbk_
  have ck0_ := ((gby_refl W none)).cell HCk0.out (by simp)
  have ck1_ := ((gby_refl W none)).cell HCk1.out (by simp)
  obtain ⟨sp, hsp_⟩ : ∃ z, z = (bd ys pk).f0 := ⟨_, rfl⟩
  obtain ⟨bp, hbp_⟩ : ∃ z, z = (bd ys pk).f1 := ⟨_, rfl⟩
  obtain ⟨z0_, z1_⟩ := HAC.out pk (by omega)
  rw [← hsp_] at z0_
  rw [← hbp_] at z1_
  have Hsp := Lib.hid hsp_
  have Hbp := Lib.hid hbp_
  have HCp0 := Lib.hid z0_
  have HCp1 := Lib.hid z1_
  clear z0_ z1_ hsp_ hbp_
  have cp0_ := ((gby_refl W none)).cell HCp0.out (by simp)
  have cp1_ := ((gby_refl W none)).cell HCp1.out (by simp)
  have hsz : 0 < sk := by rw [Hsk.out]; exact hpos
  have HI1 := Lib.hid (show I64 sk from (by rw [Hsk.out]; exact (HB64.out kn (by have := HE0.out; omega)).1))
  have HI2 := Lib.hid (show I64 bk from (by rw [Hbk.out]; exact (HB64.out kn (by have := HE0.out; omega)).2))
  have HI3 := Lib.hid (show I64 sp from (by rw [Hsp.out]; exact (HB64.out pk (by have := HE0.out; omega)).1))
  have HI4 := Lib.hid (show I64 bp from (by rw [Hbp.out]; exact (HB64.out pk (by have := HE0.out; omega)).2))
  have HIN := Lib.hid (show NIn ys xs kn ↔ InP sk bk sp bp from by unfold NIn; rw [HPP.out, Hsk.out, Hbk.out, Hsp.out, Hbp.out])
  go_wp2
  go_loopw [7, 8, 11] (fun y7 y8 i wr => ∃ m : Nat, i = .int .i64 (m : Int) ∧ (∃ q, y7 = q) ∧ (∃ q, y8 = q) ∧ m ≤ len0 ∧ (∀ j, j < m → ¬ j = kn → (nd xs j).f0 = (nd xs kn).f0 → ¬ NOv ys kn j) ∧ (W).grownBy wr none) (fun _ _ i _ => len0 - (intOf i).toNat)
  case atStart => exact ⟨0, rfl, ⟨_, rfl⟩, ⟨_, rfl⟩, by omega, (fun j h1 => by omega), gby_refl _ _⟩
  case round =>
    clear tk_ ck0_ ck1_ cp0_ cp1_
    obtain ⟨wi, hwo_⟩ : ∃ w_, w_ = wr := ⟨_, rfl⟩
    subst hwo_
    obtain ⟨m, rfl, ⟨y7, rfl⟩, ⟨y8, rfl⟩, hm, hin, hg⟩ := hrel
    have szrwi := hg.size
    try simp only [World.size_alloc] at szrwi
    try simp only [World.size_setCell] at szrwi
    have szr_ := szrwi
    have G1_ := Lib.hid (show (W).grownBy (wi) none from gby_trans (gby_refl W none) hg)
    have HTB_ := Lib.hid hg
    clear hg
    have tk_ := (G1_.out).cell HTK.out (by simp)
    have ck0_ := (G1_.out).cell HCk0.out (by simp)
    have ck1_ := (G1_.out).cell HCk1.out (by simp)
    have cp0_ := (G1_.out).cell HCp0.out (by simp)
    have cp1_ := (G1_.out).cell HCp1.out (by simp)
    have HINN := Lib.hid hin
    clear hin
    have hm0 : (0 : Int) ≤ (m : Int) := by omega
    have htm : ((m : Int)).toNat = m := by omega
    by_cases hmt : m < len0
    rotate_left
    · obtain rfl : m = len0 := by omega
      have hmi : ¬ (m : Int) < (m : Int) := by omega
      go_wp2_with fail
      refine wp_region_held_drew (S := fun w' => w'.cell? ⟨tb, to + kn * 3, none⟩ = some (.int .i64 (pk : Int)) ∧ w'.cell? ⟨ab, ao + kn * 2, none⟩ = some (.int .i64 sk) ∧ w'.cell? ⟨ab, ao + kn * 2 + 1, none⟩ = some (.int .i64 bk) ∧ w'.cell? ⟨ab, ao + pk * 2, none⟩ = some (.int .i64 sp) ∧ w'.cell? ⟨ab, ao + pk * 2 + 1, none⟩ = some (.int .i64 bp)) (by kernel_rfl) (by (try dsimp only); exact ⟨tk_, ck0_, ck1_, cp0_, cp1_⟩) (fun hHeld => ?_)
      refine wpAnyH_take (i := 0) (oi := { dst := some 41, op := Op.move (Operand.tmp 0), type := 27, pos := "l24_allocate.go:79", after := #[], guard := none }) (v := ?v0_r1_1) rfl (by kernel_rfl) (by kernel_rfl) (by kernel_rfl) (fun _ _ _ h => h) (Or.inl ⟨by rfl, ?y0_r1_1⟩) (by assumption) ?r0_r1_1
      case y0_r1_1 => (intro w hSw; (try dsimp only at hSw); go_simp; all_goals (with_reducible rfl))
      try simp only [Act.put, List.setIfInBounds_toArray, List.set_cons_zero, List.set_cons_succ]
      refine wpAnyH_take (i := 1) (oi := { dst := some 42, op := Op.move (Operand.tmp 2), type := 3, pos := "l24_allocate.go:79", after := #[], guard := none }) (v := ?v1_r1_2) rfl (by kernel_rfl) (by kernel_rfl) (by kernel_rfl) (fun _ _ _ h => h) (Or.inl ⟨by rfl, ?y1_r1_2⟩) (by assumption) ?r1_r1_2
      case y1_r1_2 => (intro w hSw; (try dsimp only at hSw); go_simp; all_goals (with_reducible rfl))
      try simp only [Act.put, List.setIfInBounds_toArray, List.set_cons_zero, List.set_cons_succ]
      refine wpAnyH_take (i := 2) (oi := { dst := some 43, op := Op.indexAddr 27 (Operand.tmp 41) (Operand.tmp 42), type := 0, pos := "l24_allocate.go:79", after := #[{ on := 0, ground := Ground.data }, { on := 1, ground := Ground.data }], guard := none }) (v := ?v2_r1_3) rfl (by kernel_rfl) (by kernel_rfl) (by kernel_rfl) (fun _ _ _ h => h) (Or.inl ⟨by rfl, ?y2_r1_3⟩) (by assumption) ?r2_r1_3
      case y2_r1_3 => (intro w hSw; (try dsimp only at hSw); go_simp; all_goals (with_reducible rfl))
      try simp only [Act.put, List.setIfInBounds_toArray, List.set_cons_zero, List.set_cons_succ]
      refine wpAnyH_take (i := 3) (oi := { dst := some 44, op := Op.load 46 (Operand.tmp 43), type := 46, pos := "l24_allocate.go:79", after := #[{ on := 2, ground := Ground.data }], guard := none }) (v := ?v3_r1_4) rfl (by kernel_rfl) (by kernel_rfl) (by kernel_rfl) (fun _ _ _ h => h) (Or.inl ⟨by rfl, ?y3_r1_4⟩) (by assumption) ?r3_r1_4
      case y3_r1_4 => (intro w hSw; (try dsimp only at hSw); go_simp; all_goals (with_reducible rfl))
      try simp only [Act.put, List.setIfInBounds_toArray, List.set_cons_zero, List.set_cons_succ]
      refine wpAnyH_take (i := 4) (oi := { dst := some 45, op := Op.move (Operand.tmp 0), type := 27, pos := "l24_allocate.go:79", after := #[], guard := none }) (v := ?v4_r1_5) rfl (by kernel_rfl) (by kernel_rfl) (by kernel_rfl) (fun _ _ _ h => h) (Or.inl ⟨by rfl, ?y4_r1_5⟩) (by assumption) ?r4_r1_5
      case y4_r1_5 => (intro w hSw; (try dsimp only at hSw); go_simp; all_goals (with_reducible rfl))
      try simp only [Act.put, List.setIfInBounds_toArray, List.set_cons_zero, List.set_cons_succ]
      refine wpAnyH_take (i := 5) (oi := { dst := some 46, op := Op.move (Operand.tmp 1), type := 29, pos := "l24_allocate.go:79", after := #[], guard := none }) (v := ?v5_r1_6) rfl (by kernel_rfl) (by kernel_rfl) (by kernel_rfl) (fun _ _ _ h => h) (Or.inl ⟨by rfl, ?y5_r1_6⟩) (by assumption) ?r5_r1_6
      case y5_r1_6 => (intro w hSw; (try dsimp only at hSw); go_simp; all_goals (with_reducible rfl))
      try simp only [Act.put, List.setIfInBounds_toArray, List.set_cons_zero, List.set_cons_succ]
      refine wpAnyH_take (i := 6) (oi := { dst := some 47, op := Op.move (Operand.tmp 2), type := 3, pos := "l24_allocate.go:79", after := #[], guard := none }) (v := ?v6_r1_7) rfl (by kernel_rfl) (by kernel_rfl) (by kernel_rfl) (fun _ _ _ h => h) (Or.inl ⟨by rfl, ?y6_r1_7⟩) (by assumption) ?r6_r1_7
      case y6_r1_7 => (intro w hSw; (try dsimp only at hSw); go_simp; all_goals (with_reducible rfl))
      try simp only [Act.put, List.setIfInBounds_toArray, List.set_cons_zero, List.set_cons_succ]
      refine wpAnyH_take (i := 7) (oi := { dst := some 48, op := Op.indexAddr 29 (Operand.tmp 46) (Operand.tmp 47), type := 0, pos := "l24_allocate.go:79", after := #[{ on := 5, ground := Ground.data }, { on := 6, ground := Ground.data }], guard := none }) (v := ?v7_r1_8) rfl (by kernel_rfl) (by kernel_rfl) (by kernel_rfl) (fun _ _ _ h => h) (Or.inl ⟨by rfl, ?y7_r1_8⟩) (by assumption) ?r7_r1_8
      case y7_r1_8 => (intro w hSw; (try dsimp only at hSw); go_simp; all_goals (with_reducible rfl))
      try simp only [Act.put, List.setIfInBounds_toArray, List.set_cons_zero, List.set_cons_succ]
      refine wpAnyH_take (i := 8) (oi := { dst := some 49, op := Op.fieldAddr 48 (Operand.tmp 48) 0, type := 0, pos := "l24_allocate.go:79", after := #[{ on := 7, ground := Ground.data }], guard := none }) (v := ?v8_r1_9) rfl (by kernel_rfl) (by kernel_rfl) (by kernel_rfl) (fun _ _ _ h => h) (Or.inl ⟨by rfl, ?y8_r1_9⟩) (by assumption) ?r8_r1_9
      case y8_r1_9 => (intro w hSw; (try dsimp only at hSw); go_simp; all_goals (with_reducible rfl))
      try simp only [Act.put, List.setIfInBounds_toArray, List.set_cons_zero, List.set_cons_succ]
      refine wpAnyH_take (i := 9) (oi := { dst := some 50, op := Op.load 3 (Operand.tmp 49), type := 3, pos := "l24_allocate.go:79", after := #[{ on := 8, ground := Ground.data }], guard := none }) (v := ?v9_r1_10) rfl (by kernel_rfl) (by kernel_rfl) (by kernel_rfl) (fun _ _ _ h => h) (Or.inl ⟨by rfl, ?y9_r1_10⟩) (by assumption) ?r9_r1_10
      case y9_r1_10 => (intro w hSw; (try dsimp only at hSw); go_simp; all_goals (with_reducible rfl))
      try simp only [Act.put, List.setIfInBounds_toArray, List.set_cons_zero, List.set_cons_succ]
      refine wpAnyH_take (i := 10) (oi := { dst := some 51, op := Op.indexAddr 27 (Operand.tmp 45) (Operand.tmp 50), type := 0, pos := "l24_allocate.go:79", after := #[{ on := 4, ground := Ground.data }, { on := 9, ground := Ground.data }], guard := none }) (v := ?v10_r1_11) rfl (by kernel_rfl) (by kernel_rfl) (by kernel_rfl) (fun _ _ _ h => h) (Or.inl ⟨by rfl, ?y10_r1_11⟩) (by assumption) ?r10_r1_11
      case y10_r1_11 => (intro w hSw; (try dsimp only at hSw); go_simp; all_goals (with_reducible rfl))
      try simp only [Act.put, List.setIfInBounds_toArray, List.set_cons_zero, List.set_cons_succ]
      refine wpAnyH_take (i := 11) (oi := { dst := some 52, op := Op.load 46 (Operand.tmp 51), type := 46, pos := "l24_allocate.go:79", after := #[{ on := 10, ground := Ground.data }], guard := none }) (v := ?v11_r1_12) rfl (by kernel_rfl) (by kernel_rfl) (by kernel_rfl) (fun _ _ _ h => h) (Or.inl ⟨by rfl, ?y11_r1_12⟩) (by assumption) ?r11_r1_12
      case y11_r1_12 => (intro w hSw; (try dsimp only at hSw); go_simp; all_goals (with_reducible rfl))
      try simp only [Act.put, List.setIfInBounds_toArray, List.set_cons_zero, List.set_cons_succ]
      refine wpAnyH_ready (rs := [12]) (by kernel_rfl) (by simp) ?_
      refine AllReadyH.cons (o := { dst := some 53, op := Op.call { callee := Callee.value (Operand.func 45), args := #[Operand.tmp 44, Operand.tmp 52], argTypes := #[46, 46] }, type := 4, pos := "l24_allocate.go:79", after := #[{ on := 3, ground := Ground.data }, { on := 11, ground := Ground.data }], guard := none }) rfl (fun K hK => ?_) AllReadyH.nil
      go_simp
      go_at_call 45
      refine (implWithin sk bk sp bp _ HI1.out HI2.out HI3.out HI4.out hsz).mono ?_
      rintro e wH13 ⟨r_, rfl, hr_, gH13⟩
      have m13_tk_ : wH13.cell? _ = some _ := gH13.cell tk_ (by simp); have m13_ck0_ : wH13.cell? _ = some _ := gH13.cell ck0_ (by simp); have m13_ck1_ : wH13.cell? _ = some _ := gH13.cell ck1_ (by simp); have m13_cp0_ : wH13.cell? _ = some _ := gH13.cell cp0_ (by simp); have m13_cp1_ : wH13.cell? _ = some _ := gH13.cell cp1_ (by simp)
      go_wp2_with fail
      clear hHeld
      refine hK.out _ _ ?s12_r1_13 (fun hHeld => ?_)
      case s12_r1_13 => exact ⟨m13_tk_, m13_ck0_, m13_ck1_, m13_cp0_, m13_cp1_⟩
      clear hK K
      try simp only [Act.put, List.setIfInBounds_toArray, List.set_cons_zero, List.set_cons_succ]
      refine wpAnyH_take (i := 13) (oi := { dst := some 6, op := Op.assign (Operand.tmp 53), type := 4, pos := "l24_allocate.go:79", after := #[{ on := 12, ground := Ground.data }, { on := 12, ground := Ground.chain }, { on := 0, ground := Ground.phase }, { on := 1, ground := Ground.phase }, { on := 2, ground := Ground.phase }, { on := 3, ground := Ground.phase }, { on := 4, ground := Ground.phase }, { on := 5, ground := Ground.phase }, { on := 6, ground := Ground.phase }, { on := 7, ground := Ground.phase }, { on := 8, ground := Ground.phase }, { on := 9, ground := Ground.phase }, { on := 10, ground := Ground.phase }, { on := 11, ground := Ground.phase }, { on := 12, ground := Ground.phase }], guard := none }) (v := ?v13_r1_14) rfl (by kernel_rfl) (by kernel_rfl) (by kernel_rfl) (fun _ _ _ h => h) (Or.inl ⟨by rfl, ?y13_r1_14⟩) (by assumption) ?r13_r1_14
      case y13_r1_14 => (intro w hSw; (try dsimp only at hSw); go_simp; all_goals (with_reducible rfl))
      try simp only [Act.put, List.setIfInBounds_toArray, List.set_cons_zero, List.set_cons_succ]
      refine wpAnyH_done (by kernel_rfl) ?_ _
      go_wp2
      go_ret
      exact ⟨r_, rfl, ⟨fun q => ⟨fun j q1 q2 q3 => HINN.out j (by have := HE.out; omega) q2 q3, HIN.out.2 (hr_.1 q)⟩, fun q => hr_.2 (HIN.out.1 q.2)⟩, by repeat (first | exact gby_trans G1_.out (gby_trans (gby_drew (gby_refl _ none)) gH13) | with_reducible refine gby_drewN ?_ _)⟩
    have hmi : (m : Int) < (len0 : Int) := by omega
    obtain ⟨pm, hpm⟩ : ∃ p, p = (nd xs m).f0 := ⟨_, rfl⟩
    obtain ⟨fm, hfm⟩ : ∃ p, p = (nd xs m).f1 := ⟨_, rfl⟩
    obtain ⟨gm, hgm⟩ : ∃ p, p = (nd xs m).f2 := ⟨_, rfl⟩
    obtain ⟨t0_, t1_, t2_⟩ := HTC.out m (by omega)
    rw [← hpm] at t0_
    rw [← hfm] at t1_
    rw [← hgm] at t2_
    have HTM := Lib.hid t0_
    have HTM1 := Lib.hid t1_
    have HTM2 := Lib.hid t2_
    have HPM := Lib.hid hpm
    clear t0_ t1_ t2_ hpm hfm hgm
    have tm_ := (G1_.out).cell HTM.out (by simp)
    have tm1_ := (G1_.out).cell HTM1.out (by simp)
    have tm2_ := (G1_.out).cell HTM2.out (by simp)
    obtain ⟨sm, hsm_⟩ : ∃ z, z = (bd ys m).f0 := ⟨_, rfl⟩
    obtain ⟨bm, hbm_⟩ : ∃ z, z = (bd ys m).f1 := ⟨_, rfl⟩
    obtain ⟨z0_, z1_⟩ := HAC.out m (by omega)
    rw [← hsm_] at z0_
    rw [← hbm_] at z1_
    have Hsm := Lib.hid hsm_
    have Hbm := Lib.hid hbm_
    have HCm0 := Lib.hid z0_
    have HCm1 := Lib.hid z1_
    clear z0_ z1_ hsm_ hbm_
    have cm0_ := (G1_.out).cell HCm0.out (by simp)
    have cm1_ := (G1_.out).cell HCm1.out (by simp)
    have dtm_ := tm_
    have dtm1_ := tm1_
    have dtm2_ := tm2_
    clear tk_ ck0_ ck1_ cp0_ cp1_ tm_ tm1_ tm2_ cm0_ cm1_
    have al_ : (wi).grownBy ((wi).alloc (.cells #[.int .i64 pm, .int .i64 fm, .int .i64 gm] 48)) none := gby_alloc (gby_refl _ _) _
    have G2_ := Lib.hid (show (W).grownBy ((wi.alloc (.cells #[.int .i64 pm, .int .i64 fm, .int .i64 gm] 48))) none from gby_trans G1_.out al_)
    have HTB3_ := Lib.hid (show (W).grownBy ((wi.alloc (.cells #[.int .i64 pm, .int .i64 fm, .int .i64 gm] 48))) none from gby_trans HTB_.out al_)
    clear HTB_
    have rN4_ := Lib.hid (show ((wi.alloc (.cells #[.int .i64 pm, .int .i64 fm, .int .i64 gm] 48))).heap[wi.heap.size]? = some (.cells #[.int .i64 pm, .int .i64 fm, .int .i64 gm] 48 (0, 0)) from by first | exact heap_alloc_new _ _ | exact heap_pair _ _ _ | exact heap_trip _ _ _ _)
    clear al_
    have N_0_ : ((wi.alloc (.cells #[.int .i64 pm, .int .i64 fm, .int .i64 gm] 48))).cell? ⟨wi.heap.size, 0, none⟩ = some (.int .i64 pm) := cell_of_row _ _ 0 _ _ _ rN4_.out
    have N_1_ : ((wi.alloc (.cells #[.int .i64 pm, .int .i64 fm, .int .i64 gm] 48))).cell? ⟨wi.heap.size, 1, none⟩ = some (.int .i64 fm) := cell_of_row _ _ 1 _ _ _ rN4_.out
    have N_2_ : ((wi.alloc (.cells #[.int .i64 pm, .int .i64 fm, .int .i64 gm] 48))).cell? ⟨wi.heap.size, 2, none⟩ = some (.int .i64 gm) := cell_of_row _ _ 2 _ _ _ rN4_.out
    have tk_ := (G2_.out).cell HTK.out (by simp)
    have ck0_ := (G2_.out).cell HCk0.out (by simp)
    have ck1_ := (G2_.out).cell HCk1.out (by simp)
    have cp0_ := (G2_.out).cell HCp0.out (by simp)
    have cp1_ := (G2_.out).cell HCp1.out (by simp)
    have tm_ := (G2_.out).cell HTM.out (by simp)
    have tm1_ := (G2_.out).cell HTM1.out (by simp)
    have tm2_ := (G2_.out).cell HTM2.out (by simp)
    have cm0_ := (G2_.out).cell HCm0.out (by simp)
    have cm1_ := (G2_.out).cell HCm1.out (by simp)
    by_cases hmk : m = kn
    · have e3_ : ((m : Int) != (kn : Int)) = false := by rw [hmk]; simp
      have HMK := Lib.hid hmk
      clear hmk
      go_wp2
      go_quiet (fail)
      go_wp2
      refine ⟨⟨m + 1, by go_num, ⟨_, rfl⟩, ⟨_, rfl⟩, by omega, fun j q1 q2 q3 => ?_, by repeat (first | exact HTB3_.out | with_reducible refine gby_drewN ?_ _)⟩, by simp [intOf]; omega⟩
      by_cases e : j = m
      · subst e; exact absurd HMK.out q2
      · exact HINN.out j (by omega) q2 q3
    have e3_ : ((m : Int) != (kn : Int)) = true := bne_iff_ne.2 (by omega)
    by_cases he : pm = (pk : Int)
    rotate_left
    · have e4_ : (pm == (pk : Int)) = false := beq_eq_false_iff_ne.2 he
      go_wp2
      go_quiet (fail)
      go_wp2
      refine ⟨⟨m + 1, by go_num, ⟨_, rfl⟩, ⟨_, rfl⟩, by omega, fun j q1 q2 q3 => ?_, by repeat (first | exact HTB3_.out | with_reducible refine gby_drewN ?_ _)⟩, by simp [intOf]; omega⟩
      by_cases e : j = m
      · subst e; exact absurd (by rw [HPM.out, q3, HPK.out]) he
      · exact HINN.out j (by omega) q2 q3
    have e4_ : (pm == (pk : Int)) = true := by rw [he]; simp
    have HOV := Lib.hid (show NOv ys kn m ↔ OvP sk bk sm bm from by unfold NOv; rw [Hsm.out, Hbm.out, Hsk.out, Hbk.out])
    subst he
    by_cases ho : OvP sk bk sm bm
    · skip
      go_wp2_with fail
      refine wp_region_held_drew (S := fun w' => w'.cell? ⟨tb, to + kn * 3, none⟩ = some (.int .i64 (pk : Int)) ∧ w'.cell? ⟨wi.heap.size, 0, none⟩ = some (.int .i64 (pk : Int)) ∧ w'.cell? ⟨ab, ao + kn * 2, none⟩ = some (.int .i64 sk) ∧ w'.cell? ⟨ab, ao + kn * 2 + 1, none⟩ = some (.int .i64 bk) ∧ w'.cell? ⟨ab, ao + m * 2, none⟩ = some (.int .i64 sm) ∧ w'.cell? ⟨ab, ao + m * 2 + 1, none⟩ = some (.int .i64 bm)) (by kernel_rfl) (by (try dsimp only); exact ⟨tk_, N_0_, ck0_, ck1_, cm0_, cm1_⟩) (fun hHeld => ?_)
      refine wpAnyH_take (i := 0) (oi := { dst := some 16, op := Op.move (Operand.tmp 7), type := 3, pos := "l24_allocate.go:75", after := #[], guard := none }) (v := ?v0_r2_1) rfl (by kernel_rfl) (by kernel_rfl) (by kernel_rfl) (fun _ _ _ h => h) (Or.inl ⟨by rfl, ?y0_r2_1⟩) (by assumption) ?r0_r2_1
      case y0_r2_1 => (intro w hSw; (try dsimp only at hSw); go_simp; all_goals (with_reducible rfl))
      try simp only [Act.put, List.setIfInBounds_toArray, List.set_cons_zero, List.set_cons_succ]
      refine wpAnyH_take (i := 1) (oi := { dst := some 17, op := Op.move (Operand.tmp 2), type := 3, pos := "l24_allocate.go:75", after := #[], guard := none }) (v := ?v1_r2_2) rfl (by kernel_rfl) (by kernel_rfl) (by kernel_rfl) (fun _ _ _ h => h) (Or.inl ⟨by rfl, ?y1_r2_2⟩) (by assumption) ?r1_r2_2
      case y1_r2_2 => (intro w hSw; (try dsimp only at hSw); go_simp; all_goals (with_reducible rfl))
      try simp only [Act.put, List.setIfInBounds_toArray, List.set_cons_zero, List.set_cons_succ]
      refine wpAnyH_take (i := 2) (oi := { dst := some 18, op := Op.binOp BinOp.neq 3 (Operand.tmp 16) (Operand.tmp 17) 3, type := 4, pos := "l24_allocate.go:75", after := #[{ on := 0, ground := Ground.data }, { on := 1, ground := Ground.data }], guard := none }) (v := ?v2_r2_3) rfl (by kernel_rfl) (by kernel_rfl) (by kernel_rfl) (fun _ _ _ h => h) (Or.inl ⟨by rfl, ?y2_r2_3⟩) (by assumption) ?r2_r2_3
      case y2_r2_3 => (intro w hSw; (try dsimp only at hSw); go_simp; all_goals (with_reducible rfl))
      try simp only [Act.put, List.setIfInBounds_toArray, List.set_cons_zero, List.set_cons_succ]
      refine wpAnyH_take (i := 3) (oi := { dst := some 19, op := Op.move (Operand.tmp 18), type := 4, pos := "l24_allocate.go:75", after := #[{ on := 2, ground := Ground.data }], guard := none }) (v := ?v3_r2_4) rfl (by kernel_rfl) (by kernel_rfl) (by kernel_rfl) (fun _ _ _ h => h) (Or.inl ⟨by rfl, ?y3_r2_4⟩) (by assumption) ?r3_r2_4
      case y3_r2_4 => (intro w hSw; (try dsimp only at hSw); go_simp; all_goals (with_reducible rfl))
      try simp only [Act.put, List.setIfInBounds_toArray, List.set_cons_zero, List.set_cons_succ]
      refine wpAnyH_take (i := 4) (oi := { dst := some 20, op := Op.fieldAddr 48 (Operand.tmp 8) 0, type := 0, pos := "l24_allocate.go:75", after := #[{ on := 3, ground := Ground.guard }], guard := some (3, true) }) (v := ?v4_r2_5) rfl (by kernel_rfl) (by kernel_rfl) (by kernel_rfl) (fun _ _ _ h => h) (Or.inl ⟨by rfl, ?y4_r2_5⟩) (by assumption) ?r4_r2_5
      case y4_r2_5 => (intro w hSw; (try dsimp only at hSw); go_simp; all_goals (with_reducible rfl))
      try simp only [Act.put, List.setIfInBounds_toArray, List.set_cons_zero, List.set_cons_succ]
      refine wpAnyH_take (i := 5) (oi := { dst := some 21, op := Op.load 3 (Operand.tmp 20), type := 3, pos := "l24_allocate.go:75", after := #[{ on := 4, ground := Ground.data }, { on := 3, ground := Ground.guard }], guard := some (3, true) }) (v := ?v5_r2_6) rfl (by kernel_rfl) (by kernel_rfl) (by kernel_rfl) (fun _ _ _ h => h) (Or.inl ⟨by rfl, ?y5_r2_6⟩) (by assumption) ?r5_r2_6
      case y5_r2_6 => (intro w hSw; (try dsimp only at hSw); go_simp; all_goals (with_reducible rfl))
      try simp only [Act.put, List.setIfInBounds_toArray, List.set_cons_zero, List.set_cons_succ]
      refine wpAnyH_take (i := 6) (oi := { dst := some 22, op := Op.move (Operand.tmp 1), type := 29, pos := "l24_allocate.go:75", after := #[{ on := 3, ground := Ground.guard }], guard := some (3, true) }) (v := ?v6_r2_7) rfl (by kernel_rfl) (by kernel_rfl) (by kernel_rfl) (fun _ _ _ h => h) (Or.inl ⟨by rfl, ?y6_r2_7⟩) (by assumption) ?r6_r2_7
      case y6_r2_7 => (intro w hSw; (try dsimp only at hSw); go_simp; all_goals (with_reducible rfl))
      try simp only [Act.put, List.setIfInBounds_toArray, List.set_cons_zero, List.set_cons_succ]
      refine wpAnyH_take (i := 7) (oi := { dst := some 23, op := Op.move (Operand.tmp 2), type := 3, pos := "l24_allocate.go:75", after := #[{ on := 3, ground := Ground.guard }], guard := some (3, true) }) (v := ?v7_r2_8) rfl (by kernel_rfl) (by kernel_rfl) (by kernel_rfl) (fun _ _ _ h => h) (Or.inl ⟨by rfl, ?y7_r2_8⟩) (by assumption) ?r7_r2_8
      case y7_r2_8 => (intro w hSw; (try dsimp only at hSw); go_simp; all_goals (with_reducible rfl))
      try simp only [Act.put, List.setIfInBounds_toArray, List.set_cons_zero, List.set_cons_succ]
      refine wpAnyH_take (i := 8) (oi := { dst := some 24, op := Op.indexAddr 29 (Operand.tmp 22) (Operand.tmp 23), type := 0, pos := "l24_allocate.go:75", after := #[{ on := 6, ground := Ground.data }, { on := 7, ground := Ground.data }, { on := 3, ground := Ground.guard }], guard := some (3, true) }) (v := ?v8_r2_9) rfl (by kernel_rfl) (by kernel_rfl) (by kernel_rfl) (fun _ _ _ h => h) (Or.inl ⟨by rfl, ?y8_r2_9⟩) (by assumption) ?r8_r2_9
      case y8_r2_9 => (intro w hSw; (try dsimp only at hSw); go_simp; all_goals (with_reducible rfl))
      try simp only [Act.put, List.setIfInBounds_toArray, List.set_cons_zero, List.set_cons_succ]
      refine wpAnyH_take (i := 9) (oi := { dst := some 25, op := Op.fieldAddr 48 (Operand.tmp 24) 0, type := 0, pos := "l24_allocate.go:75", after := #[{ on := 8, ground := Ground.data }, { on := 3, ground := Ground.guard }], guard := some (3, true) }) (v := ?v9_r2_10) rfl (by kernel_rfl) (by kernel_rfl) (by kernel_rfl) (fun _ _ _ h => h) (Or.inl ⟨by rfl, ?y9_r2_10⟩) (by assumption) ?r9_r2_10
      case y9_r2_10 => (intro w hSw; (try dsimp only at hSw); go_simp; all_goals (with_reducible rfl))
      try simp only [Act.put, List.setIfInBounds_toArray, List.set_cons_zero, List.set_cons_succ]
      refine wpAnyH_take (i := 10) (oi := { dst := some 26, op := Op.load 3 (Operand.tmp 25), type := 3, pos := "l24_allocate.go:75", after := #[{ on := 9, ground := Ground.data }, { on := 3, ground := Ground.guard }], guard := some (3, true) }) (v := ?v10_r2_11) rfl (by kernel_rfl) (by kernel_rfl) (by kernel_rfl) (fun _ _ _ h => h) (Or.inl ⟨by rfl, ?y10_r2_11⟩) (by assumption) ?r10_r2_11
      case y10_r2_11 => (intro w hSw; (try dsimp only at hSw); go_simp; all_goals (with_reducible rfl))
      try simp only [Act.put, List.setIfInBounds_toArray, List.set_cons_zero, List.set_cons_succ]
      refine wpAnyH_take (i := 11) (oi := { dst := some 27, op := Op.binOp BinOp.eql 3 (Operand.tmp 21) (Operand.tmp 26) 3, type := 4, pos := "l24_allocate.go:75", after := #[{ on := 5, ground := Ground.data }, { on := 10, ground := Ground.data }, { on := 3, ground := Ground.guard }], guard := some (3, true) }) (v := ?v11_r2_12) rfl (by kernel_rfl) (by kernel_rfl) (by kernel_rfl) (fun _ _ _ h => h) (Or.inl ⟨by rfl, ?y11_r2_12⟩) (by assumption) ?r11_r2_12
      case y11_r2_12 => (intro w hSw; (try dsimp only at hSw); go_simp; all_goals (with_reducible rfl))
      try simp only [Act.put, List.setIfInBounds_toArray, List.set_cons_zero, List.set_cons_succ]
      refine wpAnyH_take (i := 12) (oi := { dst := some 28, op := Op.pick (Operand.tmp 19) (Operand.tmp 27) (Operand.const (Value.bool false)), type := 4, pos := "l24_allocate.go:75", after := #[{ on := 3, ground := Ground.data }, { on := 11, ground := Ground.data }], guard := none }) (v := ?v12_r2_13) rfl (by kernel_rfl) (by kernel_rfl) (by kernel_rfl) (fun _ _ _ h => h) (Or.inl ⟨by rfl, ?y12_r2_13⟩) (by assumption) ?r12_r2_13
      case y12_r2_13 => (intro w hSw; (try dsimp only at hSw); go_simp; all_goals (with_reducible rfl))
      try simp only [Act.put, List.setIfInBounds_toArray, List.set_cons_zero, List.set_cons_succ]
      refine wpAnyH_take (i := 13) (oi := { dst := some 29, op := Op.move (Operand.tmp 28), type := 4, pos := "l24_allocate.go:75", after := #[{ on := 12, ground := Ground.data }, { on := 3, ground := Ground.chain }], guard := none }) (v := ?v13_r2_14) rfl (by kernel_rfl) (by kernel_rfl) (by kernel_rfl) (fun _ _ _ h => h) (Or.inl ⟨by rfl, ?y13_r2_14⟩) (by assumption) ?r13_r2_14
      case y13_r2_14 => (intro w hSw; (try dsimp only at hSw); go_simp; all_goals (with_reducible rfl))
      try simp only [Act.put, List.setIfInBounds_toArray, List.set_cons_zero, List.set_cons_succ]
      refine wpAnyH_take (i := 14) (oi := { dst := some 30, op := Op.move (Operand.tmp 0), type := 27, pos := "l24_allocate.go:75", after := #[{ on := 13, ground := Ground.guard }], guard := some (13, true) }) (v := ?v14_r2_15) rfl (by kernel_rfl) (by kernel_rfl) (by kernel_rfl) (fun _ _ _ h => h) (Or.inl ⟨by rfl, ?y14_r2_15⟩) (by assumption) ?r14_r2_15
      case y14_r2_15 => (intro w hSw; (try dsimp only at hSw); go_simp; all_goals (with_reducible rfl))
      try simp only [Act.put, List.setIfInBounds_toArray, List.set_cons_zero, List.set_cons_succ]
      refine wpAnyH_take (i := 15) (oi := { dst := some 31, op := Op.move (Operand.tmp 2), type := 3, pos := "l24_allocate.go:75", after := #[{ on := 13, ground := Ground.guard }], guard := some (13, true) }) (v := ?v15_r2_16) rfl (by kernel_rfl) (by kernel_rfl) (by kernel_rfl) (fun _ _ _ h => h) (Or.inl ⟨by rfl, ?y15_r2_16⟩) (by assumption) ?r15_r2_16
      case y15_r2_16 => (intro w hSw; (try dsimp only at hSw); go_simp; all_goals (with_reducible rfl))
      try simp only [Act.put, List.setIfInBounds_toArray, List.set_cons_zero, List.set_cons_succ]
      refine wpAnyH_take (i := 16) (oi := { dst := some 32, op := Op.indexAddr 27 (Operand.tmp 30) (Operand.tmp 31), type := 0, pos := "l24_allocate.go:75", after := #[{ on := 14, ground := Ground.data }, { on := 15, ground := Ground.data }, { on := 13, ground := Ground.guard }], guard := some (13, true) }) (v := ?v16_r2_17) rfl (by kernel_rfl) (by kernel_rfl) (by kernel_rfl) (fun _ _ _ h => h) (Or.inl ⟨by rfl, ?y16_r2_17⟩) (by assumption) ?r16_r2_17
      case y16_r2_17 => (intro w hSw; (try dsimp only at hSw); go_simp; all_goals (with_reducible rfl))
      try simp only [Act.put, List.setIfInBounds_toArray, List.set_cons_zero, List.set_cons_succ]
      refine wpAnyH_take (i := 17) (oi := { dst := some 33, op := Op.load 46 (Operand.tmp 32), type := 46, pos := "l24_allocate.go:75", after := #[{ on := 16, ground := Ground.data }, { on := 13, ground := Ground.guard }], guard := some (13, true) }) (v := ?v17_r2_18) rfl (by kernel_rfl) (by kernel_rfl) (by kernel_rfl) (fun _ _ _ h => h) (Or.inl ⟨by rfl, ?y17_r2_18⟩) (by assumption) ?r17_r2_18
      case y17_r2_18 => (intro w hSw; (try dsimp only at hSw); go_simp; all_goals (with_reducible rfl))
      try simp only [Act.put, List.setIfInBounds_toArray, List.set_cons_zero, List.set_cons_succ]
      refine wpAnyH_take (i := 18) (oi := { dst := some 34, op := Op.move (Operand.tmp 0), type := 27, pos := "l24_allocate.go:75", after := #[{ on := 13, ground := Ground.guard }], guard := some (13, true) }) (v := ?v18_r2_19) rfl (by kernel_rfl) (by kernel_rfl) (by kernel_rfl) (fun _ _ _ h => h) (Or.inl ⟨by rfl, ?y18_r2_19⟩) (by assumption) ?r18_r2_19
      case y18_r2_19 => (intro w hSw; (try dsimp only at hSw); go_simp; all_goals (with_reducible rfl))
      try simp only [Act.put, List.setIfInBounds_toArray, List.set_cons_zero, List.set_cons_succ]
      refine wpAnyH_take (i := 19) (oi := { dst := some 35, op := Op.move (Operand.tmp 7), type := 3, pos := "l24_allocate.go:75", after := #[{ on := 13, ground := Ground.guard }], guard := some (13, true) }) (v := ?v19_r2_20) rfl (by kernel_rfl) (by kernel_rfl) (by kernel_rfl) (fun _ _ _ h => h) (Or.inl ⟨by rfl, ?y19_r2_20⟩) (by assumption) ?r19_r2_20
      case y19_r2_20 => (intro w hSw; (try dsimp only at hSw); go_simp; all_goals (with_reducible rfl))
      try simp only [Act.put, List.setIfInBounds_toArray, List.set_cons_zero, List.set_cons_succ]
      refine wpAnyH_take (i := 20) (oi := { dst := some 36, op := Op.indexAddr 27 (Operand.tmp 34) (Operand.tmp 35), type := 0, pos := "l24_allocate.go:75", after := #[{ on := 18, ground := Ground.data }, { on := 19, ground := Ground.data }, { on := 13, ground := Ground.guard }], guard := some (13, true) }) (v := ?v20_r2_21) rfl (by kernel_rfl) (by kernel_rfl) (by kernel_rfl) (fun _ _ _ h => h) (Or.inl ⟨by rfl, ?y20_r2_21⟩) (by assumption) ?r20_r2_21
      case y20_r2_21 => (intro w hSw; (try dsimp only at hSw); go_simp; all_goals (with_reducible rfl))
      try simp only [Act.put, List.setIfInBounds_toArray, List.set_cons_zero, List.set_cons_succ]
      refine wpAnyH_take (i := 21) (oi := { dst := some 37, op := Op.load 46 (Operand.tmp 36), type := 46, pos := "l24_allocate.go:75", after := #[{ on := 20, ground := Ground.data }, { on := 13, ground := Ground.guard }], guard := some (13, true) }) (v := ?v21_r2_22) rfl (by kernel_rfl) (by kernel_rfl) (by kernel_rfl) (fun _ _ _ h => h) (Or.inl ⟨by rfl, ?y21_r2_22⟩) (by assumption) ?r21_r2_22
      case y21_r2_22 => (intro w hSw; (try dsimp only at hSw); go_simp; all_goals (with_reducible rfl))
      try simp only [Act.put, List.setIfInBounds_toArray, List.set_cons_zero, List.set_cons_succ]
      refine wpAnyH_ready (rs := [22]) (by kernel_rfl) (by simp) ?_
      refine AllReadyH.cons (o := { dst := some 38, op := Op.call { callee := Callee.value (Operand.func 44), args := #[Operand.tmp 33, Operand.tmp 37], argTypes := #[46, 46] }, type := 4, pos := "l24_allocate.go:75", after := #[{ on := 17, ground := Ground.data }, { on := 21, ground := Ground.data }, { on := 13, ground := Ground.chain }, { on := 13, ground := Ground.guard }], guard := some (13, true) }) rfl (fun K hK => ?_) AllReadyH.nil
      go_simp
      go_at_call 44
      refine (implOv_yes sk bk sm bm _ ho).mono ?_
      rintro e wH23 ⟨rfl, gH23⟩
      have m23_tk_ : wH23.cell? _ = some _ := gH23.cell tk_ (by simp); have m23_N_0_ : wH23.cell? _ = some _ := gH23.cell N_0_ (by simp); have m23_ck0_ : wH23.cell? _ = some _ := gH23.cell ck0_ (by simp); have m23_ck1_ : wH23.cell? _ = some _ := gH23.cell ck1_ (by simp); have m23_cm0_ : wH23.cell? _ = some _ := gH23.cell cm0_ (by simp); have m23_cm1_ : wH23.cell? _ = some _ := gH23.cell cm1_ (by simp)
      go_wp2_with fail
      clear hHeld
      refine hK.out _ _ ?s22_r2_23 (fun hHeld => ?_)
      case s22_r2_23 => exact ⟨m23_tk_, m23_N_0_, m23_ck0_, m23_ck1_, m23_cm0_, m23_cm1_⟩
      clear hK K
      try simp only [Act.put, List.setIfInBounds_toArray, List.set_cons_zero, List.set_cons_succ]
      refine wpAnyH_take (i := 23) (oi := { dst := some 39, op := Op.pick (Operand.tmp 29) (Operand.tmp 38) (Operand.const (Value.bool false)), type := 4, pos := "l24_allocate.go:75", after := #[{ on := 13, ground := Ground.data }, { on := 22, ground := Ground.data }], guard := none }) (v := ?v23_r2_24) rfl (by kernel_rfl) (by kernel_rfl) (by kernel_rfl) (fun _ _ _ h => h) (Or.inl ⟨by rfl, ?y23_r2_24⟩) (by assumption) ?r23_r2_24
      case y23_r2_24 => (intro w hSw; (try dsimp only at hSw); go_simp; all_goals (with_reducible rfl))
      try simp only [Act.put, List.setIfInBounds_toArray, List.set_cons_zero, List.set_cons_succ]
      refine wpAnyH_done (by kernel_rfl) ?_ _
      go_wp2
      go_ret
      exact ⟨false, rfl, iff_no (fun q => q.1 m (by have := HE.out; omega) hmk (by rw [← HPM.out, HPK.out]) (HOV.out.2 ho)), by repeat (first | exact gby_trans G2_.out (gby_trans (gby_drew (gby_refl _ none)) gH23) | with_reducible refine gby_drewN ?_ _)⟩
    · skip
      go_wp2_with fail
      refine wp_region_held_drew (S := fun w' => w'.cell? ⟨tb, to + kn * 3, none⟩ = some (.int .i64 (pk : Int)) ∧ w'.cell? ⟨wi.heap.size, 0, none⟩ = some (.int .i64 (pk : Int)) ∧ w'.cell? ⟨ab, ao + kn * 2, none⟩ = some (.int .i64 sk) ∧ w'.cell? ⟨ab, ao + kn * 2 + 1, none⟩ = some (.int .i64 bk) ∧ w'.cell? ⟨ab, ao + m * 2, none⟩ = some (.int .i64 sm) ∧ w'.cell? ⟨ab, ao + m * 2 + 1, none⟩ = some (.int .i64 bm)) (by kernel_rfl) (by (try dsimp only); exact ⟨tk_, N_0_, ck0_, ck1_, cm0_, cm1_⟩) (fun hHeld => ?_)
      refine wpAnyH_take (i := 0) (oi := { dst := some 16, op := Op.move (Operand.tmp 7), type := 3, pos := "l24_allocate.go:75", after := #[], guard := none }) (v := ?v0_r3_1) rfl (by kernel_rfl) (by kernel_rfl) (by kernel_rfl) (fun _ _ _ h => h) (Or.inl ⟨by rfl, ?y0_r3_1⟩) (by assumption) ?r0_r3_1
      case y0_r3_1 => (intro w hSw; (try dsimp only at hSw); go_simp; all_goals (with_reducible rfl))
      try simp only [Act.put, List.setIfInBounds_toArray, List.set_cons_zero, List.set_cons_succ]
      refine wpAnyH_take (i := 1) (oi := { dst := some 17, op := Op.move (Operand.tmp 2), type := 3, pos := "l24_allocate.go:75", after := #[], guard := none }) (v := ?v1_r3_2) rfl (by kernel_rfl) (by kernel_rfl) (by kernel_rfl) (fun _ _ _ h => h) (Or.inl ⟨by rfl, ?y1_r3_2⟩) (by assumption) ?r1_r3_2
      case y1_r3_2 => (intro w hSw; (try dsimp only at hSw); go_simp; all_goals (with_reducible rfl))
      try simp only [Act.put, List.setIfInBounds_toArray, List.set_cons_zero, List.set_cons_succ]
      refine wpAnyH_take (i := 2) (oi := { dst := some 18, op := Op.binOp BinOp.neq 3 (Operand.tmp 16) (Operand.tmp 17) 3, type := 4, pos := "l24_allocate.go:75", after := #[{ on := 0, ground := Ground.data }, { on := 1, ground := Ground.data }], guard := none }) (v := ?v2_r3_3) rfl (by kernel_rfl) (by kernel_rfl) (by kernel_rfl) (fun _ _ _ h => h) (Or.inl ⟨by rfl, ?y2_r3_3⟩) (by assumption) ?r2_r3_3
      case y2_r3_3 => (intro w hSw; (try dsimp only at hSw); go_simp; all_goals (with_reducible rfl))
      try simp only [Act.put, List.setIfInBounds_toArray, List.set_cons_zero, List.set_cons_succ]
      refine wpAnyH_take (i := 3) (oi := { dst := some 19, op := Op.move (Operand.tmp 18), type := 4, pos := "l24_allocate.go:75", after := #[{ on := 2, ground := Ground.data }], guard := none }) (v := ?v3_r3_4) rfl (by kernel_rfl) (by kernel_rfl) (by kernel_rfl) (fun _ _ _ h => h) (Or.inl ⟨by rfl, ?y3_r3_4⟩) (by assumption) ?r3_r3_4
      case y3_r3_4 => (intro w hSw; (try dsimp only at hSw); go_simp; all_goals (with_reducible rfl))
      try simp only [Act.put, List.setIfInBounds_toArray, List.set_cons_zero, List.set_cons_succ]
      refine wpAnyH_take (i := 4) (oi := { dst := some 20, op := Op.fieldAddr 48 (Operand.tmp 8) 0, type := 0, pos := "l24_allocate.go:75", after := #[{ on := 3, ground := Ground.guard }], guard := some (3, true) }) (v := ?v4_r3_5) rfl (by kernel_rfl) (by kernel_rfl) (by kernel_rfl) (fun _ _ _ h => h) (Or.inl ⟨by rfl, ?y4_r3_5⟩) (by assumption) ?r4_r3_5
      case y4_r3_5 => (intro w hSw; (try dsimp only at hSw); go_simp; all_goals (with_reducible rfl))
      try simp only [Act.put, List.setIfInBounds_toArray, List.set_cons_zero, List.set_cons_succ]
      refine wpAnyH_take (i := 5) (oi := { dst := some 21, op := Op.load 3 (Operand.tmp 20), type := 3, pos := "l24_allocate.go:75", after := #[{ on := 4, ground := Ground.data }, { on := 3, ground := Ground.guard }], guard := some (3, true) }) (v := ?v5_r3_6) rfl (by kernel_rfl) (by kernel_rfl) (by kernel_rfl) (fun _ _ _ h => h) (Or.inl ⟨by rfl, ?y5_r3_6⟩) (by assumption) ?r5_r3_6
      case y5_r3_6 => (intro w hSw; (try dsimp only at hSw); go_simp; all_goals (with_reducible rfl))
      try simp only [Act.put, List.setIfInBounds_toArray, List.set_cons_zero, List.set_cons_succ]
      refine wpAnyH_take (i := 6) (oi := { dst := some 22, op := Op.move (Operand.tmp 1), type := 29, pos := "l24_allocate.go:75", after := #[{ on := 3, ground := Ground.guard }], guard := some (3, true) }) (v := ?v6_r3_7) rfl (by kernel_rfl) (by kernel_rfl) (by kernel_rfl) (fun _ _ _ h => h) (Or.inl ⟨by rfl, ?y6_r3_7⟩) (by assumption) ?r6_r3_7
      case y6_r3_7 => (intro w hSw; (try dsimp only at hSw); go_simp; all_goals (with_reducible rfl))
      try simp only [Act.put, List.setIfInBounds_toArray, List.set_cons_zero, List.set_cons_succ]
      refine wpAnyH_take (i := 7) (oi := { dst := some 23, op := Op.move (Operand.tmp 2), type := 3, pos := "l24_allocate.go:75", after := #[{ on := 3, ground := Ground.guard }], guard := some (3, true) }) (v := ?v7_r3_8) rfl (by kernel_rfl) (by kernel_rfl) (by kernel_rfl) (fun _ _ _ h => h) (Or.inl ⟨by rfl, ?y7_r3_8⟩) (by assumption) ?r7_r3_8
      case y7_r3_8 => (intro w hSw; (try dsimp only at hSw); go_simp; all_goals (with_reducible rfl))
      try simp only [Act.put, List.setIfInBounds_toArray, List.set_cons_zero, List.set_cons_succ]
      refine wpAnyH_take (i := 8) (oi := { dst := some 24, op := Op.indexAddr 29 (Operand.tmp 22) (Operand.tmp 23), type := 0, pos := "l24_allocate.go:75", after := #[{ on := 6, ground := Ground.data }, { on := 7, ground := Ground.data }, { on := 3, ground := Ground.guard }], guard := some (3, true) }) (v := ?v8_r3_9) rfl (by kernel_rfl) (by kernel_rfl) (by kernel_rfl) (fun _ _ _ h => h) (Or.inl ⟨by rfl, ?y8_r3_9⟩) (by assumption) ?r8_r3_9
      case y8_r3_9 => (intro w hSw; (try dsimp only at hSw); go_simp; all_goals (with_reducible rfl))
      try simp only [Act.put, List.setIfInBounds_toArray, List.set_cons_zero, List.set_cons_succ]
      refine wpAnyH_take (i := 9) (oi := { dst := some 25, op := Op.fieldAddr 48 (Operand.tmp 24) 0, type := 0, pos := "l24_allocate.go:75", after := #[{ on := 8, ground := Ground.data }, { on := 3, ground := Ground.guard }], guard := some (3, true) }) (v := ?v9_r3_10) rfl (by kernel_rfl) (by kernel_rfl) (by kernel_rfl) (fun _ _ _ h => h) (Or.inl ⟨by rfl, ?y9_r3_10⟩) (by assumption) ?r9_r3_10
      case y9_r3_10 => (intro w hSw; (try dsimp only at hSw); go_simp; all_goals (with_reducible rfl))
      try simp only [Act.put, List.setIfInBounds_toArray, List.set_cons_zero, List.set_cons_succ]
      refine wpAnyH_take (i := 10) (oi := { dst := some 26, op := Op.load 3 (Operand.tmp 25), type := 3, pos := "l24_allocate.go:75", after := #[{ on := 9, ground := Ground.data }, { on := 3, ground := Ground.guard }], guard := some (3, true) }) (v := ?v10_r3_11) rfl (by kernel_rfl) (by kernel_rfl) (by kernel_rfl) (fun _ _ _ h => h) (Or.inl ⟨by rfl, ?y10_r3_11⟩) (by assumption) ?r10_r3_11
      case y10_r3_11 => (intro w hSw; (try dsimp only at hSw); go_simp; all_goals (with_reducible rfl))
      try simp only [Act.put, List.setIfInBounds_toArray, List.set_cons_zero, List.set_cons_succ]
      refine wpAnyH_take (i := 11) (oi := { dst := some 27, op := Op.binOp BinOp.eql 3 (Operand.tmp 21) (Operand.tmp 26) 3, type := 4, pos := "l24_allocate.go:75", after := #[{ on := 5, ground := Ground.data }, { on := 10, ground := Ground.data }, { on := 3, ground := Ground.guard }], guard := some (3, true) }) (v := ?v11_r3_12) rfl (by kernel_rfl) (by kernel_rfl) (by kernel_rfl) (fun _ _ _ h => h) (Or.inl ⟨by rfl, ?y11_r3_12⟩) (by assumption) ?r11_r3_12
      case y11_r3_12 => (intro w hSw; (try dsimp only at hSw); go_simp; all_goals (with_reducible rfl))
      try simp only [Act.put, List.setIfInBounds_toArray, List.set_cons_zero, List.set_cons_succ]
      refine wpAnyH_take (i := 12) (oi := { dst := some 28, op := Op.pick (Operand.tmp 19) (Operand.tmp 27) (Operand.const (Value.bool false)), type := 4, pos := "l24_allocate.go:75", after := #[{ on := 3, ground := Ground.data }, { on := 11, ground := Ground.data }], guard := none }) (v := ?v12_r3_13) rfl (by kernel_rfl) (by kernel_rfl) (by kernel_rfl) (fun _ _ _ h => h) (Or.inl ⟨by rfl, ?y12_r3_13⟩) (by assumption) ?r12_r3_13
      case y12_r3_13 => (intro w hSw; (try dsimp only at hSw); go_simp; all_goals (with_reducible rfl))
      try simp only [Act.put, List.setIfInBounds_toArray, List.set_cons_zero, List.set_cons_succ]
      refine wpAnyH_take (i := 13) (oi := { dst := some 29, op := Op.move (Operand.tmp 28), type := 4, pos := "l24_allocate.go:75", after := #[{ on := 12, ground := Ground.data }, { on := 3, ground := Ground.chain }], guard := none }) (v := ?v13_r3_14) rfl (by kernel_rfl) (by kernel_rfl) (by kernel_rfl) (fun _ _ _ h => h) (Or.inl ⟨by rfl, ?y13_r3_14⟩) (by assumption) ?r13_r3_14
      case y13_r3_14 => (intro w hSw; (try dsimp only at hSw); go_simp; all_goals (with_reducible rfl))
      try simp only [Act.put, List.setIfInBounds_toArray, List.set_cons_zero, List.set_cons_succ]
      refine wpAnyH_take (i := 14) (oi := { dst := some 30, op := Op.move (Operand.tmp 0), type := 27, pos := "l24_allocate.go:75", after := #[{ on := 13, ground := Ground.guard }], guard := some (13, true) }) (v := ?v14_r3_15) rfl (by kernel_rfl) (by kernel_rfl) (by kernel_rfl) (fun _ _ _ h => h) (Or.inl ⟨by rfl, ?y14_r3_15⟩) (by assumption) ?r14_r3_15
      case y14_r3_15 => (intro w hSw; (try dsimp only at hSw); go_simp; all_goals (with_reducible rfl))
      try simp only [Act.put, List.setIfInBounds_toArray, List.set_cons_zero, List.set_cons_succ]
      refine wpAnyH_take (i := 15) (oi := { dst := some 31, op := Op.move (Operand.tmp 2), type := 3, pos := "l24_allocate.go:75", after := #[{ on := 13, ground := Ground.guard }], guard := some (13, true) }) (v := ?v15_r3_16) rfl (by kernel_rfl) (by kernel_rfl) (by kernel_rfl) (fun _ _ _ h => h) (Or.inl ⟨by rfl, ?y15_r3_16⟩) (by assumption) ?r15_r3_16
      case y15_r3_16 => (intro w hSw; (try dsimp only at hSw); go_simp; all_goals (with_reducible rfl))
      try simp only [Act.put, List.setIfInBounds_toArray, List.set_cons_zero, List.set_cons_succ]
      refine wpAnyH_take (i := 16) (oi := { dst := some 32, op := Op.indexAddr 27 (Operand.tmp 30) (Operand.tmp 31), type := 0, pos := "l24_allocate.go:75", after := #[{ on := 14, ground := Ground.data }, { on := 15, ground := Ground.data }, { on := 13, ground := Ground.guard }], guard := some (13, true) }) (v := ?v16_r3_17) rfl (by kernel_rfl) (by kernel_rfl) (by kernel_rfl) (fun _ _ _ h => h) (Or.inl ⟨by rfl, ?y16_r3_17⟩) (by assumption) ?r16_r3_17
      case y16_r3_17 => (intro w hSw; (try dsimp only at hSw); go_simp; all_goals (with_reducible rfl))
      try simp only [Act.put, List.setIfInBounds_toArray, List.set_cons_zero, List.set_cons_succ]
      refine wpAnyH_take (i := 17) (oi := { dst := some 33, op := Op.load 46 (Operand.tmp 32), type := 46, pos := "l24_allocate.go:75", after := #[{ on := 16, ground := Ground.data }, { on := 13, ground := Ground.guard }], guard := some (13, true) }) (v := ?v17_r3_18) rfl (by kernel_rfl) (by kernel_rfl) (by kernel_rfl) (fun _ _ _ h => h) (Or.inl ⟨by rfl, ?y17_r3_18⟩) (by assumption) ?r17_r3_18
      case y17_r3_18 => (intro w hSw; (try dsimp only at hSw); go_simp; all_goals (with_reducible rfl))
      try simp only [Act.put, List.setIfInBounds_toArray, List.set_cons_zero, List.set_cons_succ]
      refine wpAnyH_take (i := 18) (oi := { dst := some 34, op := Op.move (Operand.tmp 0), type := 27, pos := "l24_allocate.go:75", after := #[{ on := 13, ground := Ground.guard }], guard := some (13, true) }) (v := ?v18_r3_19) rfl (by kernel_rfl) (by kernel_rfl) (by kernel_rfl) (fun _ _ _ h => h) (Or.inl ⟨by rfl, ?y18_r3_19⟩) (by assumption) ?r18_r3_19
      case y18_r3_19 => (intro w hSw; (try dsimp only at hSw); go_simp; all_goals (with_reducible rfl))
      try simp only [Act.put, List.setIfInBounds_toArray, List.set_cons_zero, List.set_cons_succ]
      refine wpAnyH_take (i := 19) (oi := { dst := some 35, op := Op.move (Operand.tmp 7), type := 3, pos := "l24_allocate.go:75", after := #[{ on := 13, ground := Ground.guard }], guard := some (13, true) }) (v := ?v19_r3_20) rfl (by kernel_rfl) (by kernel_rfl) (by kernel_rfl) (fun _ _ _ h => h) (Or.inl ⟨by rfl, ?y19_r3_20⟩) (by assumption) ?r19_r3_20
      case y19_r3_20 => (intro w hSw; (try dsimp only at hSw); go_simp; all_goals (with_reducible rfl))
      try simp only [Act.put, List.setIfInBounds_toArray, List.set_cons_zero, List.set_cons_succ]
      refine wpAnyH_take (i := 20) (oi := { dst := some 36, op := Op.indexAddr 27 (Operand.tmp 34) (Operand.tmp 35), type := 0, pos := "l24_allocate.go:75", after := #[{ on := 18, ground := Ground.data }, { on := 19, ground := Ground.data }, { on := 13, ground := Ground.guard }], guard := some (13, true) }) (v := ?v20_r3_21) rfl (by kernel_rfl) (by kernel_rfl) (by kernel_rfl) (fun _ _ _ h => h) (Or.inl ⟨by rfl, ?y20_r3_21⟩) (by assumption) ?r20_r3_21
      case y20_r3_21 => (intro w hSw; (try dsimp only at hSw); go_simp; all_goals (with_reducible rfl))
      try simp only [Act.put, List.setIfInBounds_toArray, List.set_cons_zero, List.set_cons_succ]
      refine wpAnyH_take (i := 21) (oi := { dst := some 37, op := Op.load 46 (Operand.tmp 36), type := 46, pos := "l24_allocate.go:75", after := #[{ on := 20, ground := Ground.data }, { on := 13, ground := Ground.guard }], guard := some (13, true) }) (v := ?v21_r3_22) rfl (by kernel_rfl) (by kernel_rfl) (by kernel_rfl) (fun _ _ _ h => h) (Or.inl ⟨by rfl, ?y21_r3_22⟩) (by assumption) ?r21_r3_22
      case y21_r3_22 => (intro w hSw; (try dsimp only at hSw); go_simp; all_goals (with_reducible rfl))
      try simp only [Act.put, List.setIfInBounds_toArray, List.set_cons_zero, List.set_cons_succ]
      refine wpAnyH_ready (rs := [22]) (by kernel_rfl) (by simp) ?_
      refine AllReadyH.cons (o := { dst := some 38, op := Op.call { callee := Callee.value (Operand.func 44), args := #[Operand.tmp 33, Operand.tmp 37], argTypes := #[46, 46] }, type := 4, pos := "l24_allocate.go:75", after := #[{ on := 17, ground := Ground.data }, { on := 21, ground := Ground.data }, { on := 13, ground := Ground.chain }, { on := 13, ground := Ground.guard }], guard := some (13, true) }) rfl (fun K hK => ?_) AllReadyH.nil
      go_simp
      go_at_call 44
      refine (implOv_no sk bk sm bm _ ho).mono ?_
      rintro e wH23 ⟨rfl, gH23⟩
      have m23_tk_ : wH23.cell? _ = some _ := gH23.cell tk_ (by simp); have m23_N_0_ : wH23.cell? _ = some _ := gH23.cell N_0_ (by simp); have m23_ck0_ : wH23.cell? _ = some _ := gH23.cell ck0_ (by simp); have m23_ck1_ : wH23.cell? _ = some _ := gH23.cell ck1_ (by simp); have m23_cm0_ : wH23.cell? _ = some _ := gH23.cell cm0_ (by simp); have m23_cm1_ : wH23.cell? _ = some _ := gH23.cell cm1_ (by simp)
      go_wp2_with fail
      clear hHeld
      refine hK.out _ _ ?s22_r3_23 (fun hHeld => ?_)
      case s22_r3_23 => exact ⟨m23_tk_, m23_N_0_, m23_ck0_, m23_ck1_, m23_cm0_, m23_cm1_⟩
      clear hK K
      try simp only [Act.put, List.setIfInBounds_toArray, List.set_cons_zero, List.set_cons_succ]
      refine wpAnyH_take (i := 23) (oi := { dst := some 39, op := Op.pick (Operand.tmp 29) (Operand.tmp 38) (Operand.const (Value.bool false)), type := 4, pos := "l24_allocate.go:75", after := #[{ on := 13, ground := Ground.data }, { on := 22, ground := Ground.data }], guard := none }) (v := ?v23_r3_24) rfl (by kernel_rfl) (by kernel_rfl) (by kernel_rfl) (fun _ _ _ h => h) (Or.inl ⟨by rfl, ?y23_r3_24⟩) (by assumption) ?r23_r3_24
      case y23_r3_24 => (intro w hSw; (try dsimp only at hSw); go_simp; all_goals (with_reducible rfl))
      try simp only [Act.put, List.setIfInBounds_toArray, List.set_cons_zero, List.set_cons_succ]
      refine wpAnyH_done (by kernel_rfl) ?_ _
      go_wp2
      refine ⟨⟨m + 1, by go_num, ⟨_, rfl⟩, ⟨_, rfl⟩, by omega, fun j q1 q2 q3 => ?_, by repeat (first | exact gby_trans HTB3_.out (gby_trans (gby_drew (gby_refl _ none)) gH23) | with_reducible refine gby_drewN ?_ _)⟩, by simp [intOf]; omega⟩
      by_cases e : j = m
      · subst e; exact fun q => ho (HOV.out.1 q)
      · exact HINN.out j (by omega) q2 q3

set_option maxRecDepth 8000 in
set_option maxHeartbeats 4000000 in
theorem implNest (W : World) (v u : Value) (ys : List DBar) (xs : List DNode) (H0 : RdL shBar W v ys) (H1 : RdL shNode W u xs) (hl0 : szL shBar ys ≤ 1048576) (hl1 : szL shNode xs ≤ 1048576) (hb : B64 ys) : Calls Try.prog 12 #[v, u] W (BPost (NestPI ys xs) W) := by
  have HT := Lib.hid H1
  have HY0 := Lib.hid H0
  have HLB := Lib.hid hl0
  have HL := Lib.hid hl1
  have HB64 := Lib.hid hb
  have hlx : xs.length ≤ 1048576 := by have := szL_len shNode xs; omega
  have hly : ys.length ≤ 1048576 := by have := szL_len shBar ys; omega
  obtain ⟨a1, cap1, rfl, _, hi1⟩ := rdN_in H1
  obtain ⟨a0, cap0, rfl, hi0⟩ := rdBd_in H0
  have HA1 := Lib.hid hi1
  have HA0 := Lib.hid hi0
  obtain ⟨len, hlen⟩ : ∃ len, len = xs.length := ⟨_, rfl⟩
  obtain ⟨len0, hlen0⟩ : ∃ len, len = ys.length := ⟨_, rfl⟩
  have HE := Lib.hid hlen
  have HE0 := Lib.hid hlen0
  unfold RdN at HA1
  rw [← hlen] at hlx HT HA1 ⊢
  rw [← hlen0] at hly HA0 HY0 ⊢
  clear H0 H1 hi0 hi1 hlen hlen0 hl1 hl0 hb
  by_cases hh : TOk xs ∧ ys.length = xs.length
  rotate_left
  · have HNH := Lib.hid hh
    clear hh
    go_enter Try.func12, Try.ntmps12
    go_wp2_with fail
    go_at_call 31
    refine (((implHaveW _ _ _ ys xs (HY0.out.grow (gby_refl _ _)) (HT.out.grow (gby_refl _ _)) HLB.out HL.out HB64.out).mono (bpost_no HNH.out))).mono ?_
    rintro e w1 ⟨rfl, g⟩
    have szw1 := g.size
    try simp only [World.size_alloc] at szw1
    try simp only [World.size_setCell] at szw1
    have G1_ := Lib.hid (show (W).grownBy (w1) none from gby_trans (gby_refl _ _) g)
    clear g
    go_wp2
    go_ret
    exact ⟨false, rfl, iff_no (fun q => HNH.out ⟨q.1, q.2.1⟩), G1_.out⟩
  have HH := Lib.hid hh
  obtain rfl : len0 = len := by have := HE.out; have := HE0.out; have := hh.2; omega
  have hn1 : 1 ≤ len0 := by have := HE.out; have := hh.1.1.1; omega
  have hn12 : len0 ≤ 12 := by have := HE.out; have := hh.1.1.2; omega
  clear hh HA1
  obtain ⟨ab, ao, rfl, hac⟩ := HA0.out.resolve_left (by omega)
  have HAC := Lib.hid hac
  clear hac HA0
  go_enter Try.func12, Try.ntmps12
  go_wp2_with fail
  go_at_call 31
  refine (((implHaveW _ _ _ ys xs (HY0.out.grow (gby_refl _ _)) (HT.out.grow (gby_refl _ _)) HLB.out HL.out HB64.out).mono (bpost_yes HH.out))).mono ?_
  rintro e w1 ⟨rfl, g⟩
  have szw1 := g.size
  try simp only [World.size_alloc] at szw1
  try simp only [World.size_setCell] at szw1
  have G1_ := Lib.hid (show (W).grownBy (w1) none from gby_trans (gby_refl _ _) g)
  clear g
  go_wp2
  go_loopw [5] (fun k wr => ∃ n : Nat, k = .int .i64 (n : Int) ∧ 1 ≤ n ∧ n ≤ len0 ∧ (∀ j, 1 ≤ j → j < n → NestI ys xs j) ∧ (w1).grownBy wr none) (fun k _ => len0 - (intOf k).toNat)
  case atStart => exact ⟨1, rfl, by omega, hn1, (fun j h1 h2 => by omega), gby_refl _ _⟩
  case round =>
    obtain ⟨wo, hwo_⟩ : ∃ w_, w_ = wr := ⟨_, rfl⟩
    subst hwo_
    obtain ⟨n, rfl, hk1, hk, hall, hg⟩ := hrel
    have szrwo := hg.size
    try simp only [World.size_alloc] at szrwo
    try simp only [World.size_setCell] at szrwo
    have szr_ := szrwo
    have G2_ := Lib.hid (show (W).grownBy (wo) none from gby_trans G1_.out hg)
    have HTB_ := Lib.hid hg
    clear hg
    obtain ⟨kn, hkk⟩ : ∃ k, k = n := ⟨_, rfl⟩
    subst hkk
    have HALL := Lib.hid hall
    clear hall
    have hk0 : (0 : Int) ≤ (kn : Int) := by omega
    have htk : ((kn : Int)).toNat = kn := by omega
    by_cases hlt : kn < len0
    rotate_left
    · obtain rfl : kn = len0 := by omega
      have hki : ¬ (kn : Int) < (kn : Int) := by omega
      go_wp2
      go_ret
      exact ⟨true, rfl, iff_yes ⟨HH.out.1, HH.out.2, fun j q1 q2 => HALL.out j q1 (by have := HE.out; omega)⟩, G2_.out⟩
    have hki : (kn : Int) < (len0 : Int) := by omega
    have hkx : kn < xs.length := by have := HE.out; omega
    obtain ⟨sk, hsk_⟩ : ∃ z, z = (bd ys kn).f0 := ⟨_, rfl⟩
    obtain ⟨bk, hbk_⟩ : ∃ z, z = (bd ys kn).f1 := ⟨_, rfl⟩
    obtain ⟨z0_, z1_⟩ := HAC.out kn (by omega)
    rw [← hsk_] at z0_
    rw [← hbk_] at z1_
    have Hsk := Lib.hid hsk_
    have Hbk := Lib.hid hbk_
    have HCk0 := Lib.hid z0_
    have HCk1 := Lib.hid z1_
    clear z0_ z1_ hsk_ hbk_
    have ck0_ := (G2_.out).cell HCk0.out (by simp)
    have ck1_ := (G2_.out).cell HCk1.out (by simp)
    by_cases hp : 0 < sk
    rotate_left
    · have p2_ : decide (0 < sk) = false := decide_eq_false hp
      go_wp2
      refine ⟨⟨kn + 1, by go_num, by omega, by omega, fun j q1 q2 => ?_, HTB_.out⟩, by simp [intOf]; omega⟩
      by_cases e : j = kn
      · subst e; exact fun h => by have := Hsk.out; omega
      · exact HALL.out j q1 (by omega)
    have p2_ : decide (0 < sk) = true := decide_eq_true hp
    have HPO := Lib.hid (show 0 < (bd ys kn).f0 from by rw [← Hsk.out]; exact hp)
    by_cases hc : (∀ i, i < xs.length → ¬ i = kn → (nd xs i).f0 = (nd xs kn).f0 → ¬ NOv ys kn i) ∧ NIn ys xs kn
    · have HCD := Lib.hid hc
      clear hc
      go_wp2_with fail
      go_at_call 32
      refine (((implApart _ _ _ ys xs (HY0.out.grow G2_.out) (HT.out.grow G2_.out) HLB.out HL.out HB64.out kn HH.out.1 HH.out.2 hk1 hkx HPO.out).mono (bpost_yes HCD.out))).mono ?_
      rintro e w2 ⟨rfl, g⟩
      have szw2 := g.size
      try simp only [World.size_alloc] at szw2
      try simp only [World.size_setCell] at szw2
      clear ck0_ ck1_
      have G3_ := Lib.hid (show (W).grownBy (w2) none from gby_trans G2_.out g)
      have HTB4_ := Lib.hid (show (w1).grownBy (w2) none from gby_trans HTB_.out g)
      clear HTB_
      clear g
      have ck0_ := (G3_.out).cell HCk0.out (by simp)
      have ck1_ := (G3_.out).cell HCk1.out (by simp)
      go_wp2
      refine ⟨⟨kn + 1, by go_num, by omega, by omega, fun j q1 q2 => ?_, HTB4_.out⟩, by simp [intOf]; omega⟩
      by_cases e : j = kn
      · subst e; exact fun _ => HCD.out
      · exact HALL.out j q1 (by omega)
    · have HCD := Lib.hid hc
      clear hc
      go_wp2_with fail
      go_at_call 32
      refine (((implApart _ _ _ ys xs (HY0.out.grow G2_.out) (HT.out.grow G2_.out) HLB.out HL.out HB64.out kn HH.out.1 HH.out.2 hk1 hkx HPO.out).mono (bpost_no HCD.out))).mono ?_
      rintro e w2 ⟨rfl, g⟩
      have szw2 := g.size
      try simp only [World.size_alloc] at szw2
      try simp only [World.size_setCell] at szw2
      clear ck0_ ck1_
      have G3_ := Lib.hid (show (W).grownBy (w2) none from gby_trans G2_.out g)
      have HTB4_ := Lib.hid (show (w1).grownBy (w2) none from gby_trans HTB_.out g)
      clear HTB_
      clear g
      have ck0_ := (G3_.out).cell HCk0.out (by simp)
      have ck1_ := (G3_.out).cell HCk1.out (by simp)
      go_wp2
      go_ret
      exact ⟨false, rfl, iff_no (fun q => HCD.out ((q.2.2 kn hk1 hkx) HPO.out)), G3_.out⟩

end Go.Proofs.Ytdddidnibelmhaa
