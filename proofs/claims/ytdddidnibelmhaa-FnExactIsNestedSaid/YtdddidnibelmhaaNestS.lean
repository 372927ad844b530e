/-
  IsNested, the model.
-/
import Derived.Test.YtdddidnibelmhaaNestMath
import Derived.Deep.QuietTactic
import Derived.Deep.RegionHeld3
namespace Go.Proofs.Ytdddidnibelmhaa
open Go Go.RowKit
set_option linter.unusedVariables false

set_option maxRecDepth 8000 in
set_option maxHeartbeats 1000000 in
theorem specApart_d (s b t c : Int) (W : World) (hs : I64 s) (hb : I64 b) (ht : I64 t) (hc : I64 c) : Calls Try.prog 28 #[.agg #[.int .i64 s, .int .i64 b], .agg #[.int .i64 t, .int .i64 c]] W (BPost (¬ OvP s b t c) W) := by
  by_cases h1 : 0 < s
  rotate_left
  · have q1 : s ≤ 0 := by omega
    have q2 : decide (s ≤ 0) = true := decide_eq_true q1
    go_enter Try.func28, Try.ntmps28
    have rA1_ := Lib.hid (show (((W.alloc (.cells #[.int .i64 s, .int .i64 b] 46)).alloc (.cells #[.int .i64 t, .int .i64 c] 46))).heap[W.heap.size]? = some (.cells #[.int .i64 s, .int .i64 b] 46 (0, 0)) from by rw [heap_alloc_old _ _ (by simp only [World.size_alloc]; omega)]; exact heap_alloc_new _ _)
    have rB2_ := Lib.hid (show (((W.alloc (.cells #[.int .i64 s, .int .i64 b] 46)).alloc (.cells #[.int .i64 t, .int .i64 c] 46))).heap[W.heap.size + 1]? = some (.cells #[.int .i64 t, .int .i64 c] 46 (0, 0)) from by exact heap_pair _ _ _)
    have G3_ := Lib.hid (show (W).grownBy (((W.alloc (.cells #[.int .i64 s, .int .i64 b] 46)).alloc (.cells #[.int .i64 t, .int .i64 c] 46))) none from (gby_alloc (gby_alloc (gby_refl _ _) _) _))
    have A_0_ : (((W.alloc (.cells #[.int .i64 s, .int .i64 b] 46)).alloc (.cells #[.int .i64 t, .int .i64 c] 46))).cell? ⟨W.heap.size, 0, none⟩ = some (.int .i64 s) := cell_of_row _ _ 0 _ _ _ rA1_.out
    have A_1_ : (((W.alloc (.cells #[.int .i64 s, .int .i64 b] 46)).alloc (.cells #[.int .i64 t, .int .i64 c] 46))).cell? ⟨W.heap.size, 1, none⟩ = some (.int .i64 b) := cell_of_row _ _ 1 _ _ _ rA1_.out
    have B_0_ : (((W.alloc (.cells #[.int .i64 s, .int .i64 b] 46)).alloc (.cells #[.int .i64 t, .int .i64 c] 46))).cell? ⟨W.heap.size + 1, 0, none⟩ = some (.int .i64 t) := cell_of_row _ _ 0 _ _ _ rB2_.out
    have B_1_ : (((W.alloc (.cells #[.int .i64 s, .int .i64 b] 46)).alloc (.cells #[.int .i64 t, .int .i64 c] 46))).cell? ⟨W.heap.size + 1, 1, none⟩ = some (.int .i64 c) := cell_of_row _ _ 1 _ _ _ rB2_.out
    go_wp2
    go_ret
    exact ⟨true, rfl, ⟨fun _ q => absurd q.1 (by omega), fun _ => rfl⟩, by repeat (first | exact G3_.out | with_reducible refine gby_drewN ?_ _)⟩
  have q1 : ¬ s ≤ 0 := by omega
  have q2 : decide (s ≤ 0) = false := decide_eq_false q1
  by_cases h2 : 0 < t
  rotate_left
  · have q3 : t ≤ 0 := by omega
    have q4 : decide (t ≤ 0) = true := decide_eq_true q3
    go_enter Try.func28, Try.ntmps28
    have rA1_ := Lib.hid (show (((W.alloc (.cells #[.int .i64 s, .int .i64 b] 46)).alloc (.cells #[.int .i64 t, .int .i64 c] 46))).heap[W.heap.size]? = some (.cells #[.int .i64 s, .int .i64 b] 46 (0, 0)) from by rw [heap_alloc_old _ _ (by simp only [World.size_alloc]; omega)]; exact heap_alloc_new _ _)
    have rB2_ := Lib.hid (show (((W.alloc (.cells #[.int .i64 s, .int .i64 b] 46)).alloc (.cells #[.int .i64 t, .int .i64 c] 46))).heap[W.heap.size + 1]? = some (.cells #[.int .i64 t, .int .i64 c] 46 (0, 0)) from by exact heap_pair _ _ _)
    have G3_ := Lib.hid (show (W).grownBy (((W.alloc (.cells #[.int .i64 s, .int .i64 b] 46)).alloc (.cells #[.int .i64 t, .int .i64 c] 46))) none from (gby_alloc (gby_alloc (gby_refl _ _) _) _))
    have A_0_ : (((W.alloc (.cells #[.int .i64 s, .int .i64 b] 46)).alloc (.cells #[.int .i64 t, .int .i64 c] 46))).cell? ⟨W.heap.size, 0, none⟩ = some (.int .i64 s) := cell_of_row _ _ 0 _ _ _ rA1_.out
    have A_1_ : (((W.alloc (.cells #[.int .i64 s, .int .i64 b] 46)).alloc (.cells #[.int .i64 t, .int .i64 c] 46))).cell? ⟨W.heap.size, 1, none⟩ = some (.int .i64 b) := cell_of_row _ _ 1 _ _ _ rA1_.out
    have B_0_ : (((W.alloc (.cells #[.int .i64 s, .int .i64 b] 46)).alloc (.cells #[.int .i64 t, .int .i64 c] 46))).cell? ⟨W.heap.size + 1, 0, none⟩ = some (.int .i64 t) := cell_of_row _ _ 0 _ _ _ rB2_.out
    have B_1_ : (((W.alloc (.cells #[.int .i64 s, .int .i64 b] 46)).alloc (.cells #[.int .i64 t, .int .i64 c] 46))).cell? ⟨W.heap.size + 1, 1, none⟩ = some (.int .i64 c) := cell_of_row _ _ 1 _ _ _ rB2_.out
    go_wp2
    go_ret
    exact ⟨true, rfl, ⟨fun _ q => absurd q.2.1 (by omega), fun _ => rfl⟩, by repeat (first | exact G3_.out | with_reducible refine gby_drewN ?_ _)⟩
  have q3 : ¬ t ≤ 0 := by omega
  have q4 : decide (t ≤ 0) = false := decide_eq_false q3
  by_cases h : c ≤ b
  · have h5 : b ≥ c := h
    have h6 : decide (c ≤ b) = true := decide_eq_true h
    have HF := Lib.hid (specFar b c)
    have key := apart_ge hs hb ht hc h1 h2 h
    obtain ⟨D, hD⟩ : ∃ D, IntKind.u64.wrap (IntKind.u64.wrap b - IntKind.u64.wrap c) = D := ⟨_, rfl⟩
    obtain ⟨T, hT⟩ : ∃ T, IntKind.u64.wrap t = T := ⟨_, rfl⟩
    rw [hD] at HF key
    rw [hT] at key
    have KEY := Lib.hid (show decide (T ≤ D) = true ↔ ¬ OvP s b t c from decide_eq_true_iff.trans key.symm)
    clear key hD
    go_enter Try.func28, Try.ntmps28
    have rA1_ := Lib.hid (show (((W.alloc (.cells #[.int .i64 s, .int .i64 b] 46)).alloc (.cells #[.int .i64 t, .int .i64 c] 46))).heap[W.heap.size]? = some (.cells #[.int .i64 s, .int .i64 b] 46 (0, 0)) from by rw [heap_alloc_old _ _ (by simp only [World.size_alloc]; omega)]; exact heap_alloc_new _ _)
    have rB2_ := Lib.hid (show (((W.alloc (.cells #[.int .i64 s, .int .i64 b] 46)).alloc (.cells #[.int .i64 t, .int .i64 c] 46))).heap[W.heap.size + 1]? = some (.cells #[.int .i64 t, .int .i64 c] 46 (0, 0)) from by exact heap_pair _ _ _)
    have G3_ := Lib.hid (show (W).grownBy (((W.alloc (.cells #[.int .i64 s, .int .i64 b] 46)).alloc (.cells #[.int .i64 t, .int .i64 c] 46))) none from (gby_alloc (gby_alloc (gby_refl _ _) _) _))
    have A_0_ : (((W.alloc (.cells #[.int .i64 s, .int .i64 b] 46)).alloc (.cells #[.int .i64 t, .int .i64 c] 46))).cell? ⟨W.heap.size, 0, none⟩ = some (.int .i64 s) := cell_of_row _ _ 0 _ _ _ rA1_.out
    have A_1_ : (((W.alloc (.cells #[.int .i64 s, .int .i64 b] 46)).alloc (.cells #[.int .i64 t, .int .i64 c] 46))).cell? ⟨W.heap.size, 1, none⟩ = some (.int .i64 b) := cell_of_row _ _ 1 _ _ _ rA1_.out
    have B_0_ : (((W.alloc (.cells #[.int .i64 s, .int .i64 b] 46)).alloc (.cells #[.int .i64 t, .int .i64 c] 46))).cell? ⟨W.heap.size + 1, 0, none⟩ = some (.int .i64 t) := cell_of_row _ _ 0 _ _ _ rB2_.out
    have B_1_ : (((W.alloc (.cells #[.int .i64 s, .int .i64 b] 46)).alloc (.cells #[.int .i64 t, .int .i64 c] 46))).cell? ⟨W.heap.size + 1, 1, none⟩ = some (.int .i64 c) := cell_of_row _ _ 1 _ _ _ rB2_.out
    go_wp2
    go_quiet ((go_at_call 27; exact ans_quiet HF.out))
    go_wp2
    go_ret
    exact ⟨_, rfl, KEY.out, by repeat (first | exact G3_.out | with_reducible refine gby_drewN ?_ _)⟩
  · have h5 : ¬ b ≥ c := h
    have h6 : decide (c ≤ b) = false := decide_eq_false h
    have HF := Lib.hid (specFar c b)
    have key := apart_lt hs hb ht hc h1 h2 (by omega)
    obtain ⟨D, hD⟩ : ∃ D, IntKind.u64.wrap (IntKind.u64.wrap c - IntKind.u64.wrap b) = D := ⟨_, rfl⟩
    obtain ⟨T, hT⟩ : ∃ T, IntKind.u64.wrap s = T := ⟨_, rfl⟩
    rw [hD] at HF key
    rw [hT] at key
    have KEY := Lib.hid (show decide (T ≤ D) = true ↔ ¬ OvP s b t c from decide_eq_true_iff.trans key.symm)
    clear key hD
    go_enter Try.func28, Try.ntmps28
    have rA1_ := Lib.hid (show (((W.alloc (.cells #[.int .i64 s, .int .i64 b] 46)).alloc (.cells #[.int .i64 t, .int .i64 c] 46))).heap[W.heap.size]? = some (.cells #[.int .i64 s, .int .i64 b] 46 (0, 0)) from by rw [heap_alloc_old _ _ (by simp only [World.size_alloc]; omega)]; exact heap_alloc_new _ _)
    have rB2_ := Lib.hid (show (((W.alloc (.cells #[.int .i64 s, .int .i64 b] 46)).alloc (.cells #[.int .i64 t, .int .i64 c] 46))).heap[W.heap.size + 1]? = some (.cells #[.int .i64 t, .int .i64 c] 46 (0, 0)) from by exact heap_pair _ _ _)
    have G3_ := Lib.hid (show (W).grownBy (((W.alloc (.cells #[.int .i64 s, .int .i64 b] 46)).alloc (.cells #[.int .i64 t, .int .i64 c] 46))) none from (gby_alloc (gby_alloc (gby_refl _ _) _) _))
    have A_0_ : (((W.alloc (.cells #[.int .i64 s, .int .i64 b] 46)).alloc (.cells #[.int .i64 t, .int .i64 c] 46))).cell? ⟨W.heap.size, 0, none⟩ = some (.int .i64 s) := cell_of_row _ _ 0 _ _ _ rA1_.out
    have A_1_ : (((W.alloc (.cells #[.int .i64 s, .int .i64 b] 46)).alloc (.cells #[.int .i64 t, .int .i64 c] 46))).cell? ⟨W.heap.size, 1, none⟩ = some (.int .i64 b) := cell_of_row _ _ 1 _ _ _ rA1_.out
    have B_0_ : (((W.alloc (.cells #[.int .i64 s, .int .i64 b] 46)).alloc (.cells #[.int .i64 t, .int .i64 c] 46))).cell? ⟨W.heap.size + 1, 0, none⟩ = some (.int .i64 t) := cell_of_row _ _ 0 _ _ _ rB2_.out
    have B_1_ : (((W.alloc (.cells #[.int .i64 s, .int .i64 b] 46)).alloc (.cells #[.int .i64 t, .int .i64 c] 46))).cell? ⟨W.heap.size + 1, 1, none⟩ = some (.int .i64 c) := cell_of_row _ _ 1 _ _ _ rB2_.out
    go_wp2
    go_quiet ((go_at_call 27; exact ans_quiet HF.out))
    go_wp2
    go_ret
    exact ⟨_, rfl, KEY.out, by repeat (first | exact G3_.out | with_reducible refine gby_drewN ?_ _)⟩

set_option maxRecDepth 8000 in
set_option maxHeartbeats 4000000 in
theorem specNest (W : World) (v u : Value) (ys : List DBar) (xs : List DNode) (H0 : RdL shBar W v ys) (H1 : RdL shNode W u xs) (hl0 : szL shBar ys ≤ 1048576) (hl1 : szL shNode xs ≤ 1048576) (hb : B64 ys) : Calls Try.prog 9 #[v, u] W (BPost (NestPS ys xs) W) := by
  have HT := Lib.hid H1
  have HL := Lib.hid hl1
  have HB64 := Lib.hid hb
  have hlx : xs.length ≤ 1048576 := by have := szL_len shNode xs; omega
  have hly : ys.length ≤ 1048576 := by have := szL_len shBar ys; omega
  obtain ⟨a1, cap1, rfl, _, hi1⟩ := rdN_in H1
  obtain ⟨a0, cap0, rfl, hi0⟩ := rdBd_in H0
  have HA1 := Lib.hid hi1
  have HA0 := Lib.hid hi0
  obtain ⟨len, hlen⟩ : ∃ len, len = xs.length := ⟨_, rfl⟩
  obtain ⟨len0, hlen0⟩ : ∃ len, len = ys.length := ⟨_, rfl⟩
  have HE := Lib.hid hlen
  have HE0 := Lib.hid hlen0
  unfold RdN at HA1
  rw [← hlen] at hlx HT HA1 ⊢
  rw [← hlen0] at hly HA0 ⊢
  clear H0 H1 hi0 hi1 hlen hlen0 hl1 hl0 hb
  by_cases ht : TOk xs
  rotate_left
  · have HNT := Lib.hid ht
    clear ht
    go_enter Try.func9, Try.ntmps9
    go_wp2_with fail
    go_at_call 26
    refine (specTree_no _ _ xs (HT.out.grow (gby_refl _ _)) HL.out HNT.out).mono ?_
    rintro e w1 ⟨rfl, g⟩
    have szw1 := g.size
    try simp only [World.size_alloc] at szw1
    try simp only [World.size_setCell] at szw1
    have G1_ := Lib.hid (show (W).grownBy (w1) none from gby_trans (gby_refl _ _) g)
    clear g
    go_wp2
    go_ret
    exact ⟨false, rfl, iff_no (fun q => HNT.out q.1), G1_.out⟩
  have HYT := Lib.hid ht
  have l1 := ht.1.1
  have l2 := ht.1.2
  clear ht
  by_cases hq : len0 = len
  rotate_left
  · have e1_ : ((len0 : Int) != (len : Int)) = true := bne_iff_ne.2 (by omega)
    have e2_ : ((len0 : Int) == (len : Int)) = false := beq_eq_false_iff_ne.2 (by omega)
    have HQ := Lib.hid hq
    clear hq
    go_enter Try.func9, Try.ntmps9
    go_wp2_with fail
    go_at_call 26
    refine (specTree_yes _ _ xs (HT.out.grow (gby_refl _ _)) HL.out HYT.out).mono ?_
    rintro e w1 ⟨rfl, g⟩
    have szw1 := g.size
    try simp only [World.size_alloc] at szw1
    try simp only [World.size_setCell] at szw1
    have G1_ := Lib.hid (show (W).grownBy (w1) none from gby_trans (gby_refl _ _) g)
    clear g
    go_wp2
    go_ret
    exact ⟨false, rfl, iff_no (fun q => HQ.out (by have := HE.out; have := HE0.out; have := q.2.1; omega)), G1_.out⟩
  subst hq
  have hn1 : 1 ≤ len0 := by have := HE.out; omega
  have hn12 : len0 ≤ 12 := by have := HE.out; omega
  obtain ⟨tb, to, rfl, htc⟩ := HA1.out.resolve_left (by omega)
  obtain ⟨ab, ao, rfl, hac⟩ := HA0.out.resolve_left (by omega)
  have HTC := Lib.hid htc
  have HAC := Lib.hid hac
  clear htc hac HA1 HA0
  have e1_ : ((len0 : Int) != (len0 : Int)) = false := by simp
  have e2_ : ((len0 : Int) == (len0 : Int)) = true := by simp
  go_enter Try.func9, Try.ntmps9
  go_wp2_with fail
  go_at_call 26
  refine (specTree_yes _ _ xs (HT.out.grow (gby_refl _ _)) HL.out HYT.out).mono ?_
  rintro e w1 ⟨rfl, g⟩
  have szw1 := g.size
  try simp only [World.size_alloc] at szw1
  try simp only [World.size_setCell] at szw1
  have G1_ := Lib.hid (show (W).grownBy (w1) none from gby_trans (gby_refl _ _) g)
  clear g
  go_wp2
  go_loopw [5, 6, 7] (fun k y6 y7 wr => ∃ n : Nat, k = .int .i64 (n : Int) ∧ (∃ q, y6 = q) ∧ (∃ q, y7 = q) ∧ 1 ≤ n ∧ n ≤ len0 ∧ (∀ j, 1 ≤ j → j < n → NestS ys xs j) ∧ (w1).grownBy wr none) (fun k _ _ _ => len0 - (intOf k).toNat)
  case atStart => exact ⟨1, rfl, ⟨_, rfl⟩, ⟨_, rfl⟩, by omega, hn1, (fun j h1 h2 => by omega), gby_refl _ _⟩
  case round =>
    obtain ⟨wo, hwo_⟩ : ∃ w_, w_ = wr := ⟨_, rfl⟩
    subst hwo_
    obtain ⟨n, rfl, ⟨y6, rfl⟩, ⟨y7, rfl⟩, hk1, hk, hall, hg⟩ := hrel
    have szrwo := hg.size
    try simp only [World.size_alloc] at szrwo
    try simp only [World.size_setCell] at szrwo
    have szr_ := szrwo
    have G2_ := Lib.hid (show (W).grownBy (wo) none from gby_trans G1_.out hg)
    have HTB_ := Lib.hid hg
    clear hg
    obtain ⟨kn, hkk⟩ : ∃ k, k = n := ⟨_, rfl⟩
    subst hkk
    have HALL := Lib.hid hall
    clear hall
    have hk0 : (0 : Int) ≤ (kn : Int) := by omega
    have htk : ((kn : Int)).toNat = kn := by omega
    by_cases hlt : kn < len0
    rotate_left
    · obtain rfl : kn = len0 := by omega
      have hki : ¬ (kn : Int) < (kn : Int) := by omega
      go_wp2
      go_ret
      exact ⟨true, rfl, iff_yes ⟨HYT.out, by have := HE.out; have := HE0.out; omega, fun j q1 q2 => HALL.out j q1 (by have := HE.out; omega)⟩, by repeat (first | exact G2_.out | with_reducible refine gby_drewN ?_ _)⟩
    have hki : (kn : Int) < (len0 : Int) := by omega
    have hkx : kn < xs.length := by have := HE.out; omega
    obtain ⟨sk, hsk_⟩ : ∃ z, z = (bd ys kn).f0 := ⟨_, rfl⟩
    obtain ⟨bk, hbk_⟩ : ∃ z, z = (bd ys kn).f1 := ⟨_, rfl⟩
    obtain ⟨z0_, z1_⟩ := HAC.out kn (by omega)
    rw [← hsk_] at z0_
    rw [← hbk_] at z1_
    have Hsk := Lib.hid hsk_
    have Hbk := Lib.hid hbk_
    have HCk0 := Lib.hid z0_
    have HCk1 := Lib.hid z1_
    clear z0_ z1_ hsk_ hbk_
    have ck0_ := (G2_.out).cell HCk0.out (by simp)
    have ck1_ := (G2_.out).cell HCk1.out (by simp)
    by_cases hp : 0 < sk
    rotate_left
    · have p1_ : sk ≤ 0 := by omega
      have p2_ : decide (sk ≤ 0) = true := decide_eq_true p1_
      go_wp2
      refine ⟨⟨kn + 1, by go_num, ⟨_, rfl⟩, ⟨_, rfl⟩, by omega, by omega, fun j q1 q2 => ?_, by repeat (first | exact HTB_.out | with_reducible refine gby_drewN ?_ _)⟩, by simp [intOf]; omega⟩
      by_cases e : j = kn
      · subst e; exact fun h => by have := Hsk.out; omega
      · exact HALL.out j q1 (by omega)
    have p1_ : ¬ sk ≤ 0 := by omega
    have p2_ : decide (sk ≤ 0) = false := decide_eq_false p1_
    have hpl := (HYT.out.2.2 kn hk1 hkx).1
    obtain ⟨pk, hpk⟩ : ∃ p : Nat, (nd xs kn).f0 = (p : Int) := ⟨((nd xs kn).f0).toNat, by omega⟩
    have HPK := Lib.hid hpk
    have hpk2 : pk < len0 := by omega
    have hpi : (pk : Int) < (len0 : Int) := by omega
    have hp0 : (0 : Int) ≤ (pk : Int) := by omega
    have htp : ((pk : Int)).toNat = pk := by omega
    have t0_ := (HTC.out kn hlt).1
    rw [hpk] at t0_
    have HTK := Lib.hid t0_
    have HPP := Lib.hid (show parI xs kn = pk from by unfold parI; rw [hpk]; omega)
    clear hpl hpk t0_
    have tk_ := (G2_.out).cell HTK.out (by simp)
    obtain ⟨sp, hsp_⟩ : ∃ z, z = (bd ys pk).f0 := ⟨_, rfl⟩
    obtain ⟨bp, hbp_⟩ : ∃ z, z = (bd ys pk).f1 := ⟨_, rfl⟩
    obtain ⟨z0_, z1_⟩ := HAC.out pk (by omega)
    rw [← hsp_] at z0_
    rw [← hbp_] at z1_
    have Hsp := Lib.hid hsp_
    have Hbp := Lib.hid hbp_
    have HCp0 := Lib.hid z0_
    have HCp1 := Lib.hid z1_
    clear z0_ z1_ hsp_ hbp_
    have cp0_ := (G2_.out).cell HCp0.out (by simp)
    have cp1_ := (G2_.out).cell HCp1.out (by simp)
    have dk0_ := ck0_
    have dk1_ := ck1_
    have dt_ := tk_
    have dp0_ := cp0_
    have dp1_ := cp1_
    clear ck0_ ck1_ tk_ cp0_ cp1_
    have al_ : (wo).grownBy ((wo).alloc (.cells #[.int .i64 sp, .int .i64 bp] 46)) none := gby_alloc (gby_refl _ _) _
    have G3_ := Lib.hid (show (W).grownBy ((wo.alloc (.cells #[.int .i64 sp, .int .i64 bp] 46))) none from gby_trans G2_.out al_)
    have HTB4_ := Lib.hid (show (w1).grownBy ((wo.alloc (.cells #[.int .i64 sp, .int .i64 bp] 46))) none from gby_trans HTB_.out al_)
    clear HTB_
    have rP5_ := Lib.hid (show ((wo.alloc (.cells #[.int .i64 sp, .int .i64 bp] 46))).heap[wo.heap.size]? = some (.cells #[.int .i64 sp, .int .i64 bp] 46 (0, 0)) from by first | exact heap_alloc_new _ _ | exact heap_pair _ _ _ | exact heap_trip _ _ _ _)
    clear al_
    have P_0_ : ((wo.alloc (.cells #[.int .i64 sp, .int .i64 bp] 46))).cell? ⟨wo.heap.size, 0, none⟩ = some (.int .i64 sp) := cell_of_row _ _ 0 _ _ _ rP5_.out
    have P_1_ : ((wo.alloc (.cells #[.int .i64 sp, .int .i64 bp] 46))).cell? ⟨wo.heap.size, 1, none⟩ = some (.int .i64 bp) := cell_of_row _ _ 1 _ _ _ rP5_.out
    have ck0_ := (G3_.out).cell HCk0.out (by simp)
    have ck1_ := (G3_.out).cell HCk1.out (by simp)
    have tk_ := (G3_.out).cell HTK.out (by simp)
    have cp0_ := (G3_.out).cell HCp0.out (by simp)
    have cp1_ := (G3_.out).cell HCp1.out (by simp)
    have HI1 := Lib.hid (show I64 sk from (by rw [Hsk.out]; exact (HB64.out kn (by have := HE0.out; omega)).1))
    have HI2 := Lib.hid (show I64 bk from (by rw [Hbk.out]; exact (HB64.out kn (by have := HE0.out; omega)).2))
    have HI3 := Lib.hid (show I64 sp from (by rw [Hsp.out]; exact (HB64.out pk (by have := HE0.out; omega)).1))
    have HI4 := Lib.hid (show I64 bp from (by rw [Hbp.out]; exact (HB64.out pk (by have := HE0.out; omega)).2))
    have HIN := Lib.hid (show NIn ys xs kn ↔ InP sk bk sp bp from by unfold NIn; rw [HPP.out, Hsk.out, Hbk.out, Hsp.out, Hbp.out])
    by_cases c1 : bk < bp
    · have r1_ : decide (bk < bp) = true := decide_eq_true c1
      go_wp2
      go_quiet (fail)
      go_wp2
      go_ret
      exact ⟨false, rfl, iff_no (fun q => absurd (HIN.out.1 ((q.2.2 kn hk1 hkx) (by have := Hsk.out; omega)).1).1 (by omega)), by repeat (first | exact G3_.out | with_reducible refine gby_drewN ?_ _)⟩
    have r1_ : decide (bk < bp) = false := decide_eq_false c1
    by_cases c2 : sp < sk
    · have r2_ : decide (sp < sk) = true := decide_eq_true c2
      go_wp2
      go_quiet (fail)
      go_wp2
      go_ret
      exact ⟨false, rfl, iff_no (fun q => absurd (HIN.out.1 ((q.2.2 kn hk1 hkx) (by have := Hsk.out; omega)).1).2.1 (by omega)), by repeat (first | exact G3_.out | with_reducible refine gby_drewN ?_ _)⟩
    have r2_ : decide (sp < sk) = false := decide_eq_false c2
    have HF := Lib.hid (specFar bk bp)
    have key := far_gt HI2.out HI4.out HI1.out HI3.out (by omega) hp (by omega)
    have w1_ : IntKind.i64.wrap (sp - sk) = sp - sk := IntWalk.i64_in _ (by have := HI1.out; have := HI3.out; unfold I64 at *; omega)
    obtain ⟨D, hD⟩ : ∃ D, IntKind.u64.wrap (IntKind.u64.wrap bk - IntKind.u64.wrap bp) = D := ⟨_, rfl⟩
    obtain ⟨E, hE⟩ : ∃ E, IntKind.u64.wrap (sp - sk) = E := ⟨_, rfl⟩
    rw [hD] at HF key
    rw [hE] at key
    have KEY := Lib.hid key
    clear key hD
    by_cases c3 : E < D
    · have r3_ : decide (E < D) = true := decide_eq_true c3
      go_wp2
      go_quiet ((go_at_call 27; exact ans_quiet HF.out))
      go_wp2
      go_ret
      exact ⟨false, rfl, iff_no (fun q => absurd (HIN.out.1 ((q.2.2 kn hk1 hkx) (by have := Hsk.out; omega)).1).2.2 (by have := KEY.out.1 c3; omega)), by repeat (first | exact G3_.out | with_reducible refine gby_drewN ?_ _)⟩
    have r3_ : decide (E < D) = false := decide_eq_false c3
    have HINY := Lib.hid (show NIn ys xs kn from HIN.out.2 ⟨by omega, by omega, by have := mt KEY.out.2 c3; omega⟩)
    go_wp2
    go_quiet ((go_at_call 27; exact ans_quiet HF.out))
    go_wp2
    clear dk0_ dk1_ dt_ dp0_ dp1_ c1 c2 c3 r1_ r2_ r3_ w1_ hE
    clear HF
    clear KEY
    clear P_0_ P_1_ ck0_ ck1_ tk_ cp0_ cp1_
    have HTI6_ := Lib.hid (gby_refl ((wo.alloc (.cells #[.int .i64 sp, .int .i64 bp] 46))) none)
    have MG7_ := Lib.hid (show (W).grownBy ((wo.alloc (.cells #[.int .i64 sp, .int .i64 bp] 46))) none from G3_.out)
    have MR8_ := Lib.hid rP5_.out
    go_loopw [7] (fun i wr => ∃ m : Nat, i = .int .i64 (m : Int) ∧ 1 ≤ m ∧ m ≤ kn ∧ (∀ j, 1 ≤ j → j < m → (nd xs j).f0 = (nd xs kn).f0 → ¬ NOv ys j kn) ∧ ((wo.alloc (.cells #[.int .i64 sp, .int .i64 bp] 46))).grownBy wr none) (fun i _ => kn - (intOf i).toNat)
    case atStart => exact ⟨1, rfl, by omega, hk1, (fun j h1 h2 => by omega), by repeat (first | exact gby_refl _ _ | with_reducible refine gby_drewN ?_ _)⟩
    case round =>
      obtain ⟨wi, hwo_⟩ : ∃ w_, w_ = wr := ⟨_, rfl⟩
      subst hwo_
      obtain ⟨m, rfl, hm1, hm, hin, hg⟩ := hrel
      have szrwi := hg.size
      try simp only [World.size_alloc] at szrwi
      try simp only [World.size_setCell] at szrwi
      have szr_ := szrwi
      have rP9_ := Lib.hid (show (wi).heap[wo.heap.size]? = some (.cells #[.int .i64 sp, .int .i64 bp] 46 (0, 0)) from row_held hg rP5_.out)
      clear rP5_
      have G10_ := Lib.hid (show (W).grownBy (wi) none from gby_trans G3_.out hg)
      have HTB11_ := Lib.hid (show (w1).grownBy (wi) none from gby_trans HTB4_.out hg)
      clear HTB4_
      have HTI12_ := Lib.hid (show ((wo.alloc (.cells #[.int .i64 sp, .int .i64 bp] 46))).grownBy (wi) none from gby_trans HTI6_.out hg)
      clear HTI6_
      have HTC_ := Lib.hid hg
      clear hg
      have P_0_ : (wi).cell? ⟨wo.heap.size, 0, none⟩ = some (.int .i64 sp) := cell_of_row _ _ 0 _ _ _ rP9_.out
      have P_1_ : (wi).cell? ⟨wo.heap.size, 1, none⟩ = some (.int .i64 bp) := cell_of_row _ _ 1 _ _ _ rP9_.out
      have ck0_ := (G10_.out).cell HCk0.out (by simp)
      have ck1_ := (G10_.out).cell HCk1.out (by simp)
      have tk_ := (G10_.out).cell HTK.out (by simp)
      have cp0_ := (G10_.out).cell HCp0.out (by simp)
      have cp1_ := (G10_.out).cell HCp1.out (by simp)
      have HINN := Lib.hid hin
      clear hin
      have hm0 : (0 : Int) ≤ (m : Int) := by omega
      have htm : ((m : Int)).toNat = m := by omega
      by_cases hmt : m < kn
      rotate_left
      · obtain rfl : m = kn := by omega
        have hmi : ¬ (m : Int) < (m : Int) := by omega
        go_wp2
        refine ⟨⟨m + 1, by go_num, ⟨_, rfl⟩, ⟨_, rfl⟩, by omega, by omega, fun j q1 q2 => ?_, by repeat (first | exact HTB11_.out | with_reducible refine gby_drewN ?_ _)⟩, by simp [intOf]; omega⟩
        by_cases e : j = m
        · subst e; exact fun _ => ⟨HINY.out, fun i q3 q4 q5 => HINN.out i q3 q4 q5⟩
        · exact HALL.out j q1 (by omega)
      have hmi : (m : Int) < (kn : Int) := by omega
      have hmi2 : (m : Int) < (len0 : Int) := by omega
      obtain ⟨pm, hpm⟩ : ∃ p, p = (nd xs m).f0 := ⟨_, rfl⟩
      have t0_ := (HTC.out m (by omega)).1
      rw [← hpm] at t0_
      have HTM := Lib.hid t0_
      have HPM := Lib.hid hpm
      clear t0_ hpm
      have tm_ := (G10_.out).cell HTM.out (by simp)
      obtain ⟨sm, hsm_⟩ : ∃ z, z = (bd ys m).f0 := ⟨_, rfl⟩
      obtain ⟨bm, hbm_⟩ : ∃ z, z = (bd ys m).f1 := ⟨_, rfl⟩
      obtain ⟨z0_, z1_⟩ := HAC.out m (by omega)
      rw [← hsm_] at z0_
      rw [← hbm_] at z1_
      have Hsm := Lib.hid hsm_
      have Hbm := Lib.hid hbm_
      have HCm0 := Lib.hid z0_
      have HCm1 := Lib.hid z1_
      clear z0_ z1_ hsm_ hbm_
      have cm0_ := (G10_.out).cell HCm0.out (by simp)
      have cm1_ := (G10_.out).cell HCm1.out (by simp)
      by_cases he : pm = (pk : Int)
      rotate_left
      · have e3_ : (pm == (pk : Int)) = false := beq_eq_false_iff_ne.2 he
        go_wp2
        go_quiet (fail)
        go_wp2
        refine ⟨⟨m + 1, by go_num, by omega, by omega, fun j q1 q2 q3 => ?_, by repeat (first | exact HTC_.out | with_reducible refine gby_drewN ?_ _)⟩, by simp [intOf]; omega⟩
        by_cases e : j = m
        · subst e; exact absurd (by rw [HPM.out, q3, HPK.out]) he
        · exact HINN.out j q1 (by omega) q3
      have e3_ : (pm == (pk : Int)) = true := by rw [he]; simp
      have HJ1 := Lib.hid (show I64 sm from (by rw [Hsm.out]; exact (HB64.out m (by have := HE0.out; omega)).1))
      have HJ2 := Lib.hid (show I64 bm from (by rw [Hbm.out]; exact (HB64.out m (by have := HE0.out; omega)).2))
      have HOV := Lib.hid (show NOv ys m kn ↔ OvP sm bm sk bk from by unfold NOv; rw [Hsm.out, Hbm.out, Hsk.out, Hbk.out])
      subst he
      by_cases ho : OvP sm bm sk bk
      · skip
        go_wp2_with fail
        refine wp_region_held_drew (S := fun w' => w'.cell? ⟨tb, to + kn * 3, none⟩ = some (.int .i64 (pk : Int)) ∧ w'.cell? ⟨tb, to + m * 3, none⟩ = some (.int .i64 (pk : Int)) ∧ w'.cell? ⟨ab, ao + kn * 2, none⟩ = some (.int .i64 sk) ∧ w'.cell? ⟨ab, ao + kn * 2 + 1, none⟩ = some (.int .i64 bk) ∧ w'.cell? ⟨ab, ao + m * 2, none⟩ = some (.int .i64 sm) ∧ w'.cell? ⟨ab, ao + m * 2 + 1, none⟩ = some (.int .i64 bm)) (by kernel_rfl) (by (try dsimp only); exact ⟨tk_, tm_, ck0_, ck1_, cm0_, cm1_⟩) (fun hHeld => ?_)
        refine wpAnyH_take (i := 0) (oi := { dst := some 81, op := Op.move (Operand.tmp 1), type := 29, pos := "l24_allocate.go:98", after := #[], guard := none }) (v := ?v0_r1_1) rfl (by kernel_rfl) (by kernel_rfl) (by kernel_rfl) (fun _ _ _ h => h) (Or.inl ⟨by rfl, ?y0_r1_1⟩) (by assumption) ?r0_r1_1
        case y0_r1_1 => (intro w hSw; (try dsimp only at hSw); go_simp; all_goals (with_reducible rfl))
        try simp only [Act.put, List.setIfInBounds_toArray, List.set_cons_zero, List.set_cons_succ]
        refine wpAnyH_take (i := 1) (oi := { dst := some 82, op := Op.move (Operand.tmp 7), type := 3, pos := "l24_allocate.go:98", after := #[], guard := none }) (v := ?v1_r1_2) rfl (by kernel_rfl) (by kernel_rfl) (by kernel_rfl) (fun _ _ _ h => h) (Or.inl ⟨by rfl, ?y1_r1_2⟩) (by assumption) ?r1_r1_2
        case y1_r1_2 => (intro w hSw; (try dsimp only at hSw); go_simp; all_goals (with_reducible rfl))
        try simp only [Act.put, List.setIfInBounds_toArray, List.set_cons_zero, List.set_cons_succ]
        refine wpAnyH_take (i := 2) (oi := { dst := some 83, op := Op.indexAddr 29 (Operand.tmp 81) (Operand.tmp 82), type := 0, pos := "l24_allocate.go:98", after := #[{ on := 0, ground := Ground.data }, { on := 1, ground := Ground.data }], guard := none }) (v := ?v2_r1_3) rfl (by kernel_rfl) (by kernel_rfl) (by kernel_rfl) (fun _ _ _ h => h) (Or.inl ⟨by rfl, ?y2_r1_3⟩) (by assumption) ?r2_r1_3
        case y2_r1_3 => (intro w hSw; (try dsimp only at hSw); go_simp; all_goals (with_reducible rfl))
        try simp only [Act.put, List.setIfInBounds_toArray, List.set_cons_zero, List.set_cons_succ]
        refine wpAnyH_take (i := 3) (oi := { dst := some 84, op := Op.fieldAddr 48 (Operand.tmp 83) 0, type := 0, pos := "l24_allocate.go:98", after := #[{ on := 2, ground := Ground.data }], guard := none }) (v := ?v3_r1_4) rfl (by kernel_rfl) (by kernel_rfl) (by kernel_rfl) (fun _ _ _ h => h) (Or.inl ⟨by rfl, ?y3_r1_4⟩) (by assumption) ?r3_r1_4
        case y3_r1_4 => (intro w hSw; (try dsimp only at hSw); go_simp; all_goals (with_reducible rfl))
        try simp only [Act.put, List.setIfInBounds_toArray, List.set_cons_zero, List.set_cons_succ]
        refine wpAnyH_take (i := 4) (oi := { dst := some 85, op := Op.load 3 (Operand.tmp 84), type := 3, pos := "l24_allocate.go:98", after := #[{ on := 3, ground := Ground.data }], guard := none }) (v := ?v4_r1_5) rfl (by kernel_rfl) (by kernel_rfl) (by kernel_rfl) (fun _ _ _ h => h) (Or.inl ⟨by rfl, ?y4_r1_5⟩) (by assumption) ?r4_r1_5
        case y4_r1_5 => (intro w hSw; (try dsimp only at hSw); go_simp; all_goals (with_reducible rfl))
        try simp only [Act.put, List.setIfInBounds_toArray, List.set_cons_zero, List.set_cons_succ]
        refine wpAnyH_take (i := 5) (oi := { dst := some 86, op := Op.move (Operand.tmp 1), type := 29, pos := "l24_allocate.go:98", after := #[], guard := none }) (v := ?v5_r1_6) rfl (by kernel_rfl) (by kernel_rfl) (by kernel_rfl) (fun _ _ _ h => h) (Or.inl ⟨by rfl, ?y5_r1_6⟩) (by assumption) ?r5_r1_6
        case y5_r1_6 => (intro w hSw; (try dsimp only at hSw); go_simp; all_goals (with_reducible rfl))
        try simp only [Act.put, List.setIfInBounds_toArray, List.set_cons_zero, List.set_cons_succ]
        refine wpAnyH_take (i := 6) (oi := { dst := some 87, op := Op.move (Operand.tmp 5), type := 3, pos := "l24_allocate.go:98", after := #[], guard := none }) (v := ?v6_r1_7) rfl (by kernel_rfl) (by kernel_rfl) (by kernel_rfl) (fun _ _ _ h => h) (Or.inl ⟨by rfl, ?y6_r1_7⟩) (by assumption) ?r6_r1_7
        case y6_r1_7 => (intro w hSw; (try dsimp only at hSw); go_simp; all_goals (with_reducible rfl))
        try simp only [Act.put, List.setIfInBounds_toArray, List.set_cons_zero, List.set_cons_succ]
        refine wpAnyH_take (i := 7) (oi := { dst := some 88, op := Op.indexAddr 29 (Operand.tmp 86) (Operand.tmp 87), type := 0, pos := "l24_allocate.go:98", after := #[{ on := 5, ground := Ground.data }, { on := 6, ground := Ground.data }], guard := none }) (v := ?v7_r1_8) rfl (by kernel_rfl) (by kernel_rfl) (by kernel_rfl) (fun _ _ _ h => h) (Or.inl ⟨by rfl, ?y7_r1_8⟩) (by assumption) ?r7_r1_8
        case y7_r1_8 => (intro w hSw; (try dsimp only at hSw); go_simp; all_goals (with_reducible rfl))
        try simp only [Act.put, List.setIfInBounds_toArray, List.set_cons_zero, List.set_cons_succ]
        refine wpAnyH_take (i := 8) (oi := { dst := some 89, op := Op.fieldAddr 48 (Operand.tmp 88) 0, type := 0, pos := "l24_allocate.go:98", after := #[{ on := 7, ground := Ground.data }], guard := none }) (v := ?v8_r1_9) rfl (by kernel_rfl) (by kernel_rfl) (by kernel_rfl) (fun _ _ _ h => h) (Or.inl ⟨by rfl, ?y8_r1_9⟩) (by assumption) ?r8_r1_9
        case y8_r1_9 => (intro w hSw; (try dsimp only at hSw); go_simp; all_goals (with_reducible rfl))
        try simp only [Act.put, List.setIfInBounds_toArray, List.set_cons_zero, List.set_cons_succ]
        refine wpAnyH_take (i := 9) (oi := { dst := some 90, op := Op.load 3 (Operand.tmp 89), type := 3, pos := "l24_allocate.go:98", after := #[{ on := 8, ground := Ground.data }], guard := none }) (v := ?v9_r1_10) rfl (by kernel_rfl) (by kernel_rfl) (by kernel_rfl) (fun _ _ _ h => h) (Or.inl ⟨by rfl, ?y9_r1_10⟩) (by assumption) ?r9_r1_10
        case y9_r1_10 => (intro w hSw; (try dsimp only at hSw); go_simp; all_goals (with_reducible rfl))
        try simp only [Act.put, List.setIfInBounds_toArray, List.set_cons_zero, List.set_cons_succ]
        refine wpAnyH_take (i := 10) (oi := { dst := some 91, op := Op.binOp BinOp.eql 3 (Operand.tmp 85) (Operand.tmp 90) 3, type := 4, pos := "l24_allocate.go:98", after := #[{ on := 4, ground := Ground.data }, { on := 9, ground := Ground.data }], guard := none }) (v := ?v10_r1_11) rfl (by kernel_rfl) (by kernel_rfl) (by kernel_rfl) (fun _ _ _ h => h) (Or.inl ⟨by rfl, ?y10_r1_11⟩) (by assumption) ?r10_r1_11
        case y10_r1_11 => (intro w hSw; (try dsimp only at hSw); go_simp; all_goals (with_reducible rfl))
        try simp only [Act.put, List.setIfInBounds_toArray, List.set_cons_zero, List.set_cons_succ]
        refine wpAnyH_take (i := 11) (oi := { dst := some 92, op := Op.move (Operand.tmp 91), type := 4, pos := "l24_allocate.go:98", after := #[{ on := 10, ground := Ground.data }], guard := none }) (v := ?v11_r1_12) rfl (by kernel_rfl) (by kernel_rfl) (by kernel_rfl) (fun _ _ _ h => h) (Or.inl ⟨by rfl, ?y11_r1_12⟩) (by assumption) ?r11_r1_12
        case y11_r1_12 => (intro w hSw; (try dsimp only at hSw); go_simp; all_goals (with_reducible rfl))
        try simp only [Act.put, List.setIfInBounds_toArray, List.set_cons_zero, List.set_cons_succ]
        refine wpAnyH_take (i := 12) (oi := { dst := some 93, op := Op.move (Operand.tmp 0), type := 27, pos := "l24_allocate.go:98", after := #[{ on := 11, ground := Ground.guard }], guard := some (11, true) }) (v := ?v12_r1_13) rfl (by kernel_rfl) (by kernel_rfl) (by kernel_rfl) (fun _ _ _ h => h) (Or.inl ⟨by rfl, ?y12_r1_13⟩) (by assumption) ?r12_r1_13
        case y12_r1_13 => (intro w hSw; (try dsimp only at hSw); go_simp; all_goals (with_reducible rfl))
        try simp only [Act.put, List.setIfInBounds_toArray, List.set_cons_zero, List.set_cons_succ]
        refine wpAnyH_take (i := 13) (oi := { dst := some 94, op := Op.move (Operand.tmp 7), type := 3, pos := "l24_allocate.go:98", after := #[{ on := 11, ground := Ground.guard }], guard := some (11, true) }) (v := ?v13_r1_14) rfl (by kernel_rfl) (by kernel_rfl) (by kernel_rfl) (fun _ _ _ h => h) (Or.inl ⟨by rfl, ?y13_r1_14⟩) (by assumption) ?r13_r1_14
        case y13_r1_14 => (intro w hSw; (try dsimp only at hSw); go_simp; all_goals (with_reducible rfl))
        try simp only [Act.put, List.setIfInBounds_toArray, List.set_cons_zero, List.set_cons_succ]
        refine wpAnyH_take (i := 14) (oi := { dst := some 95, op := Op.indexAddr 27 (Operand.tmp 93) (Operand.tmp 94), type := 0, pos := "l24_allocate.go:98", after := #[{ on := 12, ground := Ground.data }, { on := 13, ground := Ground.data }, { on := 11, ground := Ground.guard }], guard := some (11, true) }) (v := ?v14_r1_15) rfl (by kernel_rfl) (by kernel_rfl) (by kernel_rfl) (fun _ _ _ h => h) (Or.inl ⟨by rfl, ?y14_r1_15⟩) (by assumption) ?r14_r1_15
        case y14_r1_15 => (intro w hSw; (try dsimp only at hSw); go_simp; all_goals (with_reducible rfl))
        try simp only [Act.put, List.setIfInBounds_toArray, List.set_cons_zero, List.set_cons_succ]
        refine wpAnyH_take (i := 15) (oi := { dst := some 96, op := Op.load 46 (Operand.tmp 95), type := 46, pos := "l24_allocate.go:98", after := #[{ on := 14, ground := Ground.data }, { on := 11, ground := Ground.guard }], guard := some (11, true) }) (v := ?v15_r1_16) rfl (by kernel_rfl) (by kernel_rfl) (by kernel_rfl) (fun _ _ _ h => h) (Or.inl ⟨by rfl, ?y15_r1_16⟩) (by assumption) ?r15_r1_16
        case y15_r1_16 => (intro w hSw; (try dsimp only at hSw); go_simp; all_goals (with_reducible rfl))
        try simp only [Act.put, List.setIfInBounds_toArray, List.set_cons_zero, List.set_cons_succ]
        refine wpAnyH_take (i := 16) (oi := { dst := some 97, op := Op.move (Operand.tmp 0), type := 27, pos := "l24_allocate.go:98", after := #[{ on := 11, ground := Ground.guard }], guard := some (11, true) }) (v := ?v16_r1_17) rfl (by kernel_rfl) (by kernel_rfl) (by kernel_rfl) (fun _ _ _ h => h) (Or.inl ⟨by rfl, ?y16_r1_17⟩) (by assumption) ?r16_r1_17
        case y16_r1_17 => (intro w hSw; (try dsimp only at hSw); go_simp; all_goals (with_reducible rfl))
        try simp only [Act.put, List.setIfInBounds_toArray, List.set_cons_zero, List.set_cons_succ]
        refine wpAnyH_take (i := 17) (oi := { dst := some 98, op := Op.move (Operand.tmp 5), type := 3, pos := "l24_allocate.go:98", after := #[{ on := 11, ground := Ground.guard }], guard := some (11, true) }) (v := ?v17_r1_18) rfl (by kernel_rfl) (by kernel_rfl) (by kernel_rfl) (fun _ _ _ h => h) (Or.inl ⟨by rfl, ?y17_r1_18⟩) (by assumption) ?r17_r1_18
        case y17_r1_18 => (intro w hSw; (try dsimp only at hSw); go_simp; all_goals (with_reducible rfl))
        try simp only [Act.put, List.setIfInBounds_toArray, List.set_cons_zero, List.set_cons_succ]
        refine wpAnyH_take (i := 18) (oi := { dst := some 99, op := Op.indexAddr 27 (Operand.tmp 97) (Operand.tmp 98), type := 0, pos := "l24_allocate.go:98", after := #[{ on := 16, ground := Ground.data }, { on := 17, ground := Ground.data }, { on := 11, ground := Ground.guard }], guard := some (11, true) }) (v := ?v18_r1_19) rfl (by kernel_rfl) (by kernel_rfl) (by kernel_rfl) (fun _ _ _ h => h) (Or.inl ⟨by rfl, ?y18_r1_19⟩) (by assumption) ?r18_r1_19
        case y18_r1_19 => (intro w hSw; (try dsimp only at hSw); go_simp; all_goals (with_reducible rfl))
        try simp only [Act.put, List.setIfInBounds_toArray, List.set_cons_zero, List.set_cons_succ]
        refine wpAnyH_take (i := 19) (oi := { dst := some 100, op := Op.load 46 (Operand.tmp 99), type := 46, pos := "l24_allocate.go:98", after := #[{ on := 18, ground := Ground.data }, { on := 11, ground := Ground.guard }], guard := some (11, true) }) (v := ?v19_r1_20) rfl (by kernel_rfl) (by kernel_rfl) (by kernel_rfl) (fun _ _ _ h => h) (Or.inl ⟨by rfl, ?y19_r1_20⟩) (by assumption) ?r19_r1_20
        case y19_r1_20 => (intro w hSw; (try dsimp only at hSw); go_simp; all_goals (with_reducible rfl))
        try simp only [Act.put, List.setIfInBounds_toArray, List.set_cons_zero, List.set_cons_succ]
        refine wpAnyH_ready (rs := [20]) (by kernel_rfl) (by simp) ?_
        refine AllReadyH.cons (o := { dst := some 101, op := Op.call { callee := Callee.value (Operand.func 28), args := #[Operand.tmp 96, Operand.tmp 100], argTypes := #[46, 46] }, type := 4, pos := "l24_allocate.go:98", after := #[{ on := 15, ground := Ground.data }, { on := 19, ground := Ground.data }, { on := 11, ground := Ground.chain }, { on := 11, ground := Ground.guard }], guard := some (11, true) }) rfl (fun K hK => ?_) AllReadyH.nil
        go_simp
        go_at_call 28
        refine (((specApart_d sm bm sk bk _ HJ1.out HJ2.out HI1.out HI2.out).mono (bpost_no (fun q => q ho)))).mono ?_
        rintro e wH21 ⟨rfl, gH21⟩
        have m21_tk_ : wH21.cell? _ = some _ := gH21.cell tk_ (by simp); have m21_tm_ : wH21.cell? _ = some _ := gH21.cell tm_ (by simp); have m21_ck0_ : wH21.cell? _ = some _ := gH21.cell ck0_ (by simp); have m21_ck1_ : wH21.cell? _ = some _ := gH21.cell ck1_ (by simp); have m21_cm0_ : wH21.cell? _ = some _ := gH21.cell cm0_ (by simp); have m21_cm1_ : wH21.cell? _ = some _ := gH21.cell cm1_ (by simp)
        go_wp2_with fail
        clear hHeld
        refine hK.out _ _ ?s20_r1_21 (fun hHeld => ?_)
        case s20_r1_21 => exact ⟨m21_tk_, m21_tm_, m21_ck0_, m21_ck1_, m21_cm0_, m21_cm1_⟩
        clear hK K
        try simp only [Act.put, List.setIfInBounds_toArray, List.set_cons_zero, List.set_cons_succ]
        refine wpAnyH_take (i := 21) (oi := { dst := some 102, op := Op.unOp UnOp.not 4 (Operand.tmp 101), type := 4, pos := "l24_allocate.go:98", after := #[{ on := 20, ground := Ground.data }, { on := 11, ground := Ground.guard }], guard := some (11, true) }) (v := ?v21_r1_22) rfl (by kernel_rfl) (by kernel_rfl) (by kernel_rfl) (fun _ _ _ h => h) (Or.inl ⟨by rfl, ?y21_r1_22⟩) (by assumption) ?r21_r1_22
        case y21_r1_22 => (intro w hSw; (try dsimp only at hSw); go_simp; all_goals (with_reducible rfl))
        try simp only [Act.put, List.setIfInBounds_toArray, List.set_cons_zero, List.set_cons_succ]
        refine wpAnyH_take (i := 22) (oi := { dst := some 103, op := Op.pick (Operand.tmp 92) (Operand.tmp 102) (Operand.const (Value.bool false)), type := 4, pos := "l24_allocate.go:98", after := #[{ on := 11, ground := Ground.data }, { on := 21, ground := Ground.data }], guard := none }) (v := ?v22_r1_23) rfl (by kernel_rfl) (by kernel_rfl) (by kernel_rfl) (fun _ _ _ h => h) (Or.inl ⟨by rfl, ?y22_r1_23⟩) (by assumption) ?r22_r1_23
        case y22_r1_23 => (intro w hSw; (try dsimp only at hSw); go_simp; all_goals (with_reducible rfl))
        try simp only [Act.put, List.setIfInBounds_toArray, List.set_cons_zero, List.set_cons_succ]
        refine wpAnyH_done (by kernel_rfl) ?_ _
        go_wp2
        go_ret
        exact ⟨false, rfl, iff_no (fun q => ((q.2.2 kn hk1 hkx) (by have := Hsk.out; omega)).2 m hm1 hmt (by rw [← HPM.out, HPK.out]) (HOV.out.2 ho)), by repeat (first | exact gby_trans G10_.out (gby_trans (gby_drew (gby_refl _ none)) gH21) | with_reducible refine gby_drewN ?_ _)⟩
      · skip
        go_wp2_with fail
        refine wp_region_held_drew (S := fun w' => w'.cell? ⟨tb, to + kn * 3, none⟩ = some (.int .i64 (pk : Int)) ∧ w'.cell? ⟨tb, to + m * 3, none⟩ = some (.int .i64 (pk : Int)) ∧ w'.cell? ⟨ab, ao + kn * 2, none⟩ = some (.int .i64 sk) ∧ w'.cell? ⟨ab, ao + kn * 2 + 1, none⟩ = some (.int .i64 bk) ∧ w'.cell? ⟨ab, ao + m * 2, none⟩ = some (.int .i64 sm) ∧ w'.cell? ⟨ab, ao + m * 2 + 1, none⟩ = some (.int .i64 bm)) (by kernel_rfl) (by (try dsimp only); exact ⟨tk_, tm_, ck0_, ck1_, cm0_, cm1_⟩) (fun hHeld => ?_)
        refine wpAnyH_take (i := 0) (oi := { dst := some 81, op := Op.move (Operand.tmp 1), type := 29, pos := "l24_allocate.go:98", after := #[], guard := none }) (v := ?v0_r2_1) rfl (by kernel_rfl) (by kernel_rfl) (by kernel_rfl) (fun _ _ _ h => h) (Or.inl ⟨by rfl, ?y0_r2_1⟩) (by assumption) ?r0_r2_1
        case y0_r2_1 => (intro w hSw; (try dsimp only at hSw); go_simp; all_goals (with_reducible rfl))
        try simp only [Act.put, List.setIfInBounds_toArray, List.set_cons_zero, List.set_cons_succ]
        refine wpAnyH_take (i := 1) (oi := { dst := some 82, op := Op.move (Operand.tmp 7), type := 3, pos := "l24_allocate.go:98", after := #[], guard := none }) (v := ?v1_r2_2) rfl (by kernel_rfl) (by kernel_rfl) (by kernel_rfl) (fun _ _ _ h => h) (Or.inl ⟨by rfl, ?y1_r2_2⟩) (by assumption) ?r1_r2_2
        case y1_r2_2 => (intro w hSw; (try dsimp only at hSw); go_simp; all_goals (with_reducible rfl))
        try simp only [Act.put, List.setIfInBounds_toArray, List.set_cons_zero, List.set_cons_succ]
        refine wpAnyH_take (i := 2) (oi := { dst := some 83, op := Op.indexAddr 29 (Operand.tmp 81) (Operand.tmp 82), type := 0, pos := "l24_allocate.go:98", after := #[{ on := 0, ground := Ground.data }, { on := 1, ground := Ground.data }], guard := none }) (v := ?v2_r2_3) rfl (by kernel_rfl) (by kernel_rfl) (by kernel_rfl) (fun _ _ _ h => h) (Or.inl ⟨by rfl, ?y2_r2_3⟩) (by assumption) ?r2_r2_3
        case y2_r2_3 => (intro w hSw; (try dsimp only at hSw); go_simp; all_goals (with_reducible rfl))
        try simp only [Act.put, List.setIfInBounds_toArray, List.set_cons_zero, List.set_cons_succ]
        refine wpAnyH_take (i := 3) (oi := { dst := some 84, op := Op.fieldAddr 48 (Operand.tmp 83) 0, type := 0, pos := "l24_allocate.go:98", after := #[{ on := 2, ground := Ground.data }], guard := none }) (v := ?v3_r2_4) rfl (by kernel_rfl) (by kernel_rfl) (by kernel_rfl) (fun _ _ _ h => h) (Or.inl ⟨by rfl, ?y3_r2_4⟩) (by assumption) ?r3_r2_4
        case y3_r2_4 => (intro w hSw; (try dsimp only at hSw); go_simp; all_goals (with_reducible rfl))
        try simp only [Act.put, List.setIfInBounds_toArray, List.set_cons_zero, List.set_cons_succ]
        refine wpAnyH_take (i := 4) (oi := { dst := some 85, op := Op.load 3 (Operand.tmp 84), type := 3, pos := "l24_allocate.go:98", after := #[{ on := 3, ground := Ground.data }], guard := none }) (v := ?v4_r2_5) rfl (by kernel_rfl) (by kernel_rfl) (by kernel_rfl) (fun _ _ _ h => h) (Or.inl ⟨by rfl, ?y4_r2_5⟩) (by assumption) ?r4_r2_5
        case y4_r2_5 => (intro w hSw; (try dsimp only at hSw); go_simp; all_goals (with_reducible rfl))
        try simp only [Act.put, List.setIfInBounds_toArray, List.set_cons_zero, List.set_cons_succ]
        refine wpAnyH_take (i := 5) (oi := { dst := some 86, op := Op.move (Operand.tmp 1), type := 29, pos := "l24_allocate.go:98", after := #[], guard := none }) (v := ?v5_r2_6) rfl (by kernel_rfl) (by kernel_rfl) (by kernel_rfl) (fun _ _ _ h => h) (Or.inl ⟨by rfl, ?y5_r2_6⟩) (by assumption) ?r5_r2_6
        case y5_r2_6 => (intro w hSw; (try dsimp only at hSw); go_simp; all_goals (with_reducible rfl))
        try simp only [Act.put, List.setIfInBounds_toArray, List.set_cons_zero, List.set_cons_succ]
        refine wpAnyH_take (i := 6) (oi := { dst := some 87, op := Op.move (Operand.tmp 5), type := 3, pos := "l24_allocate.go:98", after := #[], guard := none }) (v := ?v6_r2_7) rfl (by kernel_rfl) (by kernel_rfl) (by kernel_rfl) (fun _ _ _ h => h) (Or.inl ⟨by rfl, ?y6_r2_7⟩) (by assumption) ?r6_r2_7
        case y6_r2_7 => (intro w hSw; (try dsimp only at hSw); go_simp; all_goals (with_reducible rfl))
        try simp only [Act.put, List.setIfInBounds_toArray, List.set_cons_zero, List.set_cons_succ]
        refine wpAnyH_take (i := 7) (oi := { dst := some 88, op := Op.indexAddr 29 (Operand.tmp 86) (Operand.tmp 87), type := 0, pos := "l24_allocate.go:98", after := #[{ on := 5, ground := Ground.data }, { on := 6, ground := Ground.data }], guard := none }) (v := ?v7_r2_8) rfl (by kernel_rfl) (by kernel_rfl) (by kernel_rfl) (fun _ _ _ h => h) (Or.inl ⟨by rfl, ?y7_r2_8⟩) (by assumption) ?r7_r2_8
        case y7_r2_8 => (intro w hSw; (try dsimp only at hSw); go_simp; all_goals (with_reducible rfl))
        try simp only [Act.put, List.setIfInBounds_toArray, List.set_cons_zero, List.set_cons_succ]
        refine wpAnyH_take (i := 8) (oi := { dst := some 89, op := Op.fieldAddr 48 (Operand.tmp 88) 0, type := 0, pos := "l24_allocate.go:98", after := #[{ on := 7, ground := Ground.data }], guard := none }) (v := ?v8_r2_9) rfl (by kernel_rfl) (by kernel_rfl) (by kernel_rfl) (fun _ _ _ h => h) (Or.inl ⟨by rfl, ?y8_r2_9⟩) (by assumption) ?r8_r2_9
        case y8_r2_9 => (intro w hSw; (try dsimp only at hSw); go_simp; all_goals (with_reducible rfl))
        try simp only [Act.put, List.setIfInBounds_toArray, List.set_cons_zero, List.set_cons_succ]
        refine wpAnyH_take (i := 9) (oi := { dst := some 90, op := Op.load 3 (Operand.tmp 89), type := 3, pos := "l24_allocate.go:98", after := #[{ on := 8, ground := Ground.data }], guard := none }) (v := ?v9_r2_10) rfl (by kernel_rfl) (by kernel_rfl) (by kernel_rfl) (fun _ _ _ h => h) (Or.inl ⟨by rfl, ?y9_r2_10⟩) (by assumption) ?r9_r2_10
        case y9_r2_10 => (intro w hSw; (try dsimp only at hSw); go_simp; all_goals (with_reducible rfl))
        try simp only [Act.put, List.setIfInBounds_toArray, List.set_cons_zero, List.set_cons_succ]
        refine wpAnyH_take (i := 10) (oi := { dst := some 91, op := Op.binOp BinOp.eql 3 (Operand.tmp 85) (Operand.tmp 90) 3, type := 4, pos := "l24_allocate.go:98", after := #[{ on := 4, ground := Ground.data }, { on := 9, ground := Ground.data }], guard := none }) (v := ?v10_r2_11) rfl (by kernel_rfl) (by kernel_rfl) (by kernel_rfl) (fun _ _ _ h => h) (Or.inl ⟨by rfl, ?y10_r2_11⟩) (by assumption) ?r10_r2_11
        case y10_r2_11 => (intro w hSw; (try dsimp only at hSw); go_simp; all_goals (with_reducible rfl))
        try simp only [Act.put, List.setIfInBounds_toArray, List.set_cons_zero, List.set_cons_succ]
        refine wpAnyH_take (i := 11) (oi := { dst := some 92, op := Op.move (Operand.tmp 91), type := 4, pos := "l24_allocate.go:98", after := #[{ on := 10, ground := Ground.data }], guard := none }) (v := ?v11_r2_12) rfl (by kernel_rfl) (by kernel_rfl) (by kernel_rfl) (fun _ _ _ h => h) (Or.inl ⟨by rfl, ?y11_r2_12⟩) (by assumption) ?r11_r2_12
        case y11_r2_12 => (intro w hSw; (try dsimp only at hSw); go_simp; all_goals (with_reducible rfl))
        try simp only [Act.put, List.setIfInBounds_toArray, List.set_cons_zero, List.set_cons_succ]
        refine wpAnyH_take (i := 12) (oi := { dst := some 93, op := Op.move (Operand.tmp 0), type := 27, pos := "l24_allocate.go:98", after := #[{ on := 11, ground := Ground.guard }], guard := some (11, true) }) (v := ?v12_r2_13) rfl (by kernel_rfl) (by kernel_rfl) (by kernel_rfl) (fun _ _ _ h => h) (Or.inl ⟨by rfl, ?y12_r2_13⟩) (by assumption) ?r12_r2_13
        case y12_r2_13 => (intro w hSw; (try dsimp only at hSw); go_simp; all_goals (with_reducible rfl))
        try simp only [Act.put, List.setIfInBounds_toArray, List.set_cons_zero, List.set_cons_succ]
        refine wpAnyH_take (i := 13) (oi := { dst := some 94, op := Op.move (Operand.tmp 7), type := 3, pos := "l24_allocate.go:98", after := #[{ on := 11, ground := Ground.guard }], guard := some (11, true) }) (v := ?v13_r2_14) rfl (by kernel_rfl) (by kernel_rfl) (by kernel_rfl) (fun _ _ _ h => h) (Or.inl ⟨by rfl, ?y13_r2_14⟩) (by assumption) ?r13_r2_14
        case y13_r2_14 => (intro w hSw; (try dsimp only at hSw); go_simp; all_goals (with_reducible rfl))
        try simp only [Act.put, List.setIfInBounds_toArray, List.set_cons_zero, List.set_cons_succ]
        refine wpAnyH_take (i := 14) (oi := { dst := some 95, op := Op.indexAddr 27 (Operand.tmp 93) (Operand.tmp 94), type := 0, pos := "l24_allocate.go:98", after := #[{ on := 12, ground := Ground.data }, { on := 13, ground := Ground.data }, { on := 11, ground := Ground.guard }], guard := some (11, true) }) (v := ?v14_r2_15) rfl (by kernel_rfl) (by kernel_rfl) (by kernel_rfl) (fun _ _ _ h => h) (Or.inl ⟨by rfl, ?y14_r2_15⟩) (by assumption) ?r14_r2_15
        case y14_r2_15 => (intro w hSw; (try dsimp only at hSw); go_simp; all_goals (with_reducible rfl))
        try simp only [Act.put, List.setIfInBounds_toArray, List.set_cons_zero, List.set_cons_succ]
        refine wpAnyH_take (i := 15) (oi := { dst := some 96, op := Op.load 46 (Operand.tmp 95), type := 46, pos := "l24_allocate.go:98", after := #[{ on := 14, ground := Ground.data }, { on := 11, ground := Ground.guard }], guard := some (11, true) }) (v := ?v15_r2_16) rfl (by kernel_rfl) (by kernel_rfl) (by kernel_rfl) (fun _ _ _ h => h) (Or.inl ⟨by rfl, ?y15_r2_16⟩) (by assumption) ?r15_r2_16
        case y15_r2_16 => (intro w hSw; (try dsimp only at hSw); go_simp; all_goals (with_reducible rfl))
        try simp only [Act.put, List.setIfInBounds_toArray, List.set_cons_zero, List.set_cons_succ]
        refine wpAnyH_take (i := 16) (oi := { dst := some 97, op := Op.move (Operand.tmp 0), type := 27, pos := "l24_allocate.go:98", after := #[{ on := 11, ground := Ground.guard }], guard := some (11, true) }) (v := ?v16_r2_17) rfl (by kernel_rfl) (by kernel_rfl) (by kernel_rfl) (fun _ _ _ h => h) (Or.inl ⟨by rfl, ?y16_r2_17⟩) (by assumption) ?r16_r2_17
        case y16_r2_17 => (intro w hSw; (try dsimp only at hSw); go_simp; all_goals (with_reducible rfl))
        try simp only [Act.put, List.setIfInBounds_toArray, List.set_cons_zero, List.set_cons_succ]
        refine wpAnyH_take (i := 17) (oi := { dst := some 98, op := Op.move (Operand.tmp 5), type := 3, pos := "l24_allocate.go:98", after := #[{ on := 11, ground := Ground.guard }], guard := some (11, true) }) (v := ?v17_r2_18) rfl (by kernel_rfl) (by kernel_rfl) (by kernel_rfl) (fun _ _ _ h => h) (Or.inl ⟨by rfl, ?y17_r2_18⟩) (by assumption) ?r17_r2_18
        case y17_r2_18 => (intro w hSw; (try dsimp only at hSw); go_simp; all_goals (with_reducible rfl))
        try simp only [Act.put, List.setIfInBounds_toArray, List.set_cons_zero, List.set_cons_succ]
        refine wpAnyH_take (i := 18) (oi := { dst := some 99, op := Op.indexAddr 27 (Operand.tmp 97) (Operand.tmp 98), type := 0, pos := "l24_allocate.go:98", after := #[{ on := 16, ground := Ground.data }, { on := 17, ground := Ground.data }, { on := 11, ground := Ground.guard }], guard := some (11, true) }) (v := ?v18_r2_19) rfl (by kernel_rfl) (by kernel_rfl) (by kernel_rfl) (fun _ _ _ h => h) (Or.inl ⟨by rfl, ?y18_r2_19⟩) (by assumption) ?r18_r2_19
        case y18_r2_19 => (intro w hSw; (try dsimp only at hSw); go_simp; all_goals (with_reducible rfl))
        try simp only [Act.put, List.setIfInBounds_toArray, List.set_cons_zero, List.set_cons_succ]
        refine wpAnyH_take (i := 19) (oi := { dst := some 100, op := Op.load 46 (Operand.tmp 99), type := 46, pos := "l24_allocate.go:98", after := #[{ on := 18, ground := Ground.data }, { on := 11, ground := Ground.guard }], guard := some (11, true) }) (v := ?v19_r2_20) rfl (by kernel_rfl) (by kernel_rfl) (by kernel_rfl) (fun _ _ _ h => h) (Or.inl ⟨by rfl, ?y19_r2_20⟩) (by assumption) ?r19_r2_20
        case y19_r2_20 => (intro w hSw; (try dsimp only at hSw); go_simp; all_goals (with_reducible rfl))
        try simp only [Act.put, List.setIfInBounds_toArray, List.set_cons_zero, List.set_cons_succ]
        refine wpAnyH_ready (rs := [20]) (by kernel_rfl) (by simp) ?_
        refine AllReadyH.cons (o := { dst := some 101, op := Op.call { callee := Callee.value (Operand.func 28), args := #[Operand.tmp 96, Operand.tmp 100], argTypes := #[46, 46] }, type := 4, pos := "l24_allocate.go:98", after := #[{ on := 15, ground := Ground.data }, { on := 19, ground := Ground.data }, { on := 11, ground := Ground.chain }, { on := 11, ground := Ground.guard }], guard := some (11, true) }) rfl (fun K hK => ?_) AllReadyH.nil
        go_simp
        go_at_call 28
        refine (((specApart_d sm bm sk bk _ HJ1.out HJ2.out HI1.out HI2.out).mono (bpost_yes ho))).mono ?_
        rintro e wH21 ⟨rfl, gH21⟩
        have m21_tk_ : wH21.cell? _ = some _ := gH21.cell tk_ (by simp); have m21_tm_ : wH21.cell? _ = some _ := gH21.cell tm_ (by simp); have m21_ck0_ : wH21.cell? _ = some _ := gH21.cell ck0_ (by simp); have m21_ck1_ : wH21.cell? _ = some _ := gH21.cell ck1_ (by simp); have m21_cm0_ : wH21.cell? _ = some _ := gH21.cell cm0_ (by simp); have m21_cm1_ : wH21.cell? _ = some _ := gH21.cell cm1_ (by simp)
        go_wp2_with fail
        clear hHeld
        refine hK.out _ _ ?s20_r2_21 (fun hHeld => ?_)
        case s20_r2_21 => exact ⟨m21_tk_, m21_tm_, m21_ck0_, m21_ck1_, m21_cm0_, m21_cm1_⟩
        clear hK K
        try simp only [Act.put, List.setIfInBounds_toArray, List.set_cons_zero, List.set_cons_succ]
        refine wpAnyH_take (i := 21) (oi := { dst := some 102, op := Op.unOp UnOp.not 4 (Operand.tmp 101), type := 4, pos := "l24_allocate.go:98", after := #[{ on := 20, ground := Ground.data }, { on := 11, ground := Ground.guard }], guard := some (11, true) }) (v := ?v21_r2_22) rfl (by kernel_rfl) (by kernel_rfl) (by kernel_rfl) (fun _ _ _ h => h) (Or.inl ⟨by rfl, ?y21_r2_22⟩) (by assumption) ?r21_r2_22
        case y21_r2_22 => (intro w hSw; (try dsimp only at hSw); go_simp; all_goals (with_reducible rfl))
        try simp only [Act.put, List.setIfInBounds_toArray, List.set_cons_zero, List.set_cons_succ]
        refine wpAnyH_take (i := 22) (oi := { dst := some 103, op := Op.pick (Operand.tmp 92) (Operand.tmp 102) (Operand.const (Value.bool false)), type := 4, pos := "l24_allocate.go:98", after := #[{ on := 11, ground := Ground.data }, { on := 21, ground := Ground.data }], guard := none }) (v := ?v22_r2_23) rfl (by kernel_rfl) (by kernel_rfl) (by kernel_rfl) (fun _ _ _ h => h) (Or.inl ⟨by rfl, ?y22_r2_23⟩) (by assumption) ?r22_r2_23
        case y22_r2_23 => (intro w hSw; (try dsimp only at hSw); go_simp; all_goals (with_reducible rfl))
        try simp only [Act.put, List.setIfInBounds_toArray, List.set_cons_zero, List.set_cons_succ]
        refine wpAnyH_done (by kernel_rfl) ?_ _
        go_wp2
        refine ⟨⟨m + 1, by go_num, by omega, by omega, fun j q1 q2 q3 => ?_, by repeat (first | exact gby_trans HTC_.out (gby_trans (gby_drew (gby_refl _ none)) gH21) | with_reducible refine gby_drewN ?_ _)⟩, by simp [intOf]; omega⟩
        by_cases e : j = m
        · subst e; exact fun q => ho (HOV.out.1 q)
        · exact HINN.out j q1 (by omega) q3

end Go.Proofs.Ytdddidnibelmhaa
