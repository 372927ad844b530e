/-
  The device that owns an address, on both sides; a finder of windows.
-/
import Derived.Test.YtdddidnibelmhaaTreeB
import Derived.Test.YtdddidnibelmhaaBPost
import Derived.Test.YtdddidnibelmhaaOv
import Derived.Test.YtdddidnibelmhaaQSNode
import Derived.Test.YtdddidnibelmhaaQSBar
import Derived.Test.YtdddidnibelmhaaAppP
import Derived.Test.YtdddidnibelmhaaROwnerOfAddress
import Derived.Deep.AppendLies
import Derived.Deep.RegionHeld3
namespace Go.Proofs.Ytdddidnibelmhaa
open Go Go.RowKit
set_option linter.unusedVariables false

def bar (ys : List DBar) (k : Nat) : DBar := ys.getD k default
/-- windows in cells -/
def RdW (w : World) (a : Option Addr) (ys : List DBar) : Prop :=
  ys.length = 0 ∨ ∃ b off, a = some ⟨b, off, none⟩ ∧ ∀ k, k < ys.length → w.cell? ⟨b, off + k * 2, none⟩ = some (.int .i64 (bar ys k).f0) ∧ w.cell? ⟨b, off + k * 2 + 1, none⟩ = some (.int .i64 (bar ys k).f1)
theorem rdW_in {w : World} {v : Value} {ys : List DBar} (H : RdL shBar w v ys) : ∃ a cap, v = .slice a ys.length cap ∧ CapOk a ys.length cap ∧ RdW w a ys := by
  obtain ⟨a, cap, rfl, hc, _, h⟩ := H
  refine ⟨a, cap, rfl, hc, ?_⟩
  rcases h with h0 | ⟨b, off, ha, h⟩
  · exact .inl h0
  · refine .inr ⟨b, off, ha, fun k hk => ?_⟩
    obtain ⟨cs, hat, hrd⟩ := h k hk
    obtain rfl := hrd
    exact ⟨at_cell (j := 0) hat rfl, at_cell (j := 1) hat rfl⟩
/-- a window for each node of a valid tree -/
def HaveW (xs : List DNode) (ys : List DBar) : Prop := TOk xs ∧ ys.length = xs.length
/-- window k covers x -/
def SpB (ys : List DBar) (x : Int) (k : Nat) : Prop := SpansP (bar ys k).f0 (bar ys k).f1 x
instance (ys : List DBar) (x : Int) (k : Nat) : Decidable (SpB ys x k) := by unfold SpB; infer_instance
/-- the first of these whose window covers x, or -1 -/
def fstW (ys : List DBar) (x : Int) : List Int → Int
  | [] => -1
  | d :: ds => if SpB ys x d.toNat then d else fstW ys x ds
theorem fstW_snoc {ys : List DBar} {x d : Int} : ∀ ds : List Int, (∀ e ∈ ds, 0 ≤ e) → fstW ys x (ds ++ [d]) = if fstW ys x ds = -1 then (if SpB ys x d.toNat then d else -1) else fstW ys x ds
  | [], _ => by simp [fstW]
  | e :: ds, h => by
    have he := h e (by simp)
    have ih := fstW_snoc (ys := ys) (x := x) (d := d) ds (fun q hq => h q (List.mem_cons_of_mem _ hq))
    by_cases q : SpB ys x e.toNat
    · have a1 : fstW ys x (e :: ds) = e := by simp [fstW, q]
      have a2 : fstW ys x (e :: (ds ++ [d])) = e := by simp [fstW, q]
      rw [List.cons_append, a1, a2, if_neg (by omega)]
    · have a1 : fstW ys x (e :: ds) = fstW ys x ds := by simp [fstW, q]
      have a2 : fstW ys x (e :: (ds ++ [d])) = fstW ys x (ds ++ [d]) := by simp [fstW, q]
      rw [List.cons_append, a1, a2, ih]
/-- the devices among the first n nodes -/
def devL (xs : List DNode) : Nat → List Int
  | 0 => []
  | n + 1 => devL xs n ++ (if (nd xs n).f2 = 0 then [] else [(n : Int)])
theorem devL_len (xs : List DNode) : ∀ n, (devL xs n).length ≤ n
  | 0 => Nat.le_refl _
  | n + 1 => by
    have := devL_len xs n
    unfold devL
    rw [List.length_append]
    split <;> simp <;> omega
theorem devL_in {xs : List DNode} : ∀ n, ∀ e ∈ devL xs n, 0 ≤ e ∧ e < (n : Int)
  | 0 => fun e h => by simp [devL] at h
  | n + 1 => fun e h => by
    unfold devL at h
    rw [List.mem_append] at h
    rcases h with h | h
    · have := devL_in n e h; omega
    · split at h
      · simp at h
      · rw [List.mem_singleton] at h; omega
theorem fst_step {xs : List DNode} {ys : List DBar} {x : Int} {n : Nat} (h : fstW ys x (devL xs n) = -1) (hn : (nd xs n).f2 = 0 ∨ ¬ SpB ys x n) : fstW ys x (devL xs (n + 1)) = -1 := by
  unfold devL
  by_cases e : (nd xs n).f2 = 0
  · rw [if_pos e, List.append_nil]; exact h
  · rw [if_neg e, fstW_snoc _ (fun q hq => (devL_in n q hq).1), if_pos h, if_neg (by simpa using hn.resolve_left e)]
theorem fst_hit {xs : List DNode} {ys : List DBar} {x : Int} {n : Nat} (h : fstW ys x (devL xs n) = -1) (h1 : (nd xs n).f2 ≠ 0) (h2 : SpB ys x n) : ∀ m, fstW ys x (devL xs (n + 1 + m)) = (n : Int)
  | 0 => by
    show fstW ys x (devL xs n ++ (if (nd xs n).f2 = 0 then [] else [(n : Int)])) = _
    rw [if_neg h1, fstW_snoc _ (fun q hq => (devL_in n q hq).1), if_pos h, if_pos (by simpa using h2)]
  | m + 1 => by
    have ih := fst_hit h h1 h2 m
    show fstW ys x (devL xs (n + 1 + m) ++ (if (nd xs (n + 1 + m)).f2 = 0 then [] else [((n + 1 + m : Nat) : Int)])) = _
    by_cases e : (nd xs (n + 1 + m)).f2 = 0
    · rw [if_pos e, List.append_nil]; exact ih
    · rw [if_neg e, fstW_snoc _ (fun q hq => (devL_in _ q hq).1), if_neg (by omega)]; exact ih
noncomputable def ownR (xs : List DNode) (ys : List DBar) (x : Int) : Int := by
  classical exact if HaveW xs ys then fstW ys x (devL xs xs.length) else -1
theorem ownR_yes {xs : List DNode} {ys : List DBar} {x : Int} (h : HaveW xs ys) : ownR xs ys x = fstW ys x (devL xs xs.length) := by unfold ownR; rw [if_pos h]
theorem ownR_no {xs : List DNode} {ys : List DBar} {x : Int} (h : ¬ HaveW xs ys) : ownR xs ys x = -1 := by unfold ownR; rw [if_neg h]

set_option maxRecDepth 8000 in
set_option maxHeartbeats 2000000 in
theorem implHaveW (W : World) (v u : Value) (xs : List DNode) (ys : List DBar) (H : RdL shNode W v xs) (Hb : RdL shBar W u ys) (hl : szL shNode xs ≤ 1048576) (hly : szL shBar ys ≤ 1048576) : Calls Try.prog 31 #[v, u] W (BPost (HaveW xs ys) W) := by
  have HT := Lib.hid H
  have HW0 := Lib.hid Hb
  have HLX := Lib.hid hl
  have HLY := Lib.hid hly
  have hlx : xs.length ≤ 1048576 := by have := szL_len shNode xs; omega
  have hly2 : ys.length ≤ 1048576 := by have := szL_len shBar ys; omega
  obtain ⟨a0, cap, rfl, hcap, hi⟩ := rdN_in H
  obtain ⟨a1, cap1, rfl, hcap1, hi1⟩ := rdW_in Hb
  have HA := Lib.hid hi
  have HA1 := Lib.hid hi1
  obtain ⟨len, hlen⟩ : ∃ len, len = xs.length := ⟨_, rfl⟩
  obtain ⟨len1, hlen1⟩ : ∃ len, len = ys.length := ⟨_, rfl⟩
  have HE := Lib.hid hlen
  have HE1 := Lib.hid hlen1
  unfold RdN at HA
  unfold RdW at HA1
  rw [← hlen] at hlx HT HA ⊢
  rw [← hlen1] at hly2 HW0 HA1 ⊢
  clear H Hb hi hi1 hlen hlen1 hl hly hcap hcap1
  go_enter Try.func31, Try.ntmps31
  by_cases ht : TOk xs
  rotate_left
  · have HNT := Lib.hid ht
    clear ht
    go_wp2_with fail
    go_at_call 43
    refine (implTree_no _ _ xs (HT.out.grow (gby_refl _ _)) HLX.out HNT.out).mono ?_
    rintro e w1 ⟨rfl, g⟩
    have szw1 := g.size
    try simp only [World.size_alloc] at szw1
    try simp only [World.size_setCell] at szw1
    have G1_ := Lib.hid (show (W).grownBy (w1) none from gby_trans (gby_refl _ _) g)
    clear g
    go_wp2
    go_ret
    exact ⟨false, rfl, iff_no (fun q => HNT.out q.1), G1_.out⟩
  have HYT := Lib.hid ht
  clear ht
  by_cases hll : len1 = len
  rotate_left
  · have hbb : ((len1 : Int) == (len : Int)) = false := beq_eq_false_iff_ne.2 (by omega)
    have hbn : ((len1 : Int) != (len : Int)) = true := bne_iff_ne.2 (by omega)
    have HNL := Lib.hid hll
    clear hll
    go_wp2_with fail
    go_at_call 43
    refine (implTree_yes _ _ xs (HT.out.grow (gby_refl _ _)) HLX.out HYT.out).mono ?_
    rintro e w1 ⟨rfl, g⟩
    have szw1 := g.size
    try simp only [World.size_alloc] at szw1
    try simp only [World.size_setCell] at szw1
    have G1_ := Lib.hid (show (W).grownBy (w1) none from gby_trans (gby_refl _ _) g)
    clear g
    go_wp2
    go_ret
    exact ⟨false, rfl, iff_no (fun q => HNL.out (HE1.out.trans (q.2.trans HE.out.symm))), G1_.out⟩
  subst hll
  have hbb : ((len1 : Int) == (len1 : Int)) = true := by simp
  have hbn : ((len1 : Int) != (len1 : Int)) = false := by simp
  have HHW := Lib.hid (show HaveW xs ys from ⟨HYT.out, HE1.out.symm.trans HE.out⟩)
  go_wp2_with fail
  go_at_call 43
  refine (implTree_yes _ _ xs (HT.out.grow (gby_refl _ _)) HLX.out HYT.out).mono ?_
  rintro e w1 ⟨rfl, g⟩
  have szw1 := g.size
  try simp only [World.size_alloc] at szw1
  try simp only [World.size_setCell] at szw1
  have G1_ := Lib.hid (show (W).grownBy (w1) none from gby_trans (gby_refl _ _) g)
  clear g
  go_wp2
  go_ret
  exact ⟨true, rfl, iff_yes HHW.out, G1_.out⟩

set_option maxRecDepth 8000 in
set_option maxHeartbeats 2000000 in
theorem specOwnA (W : World) (v u : Value) (xs : List DNode) (ys : List DBar) (H : RdL shNode W v xs) (Hb : RdL shBar W u ys) (hl : szL shNode xs ≤ 1048576) (hly : szL shBar ys ≤ 1048576) (x : Int) : Calls Try.prog 15 #[v, u, .int .i64 x] W (AnsN (.int .i64 (ownR xs ys x)) W) := by
  have HT := Lib.hid H
  have HW0 := Lib.hid Hb
  have HLX := Lib.hid hl
  have HLY := Lib.hid hly
  have hlx : xs.length ≤ 1048576 := by have := szL_len shNode xs; omega
  have hly2 : ys.length ≤ 1048576 := by have := szL_len shBar ys; omega
  obtain ⟨a0, cap, rfl, hcap, hi⟩ := rdN_in H
  obtain ⟨a1, cap1, rfl, hcap1, hi1⟩ := rdW_in Hb
  have HA := Lib.hid hi
  have HA1 := Lib.hid hi1
  obtain ⟨len, hlen⟩ : ∃ len, len = xs.length := ⟨_, rfl⟩
  obtain ⟨len1, hlen1⟩ : ∃ len, len = ys.length := ⟨_, rfl⟩
  have HE := Lib.hid hlen
  have HE1 := Lib.hid hlen1
  unfold RdN at HA
  unfold RdW at HA1
  rw [← hlen] at hlx HT HA ⊢
  rw [← hlen1] at hly2 HW0 HA1 ⊢
  clear H Hb hi hi1 hlen hlen1 hl hly hcap hcap1
  go_enter Try.func15, Try.ntmps15
  by_cases ht : TOk xs
  rotate_left
  · have HNT := Lib.hid ht
    clear ht
    go_wp2_with fail
    go_at_call 26
    refine (specTree_no _ _ xs (HT.out.grow (gby_refl _ _)) HLX.out HNT.out).mono ?_
    rintro e w1 ⟨rfl, g⟩
    have szw1 := g.size
    try simp only [World.size_alloc] at szw1
    try simp only [World.size_setCell] at szw1
    have G1_ := Lib.hid (show (W).grownBy (w1) none from gby_trans (gby_refl _ _) g)
    clear g
    go_wp2
    go_ret
    exact ⟨(by rw [ownR_no (fun q => HNT.out q.1)] <;> rfl), G1_.out⟩
  have HYT := Lib.hid ht
  clear ht
  by_cases hll : len1 = len
  rotate_left
  · have hbb : ((len1 : Int) == (len : Int)) = false := beq_eq_false_iff_ne.2 (by omega)
    have hbn : ((len1 : Int) != (len : Int)) = true := bne_iff_ne.2 (by omega)
    have HNL := Lib.hid hll
    clear hll
    go_wp2_with fail
    go_at_call 26
    refine (specTree_yes _ _ xs (HT.out.grow (gby_refl _ _)) HLX.out HYT.out).mono ?_
    rintro e w1 ⟨rfl, g⟩
    have szw1 := g.size
    try simp only [World.size_alloc] at szw1
    try simp only [World.size_setCell] at szw1
    have G1_ := Lib.hid (show (W).grownBy (w1) none from gby_trans (gby_refl _ _) g)
    clear g
    go_wp2
    go_ret
    exact ⟨(by rw [ownR_no (fun q => HNL.out (HE1.out.trans (q.2.trans HE.out.symm)))] <;> rfl), G1_.out⟩
  subst hll
  have hbb : ((len1 : Int) == (len1 : Int)) = true := by simp
  have hbn : ((len1 : Int) != (len1 : Int)) = false := by simp
  have HHW := Lib.hid (show HaveW xs ys from ⟨HYT.out, HE1.out.symm.trans HE.out⟩)
  go_wp2_with fail
  go_at_call 26
  refine (specTree_yes _ _ xs (HT.out.grow (gby_refl _ _)) HLX.out HYT.out).mono ?_
  rintro e w1 ⟨rfl, g⟩
  have szw1 := g.size
  try simp only [World.size_alloc] at szw1
  try simp only [World.size_setCell] at szw1
  have G1_ := Lib.hid (show (W).grownBy (w1) none from gby_trans (gby_refl _ _) g)
  clear g
  have HTM2_ := Lib.hid (gby_refl (w1) none)
  have MG3_ := Lib.hid (show (W).grownBy (w1) none from G1_.out)
  go_wp2
  go_loopw [7] (fun i wr => ∃ n : Nat, n ≤ len1 ∧ i = .int .i64 (n : Int) ∧ fstW ys x (devL xs n) = -1 ∧ (w1).grownBy wr none) (fun i _ => len1 - (intOf i).toNat)
  case atStart => exact ⟨0, by omega, rfl, rfl, HTM2_.out⟩
  case round =>
    clear HTM2_
    obtain ⟨n, hn, rfl, hno, hg⟩ := hrel
    have szr_ := hg.size
    try simp only [World.size_alloc, World.size_setCell] at szr_
    have G4_ := Lib.hid (show (W).grownBy (wr) none from gby_trans MG3_.out hg)
    have HTM5_ := Lib.hid hg
    clear hg
    have HNO := Lib.hid hno
    clear hno
    have hn0 : (0 : Int) ≤ (n : Int) := by omega
    have htn : ((n : Int)).toNat = n := by omega
    by_cases hlt : n < len1
    rotate_left
    · obtain rfl : n = len1 := by omega
      have hki : ¬ (n : Int) < (n : Int) := by omega
      go_wp2
      go_ret
      exact ⟨(by rw [ownR_yes HHW.out, ← HE.out, HNO.out] <;> rfl), G4_.out⟩
    have hki : (n : Int) < (len1 : Int) := by omega
    obtain ⟨nb, no, rfl, hcell⟩ := HA.out.resolve_left (by omega)
    obtain ⟨y_, hy_⟩ : ∃ y_, y_ = nd xs n := ⟨_, rfl⟩
    have hyc_ := hcell n (by omega)
    rw [← hy_] at hyc_
    obtain ⟨y0, y1, y2⟩ := y_
    dsimp only at hyc_
    have Hy := Lib.hid hy_
    have Hy0 := Lib.hid hyc_.1
    have Hy1 := Lib.hid hyc_.2.1
    have Hy2 := Lib.hid hyc_.2.2
    clear hyc_ hy_ hcell
    obtain ⟨wb, wo, rfl, hcellb⟩ := HA1.out.resolve_left (by omega)
    obtain ⟨z_, hz_⟩ : ∃ z_, z_ = bar ys n := ⟨_, rfl⟩
    have hzc_ := hcellb n (by omega)
    rw [← hz_] at hzc_
    obtain ⟨z0, z1⟩ := z_
    dsimp only at hzc_
    have Hz := Lib.hid hz_
    have Hz0 := Lib.hid hzc_.1
    have Hz1 := Lib.hid hzc_.2
    clear hzc_ hz_ hcellb
    have y2_ := (G4_.out).cell Hy2.out (by simp)
    have z0_ := (G4_.out).cell Hz0.out (by simp)
    have z1_ := (G4_.out).cell Hz1.out (by simp)
    have hf2 : 0 ≤ y2 := by
      have h1 := HYT.out
      have hy := Hy.out
      by_cases e : n = 0
      · subst e; have := h1.2.1.2.2; rw [← hy] at this; dsimp only at this; omega
      · have := (h1.2.2 n (by omega) (by rw [← HE.out]; exact hlt)).2.2.2.1.1; rw [← hy] at this; exact this
    by_cases h0 : y2 = 0
    · have hgt : ¬ (0 : Int) < y2 := by omega
      have hgd : decide ((0 : Int) < y2) = false := decide_eq_false hgt
      have HB := Lib.hid h0
      clear h0
      go_wp2
      refine ⟨⟨n + 1, by omega, by go_num, fst_step HNO.out (.inl (by rw [← Hy.out]; exact HB.out)), by repeat (first | exact HTM5_.out | with_reducible refine gby_drewN ?_ _)⟩, by simp [intOf]; omega⟩
    have hgt : (0 : Int) < y2 := by omega
    have hgd : decide ((0 : Int) < y2) = true := decide_eq_true hgt
    by_cases hsp : SpansP z0 z1 x
    rotate_left
    · have HB := Lib.hid hsp
      clear hsp
      go_wp2_with fail
      go_at_call 35
      refine (cov_no _ HB.out).mono ?_
      rintro e w2 ⟨rfl, g⟩
      have szw2 := g.size
      try simp only [World.size_alloc] at szw2
      try simp only [World.size_setCell] at szw2
      clear y2_ z0_ z1_
      have G6_ := Lib.hid (show (W).grownBy (w2) none from gby_trans G4_.out g)
      have HTM7_ := Lib.hid (show (w1).grownBy (w2) none from gby_trans HTM5_.out g)
      clear HTM5_
      clear g
      have y2_ := (G6_.out).cell Hy2.out (by simp)
      have z0_ := (G6_.out).cell Hz0.out (by simp)
      have z1_ := (G6_.out).cell Hz1.out (by simp)
      go_wp2
      refine ⟨⟨n + 1, by omega, by go_num, fst_step HNO.out (.inr (by unfold SpB; rw [← Hz.out]; exact HB.out)), by repeat (first | exact HTM7_.out | with_reducible refine gby_drewN ?_ _)⟩, by simp [intOf]; omega⟩
    have HB := Lib.hid hsp
    clear hsp
    go_wp2_with fail
    go_at_call 35
    refine (cov_yes _ HB.out).mono ?_
    rintro e w2 ⟨rfl, g⟩
    have szw2 := g.size
    try simp only [World.size_alloc] at szw2
    try simp only [World.size_setCell] at szw2
    clear y2_ z0_ z1_
    have G6_ := Lib.hid (show (W).grownBy (w2) none from gby_trans G4_.out g)
    have HTM7_ := Lib.hid (show (w1).grownBy (w2) none from gby_trans HTM5_.out g)
    clear HTM5_
    clear g
    have y2_ := (G6_.out).cell Hy2.out (by simp)
    have z0_ := (G6_.out).cell Hz0.out (by simp)
    have z1_ := (G6_.out).cell Hz1.out (by simp)
    have hfin : ownR xs ys x = (n : Int) := by
      have hh := fst_hit (m := len1 - (n + 1)) HNO.out (by rw [← Hy.out]; dsimp only; omega) (by unfold SpB; rw [← Hz.out]; exact HB.out)
      rw [show n + 1 + (len1 - (n + 1)) = len1 by omega] at hh
      rw [ownR_yes HHW.out, ← HE.out]; exact hh
    have HFIN := Lib.hid hfin
    clear hfin
    go_wp2
    go_ret
    exact ⟨(by rw [HFIN.out] <;> rfl), G6_.out⟩

theorem finder_any (W : World) (a : Option Addr) (n c : Nat) (x : Int) : Calls Try.prog 37 #[.slice a n c, .int .i64 x] W fun e w' => e = .returned (.func (.func 46) #[] #[.pointer (some ⟨W.heap.size, 0, none⟩), .pointer (some ⟨W.heap.size + 1, 0, none⟩)]) ∧ w' = (W.alloc (.cells #[.slice a n c] 27)).alloc (.cells #[.int .i64 x] 3) := by
  go_enter Try.func37, Try.ntmps37
  go_wp2
  go_ret
  exact ⟨rfl, rfl⟩

theorem fstW_more {ys : List DBar} {x : Int} : ∀ a b : List Int, fstW ys x a ≠ -1 → (∀ e ∈ a, 0 ≤ e) → fstW ys x (a ++ b) = fstW ys x a
  | [], _, h, _ => absurd rfl h
  | e :: a, b, h, hp => by
    by_cases q : SpB ys x e.toNat
    · have a1 : fstW ys x (e :: a) = e := by simp [fstW, q]
      have a2 : fstW ys x (e :: (a ++ b)) = e := by simp [fstW, q]
      rw [List.cons_append, a1, a2]
    · have a1 : fstW ys x (e :: a) = fstW ys x a := by simp [fstW, q]
      have a2 : fstW ys x (e :: (a ++ b)) = fstW ys x (a ++ b) := by simp [fstW, q]
      rw [a1] at h
      rw [List.cons_append, a1, a2]
      exact fstW_more a b h (fun z hz => hp z (List.mem_cons_of_mem _ hz))

set_option maxRecDepth 8000 in
set_option maxHeartbeats 2000000 in
theorem find_any (W : World) (vd u : Value) (b1 b2 : Nat) (ys : List DBar) (ds : List Int) (x : Int) (Hd : RdL shI W vd ds) (Hb : RdL shBar W u ys) (hly : szL shBar ys ≤ 1048576) (hdl : ds.length ≤ 1048576) (hin : ∀ e ∈ ds, 0 ≤ e ∧ e < (ys.length : Int)) (hc1 : W.cell? ⟨b1, 0, none⟩ = some u) (hc2 : W.cell? ⟨b2, 0, none⟩ = some (.int .i64 x)) : Calls Try.prog 46 #[vd, .pointer (some ⟨b1, 0, none⟩), .pointer (some ⟨b2, 0, none⟩)] W (AnsN (.int .i64 (fstW ys x ds)) W) := by
  have hly2 : ys.length ≤ 1048576 := by have := szL_len shBar ys; omega
  obtain ⟨a1, cap1, rfl, hcap1, hi1⟩ := rdW_in Hb
  obtain ⟨a2, cap2, rfl, hcap2, hi2⟩ := rdI1_in Hd
  have HA1 := Lib.hid hi1
  have HD := Lib.hid hi2
  have HIN0 := Lib.hid hin
  have HC2 := Lib.hid hc2
  obtain ⟨len1, hlen1⟩ : ∃ len, len = ys.length := ⟨_, rfl⟩
  obtain ⟨m, hm⟩ : ∃ m, m = ds.length := ⟨_, rfl⟩
  have HE1 := Lib.hid hlen1
  have HM := Lib.hid hm.symm
  have HC1 := Lib.hid hc1
  unfold RdW at HA1
  unfold RdN1 at HD
  rw [← hlen1] at hly2 HA1 HC1
  rw [← hm] at hdl ⊢
  have HIN : Hid (∀ e ∈ ds, 0 ≤ e ∧ e < (len1 : Int)) := Lib.hid (fun e he => by have := HIN0.out e he; rw [← HE1.out] at this; exact this)
  clear Hd Hb hi1 hi2 hin hlen1 hm hcap1 hcap2 hc1 hc2 HIN0 hly
  go_enter Try.func46, Try.ntmps46
  have HTM1_ := Lib.hid (gby_refl (W) none)
  have MG2_ := Lib.hid (show (W).grownBy (W) none from (gby_refl _ _))
  go_wp2
  go_loopw [9] (fun i wr => ∃ n : Nat, n ≤ m ∧ i = .int .i64 (n : Int) ∧ fstW ys x (ds.take n) = -1 ∧ (W).grownBy wr none) (fun i _ => m - (intOf i).toNat)
  case atStart => exact ⟨0, by omega, rfl, rfl, HTM1_.out⟩
  case round =>
    clear HTM1_
    obtain ⟨n, hn, rfl, hno, hg⟩ := hrel
    have szr_ := hg.size
    try simp only [World.size_alloc, World.size_setCell] at szr_
    have G3_ := Lib.hid (show (W).grownBy (wr) none from gby_trans MG2_.out hg)
    have HTM4_ := Lib.hid hg
    clear hg
    have HNO := Lib.hid hno
    clear hno
    have hn0 : (0 : Int) ≤ (n : Int) := by omega
    have htn : ((n : Int)).toNat = n := by omega
    by_cases hlt : n < m
    rotate_left
    · obtain rfl : n = m := by omega
      have hki : ¬ (n : Int) < (n : Int) := by omega
      have HF := Lib.hid (show fstW ys x ds = -1 from by have := HNO.out; rwa [List.take_of_length_le (by rw [HM.out]; exact Nat.le_refl _)] at this)
      go_wp2
      go_ret
      exact ⟨(by rw [HF.out] <;> rfl), G3_.out⟩
    have hki : (n : Int) < (m : Int) := by omega
    obtain ⟨db, dof, rfl, hdc⟩ := HD.out.resolve_left (by have := HM.out; omega)
    obtain ⟨d, hd⟩ : ∃ d : Nat, ds.getD n 0 = (d : Int) := ⟨(ds.getD n 0).toNat, by have := (HIN.out (ds.getD n 0) (by rw [List.getD_eq_getElem?_getD, List.getElem?_eq_getElem (by rw [HM.out]; exact hlt)]; exact List.getElem_mem _)).1; omega⟩
    have hdl : d < len1 := by have := (HIN.out (ds.getD n 0) (by rw [List.getD_eq_getElem?_getD, List.getElem?_eq_getElem (by rw [HM.out]; exact hlt)]; exact List.getElem_mem _)).2; rw [hd] at this; omega
    have HDN := Lib.hid hd
    have hdc2 := hdc n (by rw [HM.out]; exact hlt)
    rw [hd] at hdc2
    have HDC := Lib.hid hdc2
    clear hd hdc hdc2
    have hd0 : (0 : Int) ≤ (d : Int) := by omega
    have htd : ((d : Int)).toNat = d := by omega
    have hdi : (d : Int) < (len1 : Int) := by omega
    have htake : ds.take (n + 1) = ds.take n ++ [(d : Int)] := by rw [List.take_succ_eq_append_getElem (by rw [HM.out]; exact hlt), ← HDN.out, List.getD_eq_getElem?_getD, List.getElem?_eq_getElem (by rw [HM.out]; exact hlt)]; rfl
    have HTK := Lib.hid htake
    clear htake
    obtain ⟨wb, wo, rfl, hcellb⟩ := HA1.out.resolve_left (by omega)
    obtain ⟨z_, hz_⟩ : ∃ z_, z_ = bar ys d := ⟨_, rfl⟩
    have hzc_ := hcellb d (by omega)
    rw [← hz_] at hzc_
    obtain ⟨z0, z1⟩ := z_
    dsimp only at hzc_
    have Hz := Lib.hid hz_
    have Hz0 := Lib.hid hzc_.1
    have Hz1 := Lib.hid hzc_.2
    clear hzc_ hz_ hcellb
    have c1_ := (G3_.out).cell HC1.out (by simp)
    have c2_ := (G3_.out).cell HC2.out (by simp)
    have dd_ := (G3_.out).cell HDC.out (by simp)
    have z0_ := (G3_.out).cell Hz0.out (by simp)
    have z1_ := (G3_.out).cell Hz1.out (by simp)
    by_cases hsp : SpansP z0 z1 x
    rotate_left
    · have HB := Lib.hid hsp
      clear hsp
      go_wp2_with fail
      go_region_held3 (fun w' => w'.cell? ⟨b1, 0, none⟩ = some (.slice (some ⟨wb, wo, none⟩) len1 cap1) ∧ w'.cell? ⟨b2, 0, none⟩ = some (.int .i64 x) ∧ w'.cell? ⟨wb, wo + d * 2, none⟩ = some (.int .i64 z0) ∧ w'.cell? ⟨wb, wo + d * 2 + 1, none⟩ = some (.int .i64 z1))
        (first | exact ⟨mc1_, mc2_, mz0_, mz1_⟩ | exact ⟨c1_, c2_, z0_, z1_⟩ | go_keep)
        (first
          | (go_at_call 42; refine (spans_no _ HB.out).mono ?_; rintro e wA ⟨rfl, gA⟩; have mc1_ : wA.cell? _ = some _ := gA.cell c1_ (by simp); have mc2_ : wA.cell? _ = some _ := gA.cell c2_ (by simp); have mz0_ : wA.cell? _ = some _ := gA.cell z0_ (by simp); have mz1_ : wA.cell? _ = some _ := gA.cell z1_ (by simp))
          | fail)
      all_goals
        have g : (wr).grownBy wA none := by repeat (first | exact gA | exact gby_trans (gby_drew (gby_refl _ _)) gA)
        clear gA mc1_ mc2_ mz0_ mz1_
      clear c1_ c2_ dd_ z0_ z1_
      have G5_ := Lib.hid (show (W).grownBy (wA) none from gby_trans G3_.out g)
      have HTM6_ := Lib.hid (show (W).grownBy (wA) none from gby_trans HTM4_.out g)
      clear HTM4_
      clear g
      have hnn : fstW ys x (ds.take (n + 1)) = -1 := by rw [HTK.out, fstW_snoc _ (fun q hq => (HIN.out q (List.mem_of_mem_take hq)).1), if_pos HNO.out, if_neg (by unfold SpB; rw [htd, ← Hz.out]; exact HB.out)]
      have HNN := Lib.hid hnn
      clear hnn
      go_wp2
      refine ⟨⟨n + 1, by omega, by go_num, HNN.out, by repeat (first | exact HTM6_.out | with_reducible refine gby_drewN ?_ _)⟩, by simp [intOf]; omega⟩
    have HB := Lib.hid hsp
    clear hsp
    go_wp2_with fail
    go_region_held3 (fun w' => w'.cell? ⟨b1, 0, none⟩ = some (.slice (some ⟨wb, wo, none⟩) len1 cap1) ∧ w'.cell? ⟨b2, 0, none⟩ = some (.int .i64 x) ∧ w'.cell? ⟨wb, wo + d * 2, none⟩ = some (.int .i64 z0) ∧ w'.cell? ⟨wb, wo + d * 2 + 1, none⟩ = some (.int .i64 z1))
      (first | exact ⟨mc1_, mc2_, mz0_, mz1_⟩ | exact ⟨c1_, c2_, z0_, z1_⟩ | go_keep)
      (first
        | (go_at_call 42; refine (spans_yes _ HB.out).mono ?_; rintro e wA ⟨rfl, gA⟩; have mc1_ : wA.cell? _ = some _ := gA.cell c1_ (by simp); have mc2_ : wA.cell? _ = some _ := gA.cell c2_ (by simp); have mz0_ : wA.cell? _ = some _ := gA.cell z0_ (by simp); have mz1_ : wA.cell? _ = some _ := gA.cell z1_ (by simp))
        | fail)
    all_goals
      have g : (wr).grownBy wA none := by repeat (first | exact gA | exact gby_trans (gby_drew (gby_refl _ _)) gA)
      clear gA mc1_ mc2_ mz0_ mz1_
    clear c1_ c2_ dd_ z0_ z1_
    have G5_ := Lib.hid (show (W).grownBy (wA) none from gby_trans G3_.out g)
    have HTM6_ := Lib.hid (show (W).grownBy (wA) none from gby_trans HTM4_.out g)
    clear HTM4_
    clear g
    have hfin : fstW ys x ds = (d : Int) := by
      have h1 : fstW ys x (ds.take (n + 1)) = (d : Int) := by rw [HTK.out, fstW_snoc _ (fun q hq => (HIN.out q (List.mem_of_mem_take hq)).1), if_pos HNO.out, if_pos (by unfold SpB; rw [htd, ← Hz.out]; exact HB.out)]
      have h2 := fstW_more (ys := ys) (x := x) (ds.take (n + 1)) (ds.drop (n + 1)) (by rw [h1]; omega) (fun q hq => (HIN.out q (List.mem_of_mem_take hq)).1)
      rw [List.take_append_drop] at h2
      rw [h2, h1]
    have HFIN := Lib.hid hfin
    clear hfin
    go_wp2
    go_ret
    exact ⟨(by rw [HFIN.out] <;> rfl), G5_.out⟩

set_option maxRecDepth 8000 in
set_option maxHeartbeats 2000000 in
theorem implOwnA (W : World) (v u : Value) (xs : List DNode) (ys : List DBar) (H : RdL shNode W v xs) (Hb : RdL shBar W u ys) (hl : szL shNode xs ≤ 1048576) (hly : szL shBar ys ≤ 1048576) (x : Int) : Calls Try.prog 16 #[v, u, .int .i64 x] W (AnsN (.int .i64 (ownR xs ys x)) W) := by
  obtain ⟨i1_, hi1_, hz0_, hz1_, hz2_⟩ := info_parts infoInt
  have HT := Lib.hid H
  have HW0 := Lib.hid Hb
  have HLX := Lib.hid hl
  have HLY := Lib.hid hly
  have hlx : xs.length ≤ 1048576 := by have := szL_len shNode xs; omega
  have hly2 : ys.length ≤ 1048576 := by have := szL_len shBar ys; omega
  obtain ⟨a0, cap, rfl, hcap, hi⟩ := rdN_in H
  obtain ⟨a1, cap1, rfl, hcap1, hi1⟩ := rdW_in Hb
  have HA := Lib.hid hi
  have HA1 := Lib.hid hi1
  obtain ⟨len, hlen⟩ : ∃ len, len = xs.length := ⟨_, rfl⟩
  obtain ⟨len1, hlen1⟩ : ∃ len, len = ys.length := ⟨_, rfl⟩
  have HE := Lib.hid hlen
  have HE1 := Lib.hid hlen1
  unfold RdN at HA
  unfold RdW at HA1
  rw [← hlen] at hlx HT HA ⊢
  rw [← hlen1] at hly2 HW0 HA1 ⊢
  clear H Hb hi hi1 hlen hlen1 hl hly hcap hcap1
  go_enter Try.func16, Try.ntmps16
  by_cases hw : HaveW xs ys
  rotate_left
  · have HNW := Lib.hid hw
    clear hw
    go_wp2_with fail
    go_at_call 31
    refine ((implHaveW _ _ _ xs ys (HT.out.grow (gby_refl _ _)) (HW0.out.grow (gby_refl _ _)) HLX.out HLY.out).mono (bpost_no HNW.out)).mono ?_
    rintro e w1 ⟨rfl, g⟩
    have szw1 := g.size
    try simp only [World.size_alloc] at szw1
    try simp only [World.size_setCell] at szw1
    have G1_ := Lib.hid (show (W).grownBy (w1) none from gby_trans (gby_refl _ _) g)
    clear g
    go_wp2
    go_ret
    exact ⟨(by rw [ownR_no HNW.out] <;> rfl), G1_.out⟩
  have HHW := Lib.hid hw
  have h12 : len ≤ 12 := by have := hw.1.1.2; have := HE.out; omega
  clear hw
  go_wp2_with fail
  go_at_call 31
  refine ((implHaveW _ _ _ xs ys (HT.out.grow (gby_refl _ _)) (HW0.out.grow (gby_refl _ _)) HLX.out HLY.out).mono (bpost_yes HHW.out)).mono ?_
  rintro e w1 ⟨rfl, g⟩
  have szw1 := g.size
  try simp only [World.size_alloc] at szw1
  try simp only [World.size_setCell] at szw1
  have G1_ := Lib.hid (show (W).grownBy (w1) none from gby_trans (gby_refl _ _) g)
  clear g
  have HTM2_ := Lib.hid (gby_refl (w1) none)
  have MG3_ := Lib.hid (show (W).grownBy (w1) none from G1_.out)
  go_wp2
  go_loopw [7, 17] (fun v i wr => ∃ n : Nat, n ≤ len ∧ i = .int .i64 (n : Int) ∧ wr.ownsRow (w1.heap.size) 3 1 v (devL xs n).length (i64s (devL xs n)) ∧ (w1).grownBy wr none) (fun _ i _ => len - (intOf i).toNat)
  case atStart => exact ⟨0, by omega, rfl, World.ownsRow_nil _ _ _ _, HTM2_.out⟩
  case round =>
    clear HTM2_
    obtain ⟨n, hn, rfl, hown, hg⟩ := hrel
    have szr_ := hg.size
    try simp only [World.size_alloc, World.size_setCell] at szr_
    have G4_ := Lib.hid (show (W).grownBy (wr) none from gby_trans MG3_.out hg)
    have HTM5_ := Lib.hid hg
    clear hg
    have HO_ := Lib.hid hown
    clear hown
    have hn0 : (0 : Int) ≤ (n : Int) := by omega
    have htn : ((n : Int)).toNat = n := by omega
    by_cases hlt : n < len
    rotate_left
    · obtain rfl : n = len := by omega
      have hki : ¬ (n : Int) < (n : Int) := by omega
      have hdl := devL_len xs n
      have HR := Lib.hid (owI_out (by omega) (owI_row HO_.out)).rd
      obtain ⟨pd, md, cd, hv_⟩ := RdL.form HR.out
      subst hv_
      go_wp2_with fail
      go_at_call 37
      refine (finder_any _ _ _ _ x).mono ?_
      rintro e w8 ⟨rfl, rfl⟩
      have al_ : (wr).grownBy ((wr).alloc (.cells #[.slice a1 len1 cap1] 27)) none := gby_alloc (gby_refl _ _) _
      have G6_ := Lib.hid (show (W).grownBy ((wr.alloc (.cells #[.slice a1 len1 cap1] 27))) none from gby_trans G4_.out al_)
      have HTM7_ := Lib.hid (show (w1).grownBy ((wr.alloc (.cells #[.slice a1 len1 cap1] 27))) none from gby_trans HTM5_.out al_)
      clear HTM5_
      have rF18_ := Lib.hid (show ((wr.alloc (.cells #[.slice a1 len1 cap1] 27))).heap[wr.heap.size]? = some (.cells #[.slice a1 len1 cap1] 27 (0, 0)) from by first | exact heap_alloc_new _ _ | exact heap_pair _ _ _ | exact heap_trip _ _ _ _)
      clear al_
      have F1_0_ : ((wr.alloc (.cells #[.slice a1 len1 cap1] 27))).cell? ⟨wr.heap.size, 0, none⟩ = some (.slice a1 len1 cap1) := cell_of_row _ _ 0 _ _ _ rF18_.out
      clear F1_0_
      have al_ : ((wr.alloc (.cells #[.slice a1 len1 cap1] 27))).grownBy (((wr.alloc (.cells #[.slice a1 len1 cap1] 27))).alloc (.cells #[.int .i64 x] 3)) none := gby_alloc (gby_refl _ _) _
      have rF19_ := Lib.hid (show (((wr.alloc (.cells #[.slice a1 len1 cap1] 27)).alloc (.cells #[.int .i64 x] 3))).heap[wr.heap.size]? = some (.cells #[.slice a1 len1 cap1] 27 (0, 0)) from row_held al_ rF18_.out)
      clear rF18_
      have G10_ := Lib.hid (show (W).grownBy (((wr.alloc (.cells #[.slice a1 len1 cap1] 27)).alloc (.cells #[.int .i64 x] 3))) none from gby_trans G6_.out al_)
      have HTM11_ := Lib.hid (show (w1).grownBy (((wr.alloc (.cells #[.slice a1 len1 cap1] 27)).alloc (.cells #[.int .i64 x] 3))) none from gby_trans HTM7_.out al_)
      clear HTM7_
      have rF212_ := Lib.hid (show (((wr.alloc (.cells #[.slice a1 len1 cap1] 27)).alloc (.cells #[.int .i64 x] 3))).heap[wr.heap.size + 1]? = some (.cells #[.int .i64 x] 3 (0, 0)) from by first | exact heap_alloc_new _ _ | exact heap_pair _ _ _ | exact heap_trip _ _ _ _)
      clear al_
      have F1_0_ : (((wr.alloc (.cells #[.slice a1 len1 cap1] 27)).alloc (.cells #[.int .i64 x] 3))).cell? ⟨wr.heap.size, 0, none⟩ = some (.slice a1 len1 cap1) := cell_of_row _ _ 0 _ _ _ rF19_.out
      have F2_0_ : (((wr.alloc (.cells #[.slice a1 len1 cap1] 27)).alloc (.cells #[.int .i64 x] 3))).cell? ⟨wr.heap.size + 1, 0, none⟩ = some (.int .i64 x) := cell_of_row _ _ 0 _ _ _ rF212_.out
      go_wp2_with fail
      go_at_call 46
      refine (show Calls _ _ _ _ (AnsN (.int .i64 (ownR xs ys x)) _) from by rw [ownR_yes HHW.out, ← HE.out]; exact find_any _ _ _ _ _ ys (devL xs n) x (HR.out.grow (gby_alloc (gby_alloc (gby_refl _ none) _) _)) (HW0.out.grow G10_.out) HLY.out (by omega) (fun e he => by have := devL_in n e he; have h1 := HHW.out.2; have := HE.out; omega) (cell_of_row _ _ 0 _ _ _ rF19_.out) (cell_of_row _ _ 0 _ _ _ rF212_.out)).mono ?_
      rintro e w9 ⟨rfl, g⟩
      clear F1_0_ F2_0_
      have rF113_ := Lib.hid (show (w9).heap[wr.heap.size]? = some (.cells #[.slice a1 len1 cap1] 27 (0, 0)) from row_held g rF19_.out)
      clear rF19_
      have rF214_ := Lib.hid (show (w9).heap[wr.heap.size + 1]? = some (.cells #[.int .i64 x] 3 (0, 0)) from row_held g rF212_.out)
      clear rF212_
      have G15_ := Lib.hid (show (W).grownBy (w9) none from gby_trans G10_.out g)
      have HTM16_ := Lib.hid (show (w1).grownBy (w9) none from gby_trans HTM11_.out g)
      clear HTM11_
      clear g
      go_wp2
      go_ret
      exact ⟨rfl, G15_.out⟩
    have hki : (n : Int) < (len : Int) := by omega
    obtain ⟨nb, no, rfl, hcell⟩ := HA.out.resolve_left (by omega)
    obtain ⟨y_, hy_⟩ : ∃ y_, y_ = nd xs n := ⟨_, rfl⟩
    have hyc_ := hcell n (by omega)
    rw [← hy_] at hyc_
    obtain ⟨y0, y1, y2⟩ := y_
    dsimp only at hyc_
    have Hy := Lib.hid hy_
    have Hy0 := Lib.hid hyc_.1
    have Hy1 := Lib.hid hyc_.2.1
    have Hy2 := Lib.hid hyc_.2.2
    clear hyc_ hy_ hcell
    have qy0_ := (G4_.out).cell Hy0.out (by simp)
    have qy1_ := (G4_.out).cell Hy1.out (by simp)
    have qy2_ := (G4_.out).cell Hy2.out (by simp)
    have al_ : (wr).grownBy ((wr).alloc (.cells #[.int .i64 y0, .int .i64 y1, .int .i64 y2] 48)) none := gby_alloc (gby_refl _ _) _
    have G6_ := Lib.hid (show (W).grownBy ((wr.alloc (.cells #[.int .i64 y0, .int .i64 y1, .int .i64 y2] 48))) none from gby_trans G4_.out al_)
    have HTM7_ := Lib.hid (show (w1).grownBy ((wr.alloc (.cells #[.int .i64 y0, .int .i64 y1, .int .i64 y2] 48))) none from gby_trans HTM5_.out al_)
    clear HTM5_
    have rY8_ := Lib.hid (show ((wr.alloc (.cells #[.int .i64 y0, .int .i64 y1, .int .i64 y2] 48))).heap[wr.heap.size]? = some (.cells #[.int .i64 y0, .int .i64 y1, .int .i64 y2] 48 (0, 0)) from by first | exact heap_alloc_new _ _ | exact heap_pair _ _ _ | exact heap_trip _ _ _ _)
    clear al_
    have Y_0_ : ((wr.alloc (.cells #[.int .i64 y0, .int .i64 y1, .int .i64 y2] 48))).cell? ⟨wr.heap.size, 0, none⟩ = some (.int .i64 y0) := cell_of_row _ _ 0 _ _ _ rY8_.out
    have Y_1_ : ((wr.alloc (.cells #[.int .i64 y0, .int .i64 y1, .int .i64 y2] 48))).cell? ⟨wr.heap.size, 1, none⟩ = some (.int .i64 y1) := cell_of_row _ _ 1 _ _ _ rY8_.out
    have Y_2_ : ((wr.alloc (.cells #[.int .i64 y0, .int .i64 y1, .int .i64 y2] 48))).cell? ⟨wr.heap.size, 2, none⟩ = some (.int .i64 y2) := cell_of_row _ _ 2 _ _ _ rY8_.out
    by_cases h0 : y2 = 0
    · have HB := Lib.hid h0
      clear h0
      go_wp2_with fail
      go_at_call 36
      refine (bridge_yes _ _ _ _ HB.out).mono ?_
      rintro e w2 ⟨rfl, g⟩
      have gN_ := Lib.hid g
      have szw2 := g.size
      try simp only [World.size_alloc] at szw2
      try simp only [World.size_setCell] at szw2
      clear Y_0_ Y_1_ Y_2_
      have rY9_ := Lib.hid (show (w2).heap[wr.heap.size]? = some (.cells #[.int .i64 y0, .int .i64 y1, .int .i64 y2] 48 (0, 0)) from row_held g rY8_.out)
      clear rY8_
      have G10_ := Lib.hid (show (W).grownBy (w2) none from gby_trans G6_.out g)
      have HTM11_ := Lib.hid (show (w1).grownBy (w2) none from gby_trans HTM7_.out g)
      clear HTM7_
      clear g
      have Y_0_ : (w2).cell? ⟨wr.heap.size, 0, none⟩ = some (.int .i64 y0) := cell_of_row _ _ 0 _ _ _ rY9_.out
      have Y_1_ : (w2).cell? ⟨wr.heap.size, 1, none⟩ = some (.int .i64 y1) := cell_of_row _ _ 1 _ _ _ rY9_.out
      have Y_2_ : (w2).cell? ⟨wr.heap.size, 2, none⟩ = some (.int .i64 y2) := cell_of_row _ _ 2 _ _ _ rY9_.out
      have HO2 := Lib.hid (HO_.out.grown (gby_trans (gby_alloc (gby_refl _ none) _) gN_.out))
      go_wp2
      refine ⟨⟨n + 1, by omega, by go_num, ?_, HTM11_.out⟩, by simp [intOf]; omega⟩
      have e_ : devL xs (n + 1) = devL xs n := by show devL xs n ++ (if (nd xs n).f2 = 0 then [] else [(n : Int)]) = _; rw [← Hy.out, if_pos HB.out, List.append_nil]
      rw [e_]
      exact HO2.out
    have HB := Lib.hid h0
    clear h0
    go_wp2_with fail
    go_at_call 36
    refine (bridge_no _ _ _ _ HB.out).mono ?_
    rintro e w2 ⟨rfl, g⟩
    have gN_ := Lib.hid g
    have szw2 := g.size
    try simp only [World.size_alloc] at szw2
    try simp only [World.size_setCell] at szw2
    clear Y_0_ Y_1_ Y_2_
    have rY9_ := Lib.hid (show (w2).heap[wr.heap.size]? = some (.cells #[.int .i64 y0, .int .i64 y1, .int .i64 y2] 48 (0, 0)) from row_held g rY8_.out)
    clear rY8_
    have G10_ := Lib.hid (show (W).grownBy (w2) none from gby_trans G6_.out g)
    have HTM11_ := Lib.hid (show (w1).grownBy (w2) none from gby_trans HTM7_.out g)
    clear HTM7_
    clear g
    have Y_0_ : (w2).cell? ⟨wr.heap.size, 0, none⟩ = some (.int .i64 y0) := cell_of_row _ _ 0 _ _ _ rY9_.out
    have Y_1_ : (w2).cell? ⟨wr.heap.size, 1, none⟩ = some (.int .i64 y1) := cell_of_row _ _ 1 _ _ _ rY9_.out
    have Y_2_ : (w2).cell? ⟨wr.heap.size, 2, none⟩ = some (.int .i64 y2) := cell_of_row _ _ 2 _ _ _ rY9_.out
    have HO2 := Lib.hid (HO_.out.grown (gby_trans (gby_alloc (gby_refl _ none) _) gN_.out))
    have hdl := devL_len xs n
    have hb_ : (devL xs n).length ≤ 1000000 := by omega
    obtain ⟨m12, hm12⟩ : ∃ ml_, ml_ = (devL xs n).length := ⟨_, rfl⟩
    have HO12 := Lib.hid (show (w2).ownsRow (w1.heap.size) 3 1 _ m12 (i64s (devL xs n)) from by rw [hm12]; exact HO2.out)
    have hb12 : m12 ≤ 1000000 := by rw [hm12]; exact hb_
    have HM12 := Lib.hid hm12
    clear hm12 hb_
    go_wp2_with (at_builtin; refine wpList_append_lies _ (by rfl) _ _ _ (by rfl) (w1.heap.size) 3 i1_ _ 1 8 Try.underlying36 hi1_ hz0_ hz1_ hz2_ rfl (by omega) _ m12 (i64s (devL xs n)) (by rfl) (HO12.out.alloc _) ⟨(w2).heap.size, 0, none⟩ 1 1 _ (by rfl) (by rfl) (World.news_of_block (t := 3) (fr := (0, 0)) (heap_alloc_new (w2) _)) (by simp [Value.oneCell']) (by omega) (by unfold maxLen; omega) (by omega) (by simp; omega) ((w2).heap.size + 1) (by simp) ?_; intro gg12 cap12 wa12 hown_ hgr_ hat_ hlt_; have HP12 := Lib.hid hown_; have HQ12 := Lib.hid hgr_; clear hown_ hgr_ hat_ hlt_)
    refine ⟨⟨n + 1, by omega, by go_num, ?_, ?_⟩, by simp [intOf]; omega⟩
    · have e_ : devL xs (n + 1) = devL xs n ++ [(n : Int)] := by show devL xs n ++ (if (nd xs n).f2 = 0 then [] else [(n : Int)]) = _; rw [← Hy.out, if_neg HB.out]
      rw [e_, List.length_append, ← HM12.out, i64s_append]
      exact HP12.out
    · exact gby_new (gby_alloc HTM11_.out _) HQ12.out (fun b hb => by have := own_from HO12.out b hb; omega)

theorem ownerOfAddress_both (xs0 : List DNode) (xs1 : List DBar) (i2 : Int) (h0 : szL shNode xs0 ≤ 1048576) (h1 : szL shBar xs1 ≤ 1048576) : ∃ ir0 : Int, (∀ (W : World), ∀ u0 u1, RdL shNode W u0 xs0 → RdL shBar W u1 xs1 → Calls Try.prog 15 #[u0, u1, .int .i64 i2] W (ResSOwnerOfAddress ir0 W)) ∧ ∀ (W : World), ∀ u0 u1, RdL shNode W u0 xs0 → RdL shBar W u1 xs1 → Calls Try.prog 16 #[u0, u1, .int .i64 i2] W (ResIOwnerOfAddress ir0 W) :=
  ⟨ownR xs0 xs1 i2, fun W u0 u1 H0 H1 => specOwnA W u0 u1 _ _ H0 H1 h0 h1 i2, fun W u0 u1 H0 H1 => implOwnA W u0 u1 _ _ H0 H1 h0 h1 i2⟩

end Go.Proofs.Ytdddidnibelmhaa
