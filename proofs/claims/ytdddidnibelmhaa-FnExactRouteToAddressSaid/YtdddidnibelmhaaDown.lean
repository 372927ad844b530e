/-
  The way from the root to the device that owns an address, on both sides.
-/
import Derived.Test.YtdddidnibelmhaaKidsMath
import Derived.Test.YtdddidnibelmhaaNodeOf
import Derived.Test.YtdddidnibelmhaaRChildrenOf
import Derived.Test.YtdddidnibelmhaaAppP
import Derived.Test.YtdddidnibelmhaaSetI
import Derived.Test.YtdddidnibelmhaaTreeB
import Derived.Test.YtdddidnibelmhaaBPost
import Derived.Test.YtdddidnibelmhaaOv
import Derived.Test.YtdddidnibelmhaaQSNode
import Derived.Test.YtdddidnibelmhaaQSBar
import Derived.Test.YtdddidnibelmhaaROwnerOfAddress
import Derived.Deep.AppendLies
import Derived.Deep.RegionHeld3
import Derived.Test.YtdddidnibelmhaaKidsI
import Derived.Test.YtdddidnibelmhaaRDownToAddress
namespace Go.Proofs.Ytdddidnibelmhaa
open Go Go.RowKit
set_option linter.unusedVariables false

set_option maxRecDepth 8000 in
set_option maxHeartbeats 2000000 in
theorem specKids_no (W : World) (v : Value) (xs : List DNode) (k : Int) (H : RdL shNode W v xs) (hl : szL shNode xs ≤ 1048576) (hp : ¬ NodeP xs k) : Calls Try.prog 47 #[v, .int .i64 k] W (ResIChildrenOf [] W) := by
  have HP_ := Lib.hid hp
  clear hp
  have HT := Lib.hid H
  have HL := Lib.hid hl
  obtain ⟨a0, n0, c0, rfl⟩ := RdL.form H
  have hn0 : n0 = xs.length := by obtain ⟨_, _, e, _⟩ := H; injection e
  have HE := Lib.hid hn0
  have hlx : n0 ≤ 1048576 := by have := szL_len shNode xs; omega
  clear H hn0 hl
  go_enter Try.func47, Try.ntmps47
  have al_ : (W).grownBy ((W).alloc (.cells #[] 3)) none := gby_alloc (gby_refl _ _) _
  have G1_ := Lib.hid (show (W).grownBy ((W.alloc (.cells #[] 3))) none from gby_trans (gby_refl _ _) al_)
  have rO2_ := Lib.hid (show ((W.alloc (.cells #[] 3))).heap[W.heap.size]? = some (.cells #[] 3 (0, 0)) from by first | exact heap_alloc_new _ _ | exact heap_pair _ _ _ | exact heap_trip _ _ _ _)
  clear al_
  go_wp2_with fail
  go_at_call 50
  refine (specNode_no _ _ xs _ (HT.out.grow G1_.out) HL.out HP_.out).mono ?_
  rintro e w1 ⟨rfl, g⟩
  have szw1 := g.size
  try simp only [World.size_alloc] at szw1
  try simp only [World.size_setCell] at szw1
  have rO3_ := Lib.hid (show (w1).heap[W.heap.size]? = some (.cells #[] 3 (0, 0)) from row_held g rO2_.out)
  clear rO2_
  have G4_ := Lib.hid (show (W).grownBy (w1) none from gby_trans G1_.out g)
  clear g
  go_wp2
  go_ret
  exact ⟨_, rfl, OwU.one (owL_empty (by omega) (by omega)), G4_.out⟩

set_option maxRecDepth 8000 in
set_option maxHeartbeats 4000000 in
theorem specKids_yes (W : World) (v : Value) (xs : List DNode) (k : Int) (H : RdL shNode W v xs) (hl : szL shNode xs ≤ 1048576) (hp : NodeP xs k) : Calls Try.prog 47 #[v, .int .i64 k] W (ResIChildrenOf (nums (kidsN xs k 4)) W) := by
  have HP_ := Lib.hid hp
  have HXL := Lib.hid hp.1.1.2
  clear hp
  obtain ⟨i1_, hi1_, hz0_, hz1_, hz2_⟩ := info_parts infoInt
  have HT := Lib.hid H
  have HL := Lib.hid hl
  have HMX := Lib.hid H.max
  obtain ⟨a0, c0, rfl, hcap, hi⟩ := rdN_in H
  obtain ⟨n0, hlen⟩ : ∃ n, n = xs.length := ⟨_, rfl⟩
  have HE := Lib.hid hlen
  unfold RdN at hi
  rw [← hlen] at hi HT ⊢
  have HA := Lib.hid hi
  have hlx : n0 ≤ 1048576 := by have := szL_len shNode xs; omega
  clear H hi hlen hl hcap
  have hn1 : 1 ≤ n0 := by have := HE.out; have := HP_.out.1.1.1; omega
  obtain ⟨b, off, rfl, hcell⟩ := HA.out.resolve_left (by omega)
  have HC := Lib.hid hcell
  clear hcell
  go_enter Try.func47, Try.ntmps47
  have HTM1_ := Lib.hid (gby_refl (W) none)
  have MG2_ := Lib.hid (show (W).grownBy (W) none from (gby_refl _ _))
  have al_ : (W).grownBy ((W).alloc (.cells #[] 3)) none := gby_alloc (gby_refl _ _) _
  have G3_ := Lib.hid (show (W).grownBy ((W.alloc (.cells #[] 3))) none from gby_trans (gby_refl _ _) al_)
  have HTM4_ := Lib.hid (show (W).grownBy ((W.alloc (.cells #[] 3))) none from gby_trans HTM1_.out al_)
  clear HTM1_
  have rO5_ := Lib.hid (show ((W.alloc (.cells #[] 3))).heap[W.heap.size]? = some (.cells #[] 3 (0, 0)) from by first | exact heap_alloc_new _ _ | exact heap_pair _ _ _ | exact heap_trip _ _ _ _)
  clear al_
  go_wp2_with fail
  go_at_call 50
  refine (specNode_yes _ _ xs _ (HT.out.grow G3_.out) HL.out HP_.out).mono ?_
  rintro e w1 ⟨rfl, g⟩
  have szw1 := g.size
  try simp only [World.size_alloc] at szw1
  try simp only [World.size_setCell] at szw1
  have rO6_ := Lib.hid (show (w1).heap[W.heap.size]? = some (.cells #[] 3 (0, 0)) from row_held g rO5_.out)
  clear rO5_
  have G7_ := Lib.hid (show (W).grownBy (w1) none from gby_trans G3_.out g)
  have HTM8_ := Lib.hid (show (W).grownBy (w1) none from gby_trans HTM4_.out g)
  clear HTM4_
  clear g
  have hst_ : (w1).ownsRow (W.heap.size) 3 1 (.slice (some ⟨W.heap.size, 0, none⟩) 0 0) (nums (kidsN xs k 0)).length (i64s (nums (kidsN xs k 0))) := own_emptyP (e := 3) (n := 1) rO6_.out (Nat.le_refl _)
  go_wp2
  go_loopw [5, 6, 7] (fun v d z wr => ∃ D : Nat, d = .int .i64 (D : Int) ∧ D ≤ 4 ∧ (∃ q, z = q) ∧ wr.ownsRow (W.heap.size) 3 1 v (nums (kidsN xs k D)).length (i64s (nums (kidsN xs k D))) ∧ (W).grownBy wr none) (fun _ d _ _ => 4 - (intOf d).toNat)
  case atStart => exact ⟨0, rfl, by omega, ⟨_, rfl⟩, hst_, HTM8_.out⟩
  case round =>
    clear rO6_
    clear HTM8_
    obtain ⟨D, rfl, hD, ⟨z, rfl⟩, hown, hg⟩ := hrel
    have szr_ := hg.size
    try simp only [World.size_alloc, World.size_setCell] at szr_
    have G9_ := Lib.hid (show (W).grownBy (wr) none from gby_trans MG2_.out hg)
    have HTM10_ := Lib.hid hg
    clear hg
    try clear hst_
    have HO := Lib.hid hown
    clear hown
    have hD0 : (0 : Int) ≤ (D : Int) := by omega
    have htD : ((D : Int)).toNat = D := by omega
    obtain ⟨wo, hwo_⟩ : ∃ w_, w_ = wr := ⟨_, rfl⟩
    subst hwo_
    by_cases hlD : D < 4
    rotate_left
    · obtain rfl : D = 4 := by omega
      have hki : ¬ (((4 : Nat) : Int)) ≤ 3 := by omega
      have hki2 : ¬ (4 : Int) ≤ 3 := by omega
      go_wp2
      go_ret
      exact ⟨_, rfl, OwU.one (OwL.wide (owI_out (by rw [nums_len]; have := kidsN_len xs k 4; have := HXL.out; omega) (owI_row HO.out)) (Nat.le_refl _) (Nat.le_refl _)), G9_.out⟩
    have hki : (D : Int) ≤ 3 := by omega
    go_wp2
    have hst_ := HO.out
    rw [show kidsN xs k D = kidsN xs k D ++ kidD xs k D 1 by rw [kidD_one, List.append_nil]] at hst_
    go_loopw [5, 7] (fun v i wr => ∃ m : Nat, i = .int .i64 (m : Int) ∧ 1 ≤ m ∧ m ≤ n0 ∧ wr.ownsRow (W.heap.size) 3 1 v (nums (kidsN xs k D ++ kidD xs k D m)).length (i64s (nums (kidsN xs k D ++ kidD xs k D m))) ∧ (W).grownBy wr none) (fun _ i _ => n0 - (intOf i).toNat)
    case atStart => exact ⟨1, rfl, by omega, by omega, hst_, HTM10_.out⟩
    case round =>
      clear HTM10_
      obtain ⟨m, rfl, hm1, hm, hown, hg⟩ := hrel
      have szr_ := hg.size
      try simp only [World.size_alloc, World.size_setCell] at szr_
      have G11_ := Lib.hid (show (W).grownBy (wr) none from gby_trans MG2_.out hg)
      have HTM12_ := Lib.hid hg
      clear hg
      try clear hst_
      have HO2 := Lib.hid hown
      clear hown HO
      have hm0 : (0 : Int) ≤ (m : Int) := by omega
      have htm : ((m : Int)).toNat = m := by omega
      by_cases hlt : m < n0
      rotate_left
      · obtain rfl : m = n0 := by omega
        have hkj : ¬ (m : Int) < (m : Int) := by omega
        go_wp2
        refine ⟨⟨D + 1, by go_num, by omega, ⟨_, rfl⟩, by rw [kidsN, ← HE.out]; exact HO2.out, HTM12_.out⟩, by simp [intOf]; omega⟩
      have hkj : (m : Int) < (n0 : Int) := by omega
      obtain ⟨y, hy⟩ : ∃ y, y = nd xs m := ⟨_, rfl⟩
      have hyc := HC.out m hlt
      rw [← hy] at hyc
      have HY := Lib.hid hy
      have HY0 := Lib.hid hyc.1
      have HY1 := Lib.hid hyc.2.1
      clear hy hyc
      obtain ⟨y0, y1, y2⟩ := y
      dsimp only at HY0 HY1
      have y0_ := (G11_.out).cell HY0.out (by simp)
      have y1_ := (G11_.out).cell HY1.out (by simp)
      by_cases h0 : y0 = k
      rotate_left
      · have hb : (y0 == k) = false := by simpa using h0
        have HK : Hid (¬ isKid xs k D m = true) := Lib.hid (fun q => h0 (by have := (isKid_iff.1 q).2.1; rw [← HY.out] at this; exact this))
        clear h0
        go_wp2
        refine ⟨⟨m + 1, by go_num, by omega, by omega, ?_, HTM12_.out⟩, by simp [intOf]; omega⟩
        rw [kidD_succ, if_neg HK.out, List.append_nil]
        exact HO2.out
      by_cases h1 : y1 = (D : Int)
      rotate_left
      · have hb : (y0 == k) = true := by simpa using h0
        have hb1 : (y1 == (D : Int)) = false := by simpa using h1
        have HK : Hid (¬ isKid xs k D m = true) := Lib.hid (fun q => h1 (by have := (isKid_iff.1 q).2.2; rw [← HY.out] at this; exact this))
        clear h0 h1
        go_wp2
        refine ⟨⟨m + 1, by go_num, by omega, by omega, ?_, HTM12_.out⟩, by simp [intOf]; omega⟩
        rw [kidD_succ, if_neg HK.out, List.append_nil]
        exact HO2.out
      have hb : (y0 == k) = true := by simpa using h0
      have hb1 : (y1 == (D : Int)) = true := by simpa using h1
      have HK : Hid (isKid xs k D m = true) := Lib.hid (isKid_iff.2 ⟨hm1, by rw [← HY.out]; exact h0, by rw [← HY.out]; exact h1⟩)
      clear h0 h1
      have hb_ : (nums (kidsN xs k D ++ kidD xs k D m)).length ≤ 1000000 := by rw [nums_len, List.length_append]; have := kidsN_len xs k D; have := kidD_len xs k D m; have := HXL.out; have := Nat.mul_le_mul hD HXL.out; have := HE.out; omega
      obtain ⟨m13, hm13⟩ : ∃ ml_, ml_ = (nums (kidsN xs k D ++ kidD xs k D m)).length := ⟨_, rfl⟩
      have HO13 := Lib.hid (show (wr).ownsRow (W.heap.size) 3 1 _ m13 (i64s (nums (kidsN xs k D ++ kidD xs k D m))) from by rw [hm13]; exact HO2.out)
      have hb13 : m13 ≤ 1000000 := by rw [hm13]; exact hb_
      have HM13 := Lib.hid hm13
      clear hm13 hb_
      go_wp2_with (at_builtin; refine wpList_append_lies _ (by rfl) _ _ _ (by rfl) (W.heap.size) 3 i1_ _ 1 8 Try.underlying36 hi1_ hz0_ hz1_ hz2_ rfl (by omega) _ m13 (i64s (nums (kidsN xs k D ++ kidD xs k D m))) (by rfl) (HO13.out.alloc _) ⟨(wr).heap.size, 0, none⟩ 1 1 _ (by rfl) (by rfl) (World.news_of_block (t := 3) (fr := (0, 0)) (heap_alloc_new (wr) _)) (by simp [Value.oneCell']) (by omega) (by unfold maxLen; omega) (by omega) (by simp; omega) ((wr).heap.size + 1) (by simp) ?_; intro gg13 cap13 wa13 hown_ hgr_ hat_ hlt_; have HP13 := Lib.hid hown_; have HQ13 := Lib.hid hgr_; clear hown_ hgr_ hat_ hlt_)
      refine ⟨⟨m + 1, by go_num, by omega, by omega, ?_, ?_⟩, by simp [intOf]; omega⟩
      · have e_ : nums (kidsN xs k D ++ kidD xs k D (m + 1)) = (nums (kidsN xs k D ++ kidD xs k D m)) ++ [(m : Int)] := by rw [kidD_succ, if_pos HK.out, ← List.append_assoc, nums_app]; rfl
        rw [e_, List.length_append, List.length_singleton, ← HM13.out, i64s_append]
        exact HP13.out
      · exact gby_new (gby_alloc HTM12_.out _) HQ13.out (fun b hb => by have := own_from HO13.out b hb; omega)

end Go.Proofs.Ytdddidnibelmhaa

namespace Go.Proofs.Ytdddidnibelmhaa
open Go Go.RowKit
set_option linter.unusedVariables false

def bar (ys : List DBar) (k : Nat) : DBar := ys.getD k default
/-- windows in cells -/
def RdW (w : World) (a : Option Addr) (ys : List DBar) : Prop :=
  ys.length = 0 ∨ ∃ b off, a = some ⟨b, off, none⟩ ∧ ∀ k, k < ys.length → w.cell? ⟨b, off + k * 2, none⟩ = some (.int .i64 (bar ys k).f0) ∧ w.cell? ⟨b, off + k * 2 + 1, none⟩ = some (.int .i64 (bar ys k).f1)
theorem rdW_in {w : World} {v : Value} {ys : List DBar} (H : RdL shBar w v ys) : ∃ a cap, v = .slice a ys.length cap ∧ CapOk a ys.length cap ∧ RdW w a ys := by
  obtain ⟨a, cap, rfl, hc, _, h⟩ := H
  refine ⟨a, cap, rfl, hc, ?_⟩
  rcases h with h0 | ⟨b, off, ha, h⟩
  · exact .inl h0
  · refine .inr ⟨b, off, ha, fun k hk => ?_⟩
    obtain ⟨cs, hat, hrd⟩ := h k hk
    obtain rfl := hrd
    exact ⟨at_cell (j := 0) hat rfl, at_cell (j := 1) hat rfl⟩
/-- a window for each node of a valid tree -/
def HaveW (xs : List DNode) (ys : List DBar) : Prop := TOk xs ∧ ys.length = xs.length
/-- window k covers x -/
def SpB (ys : List DBar) (x : Int) (k : Nat) : Prop := SpansP (bar ys k).f0 (bar ys k).f1 x
instance (ys : List DBar) (x : Int) (k : Nat) : Decidable (SpB ys x k) := by unfold SpB; infer_instance
/-- the first of these whose window covers x, or -1 -/
def fstW (ys : List DBar) (x : Int) : List Int → Int
  | [] => -1
  | d :: ds => if SpB ys x d.toNat then d else fstW ys x ds
theorem fstW_snoc {ys : List DBar} {x d : Int} : ∀ ds : List Int, (∀ e ∈ ds, 0 ≤ e) → fstW ys x (ds ++ [d]) = if fstW ys x ds = -1 then (if SpB ys x d.toNat then d else -1) else fstW ys x ds
  | [], _ => by simp [fstW]
  | e :: ds, h => by
    have he := h e (by simp)
    have ih := fstW_snoc (ys := ys) (x := x) (d := d) ds (fun q hq => h q (List.mem_cons_of_mem _ hq))
    by_cases q : SpB ys x e.toNat
    · have a1 : fstW ys x (e :: ds) = e := by simp [fstW, q]
      have a2 : fstW ys x (e :: (ds ++ [d])) = e := by simp [fstW, q]
      rw [List.cons_append, a1, a2, if_neg (by omega)]
    · have a1 : fstW ys x (e :: ds) = fstW ys x ds := by simp [fstW, q]
      have a2 : fstW ys x (e :: (ds ++ [d])) = fstW ys x (ds ++ [d]) := by simp [fstW, q]
      rw [List.cons_append, a1, a2, ih]
/-- the devices among the first n nodes -/
def devL (xs : List DNode) : Nat → List Int
  | 0 => []
  | n + 1 => devL xs n ++ (if (nd xs n).f2 = 0 then [] else [(n : Int)])
theorem devL_len (xs : List DNode) : ∀ n, (devL xs n).length ≤ n
  | 0 => Nat.le_refl _
  | n + 1 => by
    have := devL_len xs n
    unfold devL
    rw [List.length_append]
    split <;> simp <;> omega
theorem devL_in {xs : List DNode} : ∀ n, ∀ e ∈ devL xs n, 0 ≤ e ∧ e < (n : Int)
  | 0 => fun e h => by simp [devL] at h
  | n + 1 => fun e h => by
    unfold devL at h
    rw [List.mem_append] at h
    rcases h with h | h
    · have := devL_in n e h; omega
    · split at h
      · simp at h
      · rw [List.mem_singleton] at h; omega
theorem fst_step {xs : List DNode} {ys : List DBar} {x : Int} {n : Nat} (h : fstW ys x (devL xs n) = -1) (hn : (nd xs n).f2 = 0 ∨ ¬ SpB ys x n) : fstW ys x (devL xs (n + 1)) = -1 := by
  unfold devL
  by_cases e : (nd xs n).f2 = 0
  · rw [if_pos e, List.append_nil]; exact h
  · rw [if_neg e, fstW_snoc _ (fun q hq => (devL_in n q hq).1), if_pos h, if_neg (by simpa using hn.resolve_left e)]
theorem fst_hit {xs : List DNode} {ys : List DBar} {x : Int} {n : Nat} (h : fstW ys x (devL xs n) = -1) (h1 : (nd xs n).f2 ≠ 0) (h2 : SpB ys x n) : ∀ m, fstW ys x (devL xs (n + 1 + m)) = (n : Int)
  | 0 => by
    show fstW ys x (devL xs n ++ (if (nd xs n).f2 = 0 then [] else [(n : Int)])) = _
    rw [if_neg h1, fstW_snoc _ (fun q hq => (devL_in n q hq).1), if_pos h, if_pos (by simpa using h2)]
  | m + 1 => by
    have ih := fst_hit h h1 h2 m
    show fstW ys x (devL xs (n + 1 + m) ++ (if (nd xs (n + 1 + m)).f2 = 0 then [] else [((n + 1 + m : Nat) : Int)])) = _
    by_cases e : (nd xs (n + 1 + m)).f2 = 0
    · rw [if_pos e, List.append_nil]; exact ih
    · rw [if_neg e, fstW_snoc _ (fun q hq => (devL_in _ q hq).1), if_neg (by omega)]; exact ih
noncomputable def ownR (xs : List DNode) (ys : List DBar) (x : Int) : Int := by
  classical exact if HaveW xs ys then fstW ys x (devL xs xs.length) else -1
theorem ownR_yes {xs : List DNode} {ys : List DBar} {x : Int} (h : HaveW xs ys) : ownR xs ys x = fstW ys x (devL xs xs.length) := by unfold ownR; rw [if_pos h]
theorem ownR_no {xs : List DNode} {ys : List DBar} {x : Int} (h : ¬ HaveW xs ys) : ownR xs ys x = -1 := by unfold ownR; rw [if_neg h]

set_option maxRecDepth 8000 in
set_option maxHeartbeats 2000000 in
theorem implHaveW (W : World) (v u : Value) (xs : List DNode) (ys : List DBar) (H : RdL shNode W v xs) (Hb : RdL shBar W u ys) (hl : szL shNode xs ≤ 1048576) (hly : szL shBar ys ≤ 1048576) : Calls Try.prog 31 #[v, u] W (BPost (HaveW xs ys) W) := by
  have HT := Lib.hid H
  have HW0 := Lib.hid Hb
  have HLX := Lib.hid hl
  have HLY := Lib.hid hly
  have hlx : xs.length ≤ 1048576 := by have := szL_len shNode xs; omega
  have hly2 : ys.length ≤ 1048576 := by have := szL_len shBar ys; omega
  obtain ⟨a0, cap, rfl, hcap, hi⟩ := rdN_in H
  obtain ⟨a1, cap1, rfl, hcap1, hi1⟩ := rdW_in Hb
  have HA := Lib.hid hi
  have HA1 := Lib.hid hi1
  obtain ⟨len, hlen⟩ : ∃ len, len = xs.length := ⟨_, rfl⟩
  obtain ⟨len1, hlen1⟩ : ∃ len, len = ys.length := ⟨_, rfl⟩
  have HE := Lib.hid hlen
  have HE1 := Lib.hid hlen1
  unfold RdN at HA
  unfold RdW at HA1
  rw [← hlen] at hlx HT HA ⊢
  rw [← hlen1] at hly2 HW0 HA1 ⊢
  clear H Hb hi hi1 hlen hlen1 hl hly hcap hcap1
  go_enter Try.func31, Try.ntmps31
  by_cases ht : TOk xs
  rotate_left
  · have HNT := Lib.hid ht
    clear ht
    go_wp2_with fail
    go_at_call 43
    refine (implTree_no _ _ xs (HT.out.grow (gby_refl _ _)) HLX.out HNT.out).mono ?_
    rintro e w1 ⟨rfl, g⟩
    have szw1 := g.size
    try simp only [World.size_alloc] at szw1
    try simp only [World.size_setCell] at szw1
    have G1_ := Lib.hid (show (W).grownBy (w1) none from gby_trans (gby_refl _ _) g)
    clear g
    go_wp2
    go_ret
    exact ⟨false, rfl, iff_no (fun q => HNT.out q.1), G1_.out⟩
  have HYT := Lib.hid ht
  clear ht
  by_cases hll : len1 = len
  rotate_left
  · have hbb : ((len1 : Int) == (len : Int)) = false := beq_eq_false_iff_ne.2 (by omega)
    have hbn : ((len1 : Int) != (len : Int)) = true := bne_iff_ne.2 (by omega)
    have HNL := Lib.hid hll
    clear hll
    go_wp2_with fail
    go_at_call 43
    refine (implTree_yes _ _ xs (HT.out.grow (gby_refl _ _)) HLX.out HYT.out).mono ?_
    rintro e w1 ⟨rfl, g⟩
    have szw1 := g.size
    try simp only [World.size_alloc] at szw1
    try simp only [World.size_setCell] at szw1
    have G1_ := Lib.hid (show (W).grownBy (w1) none from gby_trans (gby_refl _ _) g)
    clear g
    go_wp2
    go_ret
    exact ⟨false, rfl, iff_no (fun q => HNL.out (HE1.out.trans (q.2.trans HE.out.symm))), G1_.out⟩
  subst hll
  have hbb : ((len1 : Int) == (len1 : Int)) = true := by simp
  have hbn : ((len1 : Int) != (len1 : Int)) = false := by simp
  have HHW := Lib.hid (show HaveW xs ys from ⟨HYT.out, HE1.out.symm.trans HE.out⟩)
  go_wp2_with fail
  go_at_call 43
  refine (implTree_yes _ _ xs (HT.out.grow (gby_refl _ _)) HLX.out HYT.out).mono ?_
  rintro e w1 ⟨rfl, g⟩
  have szw1 := g.size
  try simp only [World.size_alloc] at szw1
  try simp only [World.size_setCell] at szw1
  have G1_ := Lib.hid (show (W).grownBy (w1) none from gby_trans (gby_refl _ _) g)
  clear g
  go_wp2
  go_ret
  exact ⟨true, rfl, iff_yes HHW.out, G1_.out⟩

set_option maxRecDepth 8000 in
set_option maxHeartbeats 2000000 in
theorem specOwnA (W : World) (v u : Value) (xs : List DNode) (ys : List DBar) (H : RdL shNode W v xs) (Hb : RdL shBar W u ys) (hl : szL shNode xs ≤ 1048576) (hly : szL shBar ys ≤ 1048576) (x : Int) : Calls Try.prog 15 #[v, u, .int .i64 x] W (AnsN (.int .i64 (ownR xs ys x)) W) := by
  have HT := Lib.hid H
  have HW0 := Lib.hid Hb
  have HLX := Lib.hid hl
  have HLY := Lib.hid hly
  have hlx : xs.length ≤ 1048576 := by have := szL_len shNode xs; omega
  have hly2 : ys.length ≤ 1048576 := by have := szL_len shBar ys; omega
  obtain ⟨a0, cap, rfl, hcap, hi⟩ := rdN_in H
  obtain ⟨a1, cap1, rfl, hcap1, hi1⟩ := rdW_in Hb
  have HA := Lib.hid hi
  have HA1 := Lib.hid hi1
  obtain ⟨len, hlen⟩ : ∃ len, len = xs.length := ⟨_, rfl⟩
  obtain ⟨len1, hlen1⟩ : ∃ len, len = ys.length := ⟨_, rfl⟩
  have HE := Lib.hid hlen
  have HE1 := Lib.hid hlen1
  unfold RdN at HA
  unfold RdW at HA1
  rw [← hlen] at hlx HT HA ⊢
  rw [← hlen1] at hly2 HW0 HA1 ⊢
  clear H Hb hi hi1 hlen hlen1 hl hly hcap hcap1
  go_enter Try.func15, Try.ntmps15
  by_cases ht : TOk xs
  rotate_left
  · have HNT := Lib.hid ht
    clear ht
    go_wp2_with fail
    go_at_call 26
    refine (specTree_no _ _ xs (HT.out.grow (gby_refl _ _)) HLX.out HNT.out).mono ?_
    rintro e w1 ⟨rfl, g⟩
    have szw1 := g.size
    try simp only [World.size_alloc] at szw1
    try simp only [World.size_setCell] at szw1
    have G1_ := Lib.hid (show (W).grownBy (w1) none from gby_trans (gby_refl _ _) g)
    clear g
    go_wp2
    go_ret
    exact ⟨(by rw [ownR_no (fun q => HNT.out q.1)] <;> rfl), G1_.out⟩
  have HYT := Lib.hid ht
  clear ht
  by_cases hll : len1 = len
  rotate_left
  · have hbb : ((len1 : Int) == (len : Int)) = false := beq_eq_false_iff_ne.2 (by omega)
    have hbn : ((len1 : Int) != (len : Int)) = true := bne_iff_ne.2 (by omega)
    have HNL := Lib.hid hll
    clear hll
    go_wp2_with fail
    go_at_call 26
    refine (specTree_yes _ _ xs (HT.out.grow (gby_refl _ _)) HLX.out HYT.out).mono ?_
    rintro e w1 ⟨rfl, g⟩
    have szw1 := g.size
    try simp only [World.size_alloc] at szw1
    try simp only [World.size_setCell] at szw1
    have G1_ := Lib.hid (show (W).grownBy (w1) none from gby_trans (gby_refl _ _) g)
    clear g
    go_wp2
    go_ret
    exact ⟨(by rw [ownR_no (fun q => HNL.out (HE1.out.trans (q.2.trans HE.out.symm)))] <;> rfl), G1_.out⟩
  subst hll
  have hbb : ((len1 : Int) == (len1 : Int)) = true := by simp
  have hbn : ((len1 : Int) != (len1 : Int)) = false := by simp
  have HHW := Lib.hid (show HaveW xs ys from ⟨HYT.out, HE1.out.symm.trans HE.out⟩)
  go_wp2_with fail
  go_at_call 26
  refine (specTree_yes _ _ xs (HT.out.grow (gby_refl _ _)) HLX.out HYT.out).mono ?_
  rintro e w1 ⟨rfl, g⟩
  have szw1 := g.size
  try simp only [World.size_alloc] at szw1
  try simp only [World.size_setCell] at szw1
  have G1_ := Lib.hid (show (W).grownBy (w1) none from gby_trans (gby_refl _ _) g)
  clear g
  have HTM2_ := Lib.hid (gby_refl (w1) none)
  have MG3_ := Lib.hid (show (W).grownBy (w1) none from G1_.out)
  go_wp2
  go_loopw [7] (fun i wr => ∃ n : Nat, n ≤ len1 ∧ i = .int .i64 (n : Int) ∧ fstW ys x (devL xs n) = -1 ∧ (w1).grownBy wr none) (fun i _ => len1 - (intOf i).toNat)
  case atStart => exact ⟨0, by omega, rfl, rfl, HTM2_.out⟩
  case round =>
    clear HTM2_
    obtain ⟨n, hn, rfl, hno, hg⟩ := hrel
    have szr_ := hg.size
    try simp only [World.size_alloc, World.size_setCell] at szr_
    have G4_ := Lib.hid (show (W).grownBy (wr) none from gby_trans MG3_.out hg)
    have HTM5_ := Lib.hid hg
    clear hg
    have HNO := Lib.hid hno
    clear hno
    have hn0 : (0 : Int) ≤ (n : Int) := by omega
    have htn : ((n : Int)).toNat = n := by omega
    by_cases hlt : n < len1
    rotate_left
    · obtain rfl : n = len1 := by omega
      have hki : ¬ (n : Int) < (n : Int) := by omega
      go_wp2
      go_ret
      exact ⟨(by rw [ownR_yes HHW.out, ← HE.out, HNO.out] <;> rfl), G4_.out⟩
    have hki : (n : Int) < (len1 : Int) := by omega
    obtain ⟨nb, no, rfl, hcell⟩ := HA.out.resolve_left (by omega)
    obtain ⟨y_, hy_⟩ : ∃ y_, y_ = nd xs n := ⟨_, rfl⟩
    have hyc_ := hcell n (by omega)
    rw [← hy_] at hyc_
    obtain ⟨y0, y1, y2⟩ := y_
    dsimp only at hyc_
    have Hy := Lib.hid hy_
    have Hy0 := Lib.hid hyc_.1
    have Hy1 := Lib.hid hyc_.2.1
    have Hy2 := Lib.hid hyc_.2.2
    clear hyc_ hy_ hcell
    obtain ⟨wb, wo, rfl, hcellb⟩ := HA1.out.resolve_left (by omega)
    obtain ⟨z_, hz_⟩ : ∃ z_, z_ = bar ys n := ⟨_, rfl⟩
    have hzc_ := hcellb n (by omega)
    rw [← hz_] at hzc_
    obtain ⟨z0, z1⟩ := z_
    dsimp only at hzc_
    have Hz := Lib.hid hz_
    have Hz0 := Lib.hid hzc_.1
    have Hz1 := Lib.hid hzc_.2
    clear hzc_ hz_ hcellb
    have y2_ := (G4_.out).cell Hy2.out (by simp)
    have z0_ := (G4_.out).cell Hz0.out (by simp)
    have z1_ := (G4_.out).cell Hz1.out (by simp)
    have hf2 : 0 ≤ y2 := by
      have h1 := HYT.out
      have hy := Hy.out
      by_cases e : n = 0
      · subst e; have := h1.2.1.2.2; rw [← hy] at this; dsimp only at this; omega
      · have := (h1.2.2 n (by omega) (by rw [← HE.out]; exact hlt)).2.2.2.1.1; rw [← hy] at this; exact this
    by_cases h0 : y2 = 0
    · have hgt : ¬ (0 : Int) < y2 := by omega
      have hgd : decide ((0 : Int) < y2) = false := decide_eq_false hgt
      have HB := Lib.hid h0
      clear h0
      go_wp2
      refine ⟨⟨n + 1, by omega, by go_num, fst_step HNO.out (.inl (by rw [← Hy.out]; exact HB.out)), by repeat (first | exact HTM5_.out | with_reducible refine gby_drewN ?_ _)⟩, by simp [intOf]; omega⟩
    have hgt : (0 : Int) < y2 := by omega
    have hgd : decide ((0 : Int) < y2) = true := decide_eq_true hgt
    by_cases hsp : SpansP z0 z1 x
    rotate_left
    · have HB := Lib.hid hsp
      clear hsp
      go_wp2_with fail
      go_at_call 35
      refine (cov_no _ HB.out).mono ?_
      rintro e w2 ⟨rfl, g⟩
      have szw2 := g.size
      try simp only [World.size_alloc] at szw2
      try simp only [World.size_setCell] at szw2
      clear y2_ z0_ z1_
      have G6_ := Lib.hid (show (W).grownBy (w2) none from gby_trans G4_.out g)
      have HTM7_ := Lib.hid (show (w1).grownBy (w2) none from gby_trans HTM5_.out g)
      clear HTM5_
      clear g
      have y2_ := (G6_.out).cell Hy2.out (by simp)
      have z0_ := (G6_.out).cell Hz0.out (by simp)
      have z1_ := (G6_.out).cell Hz1.out (by simp)
      go_wp2
      refine ⟨⟨n + 1, by omega, by go_num, fst_step HNO.out (.inr (by unfold SpB; rw [← Hz.out]; exact HB.out)), by repeat (first | exact HTM7_.out | with_reducible refine gby_drewN ?_ _)⟩, by simp [intOf]; omega⟩
    have HB := Lib.hid hsp
    clear hsp
    go_wp2_with fail
    go_at_call 35
    refine (cov_yes _ HB.out).mono ?_
    rintro e w2 ⟨rfl, g⟩
    have szw2 := g.size
    try simp only [World.size_alloc] at szw2
    try simp only [World.size_setCell] at szw2
    clear y2_ z0_ z1_
    have G6_ := Lib.hid (show (W).grownBy (w2) none from gby_trans G4_.out g)
    have HTM7_ := Lib.hid (show (w1).grownBy (w2) none from gby_trans HTM5_.out g)
    clear HTM5_
    clear g
    have y2_ := (G6_.out).cell Hy2.out (by simp)
    have z0_ := (G6_.out).cell Hz0.out (by simp)
    have z1_ := (G6_.out).cell Hz1.out (by simp)
    have hfin : ownR xs ys x = (n : Int) := by
      have hh := fst_hit (m := len1 - (n + 1)) HNO.out (by rw [← Hy.out]; dsimp only; omega) (by unfold SpB; rw [← Hz.out]; exact HB.out)
      rw [show n + 1 + (len1 - (n + 1)) = len1 by omega] at hh
      rw [ownR_yes HHW.out, ← HE.out]; exact hh
    have HFIN := Lib.hid hfin
    clear hfin
    go_wp2
    go_ret
    exact ⟨(by rw [HFIN.out] <;> rfl), G6_.out⟩

theorem finder_any (W : World) (a : Option Addr) (n c : Nat) (x : Int) : Calls Try.prog 37 #[.slice a n c, .int .i64 x] W fun e w' => e = .returned (.func (.func 46) #[] #[.pointer (some ⟨W.heap.size, 0, none⟩), .pointer (some ⟨W.heap.size + 1, 0, none⟩)]) ∧ w' = (W.alloc (.cells #[.slice a n c] 27)).alloc (.cells #[.int .i64 x] 3) := by
  go_enter Try.func37, Try.ntmps37
  go_wp2
  go_ret
  exact ⟨rfl, rfl⟩

theorem fstW_more {ys : List DBar} {x : Int} : ∀ a b : List Int, fstW ys x a ≠ -1 → (∀ e ∈ a, 0 ≤ e) → fstW ys x (a ++ b) = fstW ys x a
  | [], _, h, _ => absurd rfl h
  | e :: a, b, h, hp => by
    by_cases q : SpB ys x e.toNat
    · have a1 : fstW ys x (e :: a) = e := by simp [fstW, q]
      have a2 : fstW ys x (e :: (a ++ b)) = e := by simp [fstW, q]
      rw [List.cons_append, a1, a2]
    · have a1 : fstW ys x (e :: a) = fstW ys x a := by simp [fstW, q]
      have a2 : fstW ys x (e :: (a ++ b)) = fstW ys x (a ++ b) := by simp [fstW, q]
      rw [a1] at h
      rw [List.cons_append, a1, a2]
      exact fstW_more a b h (fun z hz => hp z (List.mem_cons_of_mem _ hz))

set_option maxRecDepth 8000 in
set_option maxHeartbeats 2000000 in
theorem find_any (W : World) (vd u : Value) (b1 b2 : Nat) (ys : List DBar) (ds : List Int) (x : Int) (Hd : RdL shI W vd ds) (Hb : RdL shBar W u ys) (hly : szL shBar ys ≤ 1048576) (hdl : ds.length ≤ 1048576) (hin : ∀ e ∈ ds, 0 ≤ e ∧ e < (ys.length : Int)) (hc1 : W.cell? ⟨b1, 0, none⟩ = some u) (hc2 : W.cell? ⟨b2, 0, none⟩ = some (.int .i64 x)) : Calls Try.prog 46 #[vd, .pointer (some ⟨b1, 0, none⟩), .pointer (some ⟨b2, 0, none⟩)] W (AnsN (.int .i64 (fstW ys x ds)) W) := by
  have hly2 : ys.length ≤ 1048576 := by have := szL_len shBar ys; omega
  obtain ⟨a1, cap1, rfl, hcap1, hi1⟩ := rdW_in Hb
  obtain ⟨a2, cap2, rfl, hcap2, hi2⟩ := rdI1_in Hd
  have HA1 := Lib.hid hi1
  have HD := Lib.hid hi2
  have HIN0 := Lib.hid hin
  have HC2 := Lib.hid hc2
  obtain ⟨len1, hlen1⟩ : ∃ len, len = ys.length := ⟨_, rfl⟩
  obtain ⟨m, hm⟩ : ∃ m, m = ds.length := ⟨_, rfl⟩
  have HE1 := Lib.hid hlen1
  have HM := Lib.hid hm.symm
  have HC1 := Lib.hid hc1
  unfold RdW at HA1
  unfold RdN1 at HD
  rw [← hlen1] at hly2 HA1 HC1
  rw [← hm] at hdl ⊢
  have HIN : Hid (∀ e ∈ ds, 0 ≤ e ∧ e < (len1 : Int)) := Lib.hid (fun e he => by have := HIN0.out e he; rw [← HE1.out] at this; exact this)
  clear Hd Hb hi1 hi2 hin hlen1 hm hcap1 hcap2 hc1 hc2 HIN0 hly
  go_enter Try.func46, Try.ntmps46
  have HTM1_ := Lib.hid (gby_refl (W) none)
  have MG2_ := Lib.hid (show (W).grownBy (W) none from (gby_refl _ _))
  go_wp2
  go_loopw [9] (fun i wr => ∃ n : Nat, n ≤ m ∧ i = .int .i64 (n : Int) ∧ fstW ys x (ds.take n) = -1 ∧ (W).grownBy wr none) (fun i _ => m - (intOf i).toNat)
  case atStart => exact ⟨0, by omega, rfl, rfl, HTM1_.out⟩
  case round =>
    clear HTM1_
    obtain ⟨n, hn, rfl, hno, hg⟩ := hrel
    have szr_ := hg.size
    try simp only [World.size_alloc, World.size_setCell] at szr_
    have G3_ := Lib.hid (show (W).grownBy (wr) none from gby_trans MG2_.out hg)
    have HTM4_ := Lib.hid hg
    clear hg
    have HNO := Lib.hid hno
    clear hno
    have hn0 : (0 : Int) ≤ (n : Int) := by omega
    have htn : ((n : Int)).toNat = n := by omega
    by_cases hlt : n < m
    rotate_left
    · obtain rfl : n = m := by omega
      have hki : ¬ (n : Int) < (n : Int) := by omega
      have HF := Lib.hid (show fstW ys x ds = -1 from by have := HNO.out; rwa [List.take_of_length_le (by rw [HM.out]; exact Nat.le_refl _)] at this)
      go_wp2
      go_ret
      exact ⟨(by rw [HF.out] <;> rfl), G3_.out⟩
    have hki : (n : Int) < (m : Int) := by omega
    obtain ⟨db, dof, rfl, hdc⟩ := HD.out.resolve_left (by have := HM.out; omega)
    obtain ⟨d, hd⟩ : ∃ d : Nat, ds.getD n 0 = (d : Int) := ⟨(ds.getD n 0).toNat, by have := (HIN.out (ds.getD n 0) (by rw [List.getD_eq_getElem?_getD, List.getElem?_eq_getElem (by rw [HM.out]; exact hlt)]; exact List.getElem_mem _)).1; omega⟩
    have hdl : d < len1 := by have := (HIN.out (ds.getD n 0) (by rw [List.getD_eq_getElem?_getD, List.getElem?_eq_getElem (by rw [HM.out]; exact hlt)]; exact List.getElem_mem _)).2; rw [hd] at this; omega
    have HDN := Lib.hid hd
    have hdc2 := hdc n (by rw [HM.out]; exact hlt)
    rw [hd] at hdc2
    have HDC := Lib.hid hdc2
    clear hd hdc hdc2
    have hd0 : (0 : Int) ≤ (d : Int) := by omega
    have htd : ((d : Int)).toNat = d := by omega
    have hdi : (d : Int) < (len1 : Int) := by omega
    have htake : ds.take (n + 1) = ds.take n ++ [(d : Int)] := by rw [List.take_succ_eq_append_getElem (by rw [HM.out]; exact hlt), ← HDN.out, List.getD_eq_getElem?_getD, List.getElem?_eq_getElem (by rw [HM.out]; exact hlt)]; rfl
    have HTK := Lib.hid htake
    clear htake
    obtain ⟨wb, wo, rfl, hcellb⟩ := HA1.out.resolve_left (by omega)
    obtain ⟨z_, hz_⟩ : ∃ z_, z_ = bar ys d := ⟨_, rfl⟩
    have hzc_ := hcellb d (by omega)
    rw [← hz_] at hzc_
    obtain ⟨z0, z1⟩ := z_
    dsimp only at hzc_
    have Hz := Lib.hid hz_
    have Hz0 := Lib.hid hzc_.1
    have Hz1 := Lib.hid hzc_.2
    clear hzc_ hz_ hcellb
    have c1_ := (G3_.out).cell HC1.out (by simp)
    have c2_ := (G3_.out).cell HC2.out (by simp)
    have dd_ := (G3_.out).cell HDC.out (by simp)
    have z0_ := (G3_.out).cell Hz0.out (by simp)
    have z1_ := (G3_.out).cell Hz1.out (by simp)
    by_cases hsp : SpansP z0 z1 x
    rotate_left
    · have HB := Lib.hid hsp
      clear hsp
      go_wp2_with fail
      go_region_held3 (fun w' => w'.cell? ⟨b1, 0, none⟩ = some (.slice (some ⟨wb, wo, none⟩) len1 cap1) ∧ w'.cell? ⟨b2, 0, none⟩ = some (.int .i64 x) ∧ w'.cell? ⟨wb, wo + d * 2, none⟩ = some (.int .i64 z0) ∧ w'.cell? ⟨wb, wo + d * 2 + 1, none⟩ = some (.int .i64 z1))
        (first | exact ⟨mc1_, mc2_, mz0_, mz1_⟩ | exact ⟨c1_, c2_, z0_, z1_⟩ | go_keep)
        (first
          | (go_at_call 42; refine (spans_no _ HB.out).mono ?_; rintro e wA ⟨rfl, gA⟩; have mc1_ : wA.cell? _ = some _ := gA.cell c1_ (by simp); have mc2_ : wA.cell? _ = some _ := gA.cell c2_ (by simp); have mz0_ : wA.cell? _ = some _ := gA.cell z0_ (by simp); have mz1_ : wA.cell? _ = some _ := gA.cell z1_ (by simp))
          | fail)
      all_goals
        have g : (wr).grownBy wA none := by repeat (first | exact gA | exact gby_trans (gby_drew (gby_refl _ _)) gA)
        clear gA mc1_ mc2_ mz0_ mz1_
      clear c1_ c2_ dd_ z0_ z1_
      have G5_ := Lib.hid (show (W).grownBy (wA) none from gby_trans G3_.out g)
      have HTM6_ := Lib.hid (show (W).grownBy (wA) none from gby_trans HTM4_.out g)
      clear HTM4_
      clear g
      have hnn : fstW ys x (ds.take (n + 1)) = -1 := by rw [HTK.out, fstW_snoc _ (fun q hq => (HIN.out q (List.mem_of_mem_take hq)).1), if_pos HNO.out, if_neg (by unfold SpB; rw [htd, ← Hz.out]; exact HB.out)]
      have HNN := Lib.hid hnn
      clear hnn
      go_wp2
      refine ⟨⟨n + 1, by omega, by go_num, HNN.out, by repeat (first | exact HTM6_.out | with_reducible refine gby_drewN ?_ _)⟩, by simp [intOf]; omega⟩
    have HB := Lib.hid hsp
    clear hsp
    go_wp2_with fail
    go_region_held3 (fun w' => w'.cell? ⟨b1, 0, none⟩ = some (.slice (some ⟨wb, wo, none⟩) len1 cap1) ∧ w'.cell? ⟨b2, 0, none⟩ = some (.int .i64 x) ∧ w'.cell? ⟨wb, wo + d * 2, none⟩ = some (.int .i64 z0) ∧ w'.cell? ⟨wb, wo + d * 2 + 1, none⟩ = some (.int .i64 z1))
      (first | exact ⟨mc1_, mc2_, mz0_, mz1_⟩ | exact ⟨c1_, c2_, z0_, z1_⟩ | go_keep)
      (first
        | (go_at_call 42; refine (spans_yes _ HB.out).mono ?_; rintro e wA ⟨rfl, gA⟩; have mc1_ : wA.cell? _ = some _ := gA.cell c1_ (by simp); have mc2_ : wA.cell? _ = some _ := gA.cell c2_ (by simp); have mz0_ : wA.cell? _ = some _ := gA.cell z0_ (by simp); have mz1_ : wA.cell? _ = some _ := gA.cell z1_ (by simp))
        | fail)
    all_goals
      have g : (wr).grownBy wA none := by repeat (first | exact gA | exact gby_trans (gby_drew (gby_refl _ _)) gA)
      clear gA mc1_ mc2_ mz0_ mz1_
    clear c1_ c2_ dd_ z0_ z1_
    have G5_ := Lib.hid (show (W).grownBy (wA) none from gby_trans G3_.out g)
    have HTM6_ := Lib.hid (show (W).grownBy (wA) none from gby_trans HTM4_.out g)
    clear HTM4_
    clear g
    have hfin : fstW ys x ds = (d : Int) := by
      have h1 : fstW ys x (ds.take (n + 1)) = (d : Int) := by rw [HTK.out, fstW_snoc _ (fun q hq => (HIN.out q (List.mem_of_mem_take hq)).1), if_pos HNO.out, if_pos (by unfold SpB; rw [htd, ← Hz.out]; exact HB.out)]
      have h2 := fstW_more (ys := ys) (x := x) (ds.take (n + 1)) (ds.drop (n + 1)) (by rw [h1]; omega) (fun q hq => (HIN.out q (List.mem_of_mem_take hq)).1)
      rw [List.take_append_drop] at h2
      rw [h2, h1]
    have HFIN := Lib.hid hfin
    clear hfin
    go_wp2
    go_ret
    exact ⟨(by rw [HFIN.out] <;> rfl), G5_.out⟩

set_option maxRecDepth 8000 in
set_option maxHeartbeats 2000000 in
theorem implOwnA (W : World) (v u : Value) (xs : List DNode) (ys : List DBar) (H : RdL shNode W v xs) (Hb : RdL shBar W u ys) (hl : szL shNode xs ≤ 1048576) (hly : szL shBar ys ≤ 1048576) (x : Int) : Calls Try.prog 16 #[v, u, .int .i64 x] W (AnsN (.int .i64 (ownR xs ys x)) W) := by
  obtain ⟨i1_, hi1_, hz0_, hz1_, hz2_⟩ := info_parts infoInt
  have HT := Lib.hid H
  have HW0 := Lib.hid Hb
  have HLX := Lib.hid hl
  have HLY := Lib.hid hly
  have hlx : xs.length ≤ 1048576 := by have := szL_len shNode xs; omega
  have hly2 : ys.length ≤ 1048576 := by have := szL_len shBar ys; omega
  obtain ⟨a0, cap, rfl, hcap, hi⟩ := rdN_in H
  obtain ⟨a1, cap1, rfl, hcap1, hi1⟩ := rdW_in Hb
  have HA := Lib.hid hi
  have HA1 := Lib.hid hi1
  obtain ⟨len, hlen⟩ : ∃ len, len = xs.length := ⟨_, rfl⟩
  obtain ⟨len1, hlen1⟩ : ∃ len, len = ys.length := ⟨_, rfl⟩
  have HE := Lib.hid hlen
  have HE1 := Lib.hid hlen1
  unfold RdN at HA
  unfold RdW at HA1
  rw [← hlen] at hlx HT HA ⊢
  rw [← hlen1] at hly2 HW0 HA1 ⊢
  clear H Hb hi hi1 hlen hlen1 hl hly hcap hcap1
  go_enter Try.func16, Try.ntmps16
  by_cases hw : HaveW xs ys
  rotate_left
  · have HNW := Lib.hid hw
    clear hw
    go_wp2_with fail
    go_at_call 31
    refine ((implHaveW _ _ _ xs ys (HT.out.grow (gby_refl _ _)) (HW0.out.grow (gby_refl _ _)) HLX.out HLY.out).mono (bpost_no HNW.out)).mono ?_
    rintro e w1 ⟨rfl, g⟩
    have szw1 := g.size
    try simp only [World.size_alloc] at szw1
    try simp only [World.size_setCell] at szw1
    have G1_ := Lib.hid (show (W).grownBy (w1) none from gby_trans (gby_refl _ _) g)
    clear g
    go_wp2
    go_ret
    exact ⟨(by rw [ownR_no HNW.out] <;> rfl), G1_.out⟩
  have HHW := Lib.hid hw
  have h12 : len ≤ 12 := by have := hw.1.1.2; have := HE.out; omega
  clear hw
  go_wp2_with fail
  go_at_call 31
  refine ((implHaveW _ _ _ xs ys (HT.out.grow (gby_refl _ _)) (HW0.out.grow (gby_refl _ _)) HLX.out HLY.out).mono (bpost_yes HHW.out)).mono ?_
  rintro e w1 ⟨rfl, g⟩
  have szw1 := g.size
  try simp only [World.size_alloc] at szw1
  try simp only [World.size_setCell] at szw1
  have G1_ := Lib.hid (show (W).grownBy (w1) none from gby_trans (gby_refl _ _) g)
  clear g
  have HTM2_ := Lib.hid (gby_refl (w1) none)
  have MG3_ := Lib.hid (show (W).grownBy (w1) none from G1_.out)
  go_wp2
  go_loopw [7, 17] (fun v i wr => ∃ n : Nat, n ≤ len ∧ i = .int .i64 (n : Int) ∧ wr.ownsRow (w1.heap.size) 3 1 v (devL xs n).length (i64s (devL xs n)) ∧ (w1).grownBy wr none) (fun _ i _ => len - (intOf i).toNat)
  case atStart => exact ⟨0, by omega, rfl, World.ownsRow_nil _ _ _ _, HTM2_.out⟩
  case round =>
    clear HTM2_
    obtain ⟨n, hn, rfl, hown, hg⟩ := hrel
    have szr_ := hg.size
    try simp only [World.size_alloc, World.size_setCell] at szr_
    have G4_ := Lib.hid (show (W).grownBy (wr) none from gby_trans MG3_.out hg)
    have HTM5_ := Lib.hid hg
    clear hg
    have HO_ := Lib.hid hown
    clear hown
    have hn0 : (0 : Int) ≤ (n : Int) := by omega
    have htn : ((n : Int)).toNat = n := by omega
    by_cases hlt : n < len
    rotate_left
    · obtain rfl : n = len := by omega
      have hki : ¬ (n : Int) < (n : Int) := by omega
      have hdl := devL_len xs n
      have HR := Lib.hid (owI_out (by omega) (owI_row HO_.out)).rd
      obtain ⟨pd, md, cd, hv_⟩ := RdL.form HR.out
      subst hv_
      go_wp2_with fail
      go_at_call 37
      refine (finder_any _ _ _ _ x).mono ?_
      rintro e w8 ⟨rfl, rfl⟩
      have al_ : (wr).grownBy ((wr).alloc (.cells #[.slice a1 len1 cap1] 27)) none := gby_alloc (gby_refl _ _) _
      have G6_ := Lib.hid (show (W).grownBy ((wr.alloc (.cells #[.slice a1 len1 cap1] 27))) none from gby_trans G4_.out al_)
      have HTM7_ := Lib.hid (show (w1).grownBy ((wr.alloc (.cells #[.slice a1 len1 cap1] 27))) none from gby_trans HTM5_.out al_)
      clear HTM5_
      have rF18_ := Lib.hid (show ((wr.alloc (.cells #[.slice a1 len1 cap1] 27))).heap[wr.heap.size]? = some (.cells #[.slice a1 len1 cap1] 27 (0, 0)) from by first | exact heap_alloc_new _ _ | exact heap_pair _ _ _ | exact heap_trip _ _ _ _)
      clear al_
      have F1_0_ : ((wr.alloc (.cells #[.slice a1 len1 cap1] 27))).cell? ⟨wr.heap.size, 0, none⟩ = some (.slice a1 len1 cap1) := cell_of_row _ _ 0 _ _ _ rF18_.out
      clear F1_0_
      have al_ : ((wr.alloc (.cells #[.slice a1 len1 cap1] 27))).grownBy (((wr.alloc (.cells #[.slice a1 len1 cap1] 27))).alloc (.cells #[.int .i64 x] 3)) none := gby_alloc (gby_refl _ _) _
      have rF19_ := Lib.hid (show (((wr.alloc (.cells #[.slice a1 len1 cap1] 27)).alloc (.cells #[.int .i64 x] 3))).heap[wr.heap.size]? = some (.cells #[.slice a1 len1 cap1] 27 (0, 0)) from row_held al_ rF18_.out)
      clear rF18_
      have G10_ := Lib.hid (show (W).grownBy (((wr.alloc (.cells #[.slice a1 len1 cap1] 27)).alloc (.cells #[.int .i64 x] 3))) none from gby_trans G6_.out al_)
      have HTM11_ := Lib.hid (show (w1).grownBy (((wr.alloc (.cells #[.slice a1 len1 cap1] 27)).alloc (.cells #[.int .i64 x] 3))) none from gby_trans HTM7_.out al_)
      clear HTM7_
      have rF212_ := Lib.hid (show (((wr.alloc (.cells #[.slice a1 len1 cap1] 27)).alloc (.cells #[.int .i64 x] 3))).heap[wr.heap.size + 1]? = some (.cells #[.int .i64 x] 3 (0, 0)) from by first | exact heap_alloc_new _ _ | exact heap_pair _ _ _ | exact heap_trip _ _ _ _)
      clear al_
      have F1_0_ : (((wr.alloc (.cells #[.slice a1 len1 cap1] 27)).alloc (.cells #[.int .i64 x] 3))).cell? ⟨wr.heap.size, 0, none⟩ = some (.slice a1 len1 cap1) := cell_of_row _ _ 0 _ _ _ rF19_.out
      have F2_0_ : (((wr.alloc (.cells #[.slice a1 len1 cap1] 27)).alloc (.cells #[.int .i64 x] 3))).cell? ⟨wr.heap.size + 1, 0, none⟩ = some (.int .i64 x) := cell_of_row _ _ 0 _ _ _ rF212_.out
      go_wp2_with fail
      go_at_call 46
      refine (show Calls _ _ _ _ (AnsN (.int .i64 (ownR xs ys x)) _) from by rw [ownR_yes HHW.out, ← HE.out]; exact find_any _ _ _ _ _ ys (devL xs n) x (HR.out.grow (gby_alloc (gby_alloc (gby_refl _ none) _) _)) (HW0.out.grow G10_.out) HLY.out (by omega) (fun e he => by have := devL_in n e he; have h1 := HHW.out.2; have := HE.out; omega) (cell_of_row _ _ 0 _ _ _ rF19_.out) (cell_of_row _ _ 0 _ _ _ rF212_.out)).mono ?_
      rintro e w9 ⟨rfl, g⟩
      clear F1_0_ F2_0_
      have rF113_ := Lib.hid (show (w9).heap[wr.heap.size]? = some (.cells #[.slice a1 len1 cap1] 27 (0, 0)) from row_held g rF19_.out)
      clear rF19_
      have rF214_ := Lib.hid (show (w9).heap[wr.heap.size + 1]? = some (.cells #[.int .i64 x] 3 (0, 0)) from row_held g rF212_.out)
      clear rF212_
      have G15_ := Lib.hid (show (W).grownBy (w9) none from gby_trans G10_.out g)
      have HTM16_ := Lib.hid (show (w1).grownBy (w9) none from gby_trans HTM11_.out g)
      clear HTM11_
      clear g
      go_wp2
      go_ret
      exact ⟨rfl, G15_.out⟩
    have hki : (n : Int) < (len : Int) := by omega
    obtain ⟨nb, no, rfl, hcell⟩ := HA.out.resolve_left (by omega)
    obtain ⟨y_, hy_⟩ : ∃ y_, y_ = nd xs n := ⟨_, rfl⟩
    have hyc_ := hcell n (by omega)
    rw [← hy_] at hyc_
    obtain ⟨y0, y1, y2⟩ := y_
    dsimp only at hyc_
    have Hy := Lib.hid hy_
    have Hy0 := Lib.hid hyc_.1
    have Hy1 := Lib.hid hyc_.2.1
    have Hy2 := Lib.hid hyc_.2.2
    clear hyc_ hy_ hcell
    have qy0_ := (G4_.out).cell Hy0.out (by simp)
    have qy1_ := (G4_.out).cell Hy1.out (by simp)
    have qy2_ := (G4_.out).cell Hy2.out (by simp)
    have al_ : (wr).grownBy ((wr).alloc (.cells #[.int .i64 y0, .int .i64 y1, .int .i64 y2] 48)) none := gby_alloc (gby_refl _ _) _
    have G6_ := Lib.hid (show (W).grownBy ((wr.alloc (.cells #[.int .i64 y0, .int .i64 y1, .int .i64 y2] 48))) none from gby_trans G4_.out al_)
    have HTM7_ := Lib.hid (show (w1).grownBy ((wr.alloc (.cells #[.int .i64 y0, .int .i64 y1, .int .i64 y2] 48))) none from gby_trans HTM5_.out al_)
    clear HTM5_
    have rY8_ := Lib.hid (show ((wr.alloc (.cells #[.int .i64 y0, .int .i64 y1, .int .i64 y2] 48))).heap[wr.heap.size]? = some (.cells #[.int .i64 y0, .int .i64 y1, .int .i64 y2] 48 (0, 0)) from by first | exact heap_alloc_new _ _ | exact heap_pair _ _ _ | exact heap_trip _ _ _ _)
    clear al_
    have Y_0_ : ((wr.alloc (.cells #[.int .i64 y0, .int .i64 y1, .int .i64 y2] 48))).cell? ⟨wr.heap.size, 0, none⟩ = some (.int .i64 y0) := cell_of_row _ _ 0 _ _ _ rY8_.out
    have Y_1_ : ((wr.alloc (.cells #[.int .i64 y0, .int .i64 y1, .int .i64 y2] 48))).cell? ⟨wr.heap.size, 1, none⟩ = some (.int .i64 y1) := cell_of_row _ _ 1 _ _ _ rY8_.out
    have Y_2_ : ((wr.alloc (.cells #[.int .i64 y0, .int .i64 y1, .int .i64 y2] 48))).cell? ⟨wr.heap.size, 2, none⟩ = some (.int .i64 y2) := cell_of_row _ _ 2 _ _ _ rY8_.out
    by_cases h0 : y2 = 0
    · have HB := Lib.hid h0
      clear h0
      go_wp2_with fail
      go_at_call 36
      refine (bridge_yes _ _ _ _ HB.out).mono ?_
      rintro e w2 ⟨rfl, g⟩
      have gN_ := Lib.hid g
      have szw2 := g.size
      try simp only [World.size_alloc] at szw2
      try simp only [World.size_setCell] at szw2
      clear Y_0_ Y_1_ Y_2_
      have rY9_ := Lib.hid (show (w2).heap[wr.heap.size]? = some (.cells #[.int .i64 y0, .int .i64 y1, .int .i64 y2] 48 (0, 0)) from row_held g rY8_.out)
      clear rY8_
      have G10_ := Lib.hid (show (W).grownBy (w2) none from gby_trans G6_.out g)
      have HTM11_ := Lib.hid (show (w1).grownBy (w2) none from gby_trans HTM7_.out g)
      clear HTM7_
      clear g
      have Y_0_ : (w2).cell? ⟨wr.heap.size, 0, none⟩ = some (.int .i64 y0) := cell_of_row _ _ 0 _ _ _ rY9_.out
      have Y_1_ : (w2).cell? ⟨wr.heap.size, 1, none⟩ = some (.int .i64 y1) := cell_of_row _ _ 1 _ _ _ rY9_.out
      have Y_2_ : (w2).cell? ⟨wr.heap.size, 2, none⟩ = some (.int .i64 y2) := cell_of_row _ _ 2 _ _ _ rY9_.out
      have HO2 := Lib.hid (HO_.out.grown (gby_trans (gby_alloc (gby_refl _ none) _) gN_.out))
      go_wp2
      refine ⟨⟨n + 1, by omega, by go_num, ?_, HTM11_.out⟩, by simp [intOf]; omega⟩
      have e_ : devL xs (n + 1) = devL xs n := by show devL xs n ++ (if (nd xs n).f2 = 0 then [] else [(n : Int)]) = _; rw [← Hy.out, if_pos HB.out, List.append_nil]
      rw [e_]
      exact HO2.out
    have HB := Lib.hid h0
    clear h0
    go_wp2_with fail
    go_at_call 36
    refine (bridge_no _ _ _ _ HB.out).mono ?_
    rintro e w2 ⟨rfl, g⟩
    have gN_ := Lib.hid g
    have szw2 := g.size
    try simp only [World.size_alloc] at szw2
    try simp only [World.size_setCell] at szw2
    clear Y_0_ Y_1_ Y_2_
    have rY9_ := Lib.hid (show (w2).heap[wr.heap.size]? = some (.cells #[.int .i64 y0, .int .i64 y1, .int .i64 y2] 48 (0, 0)) from row_held g rY8_.out)
    clear rY8_
    have G10_ := Lib.hid (show (W).grownBy (w2) none from gby_trans G6_.out g)
    have HTM11_ := Lib.hid (show (w1).grownBy (w2) none from gby_trans HTM7_.out g)
    clear HTM7_
    clear g
    have Y_0_ : (w2).cell? ⟨wr.heap.size, 0, none⟩ = some (.int .i64 y0) := cell_of_row _ _ 0 _ _ _ rY9_.out
    have Y_1_ : (w2).cell? ⟨wr.heap.size, 1, none⟩ = some (.int .i64 y1) := cell_of_row _ _ 1 _ _ _ rY9_.out
    have Y_2_ : (w2).cell? ⟨wr.heap.size, 2, none⟩ = some (.int .i64 y2) := cell_of_row _ _ 2 _ _ _ rY9_.out
    have HO2 := Lib.hid (HO_.out.grown (gby_trans (gby_alloc (gby_refl _ none) _) gN_.out))
    have hdl := devL_len xs n
    have hb_ : (devL xs n).length ≤ 1000000 := by omega
    obtain ⟨m12, hm12⟩ : ∃ ml_, ml_ = (devL xs n).length := ⟨_, rfl⟩
    have HO12 := Lib.hid (show (w2).ownsRow (w1.heap.size) 3 1 _ m12 (i64s (devL xs n)) from by rw [hm12]; exact HO2.out)
    have hb12 : m12 ≤ 1000000 := by rw [hm12]; exact hb_
    have HM12 := Lib.hid hm12
    clear hm12 hb_
    go_wp2_with (at_builtin; refine wpList_append_lies _ (by rfl) _ _ _ (by rfl) (w1.heap.size) 3 i1_ _ 1 8 Try.underlying36 hi1_ hz0_ hz1_ hz2_ rfl (by omega) _ m12 (i64s (devL xs n)) (by rfl) (HO12.out.alloc _) ⟨(w2).heap.size, 0, none⟩ 1 1 _ (by rfl) (by rfl) (World.news_of_block (t := 3) (fr := (0, 0)) (heap_alloc_new (w2) _)) (by simp [Value.oneCell']) (by omega) (by unfold maxLen; omega) (by omega) (by simp; omega) ((w2).heap.size + 1) (by simp) ?_; intro gg12 cap12 wa12 hown_ hgr_ hat_ hlt_; have HP12 := Lib.hid hown_; have HQ12 := Lib.hid hgr_; clear hown_ hgr_ hat_ hlt_)
    refine ⟨⟨n + 1, by omega, by go_num, ?_, ?_⟩, by simp [intOf]; omega⟩
    · have e_ : devL xs (n + 1) = devL xs n ++ [(n : Int)] := by show devL xs n ++ (if (nd xs n).f2 = 0 then [] else [(n : Int)]) = _; rw [← Hy.out, if_neg HB.out]
      rw [e_, List.length_append, ← HM12.out, i64s_append]
      exact HP12.out
    · exact gby_new (gby_alloc HTM11_.out _) HQ12.out (fun b hb => by have := own_from HO12.out b hb; omega)

theorem ownerOfAddress_both (xs0 : List DNode) (xs1 : List DBar) (i2 : Int) (h0 : szL shNode xs0 ≤ 1048576) (h1 : szL shBar xs1 ≤ 1048576) : ∃ ir0 : Int, (∀ (W : World), ∀ u0 u1, RdL shNode W u0 xs0 → RdL shBar W u1 xs1 → Calls Try.prog 15 #[u0, u1, .int .i64 i2] W (ResSOwnerOfAddress ir0 W)) ∧ ∀ (W : World), ∀ u0 u1, RdL shNode W u0 xs0 → RdL shBar W u1 xs1 → Calls Try.prog 16 #[u0, u1, .int .i64 i2] W (ResIOwnerOfAddress ir0 W) :=
  ⟨ownR xs0 xs1 i2, fun W u0 u1 H0 H1 => specOwnA W u0 u1 _ _ H0 H1 h0 h1 i2, fun W u0 u1 H0 H1 => implOwnA W u0 u1 _ _ H0 H1 h0 h1 i2⟩

end Go.Proofs.Ytdddidnibelmhaa

namespace Go.Proofs.Ytdddidnibelmhaa
open Go Go.RowKit
set_option linter.unusedVariables false

/-- the first child whose window covers x, or -1 -/
def nxW (xs : List DNode) (ys : List DBar) (x : Int) (k : Nat) : Int := fstW ys x (nums (kidsN xs (k : Int) 4))
theorem fstW_or {ys : List DBar} {x : Int} : ∀ ds : List Int, fstW ys x ds = -1 ∨ fstW ys x ds ∈ ds
  | [] => .inl rfl
  | d :: ds => by
    by_cases q : SpB ys x d.toNat
    · right; simp [fstW, q]
    · rcases fstW_or (ys := ys) (x := x) ds with h | h
      · left; simp [fstW, q, h]
      · right
        have e : fstW ys x (d :: ds) = fstW ys x ds := by simp [fstW, q]
        rw [e]; exact List.mem_cons_of_mem _ h
theorem kid_in {xs : List DNode} (h : TOk xs) {k : Nat} : ∀ e ∈ nums (kidsN xs (k : Int) 4), ∃ n : Nat, e = (n : Int) ∧ k < n ∧ n < xs.length := by
  intro e he
  obtain ⟨n, hn, rfl⟩ := List.mem_map.1 he
  obtain ⟨h1, h2, h3⟩ := ((kids_is h (k : Int)).1 n).1 hn
  have := (h.2.2 n h1 h2).1
  exact ⟨n, rfl, by omega, h2⟩
theorem nxW_or {xs : List DNode} {ys : List DBar} {x : Int} (h : TOk xs) (k : Nat) : nxW xs ys x k = -1 ∨ ∃ n : Nat, nxW xs ys x k = (n : Int) ∧ k < n ∧ n < xs.length := by
  rcases fstW_or (ys := ys) (x := x) (nums (kidsN xs (k : Int) 4)) with q | q
  · exact .inl q
  · exact .inr (kid_in h _ q)
/-- the way from node k down, if there is one -/
def dnW (xs : List DNode) (ys : List DBar) (x : Int) (k : Nat) : Option (List Int) :=
  if (nd xs k).f2 = 0 then
    if h : k < (nxW xs ys x k).toNat ∧ (nxW xs ys x k).toNat < xs.length then (dnW xs ys x (nxW xs ys x k).toNat).map (fun l => (k : Int) :: l) else none
  else some [(k : Int)]
termination_by xs.length - k
decreasing_by omega
theorem dnW_dev {xs : List DNode} {ys : List DBar} {x : Int} {k : Nat} (h : (nd xs k).f2 ≠ 0) : dnW xs ys x k = some [(k : Int)] := by
  rw [dnW, if_neg h]
theorem dnW_none {xs : List DNode} {ys : List DBar} {x : Int} {k : Nat} (h : (nd xs k).f2 = 0) (hn : nxW xs ys x k = -1) : dnW xs ys x k = none := by
  rw [dnW, if_pos h, hn, dif_neg (by simp)]
theorem dnW_next {xs : List DNode} {ys : List DBar} {x : Int} {k n : Nat} (h : (nd xs k).f2 = 0) (hn : nxW xs ys x k = (n : Int)) (h1 : k < n) (h2 : n < xs.length) : dnW xs ys x k = (dnW xs ys x n).map (fun l => (k : Int) :: l) := by
  rw [dnW, if_pos h, dif_pos (by rw [hn]; simp; omega), hn]; rfl
/-- .. as a list -/
def dnL (xs : List DNode) (ys : List DBar) (x : Int) (k : Nat) : List Int := (dnW xs ys x k).getD []
theorem dnW_len {xs : List DNode} {ys : List DBar} {x : Int} : ∀ (m k : Nat), xs.length - k ≤ m → k < xs.length → (dnL xs ys x k).length ≤ xs.length - k
  | 0, k, h, hk => by omega
  | m + 1, k, h, hk => by
    unfold dnL
    by_cases e : (nd xs k).f2 = 0
    · by_cases q : k < (nxW xs ys x k).toNat ∧ (nxW xs ys x k).toNat < xs.length
      · rw [dnW, if_pos e, dif_pos q]
        have ih := dnW_len (ys := ys) (x := x) m (nxW xs ys x k).toNat (by omega) q.2
        unfold dnL at ih
        cases hd : dnW xs ys x (nxW xs ys x k).toNat with
        | none => simp
        | some l => rw [hd] at ih; simp at ih ⊢; omega
      · rw [dnW, if_pos e, dif_neg q]; simp
    · rw [dnW_dev e]; simp; omega
/-- the row so far: pre, then node k; the way from k is still to come -/
def OnWay (xs : List DNode) (ys : List DBar) (x : Int) (k0 k : Nat) (pre : List Int) : Prop := k < xs.length ∧ pre.length ≤ k ∧ dnW xs ys x k0 = (dnW xs ys x k).map (fun l => pre ++ l)
theorem onWay_start {xs : List DNode} {ys : List DBar} {x : Int} {k0 : Nat} (h : k0 < xs.length) : OnWay xs ys x k0 k0 [] := ⟨h, Nat.zero_le _, by cases dnW xs ys x k0 <;> simp⟩
theorem onWay_dev {xs : List DNode} {ys : List DBar} {x : Int} {k0 k : Nat} {pre : List Int} (h : OnWay xs ys x k0 k pre) (hd : (nd xs k).f2 ≠ 0) : dnL xs ys x k0 = pre ++ [(k : Int)] := by
  unfold dnL; rw [h.2.2, dnW_dev hd]; rfl
theorem onWay_none {xs : List DNode} {ys : List DBar} {x : Int} {k0 k : Nat} {pre : List Int} (h : OnWay xs ys x k0 k pre) (hd : (nd xs k).f2 = 0) (hn : nxW xs ys x k = -1) : dnL xs ys x k0 = [] := by
  unfold dnL; rw [h.2.2, dnW_none hd hn]; rfl
theorem onWay_next {xs : List DNode} {ys : List DBar} {x : Int} {k0 k n : Nat} {pre : List Int} (h : OnWay xs ys x k0 k pre) (hd : (nd xs k).f2 = 0) (hn : nxW xs ys x k = (n : Int)) (h1 : k < n) (h2 : n < xs.length) : OnWay xs ys x k0 n (pre ++ [(k : Int)]) := by
  refine ⟨h2, by rw [List.length_append, List.length_singleton]; have := h.2.1; omega, ?_⟩
  rw [h.2.2, dnW_next hd hn h1 h2]
  cases dnW xs ys x n <;> simp
theorem own_oneI {w : World} {B base : Nat} {y : Int} (h : w.heap[B]? = some (.cells #[.int .i64 y] 3 (0, 0))) (hb : base ≤ B) : w.ownsRow base 3 1 (.slice (some ⟨B, 0, none⟩) 1 1) ([] ++ [y] : List Int).length (i64s ([] ++ [y])) :=
  ⟨by simp [i64s], .inr ⟨B, 1, #[.int .i64 y], rfl, hb, h, Nat.le_refl _, by unfold maxLen; omega, by simp [i64s], by simp [i64s]⟩⟩

theorem cell_blt9 {w : World} {a : Addr} {v : Value} (h : w.cell? a = some v) : a.block < w.heap.size := by
  cases e : w.heap[a.block]? with
  | none => simp [World.cell?, e] at h
  | some o => exact (Array.getElem?_eq_some_iff.1 e).1

set_option maxRecDepth 8000 in
set_option maxHeartbeats 2000000 in
theorem downFrom_any (W : World) (v u : Value) (b1 b2 : Nat) (xs : List DNode) (ys : List DBar) (k0 : Nat) (x : Int) (H : RdL shNode W v xs) (Hb : RdL shBar W u ys) (hl : szL shNode xs ≤ 1048576) (hly : szL shBar ys ≤ 1048576) (ht : TOk xs) (hyl : ys.length = xs.length) (hk : k0 < xs.length) (hc1 : W.cell? ⟨b1, 0, none⟩ = some u) (hc2 : W.cell? ⟨b2, 0, none⟩ = some (.int .i64 x)) : Calls Try.prog 39 #[v, .int .i64 (k0 : Int), .func (.func 46) #[] #[.pointer (some ⟨b1, 0, none⟩), .pointer (some ⟨b2, 0, none⟩)]] W (ResIDownToAddress (dnL xs ys x k0) W) := by
  obtain ⟨i1_, hi1_, hz0_, hz1_, hz2_⟩ := info_parts infoInt
  have HC2 := Lib.hid hc2
  have HC1a := Lib.hid hc1
  clear hc1 hc2
  have HT := Lib.hid H
  have HW0 := Lib.hid Hb
  have HLX := Lib.hid hl
  have HLY := Lib.hid hly
  have HTO := Lib.hid ht
  have HYL := Lib.hid hyl
  have h12 := ht.1.2
  have hly2 : ys.length ≤ 1048576 := by have := szL_len shBar ys; omega
  obtain ⟨a0, cap, rfl, hcap, hi⟩ := rdN_in H
  obtain ⟨a1, cap1, rfl, hcap1, hi1⟩ := rdW_in Hb
  have HA := Lib.hid hi
  have HA1 := Lib.hid hi1
  obtain ⟨len, hlen⟩ : ∃ len, len = xs.length := ⟨_, rfl⟩
  have HC1 := HC1a
  rw [hyl, ← hlen] at HC1
  have HE := Lib.hid hlen
  unfold RdN at HA
  unfold RdW at HA1
  rw [hyl, ← hlen] at HW0 HA1
  try rw [hyl]
  rw [← hlen] at HT HA h12 hk ⊢
  clear H Hb hi hi1 hlen hl hly hcap hcap1 ht hyl hly2
  go_enter Try.func39, Try.ntmps39
  have HTM1_ := Lib.hid (gby_refl (W) none)
  have MG2_ := Lib.hid (show (W).grownBy (W) none from (gby_refl _ _))
  go_wp2_with fail
  have al_ : (W).grownBy ((W).alloc (.cells #[.int .i64 (k0 : Int)] 3)) none := gby_alloc (gby_refl _ _) _
  have G3_ := Lib.hid (show (W).grownBy ((W.alloc (.cells #[.int .i64 (k0 : Int)] 3))) none from gby_trans (gby_refl _ _) al_)
  have HTM4_ := Lib.hid (show (W).grownBy ((W.alloc (.cells #[.int .i64 (k0 : Int)] 3))) none from gby_trans HTM1_.out al_)
  clear HTM1_
  have rO5_ := Lib.hid (show ((W.alloc (.cells #[.int .i64 (k0 : Int)] 3))).heap[W.heap.size]? = some (.cells #[.int .i64 (k0 : Int)] 3 (0, 0)) from by first | exact heap_alloc_new _ _ | exact heap_pair _ _ _ | exact heap_trip _ _ _ _)
  clear al_
  have O_0_ : ((W.alloc (.cells #[.int .i64 (k0 : Int)] 3))).cell? ⟨W.heap.size, 0, none⟩ = some (.int .i64 (k0 : Int)) := cell_of_row _ _ 0 _ _ _ rO5_.out
  have hst_ : ((W.alloc (.cells #[.int .i64 (k0 : Int)] 3))).ownsRow (W.heap.size) 3 1 (.slice (some ⟨W.heap.size, 0, none⟩) 1 1) ([] ++ [(k0 : Int)] : List Int).length (i64s ([] ++ [(k0 : Int)])) := own_oneI rO5_.out (Nat.le_refl _)
  go_wp2
  go_loopw [1, 7] (fun kk v wr => ∃ (k : Nat) (pre : List Int), kk = .int .i64 (k : Int) ∧ OnWay xs ys x k0 k pre ∧ wr.ownsRow (W.heap.size) 3 1 v (pre ++ [(k : Int)]).length (i64s (pre ++ [(k : Int)])) ∧ (W).grownBy wr none) (fun kk _ _ => len - (intOf kk).toNat)
  case atStart => exact ⟨k0, [], rfl, onWay_start (by rw [← HE.out]; exact hk), hst_, HTM4_.out⟩
  case round =>
    clear O_0_
    clear rO5_
    clear HTM4_
    obtain ⟨k, pre, rfl, how, hown, hg⟩ := hrel
    have szr_ := hg.size
    try simp only [World.size_alloc, World.size_setCell] at szr_
    have G6_ := Lib.hid (show (W).grownBy (wr) none from gby_trans MG2_.out hg)
    have HTM7_ := Lib.hid hg
    clear hg
    try clear hst_
    have HOW := Lib.hid how
    have HO_ := Lib.hid hown
    have hkl : k < len := by rw [HE.out]; exact how.1
    have hpl : pre.length ≤ k := how.2.1
    clear how hown
    have hk0 : (0 : Int) ≤ (k : Int) := by omega
    have htk : ((k : Int)).toNat = k := by omega
    have hki : (k : Int) < (len : Int) := by omega
    obtain ⟨nb, no, rfl, hcell⟩ := HA.out.resolve_left (by omega)
    obtain ⟨y_, hy_⟩ : ∃ y_, y_ = nd xs k := ⟨_, rfl⟩
    have hyc_ := hcell k (by omega)
    rw [← hy_] at hyc_
    obtain ⟨y0, y1, y2⟩ := y_
    dsimp only at hyc_
    have Hy := Lib.hid hy_
    have Hy0 := Lib.hid hyc_.1
    have Hy1 := Lib.hid hyc_.2.1
    have Hy2 := Lib.hid hyc_.2.2
    clear hyc_ hy_ hcell
    have y0_ := (G6_.out).cell Hy0.out (by simp)
    have y1_ := (G6_.out).cell Hy1.out (by simp)
    have y2_ := (G6_.out).cell Hy2.out (by simp)
    by_cases h0 : y2 = 0
    rotate_left
    · have hb0 : (y2 == 0) = false := beq_eq_false_iff_ne.2 h0
      have HB := Lib.hid h0
      clear h0
      go_wp2_with fail
      go_at_call 36
      refine (bridge_no _ _ _ _ HB.out).mono ?_
      rintro e w1 ⟨rfl, g⟩
      have gN_ := Lib.hid g
      have szw1 := g.size
      try simp only [World.size_alloc] at szw1
      try simp only [World.size_setCell] at szw1
      clear y0_ y1_ y2_
      have G8_ := Lib.hid (show (W).grownBy (w1) none from gby_trans G6_.out g)
      have HTM9_ := Lib.hid (show (W).grownBy (w1) none from gby_trans HTM7_.out g)
      clear HTM7_
      clear g
      have y0_ := (G8_.out).cell Hy0.out (by simp)
      have y1_ := (G8_.out).cell Hy1.out (by simp)
      have y2_ := (G8_.out).cell Hy2.out (by simp)
      have HO2 := Lib.hid (HO_.out.grown gN_.out)
      have hfin := onWay_dev HOW.out (by rw [← Hy.out]; exact HB.out)
      have HF := Lib.hid hfin
      clear hfin
      go_wp2
      go_ret
      exact ⟨_, rfl, OwU.one (OwL.wide (by rw [HF.out]; exact owI_out (by rw [List.length_append, List.length_singleton]; omega) (owI_row HO2.out)) (by omega) (Nat.le_refl _)), G8_.out⟩
    have hb0 : (y2 == 0) = true := beq_iff_eq.2 h0
    have HB := Lib.hid h0
    have HD0 := Lib.hid (show (nd xs k).f2 = 0 from by rw [← Hy.out]; exact h0)
    clear h0
    obtain ⟨Z, hZ⟩ : ∃ Z, Z = nums (kidsN xs (k : Int) 4) := ⟨_, rfl⟩
    have HZ := Lib.hid hZ
    have hz48 : Z.length ≤ 48 := by rw [hZ, nums_len]; have := kidsN_len xs (k : Int) 4; have := HE.out; omega
    have HZI := Lib.hid (show ∀ e ∈ Z, ∃ n : Nat, e = (n : Int) ∧ k < n ∧ n < xs.length from by rw [hZ]; exact kid_in HTO.out)
    clear hZ
    go_wp2_with fail
    go_at_call 36
    refine (bridge_yes _ _ _ _ HB.out).mono ?_
    rintro e w1 ⟨rfl, g⟩
    have gN_ := Lib.hid g
    have szw1 := g.size
    try simp only [World.size_alloc] at szw1
    try simp only [World.size_setCell] at szw1
    clear y0_ y1_ y2_
    have G8_ := Lib.hid (show (W).grownBy (w1) none from gby_trans G6_.out g)
    have HTM9_ := Lib.hid (show (W).grownBy (w1) none from gby_trans HTM7_.out g)
    clear HTM7_
    clear g
    have y0_ := (G8_.out).cell Hy0.out (by simp)
    have y1_ := (G8_.out).cell Hy1.out (by simp)
    have y2_ := (G8_.out).cell Hy2.out (by simp)
    have gA_ := Lib.hid gN_.out
    go_wp2_with fail
    go_at_call 48
    refine (show Calls _ _ _ _ (ResIChildrenOf Z _) from by rw [HZ.out]; exact implKidsOf _ _ xs (k : Int) (HT.out.grow G8_.out) HLX.out ⟨HTO.out, hk0, by rw [← HE.out]; exact hki⟩ (fun b off n c e => by injection e with e1; injection e1 with e1; injection e1 with e2; subst e2; have := szr_; exact Nat.lt_of_lt_of_le (cell_blt9 Hy0.out) (G8_.out).size)).mono ?_
    rintro e w2 ⟨vZ, rfl, o, g⟩
    have gZ_ := Lib.hid g
    have szw2 := g.size
    obtain ⟨pZ, nZ, cZ, hv_⟩ := RdL.form (OwU.rd o)
    have hnZ : nZ = Z.length := by obtain ⟨_, _, e, _⟩ := OwU.rd o; rw [hv_] at e; injection e
    subst hv_ hnZ
    have HRZ := Lib.hid (OwU.rd o)
    clear o
    clear y0_ y1_ y2_
    have G10_ := Lib.hid (show (W).grownBy (w2) none from gby_trans G8_.out g)
    have HTM11_ := Lib.hid (show (W).grownBy (w2) none from gby_trans HTM9_.out g)
    clear HTM9_
    clear g
    have y0_ := (G10_.out).cell Hy0.out (by simp)
    have y1_ := (G10_.out).cell Hy1.out (by simp)
    have y2_ := (G10_.out).cell Hy2.out (by simp)
    have HC1q := Lib.hid ((G10_.out).cell HC1.out (by simp))
    have HC2q := Lib.hid ((G10_.out).cell HC2.out (by simp))
    go_wp2_with fail
    go_at_call 46
    refine (show Calls _ _ _ _ (AnsN (.int .i64 (nxW xs ys x k)) _) from by unfold nxW; rw [← HZ.out]; exact find_any _ _ _ b1 b2 ys Z x HRZ.out (by have := HW0.out.grow G10_.out; exact this) HLY.out (by omega) (fun e he => by obtain ⟨n, rfl, h1, h2⟩ := HZI.out e he; have := HYL.out; omega) HC1q.out HC2q.out).mono ?_
    rintro e wF ⟨rfl, g⟩
    have gF_ := Lib.hid g
    have szwF := g.size
    clear y0_ y1_ y2_
    have G12_ := Lib.hid (show (W).grownBy (wF) none from gby_trans G10_.out g)
    have HTM13_ := Lib.hid (show (W).grownBy (wF) none from gby_trans HTM11_.out g)
    clear HTM11_
    clear g
    have y0_ := (G12_.out).cell Hy0.out (by simp)
    have y1_ := (G12_.out).cell Hy1.out (by simp)
    have y2_ := (G12_.out).cell Hy2.out (by simp)
    have HO2 := Lib.hid (HO_.out.grown (gby_trans (gby_trans gA_.out gZ_.out) gF_.out))
    rcases nxW_or (ys := ys) (x := x) HTO.out k with hq | ⟨n, hq, hn1, hn2⟩
    · have HF := Lib.hid (onWay_none HOW.out HD0.out hq)
      rw [hq]
      have hm1 : (-1 : Int) < 0 := by omega
      clear hq
      go_wp2
      go_ret
      exact ⟨_, rfl, OwU.one (by rw [HF.out]; exact owL_nil), G12_.out⟩
    rw [hq]
    have HW2 := Lib.hid (onWay_next HOW.out HD0.out hq hn1 hn2)
    clear hq
    have hnn : ¬ (n : Int) < 0 := by omega
    have htn : ((n : Int)).toNat = n := by omega
    have hnl : n < len := by rw [HE.out]; exact hn2
    have hb_ : (pre ++ [(k : Int)]).length ≤ 1000000 := by rw [List.length_append, List.length_singleton]; omega
    obtain ⟨m14, hm14⟩ : ∃ ml_, ml_ = (pre ++ [(k : Int)]).length := ⟨_, rfl⟩
    have HO14 := Lib.hid (show (wF).ownsRow (W.heap.size) 3 1 _ m14 (i64s (pre ++ [(k : Int)])) from by rw [hm14]; exact HO2.out)
    have hb14 : m14 ≤ 1000000 := by rw [hm14]; exact hb_
    have HM14 := Lib.hid hm14
    clear hm14 hb_
    go_wp2_with (at_builtin; refine wpList_append_lies _ (by rfl) _ _ _ (by rfl) (W.heap.size) 3 i1_ _ 1 8 Try.underlying36 hi1_ hz0_ hz1_ hz2_ rfl (by omega) _ m14 (i64s (pre ++ [(k : Int)])) (by rfl) (HO14.out.alloc _) ⟨(wF).heap.size, 0, none⟩ 1 1 _ (by rfl) (by rfl) (World.news_of_block (t := 3) (fr := (0, 0)) (heap_alloc_new (wF) _)) (by simp [Value.oneCell']) (by omega) (by unfold maxLen; omega) (by omega) (by simp; omega) ((wF).heap.size + 1) (by simp) ?_; intro gg14 cap14 wa14 hown_ hgr_ hat_ hlt_; have HP14 := Lib.hid hown_; have HQ14 := Lib.hid hgr_; clear hown_ hgr_ hat_ hlt_)
    refine ⟨⟨n, pre ++ [(k : Int)], by first | rfl | go_num, HW2.out, ?_, ?_⟩, by simp [intOf]; omega⟩
    · rw [List.length_append, List.length_singleton, ← HM14.out, i64s_append]
      exact HP14.out
    · exact gby_new (gby_alloc G12_.out _) HQ14.out (fun b hb => by have := own_from HO14.out b hb; omega)

set_option maxRecDepth 8000 in
set_option maxHeartbeats 2000000 in
theorem l25Down_any (W : World) (v u : Value) (xs : List DNode) (ys : List DBar) (k0 : Nat) (x : Int) (H : RdL shNode W v xs) (Hb : RdL shBar W u ys) (hl : szL shNode xs ≤ 1048576) (hly : szL shBar ys ≤ 1048576) (ht : TOk xs) (hyl : ys.length = xs.length) (hk : k0 < xs.length) : Calls Try.prog 38 #[v, u, .int .i64 (k0 : Int), .int .i64 x] W (ResIDownToAddress (dnL xs ys x k0) W) := by
  obtain ⟨i1_, hi1_, hz0_, hz1_, hz2_⟩ := info_parts infoInt
  have HT := Lib.hid H
  have HW0 := Lib.hid Hb
  have HLX := Lib.hid hl
  have HLY := Lib.hid hly
  have HTO := Lib.hid ht
  have HYL := Lib.hid hyl
  have h12 := ht.1.2
  have hly2 : ys.length ≤ 1048576 := by have := szL_len shBar ys; omega
  obtain ⟨a0, cap, rfl, hcap, hi⟩ := rdN_in H
  obtain ⟨a1, cap1, rfl, hcap1, hi1⟩ := rdW_in Hb
  have HA := Lib.hid hi
  have HA1 := Lib.hid hi1
  obtain ⟨len, hlen⟩ : ∃ len, len = xs.length := ⟨_, rfl⟩
  have HE := Lib.hid hlen
  unfold RdN at HA
  unfold RdW at HA1
  rw [hyl, ← hlen] at HW0 HA1
  try rw [hyl]
  rw [← hlen] at HT HA h12 hk ⊢
  clear H Hb hi hi1 hlen hl hly hcap hcap1 ht hyl hly2
  go_enter Try.func38, Try.ntmps38
  have HTM1_ := Lib.hid (gby_refl (W) none)
  have MG2_ := Lib.hid (show (W).grownBy (W) none from (gby_refl _ _))
  go_wp2_with fail
  have al_ : (W).grownBy ((W).alloc (.cells #[.int .i64 (k0 : Int)] 3)) none := gby_alloc (gby_refl _ _) _
  have G3_ := Lib.hid (show (W).grownBy ((W.alloc (.cells #[.int .i64 (k0 : Int)] 3))) none from gby_trans (gby_refl _ _) al_)
  have HTM4_ := Lib.hid (show (W).grownBy ((W.alloc (.cells #[.int .i64 (k0 : Int)] 3))) none from gby_trans HTM1_.out al_)
  clear HTM1_
  have rO5_ := Lib.hid (show ((W.alloc (.cells #[.int .i64 (k0 : Int)] 3))).heap[W.heap.size]? = some (.cells #[.int .i64 (k0 : Int)] 3 (0, 0)) from by first | exact heap_alloc_new _ _ | exact heap_pair _ _ _ | exact heap_trip _ _ _ _)
  clear al_
  have O_0_ : ((W.alloc (.cells #[.int .i64 (k0 : Int)] 3))).cell? ⟨W.heap.size, 0, none⟩ = some (.int .i64 (k0 : Int)) := cell_of_row _ _ 0 _ _ _ rO5_.out
  have hst_ : ((W.alloc (.cells #[.int .i64 (k0 : Int)] 3))).ownsRow (W.heap.size) 3 1 (.slice (some ⟨W.heap.size, 0, none⟩) 1 1) ([] ++ [(k0 : Int)] : List Int).length (i64s ([] ++ [(k0 : Int)])) := own_oneI rO5_.out (Nat.le_refl _)
  go_wp2
  go_loopw [2, 9] (fun kk v wr => ∃ (k : Nat) (pre : List Int), kk = .int .i64 (k : Int) ∧ OnWay xs ys x k0 k pre ∧ wr.ownsRow (W.heap.size) 3 1 v (pre ++ [(k : Int)]).length (i64s (pre ++ [(k : Int)])) ∧ (W).grownBy wr none) (fun kk _ _ => len - (intOf kk).toNat)
  case atStart => exact ⟨k0, [], rfl, onWay_start (by rw [← HE.out]; exact hk), hst_, HTM4_.out⟩
  case round =>
    clear O_0_
    clear rO5_
    clear HTM4_
    obtain ⟨k, pre, rfl, how, hown, hg⟩ := hrel
    have szr_ := hg.size
    try simp only [World.size_alloc, World.size_setCell] at szr_
    have G6_ := Lib.hid (show (W).grownBy (wr) none from gby_trans MG2_.out hg)
    have HTM7_ := Lib.hid hg
    clear hg
    obtain ⟨wo, hwo_⟩ : ∃ w_, w_ = wr := ⟨_, rfl⟩
    subst hwo_
    try clear hst_
    have HOW := Lib.hid how
    have HO_ := Lib.hid hown
    have hkl : k < len := by rw [HE.out]; exact how.1
    have hpl : pre.length ≤ k := how.2.1
    clear how hown
    have hk0 : (0 : Int) ≤ (k : Int) := by omega
    have htk : ((k : Int)).toNat = k := by omega
    have hki : (k : Int) < (len : Int) := by omega
    obtain ⟨nb, no, rfl, hcell⟩ := HA.out.resolve_left (by omega)
    obtain ⟨y_, hy_⟩ : ∃ y_, y_ = nd xs k := ⟨_, rfl⟩
    have hyc_ := hcell k (by omega)
    rw [← hy_] at hyc_
    obtain ⟨y0, y1, y2⟩ := y_
    dsimp only at hyc_
    have Hy := Lib.hid hy_
    have Hy0 := Lib.hid hyc_.1
    have Hy1 := Lib.hid hyc_.2.1
    have Hy2 := Lib.hid hyc_.2.2
    clear hyc_ hy_ hcell
    have y2_ := (G6_.out).cell Hy2.out (by simp)
    by_cases h0 : y2 = 0
    rotate_left
    · have hb0 : (y2 == 0) = false := beq_eq_false_iff_ne.2 h0
      have HB := Lib.hid h0
      clear h0
      have HO2 := HO_
      have hfin := onWay_dev HOW.out (by rw [← Hy.out]; exact HB.out)
      have HF := Lib.hid hfin
      clear hfin
      go_wp2
      go_ret
      exact ⟨_, rfl, OwU.one (OwL.wide (by rw [HF.out]; exact owI_out (by rw [List.length_append, List.length_singleton]; omega) (owI_row HO2.out)) (by omega) (Nat.le_refl _)), G6_.out⟩
    have hb0 : (y2 == 0) = true := beq_iff_eq.2 h0
    have HB := Lib.hid h0
    have HD0 := Lib.hid (show (nd xs k).f2 = 0 from by rw [← Hy.out]; exact h0)
    clear h0
    obtain ⟨Z, hZ⟩ : ∃ Z, Z = nums (kidsN xs (k : Int) 4) := ⟨_, rfl⟩
    have HZ := Lib.hid hZ
    have hz48 : Z.length ≤ 48 := by rw [hZ, nums_len]; have := kidsN_len xs (k : Int) 4; have := HE.out; omega
    have HZI := Lib.hid (show ∀ e ∈ Z, ∃ n : Nat, e = (n : Int) ∧ k < n ∧ n < xs.length from by rw [hZ]; exact kid_in HTO.out)
    clear hZ
    go_wp2_with fail
    go_at_call 47
    refine (show Calls _ _ _ _ (ResIChildrenOf Z _) from by rw [HZ.out]; exact specKids_yes _ _ xs (k : Int) (HT.out.grow G6_.out) HLX.out ⟨HTO.out, hk0, by rw [← HE.out]; exact hki⟩).mono ?_
    rintro e w1 ⟨vZ, rfl, o, g⟩
    have gZ_ := Lib.hid g
    have szw1 := g.size
    obtain ⟨pZ, nZ, cZ, hv_⟩ := RdL.form (OwU.rd o)
    have hnZ : nZ = Z.length := by obtain ⟨_, _, e, _⟩ := OwU.rd o; rw [hv_] at e; injection e
    subst hv_ hnZ
    have HRZ := Lib.hid (OwU.rd o)
    clear o
    clear y2_
    have G8_ := Lib.hid (show (W).grownBy (w1) none from gby_trans G6_.out g)
    have HTM9_ := Lib.hid (show (W).grownBy (w1) none from gby_trans HTM7_.out g)
    clear HTM7_
    clear g
    have y2_ := (G8_.out).cell Hy2.out (by simp)
    have HTZ10_ := Lib.hid (gby_refl (w1) none)
    have MG11_ := Lib.hid (show (W).grownBy (w1) none from G8_.out)
    have hw1 : IntKind.i64.wrap ((Z.length : Int) - 1) = (Z.length : Int) - 1 := IntWalk.i64_in _ (by omega)
    obtain ⟨pZb, hpz⟩ : ∃ q, q = pZ := ⟨_, rfl⟩
    obtain ⟨aZ, cZ2, hvz, _, hiz⟩ := rdI1_in HRZ.out
    injection hvz with e1 e2 e3
    subst e1
    unfold RdN1 at hiz
    have HIZ := Lib.hid hiz
    clear hiz hpz e2 e3
    obtain ⟨m, hm⟩ : ∃ m, m = Z.length := ⟨_, rfl⟩
    have HM0 := Lib.hid hm
    rw [← hm] at hw1 HIZ hz48 HRZ ⊢
    clear hm
    go_wp2
    go_loopw [11, 12] (fun nx ii wr => ∃ (i : Int) (d : Int), ii = .int .i64 i ∧ nx = .int .i64 d ∧ -1 ≤ i ∧ i ≤ (m : Int) - 1 ∧ d = fstW ys x (Z.drop (i + 1).toNat) ∧ (w1).grownBy wr none) (fun _ ii _ => ((intOf ii) + 1).toNat)
    case atStart => exact ⟨(m : Int) - 1, -1, rfl, rfl, by omega, Int.le_refl _, (by rw [show ((m : Int) - 1 + 1).toNat = Z.length by rw [← HM0.out]; omega, List.drop_length]; rfl), HTZ10_.out⟩
    case round =>
      clear y2_
      clear HTM9_
      clear HTZ10_
      obtain ⟨i, d, rfl, rfl, hi1, hi2, hd, hg⟩ := hrel
      have szr_ := hg.size
      try simp only [World.size_alloc, World.size_setCell] at szr_
      have G12_ := Lib.hid (show (W).grownBy (wr) none from gby_trans MG11_.out hg)
      have HTZ13_ := Lib.hid hg
      clear hg
      have y2_ := (G12_.out).cell Hy2.out (by simp)
      have HD := Lib.hid hd
      clear hd
      by_cases hlt : 0 ≤ i
      rotate_left
      · obtain rfl : i = -1 := by omega
        have hge : ¬ (-1 : Int) ≥ 0 := by omega
        have hge2 : ¬ (0 : Int) ≤ -1 := by omega
        have hdn : d = nxW xs ys x k := by unfold nxW; rw [← HZ.out]; exact HD.out
        subst hdn
        have HO2 := Lib.hid (HO_.out.grown (gby_trans gZ_.out HTZ13_.out))
        rcases nxW_or (ys := ys) (x := x) HTO.out k with hq | ⟨n, hq, hn1, hn2⟩
        · have HF := Lib.hid (onWay_none HOW.out HD0.out hq)
          rw [hq]
          have hm1 : (-1 : Int) < 0 := by omega
          clear hq
          go_wp2
          go_ret
          exact ⟨_, rfl, OwU.one (by rw [HF.out]; exact owL_empty (by first | omega | (simp only [World.size_alloc]; omega)) (by first | omega | (simp only [World.size_alloc]; omega))), gby_alloc G12_.out _⟩
        rw [hq]
        have HW2 := Lib.hid (onWay_next HOW.out HD0.out hq hn1 hn2)
        clear hq
        have hnn : ¬ (n : Int) < 0 := by omega
        have htn : ((n : Int)).toNat = n := by omega
        have hnl : n < len := by rw [HE.out]; exact hn2
        have hb_ : (pre ++ [(k : Int)]).length ≤ 1000000 := by rw [List.length_append, List.length_singleton]; omega
        obtain ⟨m14, hm14⟩ : ∃ ml_, ml_ = (pre ++ [(k : Int)]).length := ⟨_, rfl⟩
        have HO14 := Lib.hid (show (wr).ownsRow (W.heap.size) 3 1 _ m14 (i64s (pre ++ [(k : Int)])) from by rw [hm14]; exact HO2.out)
        have hb14 : m14 ≤ 1000000 := by rw [hm14]; exact hb_
        have HM14 := Lib.hid hm14
        clear hm14 hb_
        go_wp2_with (at_builtin; refine wpList_append_lies _ (by rfl) _ _ _ (by rfl) (W.heap.size) 3 i1_ _ 1 8 Try.underlying36 hi1_ hz0_ hz1_ hz2_ rfl (by omega) _ m14 (i64s (pre ++ [(k : Int)])) (by rfl) (HO14.out.alloc _) ⟨(wr).heap.size, 0, none⟩ 1 1 _ (by rfl) (by rfl) (World.news_of_block (t := 3) (fr := (0, 0)) (heap_alloc_new (wr) _)) (by simp [Value.oneCell']) (by omega) (by unfold maxLen; omega) (by omega) (by simp; omega) ((wr).heap.size + 1) (by simp) ?_; intro gg14 cap14 wa14 hown_ hgr_ hat_ hlt_; have HP14 := Lib.hid hown_; have HQ14 := Lib.hid hgr_; clear hown_ hgr_ hat_ hlt_)
        refine ⟨⟨n, pre ++ [(k : Int)], by first | rfl | go_num, HW2.out, ?_, ?_⟩, by simp [intOf]; omega⟩
        · rw [List.length_append, List.length_singleton, ← HM14.out, i64s_append]
          exact HP14.out
        · exact gby_new (gby_alloc G12_.out _) HQ14.out (fun b hb => by have := own_from HO14.out b hb; omega)
      have hge : i ≥ 0 := hlt
      obtain ⟨j, rfl⟩ : ∃ j : Nat, i = (j : Int) := ⟨i.toNat, by omega⟩
      have hj0 : (0 : Int) ≤ (j : Int) := by omega
      have htj : ((j : Int)).toNat = j := by omega
      have hji : (j : Int) < (m : Int) := by omega
      have hjm : j < Z.length := by have := HM0.out; omega
      have hjw : IntKind.i64.wrap ((j : Int) - 1) = (j : Int) - 1 := IntWalk.i64_in _ (by omega)
      obtain ⟨zb, zo, rfl, hzc⟩ := HIZ.out.resolve_left (by have := HM0.out; omega)
      have hzc2 := hzc j (by omega)
      obtain ⟨n, hn, hn1, hn2⟩ := HZI.out (Z.getD j 0) (by rw [List.getD_eq_getElem?_getD, List.getElem?_eq_getElem hjm]; exact List.getElem_mem _)
      rw [hn] at hzc2
      have HZC := Lib.hid hzc2
      have HN := Lib.hid hn
      clear hn hzc hzc2
      have hn0 : (0 : Int) ≤ (n : Int) := by omega
      have htn : ((n : Int)).toNat = n := by omega
      have hnl : n < len := by rw [HE.out]; exact hn2
      have hni : (n : Int) < (len : Int) := by omega
      have hdrop : Z.drop j = (n : Int) :: Z.drop (j + 1) := by rw [List.drop_eq_getElem_cons hjm, ← HN.out, List.getD_eq_getElem?_getD, List.getElem?_eq_getElem hjm]; rfl
      have HDR := Lib.hid hdrop
      clear hdrop
      obtain ⟨wb, wo, rfl, hcellb⟩ := HA1.out.resolve_left (by omega)
      obtain ⟨z_, hz_⟩ : ∃ z_, z_ = bar ys n := ⟨_, rfl⟩
      have hzc_ := hcellb n (by omega)
      rw [← hz_] at hzc_
      obtain ⟨z0, z1⟩ := z_
      dsimp only at hzc_
      have Hz := Lib.hid hz_
      have Hz0 := Lib.hid hzc_.1
      have Hz1 := Lib.hid hzc_.2
      clear hzc_ hz_ hcellb
      have zz_ := (HTZ13_.out).cell HZC.out (by simp)
      have z0_ := (G12_.out).cell Hz0.out (by simp)
      have z1_ := (G12_.out).cell Hz1.out (by simp)
      by_cases hsp : SpansP z0 z1 x
      rotate_left
      · have HBS := Lib.hid hsp
        clear hsp
        go_wp2_with fail
        go_at_call 35
        refine (cov_no _ HBS.out).mono ?_
        rintro e w2 ⟨rfl, g⟩
        have szw2 := g.size
        try simp only [World.size_alloc] at szw2
        try simp only [World.size_setCell] at szw2
        clear y2_ z0_ z1_
        have G14_ := Lib.hid (show (W).grownBy (w2) none from gby_trans G12_.out g)
        have HTZ15_ := Lib.hid (show (w1).grownBy (w2) none from gby_trans HTZ13_.out g)
        clear HTZ13_
        clear g
        have y2_ := (G14_.out).cell Hy2.out (by simp)
        have z0_ := (G14_.out).cell Hz0.out (by simp)
        have z1_ := (G14_.out).cell Hz1.out (by simp)
        try clear zz_
        have zz2_ := (HTZ15_.out).cell HZC.out (by simp)
        go_wp2
        refine ⟨⟨(j : Int) - 1, d, by first | rfl | (rw [hjw]), rfl, by omega, by omega, ?_, HTZ15_.out⟩, by simp [intOf] <;> omega⟩
        rw [show ((j : Int) - 1 + 1).toNat = j by omega, HDR.out]
        have hs : ¬ SpB ys x n := by unfold SpB; rw [← Hz.out]; exact HBS.out
        simp only [fstW, htn, if_neg hs]
        rw [HD.out, show ((j : Int) + 1).toNat = j + 1 by omega]
      have HBS := Lib.hid hsp
      clear hsp
      go_wp2_with fail
      go_at_call 35
      refine (cov_yes _ HBS.out).mono ?_
      rintro e w2 ⟨rfl, g⟩
      have szw2 := g.size
      try simp only [World.size_alloc] at szw2
      try simp only [World.size_setCell] at szw2
      clear y2_ z0_ z1_
      have G14_ := Lib.hid (show (W).grownBy (w2) none from gby_trans G12_.out g)
      have HTZ15_ := Lib.hid (show (w1).grownBy (w2) none from gby_trans HTZ13_.out g)
      clear HTZ13_
      clear g
      have y2_ := (G14_.out).cell Hy2.out (by simp)
      have z0_ := (G14_.out).cell Hz0.out (by simp)
      have z1_ := (G14_.out).cell Hz1.out (by simp)
      try clear zz_
      have zz2_ := (HTZ15_.out).cell HZC.out (by simp)
      go_wp2
      refine ⟨⟨(j : Int) - 1, (n : Int), by first | rfl | (rw [hjw]), rfl, by omega, by omega, ?_, HTZ15_.out⟩, by simp [intOf] <;> omega⟩
      rw [show ((j : Int) - 1 + 1).toNat = j by omega, HDR.out]
      have hs : SpB ys x n := by unfold SpB; rw [← Hz.out]; exact HBS.out
      simp only [fstW, htn, if_pos hs]

noncomputable def downL (xs : List DNode) (ys : List DBar) (x : Int) : List Int := by
  classical exact if HaveW xs ys then dnL xs ys x 0 else []
theorem downL_yes {xs : List DNode} {ys : List DBar} {x : Int} (h : HaveW xs ys) : downL xs ys x = dnL xs ys x 0 := by unfold downL; rw [if_pos h]
theorem downL_no {xs : List DNode} {ys : List DBar} {x : Int} (h : ¬ HaveW xs ys) : downL xs ys x = [] := by unfold downL; rw [if_neg h]
theorem downL_len {xs : List DNode} {ys : List DBar} {x : Int} : (downL xs ys x).length ≤ 12 := by
  by_cases h : HaveW xs ys
  · rw [downL_yes h]
    have h1 := h.1.1.1
    have h2 := h.1.1.2
    have := dnW_len (xs := xs) (ys := ys) (x := x) xs.length 0 (by omega) (by omega)
    omega
  · rw [downL_no h]; simp

set_option maxRecDepth 8000 in
set_option maxHeartbeats 2000000 in
theorem specDown (W : World) (v u : Value) (xs : List DNode) (ys : List DBar) (H : RdL shNode W v xs) (Hb : RdL shBar W u ys) (hl : szL shNode xs ≤ 1048576) (hly : szL shBar ys ≤ 1048576) (x : Int) : Calls Try.prog 17 #[v, u, .int .i64 x] W (ResIDownToAddress (downL xs ys x) W) := by
  have HT := Lib.hid H
  have HW0 := Lib.hid Hb
  have HLX := Lib.hid hl
  have HLY := Lib.hid hly
  have hlx : xs.length ≤ 1048576 := by have := szL_len shNode xs; omega
  have hly2 : ys.length ≤ 1048576 := by have := szL_len shBar ys; omega
  obtain ⟨a0, cap, rfl, hcap, hi⟩ := rdN_in H
  obtain ⟨a1, cap1, rfl, hcap1, hi1⟩ := rdW_in Hb
  have HA := Lib.hid hi
  have HA1 := Lib.hid hi1
  obtain ⟨len, hlen⟩ : ∃ len, len = xs.length := ⟨_, rfl⟩
  obtain ⟨len1, hlen1⟩ : ∃ len, len = ys.length := ⟨_, rfl⟩
  have HE := Lib.hid hlen
  have HE1 := Lib.hid hlen1
  unfold RdN at HA
  unfold RdW at HA1
  rw [← hlen] at hlx HT HA ⊢
  rw [← hlen1] at hly2 HW0 HA1 ⊢
  clear H Hb hi hi1 hlen hlen1 hl hly hcap hcap1
  go_enter Try.func17, Try.ntmps17
  by_cases ht : TOk xs
  rotate_left
  · have HNT := Lib.hid ht
    clear ht
    go_wp2_with fail
    go_at_call 26
    refine (specTree_no _ _ xs (HT.out.grow (gby_refl _ _)) HLX.out HNT.out).mono ?_
    rintro e w1 ⟨rfl, g⟩
    have szw1 := g.size
    try simp only [World.size_alloc] at szw1
    try simp only [World.size_setCell] at szw1
    have G1_ := Lib.hid (show (W).grownBy (w1) none from gby_trans (gby_refl _ _) g)
    clear g
    go_wp2
    go_ret
    exact ⟨_, rfl, OwU.one (by rw [downL_no (fun q => HNT.out q.1)]; exact owL_empty (by first | omega | (simp only [World.size_alloc]; omega)) (by first | omega | (simp only [World.size_alloc]; omega))), gby_alloc G1_.out _⟩
  have HYT := Lib.hid ht
  clear ht
  by_cases hll : len1 = len
  rotate_left
  · have hbb : ((len1 : Int) == (len : Int)) = false := beq_eq_false_iff_ne.2 (by omega)
    have hbn : ((len1 : Int) != (len : Int)) = true := bne_iff_ne.2 (by omega)
    have HNL := Lib.hid hll
    clear hll
    go_wp2_with fail
    go_at_call 26
    refine (specTree_yes _ _ xs (HT.out.grow (gby_refl _ _)) HLX.out HYT.out).mono ?_
    rintro e w1 ⟨rfl, g⟩
    have szw1 := g.size
    try simp only [World.size_alloc] at szw1
    try simp only [World.size_setCell] at szw1
    have G1_ := Lib.hid (show (W).grownBy (w1) none from gby_trans (gby_refl _ _) g)
    clear g
    go_wp2
    go_ret
    exact ⟨_, rfl, OwU.one (by rw [downL_no (fun q => HNL.out (HE1.out.trans (q.2.trans HE.out.symm)))]; exact owL_empty (by first | omega | (simp only [World.size_alloc]; omega)) (by first | omega | (simp only [World.size_alloc]; omega))), gby_alloc G1_.out _⟩
  subst hll
  have hbb : ((len1 : Int) == (len1 : Int)) = true := by simp
  have hbn : ((len1 : Int) != (len1 : Int)) = false := by simp
  have HHW := Lib.hid (show HaveW xs ys from ⟨HYT.out, HE1.out.symm.trans HE.out⟩)
  go_wp2_with fail
  go_at_call 26
  refine (specTree_yes _ _ xs (HT.out.grow (gby_refl _ _)) HLX.out HYT.out).mono ?_
  rintro e w1 ⟨rfl, g⟩
  have szw1 := g.size
  try simp only [World.size_alloc] at szw1
  try simp only [World.size_setCell] at szw1
  have G1_ := Lib.hid (show (W).grownBy (w1) none from gby_trans (gby_refl _ _) g)
  clear g
  go_wp2_with fail
  go_at_call 38
  refine (show Calls _ _ _ _ (ResIDownToAddress (downL xs ys x) _) from by rw [downL_yes HHW.out]; exact l25Down_any _ _ _ xs ys 0 x (HT.out.grow G1_.out) (HW0.out.grow G1_.out) HLX.out HLY.out HHW.out.1 HHW.out.2 HHW.out.1.1.1).mono ?_
  rintro e w9 ⟨vr, rfl, o, g⟩
  have HO9 := Lib.hid o
  have szw9 := g.size
  try simp only [World.size_alloc] at szw9 HO9
  have G2_ := Lib.hid (show (W).grownBy (w9) none from gby_trans G1_.out g)
  clear g o
  go_wp2
  go_ret
  exact ⟨_, rfl, OwU.wide (by omega) (Nat.le_refl _) HO9.out, G2_.out⟩

set_option maxRecDepth 8000 in
set_option maxHeartbeats 2000000 in
theorem implDown (W : World) (v u : Value) (xs : List DNode) (ys : List DBar) (H : RdL shNode W v xs) (Hb : RdL shBar W u ys) (hl : szL shNode xs ≤ 1048576) (hly : szL shBar ys ≤ 1048576) (x : Int) : Calls Try.prog 18 #[v, u, .int .i64 x] W (ResIDownToAddress (downL xs ys x) W) := by
  have HT := Lib.hid H
  have HW0 := Lib.hid Hb
  have HLX := Lib.hid hl
  have HLY := Lib.hid hly
  have hlx : xs.length ≤ 1048576 := by have := szL_len shNode xs; omega
  have hly2 : ys.length ≤ 1048576 := by have := szL_len shBar ys; omega
  obtain ⟨a0, cap, rfl, hcap, hi⟩ := rdN_in H
  obtain ⟨a1, cap1, rfl, hcap1, hi1⟩ := rdW_in Hb
  have HA := Lib.hid hi
  have HA1 := Lib.hid hi1
  obtain ⟨len, hlen⟩ : ∃ len, len = xs.length := ⟨_, rfl⟩
  obtain ⟨len1, hlen1⟩ : ∃ len, len = ys.length := ⟨_, rfl⟩
  have HE := Lib.hid hlen
  have HE1 := Lib.hid hlen1
  unfold RdN at HA
  unfold RdW at HA1
  rw [← hlen] at hlx HT HA ⊢
  rw [← hlen1] at hly2 HW0 HA1 ⊢
  clear H Hb hi hi1 hlen hlen1 hl hly hcap hcap1
  go_enter Try.func18, Try.ntmps18
  by_cases hw : HaveW xs ys
  rotate_left
  · have HNW := Lib.hid hw
    clear hw
    go_wp2_with fail
    go_at_call 31
    refine ((implHaveW _ _ _ xs ys (HT.out.grow (gby_refl _ _)) (HW0.out.grow (gby_refl _ _)) HLX.out HLY.out).mono (bpost_no HNW.out)).mono ?_
    rintro e w1 ⟨rfl, g⟩
    have szw1 := g.size
    try simp only [World.size_alloc] at szw1
    try simp only [World.size_setCell] at szw1
    have G1_ := Lib.hid (show (W).grownBy (w1) none from gby_trans (gby_refl _ _) g)
    clear g
    go_wp2
    go_ret
    exact ⟨_, rfl, OwU.one (by rw [downL_no HNW.out]; exact owL_nil), G1_.out⟩
  have HHW := Lib.hid hw
  clear hw
  go_wp2_with fail
  go_at_call 31
  refine ((implHaveW _ _ _ xs ys (HT.out.grow (gby_refl _ _)) (HW0.out.grow (gby_refl _ _)) HLX.out HLY.out).mono (bpost_yes HHW.out)).mono ?_
  rintro e w1 ⟨rfl, g⟩
  have szw1 := g.size
  try simp only [World.size_alloc] at szw1
  try simp only [World.size_setCell] at szw1
  have G1_ := Lib.hid (show (W).grownBy (w1) none from gby_trans (gby_refl _ _) g)
  clear g
  go_wp2_with fail
  go_at_call 37
  refine (finder_any _ _ _ _ x).mono ?_
  rintro e w8 ⟨rfl, rfl⟩
  have al_ : (w1).grownBy ((w1).alloc (.cells #[.slice a1 len1 cap1] 27)) none := gby_alloc (gby_refl _ _) _
  have G2_ := Lib.hid (show (W).grownBy ((w1.alloc (.cells #[.slice a1 len1 cap1] 27))) none from gby_trans G1_.out al_)
  have rF13_ := Lib.hid (show ((w1.alloc (.cells #[.slice a1 len1 cap1] 27))).heap[w1.heap.size]? = some (.cells #[.slice a1 len1 cap1] 27 (0, 0)) from by first | exact heap_alloc_new _ _ | exact heap_pair _ _ _ | exact heap_trip _ _ _ _)
  clear al_
  have F1_0_ : ((w1.alloc (.cells #[.slice a1 len1 cap1] 27))).cell? ⟨w1.heap.size, 0, none⟩ = some (.slice a1 len1 cap1) := cell_of_row _ _ 0 _ _ _ rF13_.out
  clear F1_0_
  have al_ : ((w1.alloc (.cells #[.slice a1 len1 cap1] 27))).grownBy (((w1.alloc (.cells #[.slice a1 len1 cap1] 27))).alloc (.cells #[.int .i64 x] 3)) none := gby_alloc (gby_refl _ _) _
  have rF14_ := Lib.hid (show (((w1.alloc (.cells #[.slice a1 len1 cap1] 27)).alloc (.cells #[.int .i64 x] 3))).heap[w1.heap.size]? = some (.cells #[.slice a1 len1 cap1] 27 (0, 0)) from row_held al_ rF13_.out)
  clear rF13_
  have G5_ := Lib.hid (show (W).grownBy (((w1.alloc (.cells #[.slice a1 len1 cap1] 27)).alloc (.cells #[.int .i64 x] 3))) none from gby_trans G2_.out al_)
  have rF26_ := Lib.hid (show (((w1.alloc (.cells #[.slice a1 len1 cap1] 27)).alloc (.cells #[.int .i64 x] 3))).heap[w1.heap.size + 1]? = some (.cells #[.int .i64 x] 3 (0, 0)) from by first | exact heap_alloc_new _ _ | exact heap_pair _ _ _ | exact heap_trip _ _ _ _)
  clear al_
  have F1_0_ : (((w1.alloc (.cells #[.slice a1 len1 cap1] 27)).alloc (.cells #[.int .i64 x] 3))).cell? ⟨w1.heap.size, 0, none⟩ = some (.slice a1 len1 cap1) := cell_of_row _ _ 0 _ _ _ rF14_.out
  have F2_0_ : (((w1.alloc (.cells #[.slice a1 len1 cap1] 27)).alloc (.cells #[.int .i64 x] 3))).cell? ⟨w1.heap.size + 1, 0, none⟩ = some (.int .i64 x) := cell_of_row _ _ 0 _ _ _ rF26_.out
  go_wp2_with fail
  go_at_call 39
  refine (show Calls _ _ _ _ (ResIDownToAddress (downL xs ys x) _) from by rw [downL_yes HHW.out]; exact downFrom_any _ _ _ _ _ xs ys 0 x (HT.out.grow G5_.out) (HW0.out.grow G5_.out) HLX.out HLY.out HHW.out.1 HHW.out.2 HHW.out.1.1.1 (cell_of_row _ _ 0 _ _ _ rF14_.out) (cell_of_row _ _ 0 _ _ _ rF26_.out)).mono ?_
  rintro e w9 ⟨vr, rfl, o, g⟩
  have HO9 := Lib.hid o
  have szw9 := g.size
  try simp only [World.size_alloc] at szw9 HO9
  clear F1_0_ F2_0_
  have rF17_ := Lib.hid (show (w9).heap[w1.heap.size]? = some (.cells #[.slice a1 len1 cap1] 27 (0, 0)) from row_held g rF14_.out)
  clear rF14_
  have rF28_ := Lib.hid (show (w9).heap[w1.heap.size + 1]? = some (.cells #[.int .i64 x] 3 (0, 0)) from row_held g rF26_.out)
  clear rF26_
  have G9_ := Lib.hid (show (W).grownBy (w9) none from gby_trans G5_.out g)
  clear g o
  go_wp2
  go_ret
  exact ⟨_, rfl, OwU.wide (by omega) (Nat.le_refl _) HO9.out, G9_.out⟩

theorem downToAddress_both (xs0 : List DNode) (xs1 : List DBar) (i2 : Int) (h0 : szL shNode xs0 ≤ 1048576) (h1 : szL shBar xs1 ≤ 1048576) : ∃ (xsr0 : List Int), szL shI xsr0 ≤ 1048576 ∧ (∀ (W : World), ∀ u0 u1, RdL shNode W u0 xs0 → RdL shBar W u1 xs1 → Calls Try.prog 17 #[u0, u1, .int .i64 i2] W (ResSDownToAddress xsr0 W)) ∧ ∀ (W : World), ∀ u0 u1, RdL shNode W u0 xs0 → RdL shBar W u1 xs1 → Calls Try.prog 18 #[u0, u1, .int .i64 i2] W (ResIDownToAddress xsr0 W) :=
  ⟨downL xs0 xs1 i2, by rw [szL_I]; exact Nat.le_trans downL_len (by omega), fun W u0 u1 H0 H1 => (specDown W u0 u1 _ _ H0 H1 h0 h1 i2).mono (fun e w q => resS_ofDownToAddress e w q), fun W u0 u1 H0 H1 => implDown W u0 u1 _ _ H0 H1 h0 h1 i2⟩

end Go.Proofs.Ytdddidnibelmhaa
