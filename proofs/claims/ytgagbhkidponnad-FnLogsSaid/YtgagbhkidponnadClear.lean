/-
  ClearErrors, on both sides.
-/
import Derived.Test.YtgagbhkidponnadLogCp
import Derived.Test.YtgagbhkidponnadRClearErrors
namespace Go.Proofs.Ytgagbhkidponnad
open Go Go.RowKit
set_option linter.unusedVariables false

/-- the least bit that is set, or -1: of the last m of 16 -/
def dwn (s : Nat) : Nat → Int
  | 0 => -1
  | m + 1 => if bitB s (15 - m) = true then ((15 - m : Nat) : Int) else dwn s m
theorem dwn_zero : ∀ m, dwn 0 m = -1
  | 0 => rfl
  | m + 1 => by simp [dwn, bitB, dwn_zero m]
theorem dwn_none {s : Nat} : ∀ m, m ≤ 16 → dwn s m = -1 → ∀ k, 16 - m ≤ k → k < 16 → bitB s k = false
  | 0, _, _, k, h1, h2 => by omega
  | m + 1, hm, h, k, h1, h2 => by
    unfold dwn at h
    split at h
    · omega
    · next q =>
      by_cases e : k = 15 - m
      · subst e; simpa using q
      · exact dwn_none m (by omega) h k (by omega) h2
theorem dwn_ne {s : Nat} (h0 : ¬ s = 0) (h1 : s ≤ 65535) : ¬ dwn s 16 = -1 := by
  intro h
  have q := fun k hk => dwn_none 16 (Nat.le_refl _) h k (by omega) hk
  have b : ∀ k, k < 16 → s / 2 ^ k % 2 = 0 := fun k hk => by have := q k hk; unfold bitB at this; simp at this; omega
  have t : ∀ k, k ≤ 16 → s % 2 ^ k = 0 := by
    intro k
    induction k with
    | zero => intro _; simp [Nat.mod_one]
    | succ k ih => intro hk; rw [Nat.pow_succ, Nat.mod_mul, ih (by omega), b k (by omega)]; simp
  have := t 16 (Nat.le_refl _)
  rw [Nat.mod_eq_of_lt (by omega)] at this
  exact h0 this
/-- the first error that is left -/
def clF (s : Nat) (fi : Int) : Int := if 0 ≤ fi ∧ fi ≤ 15 ∧ bitB s fi.toNat = true then fi else dwn s 16
theorem clF_keep {s f : Nat} (hf : f ≤ 15) (h : bitB s f = true) : clF s (f : Int) = (f : Int) := by unfold clF; rw [if_pos ⟨by omega, by omega, by simpa using h⟩]
theorem clF_new {s f : Nat} (h : bitB s f = false) : clF s (f : Int) = dwn s 16 := by unfold clF; rw [if_neg (fun q => by have := q.2.2; simp only [Int.toNat_natCast] at this; rw [h] at this; cases this)]
theorem clF_out {s : Nat} {fi : Int} (h : fi < 0 ∨ 15 < fi) : clF s fi = dwn s 16 := by unfold clF; rw [if_neg (fun q => by omega)]
theorem clF_zero {fi : Int} : clF 0 fi = -1 := by unfold clF; rw [if_neg (fun q => by have := q.2.2; simp [bitB] at this), dwn_zero]
/-- what is left of the errors -/
def clS (s b : Nat) : Nat := s &&& (2 ^ 64 - (b + 1))
theorem clS_is {s b : Nat} (h1 : s ≤ 65535) (h2 : b ≤ 65535) : bits .andNot .i64 (s : Int) (b : Int) = (clS s b : Int) := andNot_nat _ _ (by omega) (by omega)
theorem clS_le (s b : Nat) : clS s b ≤ s := Nat.and_le_left

set_option maxRecDepth 8000 in
set_option maxHeartbeats 1000000 in
theorem least_any (s : Nat) (hs : s ≤ 65535) (W : World) : Calls Try.prog 53 #[.int .i64 (s : Int)] W (AnsN (.int .i64 (dwn s 16)) W) := by
  have HS := Lib.hid hs
  clear hs
  go_enter Try.func53, Try.ntmps53
  go_wp2
  go_loopw [3, 4] (fun z i wr => ∃ n : Nat, (∃ q, z = q) ∧ i = .int .i64 (n : Int) ∧ n ≤ 16 ∧ dwn s 16 = dwn s (16 - n) ∧ (W).grownBy wr none) (fun _ i _ => 16 - (intOf i).toNat)
  case atStart => exact ⟨0, ⟨_, rfl⟩, rfl, by omega, rfl, gby_refl _ _⟩
  case round =>
    obtain ⟨n, ⟨z, rfl⟩, rfl, hn, hd, hg⟩ := hrel
    have szrwr := hg.size
    try simp only [World.size_alloc] at szrwr
    try simp only [World.size_setCell] at szrwr
    have szr_ := szrwr
    have G1_ := Lib.hid (show (W).grownBy (wr) none from gby_trans (gby_refl _ _) hg)
    have HTB_ := Lib.hid hg
    clear hg
    have HD := Lib.hid hd
    clear hd
    have hn0 : (0 : Int) ≤ (n : Int) := by omega
    have htn : ((n : Int)).toNat = n := by omega
    by_cases hlt : n < 16
    rotate_left
    · obtain rfl : n = 16 := by omega
      have hki : ¬ ((16 : Nat) : Int) < 16 := by omega
      go_wp2
      go_ret
      exact ⟨by rw [HD.out]; rfl, G1_.out⟩
    have hki : (n : Int) < 16 := by omega
    have e_ : dwn s (16 - n) = if bitB s n = true then (n : Int) else dwn s (16 - (n + 1)) := by
      obtain ⟨m, hm⟩ : ∃ m, 16 - n = m + 1 := ⟨15 - n, by omega⟩
      have h2 : 15 - m = n := by omega
      have h3 : 16 - (n + 1) = m := by omega
      rw [hm, h3]; simp only [dwn, h2]
    have HE_ := Lib.hid e_
    clear e_
    have HHE := Lib.hid (fun W => hasErr_in s n W HS.out (by omega))
    cases hb : bitB s n with
    | true =>
      rw [hb] at HHE HE_
      clear hb
      go_wp2_with fail
      go_at_call 51
      refine (HHE.out _).mono ?_
      rintro e w1 ⟨rfl, hd⟩
      have g := hd.gby none
      clear hd
      have szw1 := g.size
      try simp only [World.size_alloc] at szw1
      try simp only [World.size_setCell] at szw1
      have G2_ := Lib.hid (show (W).grownBy (w1) none from gby_trans G1_.out g)
      have HTB3_ := Lib.hid (show (W).grownBy (w1) none from gby_trans HTB_.out g)
      clear HTB_
      clear g
      go_wp2
      go_ret
      exact ⟨by rw [HD.out, HE_.out, if_pos (by simp)]; rfl, G2_.out⟩

    | false =>
      rw [hb] at HHE HE_
      clear hb
      go_wp2_with fail
      go_at_call 51
      refine (HHE.out _).mono ?_
      rintro e w1 ⟨rfl, hd⟩
      have g := hd.gby none
      clear hd
      have szw1 := g.size
      try simp only [World.size_alloc] at szw1
      try simp only [World.size_setCell] at szw1
      have G2_ := Lib.hid (show (W).grownBy (w1) none from gby_trans G1_.out g)
      have HTB3_ := Lib.hid (show (W).grownBy (w1) none from gby_trans HTB_.out g)
      clear HTB_
      clear g
      go_wp2
      refine ⟨⟨n + 1, ⟨_, rfl⟩, by go_num, by omega, by rw [HD.out, HE_.out, if_neg (by simp)], HTB3_.out⟩, by simp [intOf]; omega⟩

set_option maxRecDepth 8000 in
set_option maxHeartbeats 2000000 in
theorem specClear_bad (W : World) (st ma fi : Int) (v : Value) (xs : List Int) (bt : Int) (H : RdL shI W v xs) (hl : szL shI xs ≤ 1048576) (hb : ¬ LOk st ma fi xs) : Calls Try.prog 18 #[vLog st ma fi v, .int .i64 bt] W (ResIClearErrors st ma fi xs W) := by
  have HSL := Lib.hid H
  have HL := Lib.hid hl
  obtain ⟨a1, n1, c1, rfl⟩ := RdL.form H
  clear H hl
  unfold vLog
  have HOK := Lib.hid hb
  clear hb
  go_enter Try.func18, Try.ntmps18
  have rA1_ := Lib.hid (show (((W.alloc (.cells #[.int .i64 st, .int .i64 ma, .int .i64 fi, .slice a1 n1 c1] 26)).alloc (.cells #[.int .i64 0, .int .i64 0, .int .i64 0, .slice none 0 0] 26))).heap[W.heap.size]? = some (.cells #[.int .i64 st, .int .i64 ma, .int .i64 fi, .slice a1 n1 c1] 26 (0, 0)) from by rw [heap_alloc_old _ _ (by simp only [World.size_alloc]; omega)]; exact heap_alloc_new _ _)
  have rR2_ := Lib.hid (show (((W.alloc (.cells #[.int .i64 st, .int .i64 ma, .int .i64 fi, .slice a1 n1 c1] 26)).alloc (.cells #[.int .i64 0, .int .i64 0, .int .i64 0, .slice none 0 0] 26))).heap[W.heap.size + 1]? = some (.cells #[.int .i64 0, .int .i64 0, .int .i64 0, .slice none 0 0] 26 (0, 0)) from by exact heap_pair _ _ _)
  have G3_ := Lib.hid (show (W).grownBy (((W.alloc (.cells #[.int .i64 st, .int .i64 ma, .int .i64 fi, .slice a1 n1 c1] 26)).alloc (.cells #[.int .i64 0, .int .i64 0, .int .i64 0, .slice none 0 0] 26))) none from (gby_alloc (gby_alloc (gby_refl _ _) _) _))
  have A_0_ : (((W.alloc (.cells #[.int .i64 st, .int .i64 ma, .int .i64 fi, .slice a1 n1 c1] 26)).alloc (.cells #[.int .i64 0, .int .i64 0, .int .i64 0, .slice none 0 0] 26))).cell? ⟨W.heap.size, 0, none⟩ = some (.int .i64 st) := cell_of_row _ _ 0 _ _ _ rA1_.out
  have A_1_ : (((W.alloc (.cells #[.int .i64 st, .int .i64 ma, .int .i64 fi, .slice a1 n1 c1] 26)).alloc (.cells #[.int .i64 0, .int .i64 0, .int .i64 0, .slice none 0 0] 26))).cell? ⟨W.heap.size, 1, none⟩ = some (.int .i64 ma) := cell_of_row _ _ 1 _ _ _ rA1_.out
  have A_2_ : (((W.alloc (.cells #[.int .i64 st, .int .i64 ma, .int .i64 fi, .slice a1 n1 c1] 26)).alloc (.cells #[.int .i64 0, .int .i64 0, .int .i64 0, .slice none 0 0] 26))).cell? ⟨W.heap.size, 2, none⟩ = some (.int .i64 fi) := cell_of_row _ _ 2 _ _ _ rA1_.out
  have A_3_ : (((W.alloc (.cells #[.int .i64 st, .int .i64 ma, .int .i64 fi, .slice a1 n1 c1] 26)).alloc (.cells #[.int .i64 0, .int .i64 0, .int .i64 0, .slice none 0 0] 26))).cell? ⟨W.heap.size, 3, none⟩ = some (.slice a1 n1 c1) := cell_of_row _ _ 3 _ _ _ rA1_.out
  have R_0_ : (((W.alloc (.cells #[.int .i64 st, .int .i64 ma, .int .i64 fi, .slice a1 n1 c1] 26)).alloc (.cells #[.int .i64 0, .int .i64 0, .int .i64 0, .slice none 0 0] 26))).cell? ⟨W.heap.size + 1, 0, none⟩ = some (.int .i64 0) := cell_of_row _ _ 0 _ _ _ rR2_.out
  have R_1_ : (((W.alloc (.cells #[.int .i64 st, .int .i64 ma, .int .i64 fi, .slice a1 n1 c1] 26)).alloc (.cells #[.int .i64 0, .int .i64 0, .int .i64 0, .slice none 0 0] 26))).cell? ⟨W.heap.size + 1, 1, none⟩ = some (.int .i64 0) := cell_of_row _ _ 1 _ _ _ rR2_.out
  have R_2_ : (((W.alloc (.cells #[.int .i64 st, .int .i64 ma, .int .i64 fi, .slice a1 n1 c1] 26)).alloc (.cells #[.int .i64 0, .int .i64 0, .int .i64 0, .slice none 0 0] 26))).cell? ⟨W.heap.size + 1, 2, none⟩ = some (.int .i64 0) := cell_of_row _ _ 2 _ _ _ rR2_.out
  have R_3_ : (((W.alloc (.cells #[.int .i64 st, .int .i64 ma, .int .i64 fi, .slice a1 n1 c1] 26)).alloc (.cells #[.int .i64 0, .int .i64 0, .int .i64 0, .slice none 0 0] 26))).cell? ⟨W.heap.size + 1, 3, none⟩ = some (.slice none 0 0) := cell_of_row _ _ 3 _ _ _ rR2_.out
  go_wp2_with fail
  go_at_call 45
  refine (copyLog_d _ _ _ _ _ xs (HSL.out.grow G3_.out) HL.out).mono ?_
  rintro e w1 ⟨d, rfl, o, g⟩
  have sz_ := g.size
  try simp only [World.size_alloc] at sz_ o
  clear A_0_ A_1_ A_2_ A_3_ R_0_ R_1_ R_2_ R_3_
  have rA4_ := Lib.hid (show (w1).heap[W.heap.size]? = some (.cells #[.int .i64 st, .int .i64 ma, .int .i64 fi, .slice a1 n1 c1] 26 (0, 0)) from row_held g rA1_.out)
  clear rA1_
  have rR5_ := Lib.hid (show (w1).heap[W.heap.size + 1]? = some (.cells #[.int .i64 0, .int .i64 0, .int .i64 0, .slice none 0 0] 26 (0, 0)) from row_held g rR2_.out)
  clear rR2_
  have G6_ := Lib.hid (show (W).grownBy (w1) none from gby_trans G3_.out g)
  clear g
  obtain ⟨qp, qn, qc, hv2⟩ := RdL.form (OwU.rd o)
  subst hv2
  unfold vLog
  have oC7_ := Lib.hid (show OwU (w1) (W.heap.size + 1 + 1) (w1.heap.size) [] [own shI (.slice qp qn qc) xs] from o)
  clear o
  have al_ : (w1).grownBy ((w1).alloc (.cells #[.int .i64 st, .int .i64 ma, .int .i64 fi, .slice qp qn qc] 26)) none := gby_alloc (gby_refl _ _) _
  have rA8_ := Lib.hid (show ((w1.alloc (.cells #[.int .i64 st, .int .i64 ma, .int .i64 fi, .slice qp qn qc] 26))).heap[W.heap.size]? = some (.cells #[.int .i64 st, .int .i64 ma, .int .i64 fi, .slice a1 n1 c1] 26 (0, 0)) from row_held al_ rA4_.out)
  clear rA4_
  have rR9_ := Lib.hid (show ((w1.alloc (.cells #[.int .i64 st, .int .i64 ma, .int .i64 fi, .slice qp qn qc] 26))).heap[W.heap.size + 1]? = some (.cells #[.int .i64 0, .int .i64 0, .int .i64 0, .slice none 0 0] 26 (0, 0)) from row_held al_ rR5_.out)
  clear rR5_
  have oC10_ := Lib.hid (show OwU ((w1.alloc (.cells #[.int .i64 st, .int .i64 ma, .int .i64 fi, .slice qp qn qc] 26))) (W.heap.size + 1 + 1) (w1.heap.size) [] [own shI (.slice qp qn qc) xs] from OwU.grow oC7_.out al_)
  clear oC7_
  have G11_ := Lib.hid (show (W).grownBy ((w1.alloc (.cells #[.int .i64 st, .int .i64 ma, .int .i64 fi, .slice qp qn qc] 26))) none from gby_trans G6_.out al_)
  have rX12_ := Lib.hid (show ((w1.alloc (.cells #[.int .i64 st, .int .i64 ma, .int .i64 fi, .slice qp qn qc] 26))).heap[w1.heap.size]? = some (.cells #[.int .i64 st, .int .i64 ma, .int .i64 fi, .slice qp qn qc] 26 (0, 0)) from heap_alloc_new _ _)
  clear al_
  have A_0_ : ((w1.alloc (.cells #[.int .i64 st, .int .i64 ma, .int .i64 fi, .slice qp qn qc] 26))).cell? ⟨W.heap.size, 0, none⟩ = some (.int .i64 st) := cell_of_row _ _ 0 _ _ _ rA8_.out
  have A_1_ : ((w1.alloc (.cells #[.int .i64 st, .int .i64 ma, .int .i64 fi, .slice qp qn qc] 26))).cell? ⟨W.heap.size, 1, none⟩ = some (.int .i64 ma) := cell_of_row _ _ 1 _ _ _ rA8_.out
  have A_2_ : ((w1.alloc (.cells #[.int .i64 st, .int .i64 ma, .int .i64 fi, .slice qp qn qc] 26))).cell? ⟨W.heap.size, 2, none⟩ = some (.int .i64 fi) := cell_of_row _ _ 2 _ _ _ rA8_.out
  have A_3_ : ((w1.alloc (.cells #[.int .i64 st, .int .i64 ma, .int .i64 fi, .slice qp qn qc] 26))).cell? ⟨W.heap.size, 3, none⟩ = some (.slice a1 n1 c1) := cell_of_row _ _ 3 _ _ _ rA8_.out
  have R_0_ : ((w1.alloc (.cells #[.int .i64 st, .int .i64 ma, .int .i64 fi, .slice qp qn qc] 26))).cell? ⟨W.heap.size + 1, 0, none⟩ = some (.int .i64 0) := cell_of_row _ _ 0 _ _ _ rR9_.out
  have R_1_ : ((w1.alloc (.cells #[.int .i64 st, .int .i64 ma, .int .i64 fi, .slice qp qn qc] 26))).cell? ⟨W.heap.size + 1, 1, none⟩ = some (.int .i64 0) := cell_of_row _ _ 1 _ _ _ rR9_.out
  have R_2_ : ((w1.alloc (.cells #[.int .i64 st, .int .i64 ma, .int .i64 fi, .slice qp qn qc] 26))).cell? ⟨W.heap.size + 1, 2, none⟩ = some (.int .i64 0) := cell_of_row _ _ 2 _ _ _ rR9_.out
  have R_3_ : ((w1.alloc (.cells #[.int .i64 st, .int .i64 ma, .int .i64 fi, .slice qp qn qc] 26))).cell? ⟨W.heap.size + 1, 3, none⟩ = some (.slice none 0 0) := cell_of_row _ _ 3 _ _ _ rR9_.out
  have X_0_ : ((w1.alloc (.cells #[.int .i64 st, .int .i64 ma, .int .i64 fi, .slice qp qn qc] 26))).cell? ⟨w1.heap.size, 0, none⟩ = some (.int .i64 st) := cell_of_row _ _ 0 _ _ _ rX12_.out
  have X_1_ : ((w1.alloc (.cells #[.int .i64 st, .int .i64 ma, .int .i64 fi, .slice qp qn qc] 26))).cell? ⟨w1.heap.size, 1, none⟩ = some (.int .i64 ma) := cell_of_row _ _ 1 _ _ _ rX12_.out
  have X_2_ : ((w1.alloc (.cells #[.int .i64 st, .int .i64 ma, .int .i64 fi, .slice qp qn qc] 26))).cell? ⟨w1.heap.size, 2, none⟩ = some (.int .i64 fi) := cell_of_row _ _ 2 _ _ _ rX12_.out
  have X_3_ : ((w1.alloc (.cells #[.int .i64 st, .int .i64 ma, .int .i64 fi, .slice qp qn qc] 26))).cell? ⟨w1.heap.size, 3, none⟩ = some (.slice qp qn qc) := cell_of_row _ _ 3 _ _ _ rX12_.out
  go_wp2_with fail
  go_at_call 46
  refine (specLog_no _ _ _ _ _ xs (HSL.out.grow G11_.out) HL.out HOK.out).mono ?_
  rintro e w2 ⟨rfl, g⟩
  have szl_ := g.size
  try simp only [World.size_setCell, World.size_alloc] at szl_
  clear A_0_ A_1_ A_2_ A_3_ R_0_ R_1_ R_2_ R_3_ X_0_ X_1_ X_2_ X_3_
  have rA13_ := Lib.hid (show (w2).heap[W.heap.size]? = some (.cells #[.int .i64 st, .int .i64 ma, .int .i64 fi, .slice a1 n1 c1] 26 (0, 0)) from row_held g rA8_.out)
  clear rA8_
  have rR14_ := Lib.hid (show (w2).heap[W.heap.size + 1]? = some (.cells #[.int .i64 0, .int .i64 0, .int .i64 0, .slice none 0 0] 26 (0, 0)) from row_held g rR9_.out)
  clear rR9_
  have rX15_ := Lib.hid (show (w2).heap[w1.heap.size]? = some (.cells #[.int .i64 st, .int .i64 ma, .int .i64 fi, .slice qp qn qc] 26 (0, 0)) from row_held g rX12_.out)
  clear rX12_
  have oC16_ := Lib.hid (show OwU (w2) (W.heap.size + 1 + 1) (w1.heap.size) [] [own shI (.slice qp qn qc) xs] from OwU.grow oC10_.out g)
  clear oC10_
  have G17_ := Lib.hid (show (W).grownBy (w2) none from gby_trans G11_.out g)
  clear g
  have A_0_ : (w2).cell? ⟨W.heap.size, 0, none⟩ = some (.int .i64 st) := cell_of_row _ _ 0 _ _ _ rA13_.out
  have A_1_ : (w2).cell? ⟨W.heap.size, 1, none⟩ = some (.int .i64 ma) := cell_of_row _ _ 1 _ _ _ rA13_.out
  have A_2_ : (w2).cell? ⟨W.heap.size, 2, none⟩ = some (.int .i64 fi) := cell_of_row _ _ 2 _ _ _ rA13_.out
  have A_3_ : (w2).cell? ⟨W.heap.size, 3, none⟩ = some (.slice a1 n1 c1) := cell_of_row _ _ 3 _ _ _ rA13_.out
  have R_0_ : (w2).cell? ⟨W.heap.size + 1, 0, none⟩ = some (.int .i64 0) := cell_of_row _ _ 0 _ _ _ rR14_.out
  have R_1_ : (w2).cell? ⟨W.heap.size + 1, 1, none⟩ = some (.int .i64 0) := cell_of_row _ _ 1 _ _ _ rR14_.out
  have R_2_ : (w2).cell? ⟨W.heap.size + 1, 2, none⟩ = some (.int .i64 0) := cell_of_row _ _ 2 _ _ _ rR14_.out
  have R_3_ : (w2).cell? ⟨W.heap.size + 1, 3, none⟩ = some (.slice none 0 0) := cell_of_row _ _ 3 _ _ _ rR14_.out
  have X_0_ : (w2).cell? ⟨w1.heap.size, 0, none⟩ = some (.int .i64 st) := cell_of_row _ _ 0 _ _ _ rX15_.out
  have X_1_ : (w2).cell? ⟨w1.heap.size, 1, none⟩ = some (.int .i64 ma) := cell_of_row _ _ 1 _ _ _ rX15_.out
  have X_2_ : (w2).cell? ⟨w1.heap.size, 2, none⟩ = some (.int .i64 fi) := cell_of_row _ _ 2 _ _ _ rX15_.out
  have X_3_ : (w2).cell? ⟨w1.heap.size, 3, none⟩ = some (.slice qp qn qc) := cell_of_row _ _ 3 _ _ _ rX15_.out
  clear A_0_ A_1_ A_2_ A_3_ R_0_ R_1_ R_2_ R_3_ X_0_ X_1_ X_2_ X_3_
  have A_0_ : (w2).cell? ⟨W.heap.size, 0, none⟩ = some (.int .i64 st) := cell_of_row _ _ 0 _ _ _ rA13_.out
  have A_1_ : (w2).cell? ⟨W.heap.size, 1, none⟩ = some (.int .i64 ma) := cell_of_row _ _ 1 _ _ _ rA13_.out
  have A_2_ : (w2).cell? ⟨W.heap.size, 2, none⟩ = some (.int .i64 fi) := cell_of_row _ _ 2 _ _ _ rA13_.out
  have A_3_ : (w2).cell? ⟨W.heap.size, 3, none⟩ = some (.slice a1 n1 c1) := cell_of_row _ _ 3 _ _ _ rA13_.out
  have R_0_ : (w2).cell? ⟨W.heap.size + 1, 0, none⟩ = some (.int .i64 0) := cell_of_row _ _ 0 _ _ _ rR14_.out
  have R_1_ : (w2).cell? ⟨W.heap.size + 1, 1, none⟩ = some (.int .i64 0) := cell_of_row _ _ 1 _ _ _ rR14_.out
  have R_2_ : (w2).cell? ⟨W.heap.size + 1, 2, none⟩ = some (.int .i64 0) := cell_of_row _ _ 2 _ _ _ rR14_.out
  have R_3_ : (w2).cell? ⟨W.heap.size + 1, 3, none⟩ = some (.slice none 0 0) := cell_of_row _ _ 3 _ _ _ rR14_.out
  have Rf0_ : (w2).frozen? ⟨W.heap.size + 1, 0, none⟩ = false := frozen_of_row _ _ 0 _ _ rR14_.out
  have Rf1_ : (w2).frozen? ⟨W.heap.size + 1, 1, none⟩ = false := frozen_of_row _ _ 1 _ _ rR14_.out
  have Rf2_ : (w2).frozen? ⟨W.heap.size + 1, 2, none⟩ = false := frozen_of_row _ _ 2 _ _ rR14_.out
  have Rf3_ : (w2).frozen? ⟨W.heap.size + 1, 3, none⟩ = false := frozen_of_row _ _ 3 _ _ rR14_.out
  have X_0_ : (w2).cell? ⟨w1.heap.size, 0, none⟩ = some (.int .i64 st) := cell_of_row _ _ 0 _ _ _ rX15_.out
  have X_1_ : (w2).cell? ⟨w1.heap.size, 1, none⟩ = some (.int .i64 ma) := cell_of_row _ _ 1 _ _ _ rX15_.out
  have X_2_ : (w2).cell? ⟨w1.heap.size, 2, none⟩ = some (.int .i64 fi) := cell_of_row _ _ 2 _ _ _ rX15_.out
  have X_3_ : (w2).cell? ⟨w1.heap.size, 3, none⟩ = some (.slice qp qn qc) := cell_of_row _ _ 3 _ _ _ rX15_.out
  have zr_ := Lib.hid (show (((((w2.setCell ⟨W.heap.size + 1, 0, none⟩ (.int .i64 st)).setCell ⟨W.heap.size + 1, 1, none⟩ (.int .i64 ma)).setCell ⟨W.heap.size + 1, 2, none⟩ (.int .i64 fi)).setCell ⟨W.heap.size + 1, 3, none⟩ (.slice qp qn qc))).heap[W.heap.size + 1]? = some (.cells #[.int .i64 st, .int .i64 ma, .int .i64 fi, .slice qp qn qc] 26 (0, 0)) from (heap_setCell_same _ _ 3 _ _ _ (heap_setCell_same _ _ 2 _ _ _ (heap_setCell_same _ _ 1 _ _ _ (heap_setCell_same _ _ 0 _ _ _ rR14_.out)))))
  have z0_ : (((((w2.setCell ⟨W.heap.size + 1, 0, none⟩ (.int .i64 st)).setCell ⟨W.heap.size + 1, 1, none⟩ (.int .i64 ma)).setCell ⟨W.heap.size + 1, 2, none⟩ (.int .i64 fi)).setCell ⟨W.heap.size + 1, 3, none⟩ (.slice qp qn qc))).cell? ⟨W.heap.size + 1, 0, none⟩ = some (.int .i64 st) := cell_of_row _ _ 0 _ _ _ zr_.out
  have z1_ : (((((w2.setCell ⟨W.heap.size + 1, 0, none⟩ (.int .i64 st)).setCell ⟨W.heap.size + 1, 1, none⟩ (.int .i64 ma)).setCell ⟨W.heap.size + 1, 2, none⟩ (.int .i64 fi)).setCell ⟨W.heap.size + 1, 3, none⟩ (.slice qp qn qc))).cell? ⟨W.heap.size + 1, 1, none⟩ = some (.int .i64 ma) := cell_of_row _ _ 1 _ _ _ zr_.out
  have z2_ : (((((w2.setCell ⟨W.heap.size + 1, 0, none⟩ (.int .i64 st)).setCell ⟨W.heap.size + 1, 1, none⟩ (.int .i64 ma)).setCell ⟨W.heap.size + 1, 2, none⟩ (.int .i64 fi)).setCell ⟨W.heap.size + 1, 3, none⟩ (.slice qp qn qc))).cell? ⟨W.heap.size + 1, 2, none⟩ = some (.int .i64 fi) := cell_of_row _ _ 2 _ _ _ zr_.out
  have z3_ : (((((w2.setCell ⟨W.heap.size + 1, 0, none⟩ (.int .i64 st)).setCell ⟨W.heap.size + 1, 1, none⟩ (.int .i64 ma)).setCell ⟨W.heap.size + 1, 2, none⟩ (.int .i64 fi)).setCell ⟨W.heap.size + 1, 3, none⟩ (.slice qp qn qc))).cell? ⟨W.heap.size + 1, 3, none⟩ = some (.slice qp qn qc) := cell_of_row _ _ 3 _ _ _ zr_.out
  go_wp2
  refine bodyPost_ret (v := .agg #[.int .i64 st, .int .i64 ma, .int .i64 fi, .slice qp qn qc]) (by simp [results, go_sem, z0_, z1_, z2_, z3_]) rfl ⟨_, rfl, ?_, ?_⟩
  · exact OwU.wide (lo := W.heap.size + 1 + 1) (by omega) (by simp only [World.size_setCell]; omega) (OwU.keep (chg_one _ _ _ _) (.inr (by omega)) (OwU.keep (chg_one _ _ _ _) (.inr (by omega)) (OwU.keep (chg_one _ _ _ _) (.inr (by omega)) (OwU.keep (chg_one _ _ _ _) (.inr (by omega)) oC16_.out))))
  · exact (gby_setnew (gby_setnew (gby_setnew (gby_setnew G17_.out _ (by dsimp only; omega) _) _ (by dsimp only; omega) _) _ (by dsimp only; omega) _) _ (by dsimp only; omega) _)

set_option maxRecDepth 8000 in
set_option maxHeartbeats 2000000 in
theorem specClear_out (W : World) (st ma fi : Int) (v : Value) (xs : List Int) (bt : Int) (H : RdL shI W v xs) (hl : szL shI xs ≤ 1048576) (hb : LOk st ma fi xs) (hk : bt < 0 ∨ 65535 < bt) : Calls Try.prog 18 #[vLog st ma fi v, .int .i64 bt] W (ResIClearErrors st ma fi xs W) := by
  have HSL := Lib.hid H
  have HL := Lib.hid hl
  obtain ⟨a1, n1, c1, rfl⟩ := RdL.form H
  clear H hl
  unfold vLog
  have HOK := Lib.hid hb
  have HK := Lib.hid hk
  clear hk
  clear hb
  go_enter Try.func18, Try.ntmps18
  have rA1_ := Lib.hid (show (((W.alloc (.cells #[.int .i64 st, .int .i64 ma, .int .i64 fi, .slice a1 n1 c1] 26)).alloc (.cells #[.int .i64 0, .int .i64 0, .int .i64 0, .slice none 0 0] 26))).heap[W.heap.size]? = some (.cells #[.int .i64 st, .int .i64 ma, .int .i64 fi, .slice a1 n1 c1] 26 (0, 0)) from by rw [heap_alloc_old _ _ (by simp only [World.size_alloc]; omega)]; exact heap_alloc_new _ _)
  have rR2_ := Lib.hid (show (((W.alloc (.cells #[.int .i64 st, .int .i64 ma, .int .i64 fi, .slice a1 n1 c1] 26)).alloc (.cells #[.int .i64 0, .int .i64 0, .int .i64 0, .slice none 0 0] 26))).heap[W.heap.size + 1]? = some (.cells #[.int .i64 0, .int .i64 0, .int .i64 0, .slice none 0 0] 26 (0, 0)) from by exact heap_pair _ _ _)
  have G3_ := Lib.hid (show (W).grownBy (((W.alloc (.cells #[.int .i64 st, .int .i64 ma, .int .i64 fi, .slice a1 n1 c1] 26)).alloc (.cells #[.int .i64 0, .int .i64 0, .int .i64 0, .slice none 0 0] 26))) none from (gby_alloc (gby_alloc (gby_refl _ _) _) _))
  have A_0_ : (((W.alloc (.cells #[.int .i64 st, .int .i64 ma, .int .i64 fi, .slice a1 n1 c1] 26)).alloc (.cells #[.int .i64 0, .int .i64 0, .int .i64 0, .slice none 0 0] 26))).cell? ⟨W.heap.size, 0, none⟩ = some (.int .i64 st) := cell_of_row _ _ 0 _ _ _ rA1_.out
  have A_1_ : (((W.alloc (.cells #[.int .i64 st, .int .i64 ma, .int .i64 fi, .slice a1 n1 c1] 26)).alloc (.cells #[.int .i64 0, .int .i64 0, .int .i64 0, .slice none 0 0] 26))).cell? ⟨W.heap.size, 1, none⟩ = some (.int .i64 ma) := cell_of_row _ _ 1 _ _ _ rA1_.out
  have A_2_ : (((W.alloc (.cells #[.int .i64 st, .int .i64 ma, .int .i64 fi, .slice a1 n1 c1] 26)).alloc (.cells #[.int .i64 0, .int .i64 0, .int .i64 0, .slice none 0 0] 26))).cell? ⟨W.heap.size, 2, none⟩ = some (.int .i64 fi) := cell_of_row _ _ 2 _ _ _ rA1_.out
  have A_3_ : (((W.alloc (.cells #[.int .i64 st, .int .i64 ma, .int .i64 fi, .slice a1 n1 c1] 26)).alloc (.cells #[.int .i64 0, .int .i64 0, .int .i64 0, .slice none 0 0] 26))).cell? ⟨W.heap.size, 3, none⟩ = some (.slice a1 n1 c1) := cell_of_row _ _ 3 _ _ _ rA1_.out
  have R_0_ : (((W.alloc (.cells #[.int .i64 st, .int .i64 ma, .int .i64 fi, .slice a1 n1 c1] 26)).alloc (.cells #[.int .i64 0, .int .i64 0, .int .i64 0, .slice none 0 0] 26))).cell? ⟨W.heap.size + 1, 0, none⟩ = some (.int .i64 0) := cell_of_row _ _ 0 _ _ _ rR2_.out
  have R_1_ : (((W.alloc (.cells #[.int .i64 st, .int .i64 ma, .int .i64 fi, .slice a1 n1 c1] 26)).alloc (.cells #[.int .i64 0, .int .i64 0, .int .i64 0, .slice none 0 0] 26))).cell? ⟨W.heap.size + 1, 1, none⟩ = some (.int .i64 0) := cell_of_row _ _ 1 _ _ _ rR2_.out
  have R_2_ : (((W.alloc (.cells #[.int .i64 st, .int .i64 ma, .int .i64 fi, .slice a1 n1 c1] 26)).alloc (.cells #[.int .i64 0, .int .i64 0, .int .i64 0, .slice none 0 0] 26))).cell? ⟨W.heap.size + 1, 2, none⟩ = some (.int .i64 0) := cell_of_row _ _ 2 _ _ _ rR2_.out
  have R_3_ : (((W.alloc (.cells #[.int .i64 st, .int .i64 ma, .int .i64 fi, .slice a1 n1 c1] 26)).alloc (.cells #[.int .i64 0, .int .i64 0, .int .i64 0, .slice none 0 0] 26))).cell? ⟨W.heap.size + 1, 3, none⟩ = some (.slice none 0 0) := cell_of_row _ _ 3 _ _ _ rR2_.out
  go_wp2_with fail
  go_at_call 45
  refine (copyLog_d _ _ _ _ _ xs (HSL.out.grow G3_.out) HL.out).mono ?_
  rintro e w1 ⟨d, rfl, o, g⟩
  have sz_ := g.size
  try simp only [World.size_alloc] at sz_ o
  clear A_0_ A_1_ A_2_ A_3_ R_0_ R_1_ R_2_ R_3_
  have rA4_ := Lib.hid (show (w1).heap[W.heap.size]? = some (.cells #[.int .i64 st, .int .i64 ma, .int .i64 fi, .slice a1 n1 c1] 26 (0, 0)) from row_held g rA1_.out)
  clear rA1_
  have rR5_ := Lib.hid (show (w1).heap[W.heap.size + 1]? = some (.cells #[.int .i64 0, .int .i64 0, .int .i64 0, .slice none 0 0] 26 (0, 0)) from row_held g rR2_.out)
  clear rR2_
  have G6_ := Lib.hid (show (W).grownBy (w1) none from gby_trans G3_.out g)
  clear g
  obtain ⟨qp, qn, qc, hv2⟩ := RdL.form (OwU.rd o)
  subst hv2
  unfold vLog
  have oC7_ := Lib.hid (show OwU (w1) (W.heap.size + 1 + 1) (w1.heap.size) [] [own shI (.slice qp qn qc) xs] from o)
  clear o
  have al_ : (w1).grownBy ((w1).alloc (.cells #[.int .i64 st, .int .i64 ma, .int .i64 fi, .slice qp qn qc] 26)) none := gby_alloc (gby_refl _ _) _
  have rA8_ := Lib.hid (show ((w1.alloc (.cells #[.int .i64 st, .int .i64 ma, .int .i64 fi, .slice qp qn qc] 26))).heap[W.heap.size]? = some (.cells #[.int .i64 st, .int .i64 ma, .int .i64 fi, .slice a1 n1 c1] 26 (0, 0)) from row_held al_ rA4_.out)
  clear rA4_
  have rR9_ := Lib.hid (show ((w1.alloc (.cells #[.int .i64 st, .int .i64 ma, .int .i64 fi, .slice qp qn qc] 26))).heap[W.heap.size + 1]? = some (.cells #[.int .i64 0, .int .i64 0, .int .i64 0, .slice none 0 0] 26 (0, 0)) from row_held al_ rR5_.out)
  clear rR5_
  have oC10_ := Lib.hid (show OwU ((w1.alloc (.cells #[.int .i64 st, .int .i64 ma, .int .i64 fi, .slice qp qn qc] 26))) (W.heap.size + 1 + 1) (w1.heap.size) [] [own shI (.slice qp qn qc) xs] from OwU.grow oC7_.out al_)
  clear oC7_
  have G11_ := Lib.hid (show (W).grownBy ((w1.alloc (.cells #[.int .i64 st, .int .i64 ma, .int .i64 fi, .slice qp qn qc] 26))) none from gby_trans G6_.out al_)
  have rX12_ := Lib.hid (show ((w1.alloc (.cells #[.int .i64 st, .int .i64 ma, .int .i64 fi, .slice qp qn qc] 26))).heap[w1.heap.size]? = some (.cells #[.int .i64 st, .int .i64 ma, .int .i64 fi, .slice qp qn qc] 26 (0, 0)) from heap_alloc_new _ _)
  clear al_
  have A_0_ : ((w1.alloc (.cells #[.int .i64 st, .int .i64 ma, .int .i64 fi, .slice qp qn qc] 26))).cell? ⟨W.heap.size, 0, none⟩ = some (.int .i64 st) := cell_of_row _ _ 0 _ _ _ rA8_.out
  have A_1_ : ((w1.alloc (.cells #[.int .i64 st, .int .i64 ma, .int .i64 fi, .slice qp qn qc] 26))).cell? ⟨W.heap.size, 1, none⟩ = some (.int .i64 ma) := cell_of_row _ _ 1 _ _ _ rA8_.out
  have A_2_ : ((w1.alloc (.cells #[.int .i64 st, .int .i64 ma, .int .i64 fi, .slice qp qn qc] 26))).cell? ⟨W.heap.size, 2, none⟩ = some (.int .i64 fi) := cell_of_row _ _ 2 _ _ _ rA8_.out
  have A_3_ : ((w1.alloc (.cells #[.int .i64 st, .int .i64 ma, .int .i64 fi, .slice qp qn qc] 26))).cell? ⟨W.heap.size, 3, none⟩ = some (.slice a1 n1 c1) := cell_of_row _ _ 3 _ _ _ rA8_.out
  have R_0_ : ((w1.alloc (.cells #[.int .i64 st, .int .i64 ma, .int .i64 fi, .slice qp qn qc] 26))).cell? ⟨W.heap.size + 1, 0, none⟩ = some (.int .i64 0) := cell_of_row _ _ 0 _ _ _ rR9_.out
  have R_1_ : ((w1.alloc (.cells #[.int .i64 st, .int .i64 ma, .int .i64 fi, .slice qp qn qc] 26))).cell? ⟨W.heap.size + 1, 1, none⟩ = some (.int .i64 0) := cell_of_row _ _ 1 _ _ _ rR9_.out
  have R_2_ : ((w1.alloc (.cells #[.int .i64 st, .int .i64 ma, .int .i64 fi, .slice qp qn qc] 26))).cell? ⟨W.heap.size + 1, 2, none⟩ = some (.int .i64 0) := cell_of_row _ _ 2 _ _ _ rR9_.out
  have R_3_ : ((w1.alloc (.cells #[.int .i64 st, .int .i64 ma, .int .i64 fi, .slice qp qn qc] 26))).cell? ⟨W.heap.size + 1, 3, none⟩ = some (.slice none 0 0) := cell_of_row _ _ 3 _ _ _ rR9_.out
  have X_0_ : ((w1.alloc (.cells #[.int .i64 st, .int .i64 ma, .int .i64 fi, .slice qp qn qc] 26))).cell? ⟨w1.heap.size, 0, none⟩ = some (.int .i64 st) := cell_of_row _ _ 0 _ _ _ rX12_.out
  have X_1_ : ((w1.alloc (.cells #[.int .i64 st, .int .i64 ma, .int .i64 fi, .slice qp qn qc] 26))).cell? ⟨w1.heap.size, 1, none⟩ = some (.int .i64 ma) := cell_of_row _ _ 1 _ _ _ rX12_.out
  have X_2_ : ((w1.alloc (.cells #[.int .i64 st, .int .i64 ma, .int .i64 fi, .slice qp qn qc] 26))).cell? ⟨w1.heap.size, 2, none⟩ = some (.int .i64 fi) := cell_of_row _ _ 2 _ _ _ rX12_.out
  have X_3_ : ((w1.alloc (.cells #[.int .i64 st, .int .i64 ma, .int .i64 fi, .slice qp qn qc] 26))).cell? ⟨w1.heap.size, 3, none⟩ = some (.slice qp qn qc) := cell_of_row _ _ 3 _ _ _ rX12_.out
  go_wp2_with fail
  go_at_call 46
  refine (specLog_yes _ _ _ _ _ xs (HSL.out.grow G11_.out) HL.out HOK.out).mono ?_
  rintro e w2 ⟨rfl, g⟩
  have szl_ := g.size
  try simp only [World.size_setCell, World.size_alloc] at szl_
  clear A_0_ A_1_ A_2_ A_3_ R_0_ R_1_ R_2_ R_3_ X_0_ X_1_ X_2_ X_3_
  have rA13_ := Lib.hid (show (w2).heap[W.heap.size]? = some (.cells #[.int .i64 st, .int .i64 ma, .int .i64 fi, .slice a1 n1 c1] 26 (0, 0)) from row_held g rA8_.out)
  clear rA8_
  have rR14_ := Lib.hid (show (w2).heap[W.heap.size + 1]? = some (.cells #[.int .i64 0, .int .i64 0, .int .i64 0, .slice none 0 0] 26 (0, 0)) from row_held g rR9_.out)
  clear rR9_
  have rX15_ := Lib.hid (show (w2).heap[w1.heap.size]? = some (.cells #[.int .i64 st, .int .i64 ma, .int .i64 fi, .slice qp qn qc] 26 (0, 0)) from row_held g rX12_.out)
  clear rX12_
  have oC16_ := Lib.hid (show OwU (w2) (W.heap.size + 1 + 1) (w1.heap.size) [] [own shI (.slice qp qn qc) xs] from OwU.grow oC10_.out g)
  clear oC10_
  have G17_ := Lib.hid (show (W).grownBy (w2) none from gby_trans G11_.out g)
  clear g
  have A_0_ : (w2).cell? ⟨W.heap.size, 0, none⟩ = some (.int .i64 st) := cell_of_row _ _ 0 _ _ _ rA13_.out
  have A_1_ : (w2).cell? ⟨W.heap.size, 1, none⟩ = some (.int .i64 ma) := cell_of_row _ _ 1 _ _ _ rA13_.out
  have A_2_ : (w2).cell? ⟨W.heap.size, 2, none⟩ = some (.int .i64 fi) := cell_of_row _ _ 2 _ _ _ rA13_.out
  have A_3_ : (w2).cell? ⟨W.heap.size, 3, none⟩ = some (.slice a1 n1 c1) := cell_of_row _ _ 3 _ _ _ rA13_.out
  have R_0_ : (w2).cell? ⟨W.heap.size + 1, 0, none⟩ = some (.int .i64 0) := cell_of_row _ _ 0 _ _ _ rR14_.out
  have R_1_ : (w2).cell? ⟨W.heap.size + 1, 1, none⟩ = some (.int .i64 0) := cell_of_row _ _ 1 _ _ _ rR14_.out
  have R_2_ : (w2).cell? ⟨W.heap.size + 1, 2, none⟩ = some (.int .i64 0) := cell_of_row _ _ 2 _ _ _ rR14_.out
  have R_3_ : (w2).cell? ⟨W.heap.size + 1, 3, none⟩ = some (.slice none 0 0) := cell_of_row _ _ 3 _ _ _ rR14_.out
  have X_0_ : (w2).cell? ⟨w1.heap.size, 0, none⟩ = some (.int .i64 st) := cell_of_row _ _ 0 _ _ _ rX15_.out
  have X_1_ : (w2).cell? ⟨w1.heap.size, 1, none⟩ = some (.int .i64 ma) := cell_of_row _ _ 1 _ _ _ rX15_.out
  have X_2_ : (w2).cell? ⟨w1.heap.size, 2, none⟩ = some (.int .i64 fi) := cell_of_row _ _ 2 _ _ _ rX15_.out
  have X_3_ : (w2).cell? ⟨w1.heap.size, 3, none⟩ = some (.slice qp qn qc) := cell_of_row _ _ 3 _ _ _ rX15_.out
  go_wp2_with fail
  go_at_call 47
  refine (in_no _ _ _ _ HK.out).mono ?_
  rintro e w3_ ⟨rfl, rfl⟩
  clear A_0_ A_1_ A_2_ A_3_ R_0_ R_1_ R_2_ R_3_ X_0_ X_1_ X_2_ X_3_
  have A_0_ : (w2).cell? ⟨W.heap.size, 0, none⟩ = some (.int .i64 st) := cell_of_row _ _ 0 _ _ _ rA13_.out
  have A_1_ : (w2).cell? ⟨W.heap.size, 1, none⟩ = some (.int .i64 ma) := cell_of_row _ _ 1 _ _ _ rA13_.out
  have A_2_ : (w2).cell? ⟨W.heap.size, 2, none⟩ = some (.int .i64 fi) := cell_of_row _ _ 2 _ _ _ rA13_.out
  have A_3_ : (w2).cell? ⟨W.heap.size, 3, none⟩ = some (.slice a1 n1 c1) := cell_of_row _ _ 3 _ _ _ rA13_.out
  have R_0_ : (w2).cell? ⟨W.heap.size + 1, 0, none⟩ = some (.int .i64 0) := cell_of_row _ _ 0 _ _ _ rR14_.out
  have R_1_ : (w2).cell? ⟨W.heap.size + 1, 1, none⟩ = some (.int .i64 0) := cell_of_row _ _ 1 _ _ _ rR14_.out
  have R_2_ : (w2).cell? ⟨W.heap.size + 1, 2, none⟩ = some (.int .i64 0) := cell_of_row _ _ 2 _ _ _ rR14_.out
  have R_3_ : (w2).cell? ⟨W.heap.size + 1, 3, none⟩ = some (.slice none 0 0) := cell_of_row _ _ 3 _ _ _ rR14_.out
  have Rf0_ : (w2).frozen? ⟨W.heap.size + 1, 0, none⟩ = false := frozen_of_row _ _ 0 _ _ rR14_.out
  have Rf1_ : (w2).frozen? ⟨W.heap.size + 1, 1, none⟩ = false := frozen_of_row _ _ 1 _ _ rR14_.out
  have Rf2_ : (w2).frozen? ⟨W.heap.size + 1, 2, none⟩ = false := frozen_of_row _ _ 2 _ _ rR14_.out
  have Rf3_ : (w2).frozen? ⟨W.heap.size + 1, 3, none⟩ = false := frozen_of_row _ _ 3 _ _ rR14_.out
  have X_0_ : (w2).cell? ⟨w1.heap.size, 0, none⟩ = some (.int .i64 st) := cell_of_row _ _ 0 _ _ _ rX15_.out
  have X_1_ : (w2).cell? ⟨w1.heap.size, 1, none⟩ = some (.int .i64 ma) := cell_of_row _ _ 1 _ _ _ rX15_.out
  have X_2_ : (w2).cell? ⟨w1.heap.size, 2, none⟩ = some (.int .i64 fi) := cell_of_row _ _ 2 _ _ _ rX15_.out
  have X_3_ : (w2).cell? ⟨w1.heap.size, 3, none⟩ = some (.slice qp qn qc) := cell_of_row _ _ 3 _ _ _ rX15_.out
  have zr_ := Lib.hid (show (((((w2.setCell ⟨W.heap.size + 1, 0, none⟩ (.int .i64 st)).setCell ⟨W.heap.size + 1, 1, none⟩ (.int .i64 ma)).setCell ⟨W.heap.size + 1, 2, none⟩ (.int .i64 fi)).setCell ⟨W.heap.size + 1, 3, none⟩ (.slice qp qn qc))).heap[W.heap.size + 1]? = some (.cells #[.int .i64 st, .int .i64 ma, .int .i64 fi, .slice qp qn qc] 26 (0, 0)) from (heap_setCell_same _ _ 3 _ _ _ (heap_setCell_same _ _ 2 _ _ _ (heap_setCell_same _ _ 1 _ _ _ (heap_setCell_same _ _ 0 _ _ _ rR14_.out)))))
  have z0_ : (((((w2.setCell ⟨W.heap.size + 1, 0, none⟩ (.int .i64 st)).setCell ⟨W.heap.size + 1, 1, none⟩ (.int .i64 ma)).setCell ⟨W.heap.size + 1, 2, none⟩ (.int .i64 fi)).setCell ⟨W.heap.size + 1, 3, none⟩ (.slice qp qn qc))).cell? ⟨W.heap.size + 1, 0, none⟩ = some (.int .i64 st) := cell_of_row _ _ 0 _ _ _ zr_.out
  have z1_ : (((((w2.setCell ⟨W.heap.size + 1, 0, none⟩ (.int .i64 st)).setCell ⟨W.heap.size + 1, 1, none⟩ (.int .i64 ma)).setCell ⟨W.heap.size + 1, 2, none⟩ (.int .i64 fi)).setCell ⟨W.heap.size + 1, 3, none⟩ (.slice qp qn qc))).cell? ⟨W.heap.size + 1, 1, none⟩ = some (.int .i64 ma) := cell_of_row _ _ 1 _ _ _ zr_.out
  have z2_ : (((((w2.setCell ⟨W.heap.size + 1, 0, none⟩ (.int .i64 st)).setCell ⟨W.heap.size + 1, 1, none⟩ (.int .i64 ma)).setCell ⟨W.heap.size + 1, 2, none⟩ (.int .i64 fi)).setCell ⟨W.heap.size + 1, 3, none⟩ (.slice qp qn qc))).cell? ⟨W.heap.size + 1, 2, none⟩ = some (.int .i64 fi) := cell_of_row _ _ 2 _ _ _ zr_.out
  have z3_ : (((((w2.setCell ⟨W.heap.size + 1, 0, none⟩ (.int .i64 st)).setCell ⟨W.heap.size + 1, 1, none⟩ (.int .i64 ma)).setCell ⟨W.heap.size + 1, 2, none⟩ (.int .i64 fi)).setCell ⟨W.heap.size + 1, 3, none⟩ (.slice qp qn qc))).cell? ⟨W.heap.size + 1, 3, none⟩ = some (.slice qp qn qc) := cell_of_row _ _ 3 _ _ _ zr_.out
  go_wp2
  refine bodyPost_ret (v := .agg #[.int .i64 st, .int .i64 ma, .int .i64 fi, .slice qp qn qc]) (by simp [results, go_sem, z0_, z1_, z2_, z3_]) rfl ⟨_, rfl, ?_, ?_⟩
  · exact OwU.wide (lo := W.heap.size + 1 + 1) (by omega) (by simp only [World.size_setCell]; omega) (OwU.keep (chg_one _ _ _ _) (.inr (by omega)) (OwU.keep (chg_one _ _ _ _) (.inr (by omega)) (OwU.keep (chg_one _ _ _ _) (.inr (by omega)) (OwU.keep (chg_one _ _ _ _) (.inr (by omega)) oC16_.out))))
  · exact (gby_setnew (gby_setnew (gby_setnew (gby_setnew G17_.out _ (by dsimp only; omega) _) _ (by dsimp only; omega) _) _ (by dsimp only; omega) _) _ (by dsimp only; omega) _)

set_option maxRecDepth 8000 in
set_option maxHeartbeats 2000000 in
theorem implClear_bad (W : World) (st ma fi : Int) (v : Value) (xs : List Int) (bt : Int) (H : RdL shI W v xs) (hl : szL shI xs ≤ 1048576) (hb : ¬ LOk st ma fi xs) : Calls Try.prog 19 #[vLog st ma fi v, .int .i64 bt] W (ResIClearErrors st ma fi xs W) := by
  have HSL := Lib.hid H
  have HL := Lib.hid hl
  obtain ⟨a1, n1, c1, rfl⟩ := RdL.form H
  clear H hl
  unfold vLog
  have HOK := Lib.hid hb
  clear hb
  go_enter Try.func19, Try.ntmps19
  have rA1_ := Lib.hid (show (((W.alloc (.cells #[.int .i64 st, .int .i64 ma, .int .i64 fi, .slice a1 n1 c1] 26)).alloc (.cells #[.int .i64 0, .int .i64 0, .int .i64 0, .slice none 0 0] 26))).heap[W.heap.size]? = some (.cells #[.int .i64 st, .int .i64 ma, .int .i64 fi, .slice a1 n1 c1] 26 (0, 0)) from by rw [heap_alloc_old _ _ (by simp only [World.size_alloc]; omega)]; exact heap_alloc_new _ _)
  have rR2_ := Lib.hid (show (((W.alloc (.cells #[.int .i64 st, .int .i64 ma, .int .i64 fi, .slice a1 n1 c1] 26)).alloc (.cells #[.int .i64 0, .int .i64 0, .int .i64 0, .slice none 0 0] 26))).heap[W.heap.size + 1]? = some (.cells #[.int .i64 0, .int .i64 0, .int .i64 0, .slice none 0 0] 26 (0, 0)) from by exact heap_pair _ _ _)
  have G3_ := Lib.hid (show (W).grownBy (((W.alloc (.cells #[.int .i64 st, .int .i64 ma, .int .i64 fi, .slice a1 n1 c1] 26)).alloc (.cells #[.int .i64 0, .int .i64 0, .int .i64 0, .slice none 0 0] 26))) none from (gby_alloc (gby_alloc (gby_refl _ _) _) _))
  have A_0_ : (((W.alloc (.cells #[.int .i64 st, .int .i64 ma, .int .i64 fi, .slice a1 n1 c1] 26)).alloc (.cells #[.int .i64 0, .int .i64 0, .int .i64 0, .slice none 0 0] 26))).cell? ⟨W.heap.size, 0, none⟩ = some (.int .i64 st) := cell_of_row _ _ 0 _ _ _ rA1_.out
  have A_1_ : (((W.alloc (.cells #[.int .i64 st, .int .i64 ma, .int .i64 fi, .slice a1 n1 c1] 26)).alloc (.cells #[.int .i64 0, .int .i64 0, .int .i64 0, .slice none 0 0] 26))).cell? ⟨W.heap.size, 1, none⟩ = some (.int .i64 ma) := cell_of_row _ _ 1 _ _ _ rA1_.out
  have A_2_ : (((W.alloc (.cells #[.int .i64 st, .int .i64 ma, .int .i64 fi, .slice a1 n1 c1] 26)).alloc (.cells #[.int .i64 0, .int .i64 0, .int .i64 0, .slice none 0 0] 26))).cell? ⟨W.heap.size, 2, none⟩ = some (.int .i64 fi) := cell_of_row _ _ 2 _ _ _ rA1_.out
  have A_3_ : (((W.alloc (.cells #[.int .i64 st, .int .i64 ma, .int .i64 fi, .slice a1 n1 c1] 26)).alloc (.cells #[.int .i64 0, .int .i64 0, .int .i64 0, .slice none 0 0] 26))).cell? ⟨W.heap.size, 3, none⟩ = some (.slice a1 n1 c1) := cell_of_row _ _ 3 _ _ _ rA1_.out
  have R_0_ : (((W.alloc (.cells #[.int .i64 st, .int .i64 ma, .int .i64 fi, .slice a1 n1 c1] 26)).alloc (.cells #[.int .i64 0, .int .i64 0, .int .i64 0, .slice none 0 0] 26))).cell? ⟨W.heap.size + 1, 0, none⟩ = some (.int .i64 0) := cell_of_row _ _ 0 _ _ _ rR2_.out
  have R_1_ : (((W.alloc (.cells #[.int .i64 st, .int .i64 ma, .int .i64 fi, .slice a1 n1 c1] 26)).alloc (.cells #[.int .i64 0, .int .i64 0, .int .i64 0, .slice none 0 0] 26))).cell? ⟨W.heap.size + 1, 1, none⟩ = some (.int .i64 0) := cell_of_row _ _ 1 _ _ _ rR2_.out
  have R_2_ : (((W.alloc (.cells #[.int .i64 st, .int .i64 ma, .int .i64 fi, .slice a1 n1 c1] 26)).alloc (.cells #[.int .i64 0, .int .i64 0, .int .i64 0, .slice none 0 0] 26))).cell? ⟨W.heap.size + 1, 2, none⟩ = some (.int .i64 0) := cell_of_row _ _ 2 _ _ _ rR2_.out
  have R_3_ : (((W.alloc (.cells #[.int .i64 st, .int .i64 ma, .int .i64 fi, .slice a1 n1 c1] 26)).alloc (.cells #[.int .i64 0, .int .i64 0, .int .i64 0, .slice none 0 0] 26))).cell? ⟨W.heap.size + 1, 3, none⟩ = some (.slice none 0 0) := cell_of_row _ _ 3 _ _ _ rR2_.out
  go_wp2_with fail
  go_at_call 49
  refine (copiedLog_d _ _ _ _ _ xs (HSL.out.grow G3_.out) HL.out).mono ?_
  rintro e w1 ⟨d, rfl, o, g⟩
  have sz_ := g.size
  try simp only [World.size_alloc] at sz_ o
  clear A_0_ A_1_ A_2_ A_3_ R_0_ R_1_ R_2_ R_3_
  have rA4_ := Lib.hid (show (w1).heap[W.heap.size]? = some (.cells #[.int .i64 st, .int .i64 ma, .int .i64 fi, .slice a1 n1 c1] 26 (0, 0)) from row_held g rA1_.out)
  clear rA1_
  have rR5_ := Lib.hid (show (w1).heap[W.heap.size + 1]? = some (.cells #[.int .i64 0, .int .i64 0, .int .i64 0, .slice none 0 0] 26 (0, 0)) from row_held g rR2_.out)
  clear rR2_
  have G6_ := Lib.hid (show (W).grownBy (w1) none from gby_trans G3_.out g)
  clear g
  obtain ⟨qp, qn, qc, hv2⟩ := RdL.form (OwU.rd o)
  subst hv2
  unfold vLog
  have oC7_ := Lib.hid (show OwU (w1) (W.heap.size + 1 + 1) (w1.heap.size) [] [own shI (.slice qp qn qc) xs] from o)
  clear o
  have A_0_ : (w1).cell? ⟨W.heap.size, 0, none⟩ = some (.int .i64 st) := cell_of_row _ _ 0 _ _ _ rA4_.out
  have A_1_ : (w1).cell? ⟨W.heap.size, 1, none⟩ = some (.int .i64 ma) := cell_of_row _ _ 1 _ _ _ rA4_.out
  have A_2_ : (w1).cell? ⟨W.heap.size, 2, none⟩ = some (.int .i64 fi) := cell_of_row _ _ 2 _ _ _ rA4_.out
  have A_3_ : (w1).cell? ⟨W.heap.size, 3, none⟩ = some (.slice a1 n1 c1) := cell_of_row _ _ 3 _ _ _ rA4_.out
  have Af0_ : (w1).frozen? ⟨W.heap.size, 0, none⟩ = false := frozen_of_row _ _ 0 _ _ rA4_.out
  have Af1_ : (w1).frozen? ⟨W.heap.size, 1, none⟩ = false := frozen_of_row _ _ 1 _ _ rA4_.out
  have Af2_ : (w1).frozen? ⟨W.heap.size, 2, none⟩ = false := frozen_of_row _ _ 2 _ _ rA4_.out
  have Af3_ : (w1).frozen? ⟨W.heap.size, 3, none⟩ = false := frozen_of_row _ _ 3 _ _ rA4_.out
  have R_0_ : (w1).cell? ⟨W.heap.size + 1, 0, none⟩ = some (.int .i64 0) := cell_of_row _ _ 0 _ _ _ rR5_.out
  have R_1_ : (w1).cell? ⟨W.heap.size + 1, 1, none⟩ = some (.int .i64 0) := cell_of_row _ _ 1 _ _ _ rR5_.out
  have R_2_ : (w1).cell? ⟨W.heap.size + 1, 2, none⟩ = some (.int .i64 0) := cell_of_row _ _ 2 _ _ _ rR5_.out
  have R_3_ : (w1).cell? ⟨W.heap.size + 1, 3, none⟩ = some (.slice none 0 0) := cell_of_row _ _ 3 _ _ _ rR5_.out
  go_wp2_with fail
  go_at_call 23
  clear A_0_ A_1_ A_2_ A_3_ Af0_ Af1_ Af2_ Af3_ R_0_ R_1_ R_2_ R_3_
  have rR8_ := Lib.hid (show (((((w1.setCell ⟨W.heap.size, 0, none⟩ (.int .i64 st)).setCell ⟨W.heap.size, 1, none⟩ (.int .i64 ma)).setCell ⟨W.heap.size, 2, none⟩ (.int .i64 fi)).setCell ⟨W.heap.size, 3, none⟩ (.slice qp qn qc))).heap[W.heap.size + 1]? = some (.cells #[.int .i64 0, .int .i64 0, .int .i64 0, .slice none 0 0] 26 (0, 0)) from (set_far (set_far (set_far (set_far rR5_.out (by dsimp only; omega)) (by dsimp only; omega)) (by dsimp only; omega)) (by dsimp only; omega)))
  clear rR5_
  have rA9_ := Lib.hid (show (((((w1.setCell ⟨W.heap.size, 0, none⟩ (.int .i64 st)).setCell ⟨W.heap.size, 1, none⟩ (.int .i64 ma)).setCell ⟨W.heap.size, 2, none⟩ (.int .i64 fi)).setCell ⟨W.heap.size, 3, none⟩ (.slice qp qn qc))).heap[W.heap.size]? = some (.cells #[.int .i64 st, .int .i64 ma, .int .i64 fi, .slice qp qn qc] 26 (0, 0)) from (heap_setCell_same _ _ 3 _ _ _ (heap_setCell_same _ _ 2 _ _ _ (heap_setCell_same _ _ 1 _ _ _ (heap_setCell_same _ _ 0 _ _ _ rA4_.out)))))
  clear rA4_
  have oC10_ := Lib.hid (show OwU (((((w1.setCell ⟨W.heap.size, 0, none⟩ (.int .i64 st)).setCell ⟨W.heap.size, 1, none⟩ (.int .i64 ma)).setCell ⟨W.heap.size, 2, none⟩ (.int .i64 fi)).setCell ⟨W.heap.size, 3, none⟩ (.slice qp qn qc))) (W.heap.size + 1 + 1) (w1.heap.size) [] [own shI (.slice qp qn qc) xs] from (OwU.keep (chg_one _ _ _ _) (by omega) (OwU.keep (chg_one _ _ _ _) (by omega) (OwU.keep (chg_one _ _ _ _) (by omega) (OwU.keep (chg_one _ _ _ _) (by omega) oC7_.out)))))
  clear oC7_
  have G11_ := Lib.hid (show (W).grownBy (((((w1.setCell ⟨W.heap.size, 0, none⟩ (.int .i64 st)).setCell ⟨W.heap.size, 1, none⟩ (.int .i64 ma)).setCell ⟨W.heap.size, 2, none⟩ (.int .i64 fi)).setCell ⟨W.heap.size, 3, none⟩ (.slice qp qn qc))) none from (gby_setnew (gby_setnew (gby_setnew (gby_setnew G6_.out _ (by dsimp only; omega) _) _ (by dsimp only; omega) _) _ (by dsimp only; omega) _) _ (by dsimp only; omega) _))
  have A_0_ : (((((w1.setCell ⟨W.heap.size, 0, none⟩ (.int .i64 st)).setCell ⟨W.heap.size, 1, none⟩ (.int .i64 ma)).setCell ⟨W.heap.size, 2, none⟩ (.int .i64 fi)).setCell ⟨W.heap.size, 3, none⟩ (.slice qp qn qc))).cell? ⟨W.heap.size, 0, none⟩ = some (.int .i64 st) := cell_of_row _ _ 0 _ _ _ rA9_.out
  have A_1_ : (((((w1.setCell ⟨W.heap.size, 0, none⟩ (.int .i64 st)).setCell ⟨W.heap.size, 1, none⟩ (.int .i64 ma)).setCell ⟨W.heap.size, 2, none⟩ (.int .i64 fi)).setCell ⟨W.heap.size, 3, none⟩ (.slice qp qn qc))).cell? ⟨W.heap.size, 1, none⟩ = some (.int .i64 ma) := cell_of_row _ _ 1 _ _ _ rA9_.out
  have A_2_ : (((((w1.setCell ⟨W.heap.size, 0, none⟩ (.int .i64 st)).setCell ⟨W.heap.size, 1, none⟩ (.int .i64 ma)).setCell ⟨W.heap.size, 2, none⟩ (.int .i64 fi)).setCell ⟨W.heap.size, 3, none⟩ (.slice qp qn qc))).cell? ⟨W.heap.size, 2, none⟩ = some (.int .i64 fi) := cell_of_row _ _ 2 _ _ _ rA9_.out
  have A_3_ : (((((w1.setCell ⟨W.heap.size, 0, none⟩ (.int .i64 st)).setCell ⟨W.heap.size, 1, none⟩ (.int .i64 ma)).setCell ⟨W.heap.size, 2, none⟩ (.int .i64 fi)).setCell ⟨W.heap.size, 3, none⟩ (.slice qp qn qc))).cell? ⟨W.heap.size, 3, none⟩ = some (.slice qp qn qc) := cell_of_row _ _ 3 _ _ _ rA9_.out
  have R_0_ : (((((w1.setCell ⟨W.heap.size, 0, none⟩ (.int .i64 st)).setCell ⟨W.heap.size, 1, none⟩ (.int .i64 ma)).setCell ⟨W.heap.size, 2, none⟩ (.int .i64 fi)).setCell ⟨W.heap.size, 3, none⟩ (.slice qp qn qc))).cell? ⟨W.heap.size + 1, 0, none⟩ = some (.int .i64 0) := cell_of_row _ _ 0 _ _ _ rR8_.out
  have R_1_ : (((((w1.setCell ⟨W.heap.size, 0, none⟩ (.int .i64 st)).setCell ⟨W.heap.size, 1, none⟩ (.int .i64 ma)).setCell ⟨W.heap.size, 2, none⟩ (.int .i64 fi)).setCell ⟨W.heap.size, 3, none⟩ (.slice qp qn qc))).cell? ⟨W.heap.size + 1, 1, none⟩ = some (.int .i64 0) := cell_of_row _ _ 1 _ _ _ rR8_.out
  have R_2_ : (((((w1.setCell ⟨W.heap.size, 0, none⟩ (.int .i64 st)).setCell ⟨W.heap.size, 1, none⟩ (.int .i64 ma)).setCell ⟨W.heap.size, 2, none⟩ (.int .i64 fi)).setCell ⟨W.heap.size, 3, none⟩ (.slice qp qn qc))).cell? ⟨W.heap.size + 1, 2, none⟩ = some (.int .i64 0) := cell_of_row _ _ 2 _ _ _ rR8_.out
  have R_3_ : (((((w1.setCell ⟨W.heap.size, 0, none⟩ (.int .i64 st)).setCell ⟨W.heap.size, 1, none⟩ (.int .i64 ma)).setCell ⟨W.heap.size, 2, none⟩ (.int .i64 fi)).setCell ⟨W.heap.size, 3, none⟩ (.slice qp qn qc))).cell? ⟨W.heap.size + 1, 3, none⟩ = some (.slice none 0 0) := cell_of_row _ _ 3 _ _ _ rR8_.out
  refine (implLog_no _ _ _ _ _ xs (OwU.rd oC10_.out) HL.out HOK.out).mono ?_
  rintro e w2 ⟨rfl, g⟩
  have szl_ := g.size
  try simp only [World.size_setCell, World.size_alloc] at szl_
  clear A_0_ A_1_ A_2_ A_3_ R_0_ R_1_ R_2_ R_3_
  have rA12_ := Lib.hid (show (w2).heap[W.heap.size]? = some (.cells #[.int .i64 st, .int .i64 ma, .int .i64 fi, .slice qp qn qc] 26 (0, 0)) from row_held g rA9_.out)
  clear rA9_
  have rR13_ := Lib.hid (show (w2).heap[W.heap.size + 1]? = some (.cells #[.int .i64 0, .int .i64 0, .int .i64 0, .slice none 0 0] 26 (0, 0)) from row_held g rR8_.out)
  clear rR8_
  have oC14_ := Lib.hid (show OwU (w2) (W.heap.size + 1 + 1) (w1.heap.size) [] [own shI (.slice qp qn qc) xs] from OwU.grow oC10_.out g)
  clear oC10_
  have G15_ := Lib.hid (show (W).grownBy (w2) none from gby_trans G11_.out g)
  clear g
  have A_0_ : (w2).cell? ⟨W.heap.size, 0, none⟩ = some (.int .i64 st) := cell_of_row _ _ 0 _ _ _ rA12_.out
  have A_1_ : (w2).cell? ⟨W.heap.size, 1, none⟩ = some (.int .i64 ma) := cell_of_row _ _ 1 _ _ _ rA12_.out
  have A_2_ : (w2).cell? ⟨W.heap.size, 2, none⟩ = some (.int .i64 fi) := cell_of_row _ _ 2 _ _ _ rA12_.out
  have A_3_ : (w2).cell? ⟨W.heap.size, 3, none⟩ = some (.slice qp qn qc) := cell_of_row _ _ 3 _ _ _ rA12_.out
  have R_0_ : (w2).cell? ⟨W.heap.size + 1, 0, none⟩ = some (.int .i64 0) := cell_of_row _ _ 0 _ _ _ rR13_.out
  have R_1_ : (w2).cell? ⟨W.heap.size + 1, 1, none⟩ = some (.int .i64 0) := cell_of_row _ _ 1 _ _ _ rR13_.out
  have R_2_ : (w2).cell? ⟨W.heap.size + 1, 2, none⟩ = some (.int .i64 0) := cell_of_row _ _ 2 _ _ _ rR13_.out
  have R_3_ : (w2).cell? ⟨W.heap.size + 1, 3, none⟩ = some (.slice none 0 0) := cell_of_row _ _ 3 _ _ _ rR13_.out
  clear A_0_ A_1_ A_2_ A_3_ R_0_ R_1_ R_2_ R_3_
  have A_0_ : (w2).cell? ⟨W.heap.size, 0, none⟩ = some (.int .i64 st) := cell_of_row _ _ 0 _ _ _ rA12_.out
  have A_1_ : (w2).cell? ⟨W.heap.size, 1, none⟩ = some (.int .i64 ma) := cell_of_row _ _ 1 _ _ _ rA12_.out
  have A_2_ : (w2).cell? ⟨W.heap.size, 2, none⟩ = some (.int .i64 fi) := cell_of_row _ _ 2 _ _ _ rA12_.out
  have A_3_ : (w2).cell? ⟨W.heap.size, 3, none⟩ = some (.slice qp qn qc) := cell_of_row _ _ 3 _ _ _ rA12_.out
  have R_0_ : (w2).cell? ⟨W.heap.size + 1, 0, none⟩ = some (.int .i64 0) := cell_of_row _ _ 0 _ _ _ rR13_.out
  have R_1_ : (w2).cell? ⟨W.heap.size + 1, 1, none⟩ = some (.int .i64 0) := cell_of_row _ _ 1 _ _ _ rR13_.out
  have R_2_ : (w2).cell? ⟨W.heap.size + 1, 2, none⟩ = some (.int .i64 0) := cell_of_row _ _ 2 _ _ _ rR13_.out
  have R_3_ : (w2).cell? ⟨W.heap.size + 1, 3, none⟩ = some (.slice none 0 0) := cell_of_row _ _ 3 _ _ _ rR13_.out
  have Rf0_ : (w2).frozen? ⟨W.heap.size + 1, 0, none⟩ = false := frozen_of_row _ _ 0 _ _ rR13_.out
  have Rf1_ : (w2).frozen? ⟨W.heap.size + 1, 1, none⟩ = false := frozen_of_row _ _ 1 _ _ rR13_.out
  have Rf2_ : (w2).frozen? ⟨W.heap.size + 1, 2, none⟩ = false := frozen_of_row _ _ 2 _ _ rR13_.out
  have Rf3_ : (w2).frozen? ⟨W.heap.size + 1, 3, none⟩ = false := frozen_of_row _ _ 3 _ _ rR13_.out
  have zr_ := Lib.hid (show (((((w2.setCell ⟨W.heap.size + 1, 0, none⟩ (.int .i64 st)).setCell ⟨W.heap.size + 1, 1, none⟩ (.int .i64 ma)).setCell ⟨W.heap.size + 1, 2, none⟩ (.int .i64 fi)).setCell ⟨W.heap.size + 1, 3, none⟩ (.slice qp qn qc))).heap[W.heap.size + 1]? = some (.cells #[.int .i64 st, .int .i64 ma, .int .i64 fi, .slice qp qn qc] 26 (0, 0)) from (heap_setCell_same _ _ 3 _ _ _ (heap_setCell_same _ _ 2 _ _ _ (heap_setCell_same _ _ 1 _ _ _ (heap_setCell_same _ _ 0 _ _ _ rR13_.out)))))
  have z0_ : (((((w2.setCell ⟨W.heap.size + 1, 0, none⟩ (.int .i64 st)).setCell ⟨W.heap.size + 1, 1, none⟩ (.int .i64 ma)).setCell ⟨W.heap.size + 1, 2, none⟩ (.int .i64 fi)).setCell ⟨W.heap.size + 1, 3, none⟩ (.slice qp qn qc))).cell? ⟨W.heap.size + 1, 0, none⟩ = some (.int .i64 st) := cell_of_row _ _ 0 _ _ _ zr_.out
  have z1_ : (((((w2.setCell ⟨W.heap.size + 1, 0, none⟩ (.int .i64 st)).setCell ⟨W.heap.size + 1, 1, none⟩ (.int .i64 ma)).setCell ⟨W.heap.size + 1, 2, none⟩ (.int .i64 fi)).setCell ⟨W.heap.size + 1, 3, none⟩ (.slice qp qn qc))).cell? ⟨W.heap.size + 1, 1, none⟩ = some (.int .i64 ma) := cell_of_row _ _ 1 _ _ _ zr_.out
  have z2_ : (((((w2.setCell ⟨W.heap.size + 1, 0, none⟩ (.int .i64 st)).setCell ⟨W.heap.size + 1, 1, none⟩ (.int .i64 ma)).setCell ⟨W.heap.size + 1, 2, none⟩ (.int .i64 fi)).setCell ⟨W.heap.size + 1, 3, none⟩ (.slice qp qn qc))).cell? ⟨W.heap.size + 1, 2, none⟩ = some (.int .i64 fi) := cell_of_row _ _ 2 _ _ _ zr_.out
  have z3_ : (((((w2.setCell ⟨W.heap.size + 1, 0, none⟩ (.int .i64 st)).setCell ⟨W.heap.size + 1, 1, none⟩ (.int .i64 ma)).setCell ⟨W.heap.size + 1, 2, none⟩ (.int .i64 fi)).setCell ⟨W.heap.size + 1, 3, none⟩ (.slice qp qn qc))).cell? ⟨W.heap.size + 1, 3, none⟩ = some (.slice qp qn qc) := cell_of_row _ _ 3 _ _ _ zr_.out
  go_wp2
  refine bodyPost_ret (v := .agg #[.int .i64 st, .int .i64 ma, .int .i64 fi, .slice qp qn qc]) (by simp [results, go_sem, z0_, z1_, z2_, z3_]) rfl ⟨_, rfl, ?_, ?_⟩
  · exact OwU.wide (lo := W.heap.size + 1 + 1) (by omega) (by simp only [World.size_setCell]; omega) (OwU.keep (chg_one _ _ _ _) (.inr (by omega)) (OwU.keep (chg_one _ _ _ _) (.inr (by omega)) (OwU.keep (chg_one _ _ _ _) (.inr (by omega)) (OwU.keep (chg_one _ _ _ _) (.inr (by omega)) oC14_.out))))
  · exact (gby_setnew (gby_setnew (gby_setnew (gby_setnew G15_.out _ (by dsimp only; omega) _) _ (by dsimp only; omega) _) _ (by dsimp only; omega) _) _ (by dsimp only; omega) _)

set_option maxRecDepth 8000 in
set_option maxHeartbeats 2000000 in
theorem implClear_out (W : World) (st ma fi : Int) (v : Value) (xs : List Int) (bt : Int) (H : RdL shI W v xs) (hl : szL shI xs ≤ 1048576) (hb : LOk st ma fi xs) (hk : bt < 0 ∨ 65535 < bt) : Calls Try.prog 19 #[vLog st ma fi v, .int .i64 bt] W (ResIClearErrors st ma fi xs W) := by
  have HSL := Lib.hid H
  have HL := Lib.hid hl
  obtain ⟨a1, n1, c1, rfl⟩ := RdL.form H
  clear H hl
  unfold vLog
  have HOK := Lib.hid hb
  have HK := Lib.hid hk
  clear hk
  clear hb
  go_enter Try.func19, Try.ntmps19
  have rA1_ := Lib.hid (show (((W.alloc (.cells #[.int .i64 st, .int .i64 ma, .int .i64 fi, .slice a1 n1 c1] 26)).alloc (.cells #[.int .i64 0, .int .i64 0, .int .i64 0, .slice none 0 0] 26))).heap[W.heap.size]? = some (.cells #[.int .i64 st, .int .i64 ma, .int .i64 fi, .slice a1 n1 c1] 26 (0, 0)) from by rw [heap_alloc_old _ _ (by simp only [World.size_alloc]; omega)]; exact heap_alloc_new _ _)
  have rR2_ := Lib.hid (show (((W.alloc (.cells #[.int .i64 st, .int .i64 ma, .int .i64 fi, .slice a1 n1 c1] 26)).alloc (.cells #[.int .i64 0, .int .i64 0, .int .i64 0, .slice none 0 0] 26))).heap[W.heap.size + 1]? = some (.cells #[.int .i64 0, .int .i64 0, .int .i64 0, .slice none 0 0] 26 (0, 0)) from by exact heap_pair _ _ _)
  have G3_ := Lib.hid (show (W).grownBy (((W.alloc (.cells #[.int .i64 st, .int .i64 ma, .int .i64 fi, .slice a1 n1 c1] 26)).alloc (.cells #[.int .i64 0, .int .i64 0, .int .i64 0, .slice none 0 0] 26))) none from (gby_alloc (gby_alloc (gby_refl _ _) _) _))
  have A_0_ : (((W.alloc (.cells #[.int .i64 st, .int .i64 ma, .int .i64 fi, .slice a1 n1 c1] 26)).alloc (.cells #[.int .i64 0, .int .i64 0, .int .i64 0, .slice none 0 0] 26))).cell? ⟨W.heap.size, 0, none⟩ = some (.int .i64 st) := cell_of_row _ _ 0 _ _ _ rA1_.out
  have A_1_ : (((W.alloc (.cells #[.int .i64 st, .int .i64 ma, .int .i64 fi, .slice a1 n1 c1] 26)).alloc (.cells #[.int .i64 0, .int .i64 0, .int .i64 0, .slice none 0 0] 26))).cell? ⟨W.heap.size, 1, none⟩ = some (.int .i64 ma) := cell_of_row _ _ 1 _ _ _ rA1_.out
  have A_2_ : (((W.alloc (.cells #[.int .i64 st, .int .i64 ma, .int .i64 fi, .slice a1 n1 c1] 26)).alloc (.cells #[.int .i64 0, .int .i64 0, .int .i64 0, .slice none 0 0] 26))).cell? ⟨W.heap.size, 2, none⟩ = some (.int .i64 fi) := cell_of_row _ _ 2 _ _ _ rA1_.out
  have A_3_ : (((W.alloc (.cells #[.int .i64 st, .int .i64 ma, .int .i64 fi, .slice a1 n1 c1] 26)).alloc (.cells #[.int .i64 0, .int .i64 0, .int .i64 0, .slice none 0 0] 26))).cell? ⟨W.heap.size, 3, none⟩ = some (.slice a1 n1 c1) := cell_of_row _ _ 3 _ _ _ rA1_.out
  have R_0_ : (((W.alloc (.cells #[.int .i64 st, .int .i64 ma, .int .i64 fi, .slice a1 n1 c1] 26)).alloc (.cells #[.int .i64 0, .int .i64 0, .int .i64 0, .slice none 0 0] 26))).cell? ⟨W.heap.size + 1, 0, none⟩ = some (.int .i64 0) := cell_of_row _ _ 0 _ _ _ rR2_.out
  have R_1_ : (((W.alloc (.cells #[.int .i64 st, .int .i64 ma, .int .i64 fi, .slice a1 n1 c1] 26)).alloc (.cells #[.int .i64 0, .int .i64 0, .int .i64 0, .slice none 0 0] 26))).cell? ⟨W.heap.size + 1, 1, none⟩ = some (.int .i64 0) := cell_of_row _ _ 1 _ _ _ rR2_.out
  have R_2_ : (((W.alloc (.cells #[.int .i64 st, .int .i64 ma, .int .i64 fi, .slice a1 n1 c1] 26)).alloc (.cells #[.int .i64 0, .int .i64 0, .int .i64 0, .slice none 0 0] 26))).cell? ⟨W.heap.size + 1, 2, none⟩ = some (.int .i64 0) := cell_of_row _ _ 2 _ _ _ rR2_.out
  have R_3_ : (((W.alloc (.cells #[.int .i64 st, .int .i64 ma, .int .i64 fi, .slice a1 n1 c1] 26)).alloc (.cells #[.int .i64 0, .int .i64 0, .int .i64 0, .slice none 0 0] 26))).cell? ⟨W.heap.size + 1, 3, none⟩ = some (.slice none 0 0) := cell_of_row _ _ 3 _ _ _ rR2_.out
  go_wp2_with fail
  go_at_call 49
  refine (copiedLog_d _ _ _ _ _ xs (HSL.out.grow G3_.out) HL.out).mono ?_
  rintro e w1 ⟨d, rfl, o, g⟩
  have sz_ := g.size
  try simp only [World.size_alloc] at sz_ o
  clear A_0_ A_1_ A_2_ A_3_ R_0_ R_1_ R_2_ R_3_
  have rA4_ := Lib.hid (show (w1).heap[W.heap.size]? = some (.cells #[.int .i64 st, .int .i64 ma, .int .i64 fi, .slice a1 n1 c1] 26 (0, 0)) from row_held g rA1_.out)
  clear rA1_
  have rR5_ := Lib.hid (show (w1).heap[W.heap.size + 1]? = some (.cells #[.int .i64 0, .int .i64 0, .int .i64 0, .slice none 0 0] 26 (0, 0)) from row_held g rR2_.out)
  clear rR2_
  have G6_ := Lib.hid (show (W).grownBy (w1) none from gby_trans G3_.out g)
  clear g
  obtain ⟨qp, qn, qc, hv2⟩ := RdL.form (OwU.rd o)
  subst hv2
  unfold vLog
  have oC7_ := Lib.hid (show OwU (w1) (W.heap.size + 1 + 1) (w1.heap.size) [] [own shI (.slice qp qn qc) xs] from o)
  clear o
  have A_0_ : (w1).cell? ⟨W.heap.size, 0, none⟩ = some (.int .i64 st) := cell_of_row _ _ 0 _ _ _ rA4_.out
  have A_1_ : (w1).cell? ⟨W.heap.size, 1, none⟩ = some (.int .i64 ma) := cell_of_row _ _ 1 _ _ _ rA4_.out
  have A_2_ : (w1).cell? ⟨W.heap.size, 2, none⟩ = some (.int .i64 fi) := cell_of_row _ _ 2 _ _ _ rA4_.out
  have A_3_ : (w1).cell? ⟨W.heap.size, 3, none⟩ = some (.slice a1 n1 c1) := cell_of_row _ _ 3 _ _ _ rA4_.out
  have Af0_ : (w1).frozen? ⟨W.heap.size, 0, none⟩ = false := frozen_of_row _ _ 0 _ _ rA4_.out
  have Af1_ : (w1).frozen? ⟨W.heap.size, 1, none⟩ = false := frozen_of_row _ _ 1 _ _ rA4_.out
  have Af2_ : (w1).frozen? ⟨W.heap.size, 2, none⟩ = false := frozen_of_row _ _ 2 _ _ rA4_.out
  have Af3_ : (w1).frozen? ⟨W.heap.size, 3, none⟩ = false := frozen_of_row _ _ 3 _ _ rA4_.out
  have R_0_ : (w1).cell? ⟨W.heap.size + 1, 0, none⟩ = some (.int .i64 0) := cell_of_row _ _ 0 _ _ _ rR5_.out
  have R_1_ : (w1).cell? ⟨W.heap.size + 1, 1, none⟩ = some (.int .i64 0) := cell_of_row _ _ 1 _ _ _ rR5_.out
  have R_2_ : (w1).cell? ⟨W.heap.size + 1, 2, none⟩ = some (.int .i64 0) := cell_of_row _ _ 2 _ _ _ rR5_.out
  have R_3_ : (w1).cell? ⟨W.heap.size + 1, 3, none⟩ = some (.slice none 0 0) := cell_of_row _ _ 3 _ _ _ rR5_.out
  go_wp2_with fail
  go_at_call 23
  clear A_0_ A_1_ A_2_ A_3_ Af0_ Af1_ Af2_ Af3_ R_0_ R_1_ R_2_ R_3_
  have rR8_ := Lib.hid (show (((((w1.setCell ⟨W.heap.size, 0, none⟩ (.int .i64 st)).setCell ⟨W.heap.size, 1, none⟩ (.int .i64 ma)).setCell ⟨W.heap.size, 2, none⟩ (.int .i64 fi)).setCell ⟨W.heap.size, 3, none⟩ (.slice qp qn qc))).heap[W.heap.size + 1]? = some (.cells #[.int .i64 0, .int .i64 0, .int .i64 0, .slice none 0 0] 26 (0, 0)) from (set_far (set_far (set_far (set_far rR5_.out (by dsimp only; omega)) (by dsimp only; omega)) (by dsimp only; omega)) (by dsimp only; omega)))
  clear rR5_
  have rA9_ := Lib.hid (show (((((w1.setCell ⟨W.heap.size, 0, none⟩ (.int .i64 st)).setCell ⟨W.heap.size, 1, none⟩ (.int .i64 ma)).setCell ⟨W.heap.size, 2, none⟩ (.int .i64 fi)).setCell ⟨W.heap.size, 3, none⟩ (.slice qp qn qc))).heap[W.heap.size]? = some (.cells #[.int .i64 st, .int .i64 ma, .int .i64 fi, .slice qp qn qc] 26 (0, 0)) from (heap_setCell_same _ _ 3 _ _ _ (heap_setCell_same _ _ 2 _ _ _ (heap_setCell_same _ _ 1 _ _ _ (heap_setCell_same _ _ 0 _ _ _ rA4_.out)))))
  clear rA4_
  have oC10_ := Lib.hid (show OwU (((((w1.setCell ⟨W.heap.size, 0, none⟩ (.int .i64 st)).setCell ⟨W.heap.size, 1, none⟩ (.int .i64 ma)).setCell ⟨W.heap.size, 2, none⟩ (.int .i64 fi)).setCell ⟨W.heap.size, 3, none⟩ (.slice qp qn qc))) (W.heap.size + 1 + 1) (w1.heap.size) [] [own shI (.slice qp qn qc) xs] from (OwU.keep (chg_one _ _ _ _) (by omega) (OwU.keep (chg_one _ _ _ _) (by omega) (OwU.keep (chg_one _ _ _ _) (by omega) (OwU.keep (chg_one _ _ _ _) (by omega) oC7_.out)))))
  clear oC7_
  have G11_ := Lib.hid (show (W).grownBy (((((w1.setCell ⟨W.heap.size, 0, none⟩ (.int .i64 st)).setCell ⟨W.heap.size, 1, none⟩ (.int .i64 ma)).setCell ⟨W.heap.size, 2, none⟩ (.int .i64 fi)).setCell ⟨W.heap.size, 3, none⟩ (.slice qp qn qc))) none from (gby_setnew (gby_setnew (gby_setnew (gby_setnew G6_.out _ (by dsimp only; omega) _) _ (by dsimp only; omega) _) _ (by dsimp only; omega) _) _ (by dsimp only; omega) _))
  have A_0_ : (((((w1.setCell ⟨W.heap.size, 0, none⟩ (.int .i64 st)).setCell ⟨W.heap.size, 1, none⟩ (.int .i64 ma)).setCell ⟨W.heap.size, 2, none⟩ (.int .i64 fi)).setCell ⟨W.heap.size, 3, none⟩ (.slice qp qn qc))).cell? ⟨W.heap.size, 0, none⟩ = some (.int .i64 st) := cell_of_row _ _ 0 _ _ _ rA9_.out
  have A_1_ : (((((w1.setCell ⟨W.heap.size, 0, none⟩ (.int .i64 st)).setCell ⟨W.heap.size, 1, none⟩ (.int .i64 ma)).setCell ⟨W.heap.size, 2, none⟩ (.int .i64 fi)).setCell ⟨W.heap.size, 3, none⟩ (.slice qp qn qc))).cell? ⟨W.heap.size, 1, none⟩ = some (.int .i64 ma) := cell_of_row _ _ 1 _ _ _ rA9_.out
  have A_2_ : (((((w1.setCell ⟨W.heap.size, 0, none⟩ (.int .i64 st)).setCell ⟨W.heap.size, 1, none⟩ (.int .i64 ma)).setCell ⟨W.heap.size, 2, none⟩ (.int .i64 fi)).setCell ⟨W.heap.size, 3, none⟩ (.slice qp qn qc))).cell? ⟨W.heap.size, 2, none⟩ = some (.int .i64 fi) := cell_of_row _ _ 2 _ _ _ rA9_.out
  have A_3_ : (((((w1.setCell ⟨W.heap.size, 0, none⟩ (.int .i64 st)).setCell ⟨W.heap.size, 1, none⟩ (.int .i64 ma)).setCell ⟨W.heap.size, 2, none⟩ (.int .i64 fi)).setCell ⟨W.heap.size, 3, none⟩ (.slice qp qn qc))).cell? ⟨W.heap.size, 3, none⟩ = some (.slice qp qn qc) := cell_of_row _ _ 3 _ _ _ rA9_.out
  have R_0_ : (((((w1.setCell ⟨W.heap.size, 0, none⟩ (.int .i64 st)).setCell ⟨W.heap.size, 1, none⟩ (.int .i64 ma)).setCell ⟨W.heap.size, 2, none⟩ (.int .i64 fi)).setCell ⟨W.heap.size, 3, none⟩ (.slice qp qn qc))).cell? ⟨W.heap.size + 1, 0, none⟩ = some (.int .i64 0) := cell_of_row _ _ 0 _ _ _ rR8_.out
  have R_1_ : (((((w1.setCell ⟨W.heap.size, 0, none⟩ (.int .i64 st)).setCell ⟨W.heap.size, 1, none⟩ (.int .i64 ma)).setCell ⟨W.heap.size, 2, none⟩ (.int .i64 fi)).setCell ⟨W.heap.size, 3, none⟩ (.slice qp qn qc))).cell? ⟨W.heap.size + 1, 1, none⟩ = some (.int .i64 0) := cell_of_row _ _ 1 _ _ _ rR8_.out
  have R_2_ : (((((w1.setCell ⟨W.heap.size, 0, none⟩ (.int .i64 st)).setCell ⟨W.heap.size, 1, none⟩ (.int .i64 ma)).setCell ⟨W.heap.size, 2, none⟩ (.int .i64 fi)).setCell ⟨W.heap.size, 3, none⟩ (.slice qp qn qc))).cell? ⟨W.heap.size + 1, 2, none⟩ = some (.int .i64 0) := cell_of_row _ _ 2 _ _ _ rR8_.out
  have R_3_ : (((((w1.setCell ⟨W.heap.size, 0, none⟩ (.int .i64 st)).setCell ⟨W.heap.size, 1, none⟩ (.int .i64 ma)).setCell ⟨W.heap.size, 2, none⟩ (.int .i64 fi)).setCell ⟨W.heap.size, 3, none⟩ (.slice qp qn qc))).cell? ⟨W.heap.size + 1, 3, none⟩ = some (.slice none 0 0) := cell_of_row _ _ 3 _ _ _ rR8_.out
  refine (implLog_yes _ _ _ _ _ xs (OwU.rd oC10_.out) HL.out HOK.out).mono ?_
  rintro e w2 ⟨rfl, g⟩
  have szl_ := g.size
  try simp only [World.size_setCell, World.size_alloc] at szl_
  clear A_0_ A_1_ A_2_ A_3_ R_0_ R_1_ R_2_ R_3_
  have rA12_ := Lib.hid (show (w2).heap[W.heap.size]? = some (.cells #[.int .i64 st, .int .i64 ma, .int .i64 fi, .slice qp qn qc] 26 (0, 0)) from row_held g rA9_.out)
  clear rA9_
  have rR13_ := Lib.hid (show (w2).heap[W.heap.size + 1]? = some (.cells #[.int .i64 0, .int .i64 0, .int .i64 0, .slice none 0 0] 26 (0, 0)) from row_held g rR8_.out)
  clear rR8_
  have oC14_ := Lib.hid (show OwU (w2) (W.heap.size + 1 + 1) (w1.heap.size) [] [own shI (.slice qp qn qc) xs] from OwU.grow oC10_.out g)
  clear oC10_
  have G15_ := Lib.hid (show (W).grownBy (w2) none from gby_trans G11_.out g)
  clear g
  have A_0_ : (w2).cell? ⟨W.heap.size, 0, none⟩ = some (.int .i64 st) := cell_of_row _ _ 0 _ _ _ rA12_.out
  have A_1_ : (w2).cell? ⟨W.heap.size, 1, none⟩ = some (.int .i64 ma) := cell_of_row _ _ 1 _ _ _ rA12_.out
  have A_2_ : (w2).cell? ⟨W.heap.size, 2, none⟩ = some (.int .i64 fi) := cell_of_row _ _ 2 _ _ _ rA12_.out
  have A_3_ : (w2).cell? ⟨W.heap.size, 3, none⟩ = some (.slice qp qn qc) := cell_of_row _ _ 3 _ _ _ rA12_.out
  have R_0_ : (w2).cell? ⟨W.heap.size + 1, 0, none⟩ = some (.int .i64 0) := cell_of_row _ _ 0 _ _ _ rR13_.out
  have R_1_ : (w2).cell? ⟨W.heap.size + 1, 1, none⟩ = some (.int .i64 0) := cell_of_row _ _ 1 _ _ _ rR13_.out
  have R_2_ : (w2).cell? ⟨W.heap.size + 1, 2, none⟩ = some (.int .i64 0) := cell_of_row _ _ 2 _ _ _ rR13_.out
  have R_3_ : (w2).cell? ⟨W.heap.size + 1, 3, none⟩ = some (.slice none 0 0) := cell_of_row _ _ 3 _ _ _ rR13_.out
  go_wp2_with fail
  go_at_call 52
  refine (word_no _ _ HK.out).mono ?_
  rintro e w3_ ⟨rfl, rfl⟩
  clear A_0_ A_1_ A_2_ A_3_ R_0_ R_1_ R_2_ R_3_
  have A_0_ : (w2).cell? ⟨W.heap.size, 0, none⟩ = some (.int .i64 st) := cell_of_row _ _ 0 _ _ _ rA12_.out
  have A_1_ : (w2).cell? ⟨W.heap.size, 1, none⟩ = some (.int .i64 ma) := cell_of_row _ _ 1 _ _ _ rA12_.out
  have A_2_ : (w2).cell? ⟨W.heap.size, 2, none⟩ = some (.int .i64 fi) := cell_of_row _ _ 2 _ _ _ rA12_.out
  have A_3_ : (w2).cell? ⟨W.heap.size, 3, none⟩ = some (.slice qp qn qc) := cell_of_row _ _ 3 _ _ _ rA12_.out
  have R_0_ : (w2).cell? ⟨W.heap.size + 1, 0, none⟩ = some (.int .i64 0) := cell_of_row _ _ 0 _ _ _ rR13_.out
  have R_1_ : (w2).cell? ⟨W.heap.size + 1, 1, none⟩ = some (.int .i64 0) := cell_of_row _ _ 1 _ _ _ rR13_.out
  have R_2_ : (w2).cell? ⟨W.heap.size + 1, 2, none⟩ = some (.int .i64 0) := cell_of_row _ _ 2 _ _ _ rR13_.out
  have R_3_ : (w2).cell? ⟨W.heap.size + 1, 3, none⟩ = some (.slice none 0 0) := cell_of_row _ _ 3 _ _ _ rR13_.out
  have Rf0_ : (w2).frozen? ⟨W.heap.size + 1, 0, none⟩ = false := frozen_of_row _ _ 0 _ _ rR13_.out
  have Rf1_ : (w2).frozen? ⟨W.heap.size + 1, 1, none⟩ = false := frozen_of_row _ _ 1 _ _ rR13_.out
  have Rf2_ : (w2).frozen? ⟨W.heap.size + 1, 2, none⟩ = false := frozen_of_row _ _ 2 _ _ rR13_.out
  have Rf3_ : (w2).frozen? ⟨W.heap.size + 1, 3, none⟩ = false := frozen_of_row _ _ 3 _ _ rR13_.out
  have zr_ := Lib.hid (show (((((w2.setCell ⟨W.heap.size + 1, 0, none⟩ (.int .i64 st)).setCell ⟨W.heap.size + 1, 1, none⟩ (.int .i64 ma)).setCell ⟨W.heap.size + 1, 2, none⟩ (.int .i64 fi)).setCell ⟨W.heap.size + 1, 3, none⟩ (.slice qp qn qc))).heap[W.heap.size + 1]? = some (.cells #[.int .i64 st, .int .i64 ma, .int .i64 fi, .slice qp qn qc] 26 (0, 0)) from (heap_setCell_same _ _ 3 _ _ _ (heap_setCell_same _ _ 2 _ _ _ (heap_setCell_same _ _ 1 _ _ _ (heap_setCell_same _ _ 0 _ _ _ rR13_.out)))))
  have z0_ : (((((w2.setCell ⟨W.heap.size + 1, 0, none⟩ (.int .i64 st)).setCell ⟨W.heap.size + 1, 1, none⟩ (.int .i64 ma)).setCell ⟨W.heap.size + 1, 2, none⟩ (.int .i64 fi)).setCell ⟨W.heap.size + 1, 3, none⟩ (.slice qp qn qc))).cell? ⟨W.heap.size + 1, 0, none⟩ = some (.int .i64 st) := cell_of_row _ _ 0 _ _ _ zr_.out
  have z1_ : (((((w2.setCell ⟨W.heap.size + 1, 0, none⟩ (.int .i64 st)).setCell ⟨W.heap.size + 1, 1, none⟩ (.int .i64 ma)).setCell ⟨W.heap.size + 1, 2, none⟩ (.int .i64 fi)).setCell ⟨W.heap.size + 1, 3, none⟩ (.slice qp qn qc))).cell? ⟨W.heap.size + 1, 1, none⟩ = some (.int .i64 ma) := cell_of_row _ _ 1 _ _ _ zr_.out
  have z2_ : (((((w2.setCell ⟨W.heap.size + 1, 0, none⟩ (.int .i64 st)).setCell ⟨W.heap.size + 1, 1, none⟩ (.int .i64 ma)).setCell ⟨W.heap.size + 1, 2, none⟩ (.int .i64 fi)).setCell ⟨W.heap.size + 1, 3, none⟩ (.slice qp qn qc))).cell? ⟨W.heap.size + 1, 2, none⟩ = some (.int .i64 fi) := cell_of_row _ _ 2 _ _ _ zr_.out
  have z3_ : (((((w2.setCell ⟨W.heap.size + 1, 0, none⟩ (.int .i64 st)).setCell ⟨W.heap.size + 1, 1, none⟩ (.int .i64 ma)).setCell ⟨W.heap.size + 1, 2, none⟩ (.int .i64 fi)).setCell ⟨W.heap.size + 1, 3, none⟩ (.slice qp qn qc))).cell? ⟨W.heap.size + 1, 3, none⟩ = some (.slice qp qn qc) := cell_of_row _ _ 3 _ _ _ zr_.out
  go_wp2
  refine bodyPost_ret (v := .agg #[.int .i64 st, .int .i64 ma, .int .i64 fi, .slice qp qn qc]) (by simp [results, go_sem, z0_, z1_, z2_, z3_]) rfl ⟨_, rfl, ?_, ?_⟩
  · exact OwU.wide (lo := W.heap.size + 1 + 1) (by omega) (by simp only [World.size_setCell]; omega) (OwU.keep (chg_one _ _ _ _) (.inr (by omega)) (OwU.keep (chg_one _ _ _ _) (.inr (by omega)) (OwU.keep (chg_one _ _ _ _) (.inr (by omega)) (OwU.keep (chg_one _ _ _ _) (.inr (by omega)) oC14_.out))))
  · exact (gby_setnew (gby_setnew (gby_setnew (gby_setnew G15_.out _ (by dsimp only; omega) _) _ (by dsimp only; omega) _) _ (by dsimp only; omega) _) _ (by dsimp only; omega) _)

set_option maxRecDepth 8000 in
set_option maxHeartbeats 4000000 in
theorem implClear_yes (W : World) (sn bn cn : Nat) (ma fi : Int) (v : Value) (xs : List Int) (H : RdL shI W v xs) (hl : szL shI xs ≤ 1048576) (hb : LOk sn ma fi xs) (hbn : bn ≤ 65535) (hcn : cn ≤ 65535) (hcs : cn ≤ sn) (hcl : bits .andNot .i64 (sn : Int) (bn : Int) = (cn : Int)) : Calls Try.prog 19 #[vLog sn ma fi v, .int .i64 (bn : Int)] W (ResIClearErrors cn ma (clF cn fi) xs W) := by
  have HSL := Lib.hid H
  have HL := Lib.hid hl
  obtain ⟨a1, n1, c1, rfl⟩ := RdL.form H
  clear H hl
  unfold vLog
  have HOK := Lib.hid hb
  have HCS := Lib.hid hcs
  have HCN := Lib.hid hcn
  clear hb hcs
  go_enter Try.func19, Try.ntmps19
  have rA1_ := Lib.hid (show (((W.alloc (.cells #[.int .i64 (sn : Int), .int .i64 ma, .int .i64 fi, .slice a1 n1 c1] 26)).alloc (.cells #[.int .i64 0, .int .i64 0, .int .i64 0, .slice none 0 0] 26))).heap[W.heap.size]? = some (.cells #[.int .i64 (sn : Int), .int .i64 ma, .int .i64 fi, .slice a1 n1 c1] 26 (0, 0)) from by rw [heap_alloc_old _ _ (by simp only [World.size_alloc]; omega)]; exact heap_alloc_new _ _)
  have rR2_ := Lib.hid (show (((W.alloc (.cells #[.int .i64 (sn : Int), .int .i64 ma, .int .i64 fi, .slice a1 n1 c1] 26)).alloc (.cells #[.int .i64 0, .int .i64 0, .int .i64 0, .slice none 0 0] 26))).heap[W.heap.size + 1]? = some (.cells #[.int .i64 0, .int .i64 0, .int .i64 0, .slice none 0 0] 26 (0, 0)) from by exact heap_pair _ _ _)
  have G3_ := Lib.hid (show (W).grownBy (((W.alloc (.cells #[.int .i64 (sn : Int), .int .i64 ma, .int .i64 fi, .slice a1 n1 c1] 26)).alloc (.cells #[.int .i64 0, .int .i64 0, .int .i64 0, .slice none 0 0] 26))) none from (gby_alloc (gby_alloc (gby_refl _ _) _) _))
  have A_0_ : (((W.alloc (.cells #[.int .i64 (sn : Int), .int .i64 ma, .int .i64 fi, .slice a1 n1 c1] 26)).alloc (.cells #[.int .i64 0, .int .i64 0, .int .i64 0, .slice none 0 0] 26))).cell? ⟨W.heap.size, 0, none⟩ = some (.int .i64 (sn : Int)) := cell_of_row _ _ 0 _ _ _ rA1_.out
  have A_1_ : (((W.alloc (.cells #[.int .i64 (sn : Int), .int .i64 ma, .int .i64 fi, .slice a1 n1 c1] 26)).alloc (.cells #[.int .i64 0, .int .i64 0, .int .i64 0, .slice none 0 0] 26))).cell? ⟨W.heap.size, 1, none⟩ = some (.int .i64 ma) := cell_of_row _ _ 1 _ _ _ rA1_.out
  have A_2_ : (((W.alloc (.cells #[.int .i64 (sn : Int), .int .i64 ma, .int .i64 fi, .slice a1 n1 c1] 26)).alloc (.cells #[.int .i64 0, .int .i64 0, .int .i64 0, .slice none 0 0] 26))).cell? ⟨W.heap.size, 2, none⟩ = some (.int .i64 fi) := cell_of_row _ _ 2 _ _ _ rA1_.out
  have A_3_ : (((W.alloc (.cells #[.int .i64 (sn : Int), .int .i64 ma, .int .i64 fi, .slice a1 n1 c1] 26)).alloc (.cells #[.int .i64 0, .int .i64 0, .int .i64 0, .slice none 0 0] 26))).cell? ⟨W.heap.size, 3, none⟩ = some (.slice a1 n1 c1) := cell_of_row _ _ 3 _ _ _ rA1_.out
  have R_0_ : (((W.alloc (.cells #[.int .i64 (sn : Int), .int .i64 ma, .int .i64 fi, .slice a1 n1 c1] 26)).alloc (.cells #[.int .i64 0, .int .i64 0, .int .i64 0, .slice none 0 0] 26))).cell? ⟨W.heap.size + 1, 0, none⟩ = some (.int .i64 0) := cell_of_row _ _ 0 _ _ _ rR2_.out
  have R_1_ : (((W.alloc (.cells #[.int .i64 (sn : Int), .int .i64 ma, .int .i64 fi, .slice a1 n1 c1] 26)).alloc (.cells #[.int .i64 0, .int .i64 0, .int .i64 0, .slice none 0 0] 26))).cell? ⟨W.heap.size + 1, 1, none⟩ = some (.int .i64 0) := cell_of_row _ _ 1 _ _ _ rR2_.out
  have R_2_ : (((W.alloc (.cells #[.int .i64 (sn : Int), .int .i64 ma, .int .i64 fi, .slice a1 n1 c1] 26)).alloc (.cells #[.int .i64 0, .int .i64 0, .int .i64 0, .slice none 0 0] 26))).cell? ⟨W.heap.size + 1, 2, none⟩ = some (.int .i64 0) := cell_of_row _ _ 2 _ _ _ rR2_.out
  have R_3_ : (((W.alloc (.cells #[.int .i64 (sn : Int), .int .i64 ma, .int .i64 fi, .slice a1 n1 c1] 26)).alloc (.cells #[.int .i64 0, .int .i64 0, .int .i64 0, .slice none 0 0] 26))).cell? ⟨W.heap.size + 1, 3, none⟩ = some (.slice none 0 0) := cell_of_row _ _ 3 _ _ _ rR2_.out
  go_wp2_with fail
  go_at_call 49
  refine (copiedLog_d _ _ _ _ _ xs (HSL.out.grow G3_.out) HL.out).mono ?_
  rintro e w1 ⟨d, rfl, o, g⟩
  have sz_ := g.size
  try simp only [World.size_alloc] at sz_ o
  clear A_0_ A_1_ A_2_ A_3_ R_0_ R_1_ R_2_ R_3_
  have rA4_ := Lib.hid (show (w1).heap[W.heap.size]? = some (.cells #[.int .i64 (sn : Int), .int .i64 ma, .int .i64 fi, .slice a1 n1 c1] 26 (0, 0)) from row_held g rA1_.out)
  clear rA1_
  have rR5_ := Lib.hid (show (w1).heap[W.heap.size + 1]? = some (.cells #[.int .i64 0, .int .i64 0, .int .i64 0, .slice none 0 0] 26 (0, 0)) from row_held g rR2_.out)
  clear rR2_
  have G6_ := Lib.hid (show (W).grownBy (w1) none from gby_trans G3_.out g)
  clear g
  obtain ⟨qp, qn, qc, hv2⟩ := RdL.form (OwU.rd o)
  subst hv2
  unfold vLog
  have oC7_ := Lib.hid (show OwU (w1) (W.heap.size + 1 + 1) (w1.heap.size) [] [own shI (.slice qp qn qc) xs] from o)
  clear o
  have A_0_ : (w1).cell? ⟨W.heap.size, 0, none⟩ = some (.int .i64 (sn : Int)) := cell_of_row _ _ 0 _ _ _ rA4_.out
  have A_1_ : (w1).cell? ⟨W.heap.size, 1, none⟩ = some (.int .i64 ma) := cell_of_row _ _ 1 _ _ _ rA4_.out
  have A_2_ : (w1).cell? ⟨W.heap.size, 2, none⟩ = some (.int .i64 fi) := cell_of_row _ _ 2 _ _ _ rA4_.out
  have A_3_ : (w1).cell? ⟨W.heap.size, 3, none⟩ = some (.slice a1 n1 c1) := cell_of_row _ _ 3 _ _ _ rA4_.out
  have Af0_ : (w1).frozen? ⟨W.heap.size, 0, none⟩ = false := frozen_of_row _ _ 0 _ _ rA4_.out
  have Af1_ : (w1).frozen? ⟨W.heap.size, 1, none⟩ = false := frozen_of_row _ _ 1 _ _ rA4_.out
  have Af2_ : (w1).frozen? ⟨W.heap.size, 2, none⟩ = false := frozen_of_row _ _ 2 _ _ rA4_.out
  have Af3_ : (w1).frozen? ⟨W.heap.size, 3, none⟩ = false := frozen_of_row _ _ 3 _ _ rA4_.out
  have R_0_ : (w1).cell? ⟨W.heap.size + 1, 0, none⟩ = some (.int .i64 0) := cell_of_row _ _ 0 _ _ _ rR5_.out
  have R_1_ : (w1).cell? ⟨W.heap.size + 1, 1, none⟩ = some (.int .i64 0) := cell_of_row _ _ 1 _ _ _ rR5_.out
  have R_2_ : (w1).cell? ⟨W.heap.size + 1, 2, none⟩ = some (.int .i64 0) := cell_of_row _ _ 2 _ _ _ rR5_.out
  have R_3_ : (w1).cell? ⟨W.heap.size + 1, 3, none⟩ = some (.slice none 0 0) := cell_of_row _ _ 3 _ _ _ rR5_.out
  go_wp2_with fail
  go_at_call 23
  clear A_0_ A_1_ A_2_ A_3_ Af0_ Af1_ Af2_ Af3_ R_0_ R_1_ R_2_ R_3_
  have rR8_ := Lib.hid (show (((((w1.setCell ⟨W.heap.size, 0, none⟩ (.int .i64 (sn : Int))).setCell ⟨W.heap.size, 1, none⟩ (.int .i64 ma)).setCell ⟨W.heap.size, 2, none⟩ (.int .i64 fi)).setCell ⟨W.heap.size, 3, none⟩ (.slice qp qn qc))).heap[W.heap.size + 1]? = some (.cells #[.int .i64 0, .int .i64 0, .int .i64 0, .slice none 0 0] 26 (0, 0)) from (set_far (set_far (set_far (set_far rR5_.out (by dsimp only; omega)) (by dsimp only; omega)) (by dsimp only; omega)) (by dsimp only; omega)))
  clear rR5_
  have rA9_ := Lib.hid (show (((((w1.setCell ⟨W.heap.size, 0, none⟩ (.int .i64 (sn : Int))).setCell ⟨W.heap.size, 1, none⟩ (.int .i64 ma)).setCell ⟨W.heap.size, 2, none⟩ (.int .i64 fi)).setCell ⟨W.heap.size, 3, none⟩ (.slice qp qn qc))).heap[W.heap.size]? = some (.cells #[.int .i64 (sn : Int), .int .i64 ma, .int .i64 fi, .slice qp qn qc] 26 (0, 0)) from (heap_setCell_same _ _ 3 _ _ _ (heap_setCell_same _ _ 2 _ _ _ (heap_setCell_same _ _ 1 _ _ _ (heap_setCell_same _ _ 0 _ _ _ rA4_.out)))))
  clear rA4_
  have oC10_ := Lib.hid (show OwU (((((w1.setCell ⟨W.heap.size, 0, none⟩ (.int .i64 (sn : Int))).setCell ⟨W.heap.size, 1, none⟩ (.int .i64 ma)).setCell ⟨W.heap.size, 2, none⟩ (.int .i64 fi)).setCell ⟨W.heap.size, 3, none⟩ (.slice qp qn qc))) (W.heap.size + 1 + 1) (w1.heap.size) [] [own shI (.slice qp qn qc) xs] from (OwU.keep (chg_one _ _ _ _) (by omega) (OwU.keep (chg_one _ _ _ _) (by omega) (OwU.keep (chg_one _ _ _ _) (by omega) (OwU.keep (chg_one _ _ _ _) (by omega) oC7_.out)))))
  clear oC7_
  have G11_ := Lib.hid (show (W).grownBy (((((w1.setCell ⟨W.heap.size, 0, none⟩ (.int .i64 (sn : Int))).setCell ⟨W.heap.size, 1, none⟩ (.int .i64 ma)).setCell ⟨W.heap.size, 2, none⟩ (.int .i64 fi)).setCell ⟨W.heap.size, 3, none⟩ (.slice qp qn qc))) none from (gby_setnew (gby_setnew (gby_setnew (gby_setnew G6_.out _ (by dsimp only; omega) _) _ (by dsimp only; omega) _) _ (by dsimp only; omega) _) _ (by dsimp only; omega) _))
  have A_0_ : (((((w1.setCell ⟨W.heap.size, 0, none⟩ (.int .i64 (sn : Int))).setCell ⟨W.heap.size, 1, none⟩ (.int .i64 ma)).setCell ⟨W.heap.size, 2, none⟩ (.int .i64 fi)).setCell ⟨W.heap.size, 3, none⟩ (.slice qp qn qc))).cell? ⟨W.heap.size, 0, none⟩ = some (.int .i64 (sn : Int)) := cell_of_row _ _ 0 _ _ _ rA9_.out
  have A_1_ : (((((w1.setCell ⟨W.heap.size, 0, none⟩ (.int .i64 (sn : Int))).setCell ⟨W.heap.size, 1, none⟩ (.int .i64 ma)).setCell ⟨W.heap.size, 2, none⟩ (.int .i64 fi)).setCell ⟨W.heap.size, 3, none⟩ (.slice qp qn qc))).cell? ⟨W.heap.size, 1, none⟩ = some (.int .i64 ma) := cell_of_row _ _ 1 _ _ _ rA9_.out
  have A_2_ : (((((w1.setCell ⟨W.heap.size, 0, none⟩ (.int .i64 (sn : Int))).setCell ⟨W.heap.size, 1, none⟩ (.int .i64 ma)).setCell ⟨W.heap.size, 2, none⟩ (.int .i64 fi)).setCell ⟨W.heap.size, 3, none⟩ (.slice qp qn qc))).cell? ⟨W.heap.size, 2, none⟩ = some (.int .i64 fi) := cell_of_row _ _ 2 _ _ _ rA9_.out
  have A_3_ : (((((w1.setCell ⟨W.heap.size, 0, none⟩ (.int .i64 (sn : Int))).setCell ⟨W.heap.size, 1, none⟩ (.int .i64 ma)).setCell ⟨W.heap.size, 2, none⟩ (.int .i64 fi)).setCell ⟨W.heap.size, 3, none⟩ (.slice qp qn qc))).cell? ⟨W.heap.size, 3, none⟩ = some (.slice qp qn qc) := cell_of_row _ _ 3 _ _ _ rA9_.out
  have R_0_ : (((((w1.setCell ⟨W.heap.size, 0, none⟩ (.int .i64 (sn : Int))).setCell ⟨W.heap.size, 1, none⟩ (.int .i64 ma)).setCell ⟨W.heap.size, 2, none⟩ (.int .i64 fi)).setCell ⟨W.heap.size, 3, none⟩ (.slice qp qn qc))).cell? ⟨W.heap.size + 1, 0, none⟩ = some (.int .i64 0) := cell_of_row _ _ 0 _ _ _ rR8_.out
  have R_1_ : (((((w1.setCell ⟨W.heap.size, 0, none⟩ (.int .i64 (sn : Int))).setCell ⟨W.heap.size, 1, none⟩ (.int .i64 ma)).setCell ⟨W.heap.size, 2, none⟩ (.int .i64 fi)).setCell ⟨W.heap.size, 3, none⟩ (.slice qp qn qc))).cell? ⟨W.heap.size + 1, 1, none⟩ = some (.int .i64 0) := cell_of_row _ _ 1 _ _ _ rR8_.out
  have R_2_ : (((((w1.setCell ⟨W.heap.size, 0, none⟩ (.int .i64 (sn : Int))).setCell ⟨W.heap.size, 1, none⟩ (.int .i64 ma)).setCell ⟨W.heap.size, 2, none⟩ (.int .i64 fi)).setCell ⟨W.heap.size, 3, none⟩ (.slice qp qn qc))).cell? ⟨W.heap.size + 1, 2, none⟩ = some (.int .i64 0) := cell_of_row _ _ 2 _ _ _ rR8_.out
  have R_3_ : (((((w1.setCell ⟨W.heap.size, 0, none⟩ (.int .i64 (sn : Int))).setCell ⟨W.heap.size, 1, none⟩ (.int .i64 ma)).setCell ⟨W.heap.size, 2, none⟩ (.int .i64 fi)).setCell ⟨W.heap.size, 3, none⟩ (.slice qp qn qc))).cell? ⟨W.heap.size + 1, 3, none⟩ = some (.slice none 0 0) := cell_of_row _ _ 3 _ _ _ rR8_.out
  refine (implLog_yes _ _ _ _ _ xs (OwU.rd oC10_.out) HL.out HOK.out).mono ?_
  rintro e w2 ⟨rfl, g⟩
  have szl_ := g.size
  try simp only [World.size_setCell, World.size_alloc] at szl_
  clear A_0_ A_1_ A_2_ A_3_ R_0_ R_1_ R_2_ R_3_
  have rA12_ := Lib.hid (show (w2).heap[W.heap.size]? = some (.cells #[.int .i64 (sn : Int), .int .i64 ma, .int .i64 fi, .slice qp qn qc] 26 (0, 0)) from row_held g rA9_.out)
  clear rA9_
  have rR13_ := Lib.hid (show (w2).heap[W.heap.size + 1]? = some (.cells #[.int .i64 0, .int .i64 0, .int .i64 0, .slice none 0 0] 26 (0, 0)) from row_held g rR8_.out)
  clear rR8_
  have oC14_ := Lib.hid (show OwU (w2) (W.heap.size + 1 + 1) (w1.heap.size) [] [own shI (.slice qp qn qc) xs] from OwU.grow oC10_.out g)
  clear oC10_
  have G15_ := Lib.hid (show (W).grownBy (w2) none from gby_trans G11_.out g)
  clear g
  have A_0_ : (w2).cell? ⟨W.heap.size, 0, none⟩ = some (.int .i64 (sn : Int)) := cell_of_row _ _ 0 _ _ _ rA12_.out
  have A_1_ : (w2).cell? ⟨W.heap.size, 1, none⟩ = some (.int .i64 ma) := cell_of_row _ _ 1 _ _ _ rA12_.out
  have A_2_ : (w2).cell? ⟨W.heap.size, 2, none⟩ = some (.int .i64 fi) := cell_of_row _ _ 2 _ _ _ rA12_.out
  have A_3_ : (w2).cell? ⟨W.heap.size, 3, none⟩ = some (.slice qp qn qc) := cell_of_row _ _ 3 _ _ _ rA12_.out
  have R_0_ : (w2).cell? ⟨W.heap.size + 1, 0, none⟩ = some (.int .i64 0) := cell_of_row _ _ 0 _ _ _ rR13_.out
  have R_1_ : (w2).cell? ⟨W.heap.size + 1, 1, none⟩ = some (.int .i64 0) := cell_of_row _ _ 1 _ _ _ rR13_.out
  have R_2_ : (w2).cell? ⟨W.heap.size + 1, 2, none⟩ = some (.int .i64 0) := cell_of_row _ _ 2 _ _ _ rR13_.out
  have R_3_ : (w2).cell? ⟨W.heap.size + 1, 3, none⟩ = some (.slice none 0 0) := cell_of_row _ _ 3 _ _ _ rR13_.out
  go_wp2_with fail
  go_at_call 52
  refine (word_yes _ _ (by omega) (by omega)).mono ?_
  rintro e w3_ ⟨rfl, rfl⟩
  clear A_0_ A_1_ A_2_ A_3_ R_0_ R_1_ R_2_ R_3_
  have A_0_ : (w2).cell? ⟨W.heap.size, 0, none⟩ = some (.int .i64 (sn : Int)) := cell_of_row _ _ 0 _ _ _ rA12_.out
  have A_1_ : (w2).cell? ⟨W.heap.size, 1, none⟩ = some (.int .i64 ma) := cell_of_row _ _ 1 _ _ _ rA12_.out
  have A_2_ : (w2).cell? ⟨W.heap.size, 2, none⟩ = some (.int .i64 fi) := cell_of_row _ _ 2 _ _ _ rA12_.out
  have A_3_ : (w2).cell? ⟨W.heap.size, 3, none⟩ = some (.slice qp qn qc) := cell_of_row _ _ 3 _ _ _ rA12_.out
  have Af0_ : (w2).frozen? ⟨W.heap.size, 0, none⟩ = false := frozen_of_row _ _ 0 _ _ rA12_.out
  have Af1_ : (w2).frozen? ⟨W.heap.size, 1, none⟩ = false := frozen_of_row _ _ 1 _ _ rA12_.out
  have Af2_ : (w2).frozen? ⟨W.heap.size, 2, none⟩ = false := frozen_of_row _ _ 2 _ _ rA12_.out
  have Af3_ : (w2).frozen? ⟨W.heap.size, 3, none⟩ = false := frozen_of_row _ _ 3 _ _ rA12_.out
  have R_0_ : (w2).cell? ⟨W.heap.size + 1, 0, none⟩ = some (.int .i64 0) := cell_of_row _ _ 0 _ _ _ rR13_.out
  have R_1_ : (w2).cell? ⟨W.heap.size + 1, 1, none⟩ = some (.int .i64 0) := cell_of_row _ _ 1 _ _ _ rR13_.out
  have R_2_ : (w2).cell? ⟨W.heap.size + 1, 2, none⟩ = some (.int .i64 0) := cell_of_row _ _ 2 _ _ _ rR13_.out
  have R_3_ : (w2).cell? ⟨W.heap.size + 1, 3, none⟩ = some (.slice none 0 0) := cell_of_row _ _ 3 _ _ _ rR13_.out
  rcases inr_or fi 0 15 with ⟨f1, f2⟩ | hf
  rotate_left
  · have HF := Lib.hid hf
    clear hf
    go_wp2_with fail
    go_at_call 51
    clear A_0_ A_1_ A_2_ A_3_ Af0_ Af1_ Af2_ Af3_ R_0_ R_1_ R_2_ R_3_
    have rR16_ := Lib.hid (show ((w2.setCell ⟨W.heap.size, 0, none⟩ (.int .i64 (cn : Int)))).heap[W.heap.size + 1]? = some (.cells #[.int .i64 0, .int .i64 0, .int .i64 0, .slice none 0 0] 26 (0, 0)) from (set_far rR13_.out (by dsimp only; omega)))
    clear rR13_
    have rA17_ := Lib.hid (show ((w2.setCell ⟨W.heap.size, 0, none⟩ (.int .i64 (cn : Int)))).heap[W.heap.size]? = some (.cells #[.int .i64 (cn : Int), .int .i64 ma, .int .i64 fi, .slice qp qn qc] 26 (0, 0)) from (heap_setCell_same _ _ 0 _ _ _ rA12_.out))
    clear rA12_
    have oC18_ := Lib.hid (show OwU ((w2.setCell ⟨W.heap.size, 0, none⟩ (.int .i64 (cn : Int)))) (W.heap.size + 1 + 1) (w1.heap.size) [] [own shI (.slice qp qn qc) xs] from (OwU.keep (chg_one _ _ _ _) (by omega) oC14_.out))
    clear oC14_
    have G19_ := Lib.hid (show (W).grownBy ((w2.setCell ⟨W.heap.size, 0, none⟩ (.int .i64 (cn : Int)))) none from (gby_setnew G15_.out _ (by dsimp only; omega) _))
    have A_0_ : ((w2.setCell ⟨W.heap.size, 0, none⟩ (.int .i64 (cn : Int)))).cell? ⟨W.heap.size, 0, none⟩ = some (.int .i64 (cn : Int)) := cell_of_row _ _ 0 _ _ _ rA17_.out
    have A_1_ : ((w2.setCell ⟨W.heap.size, 0, none⟩ (.int .i64 (cn : Int)))).cell? ⟨W.heap.size, 1, none⟩ = some (.int .i64 ma) := cell_of_row _ _ 1 _ _ _ rA17_.out
    have A_2_ : ((w2.setCell ⟨W.heap.size, 0, none⟩ (.int .i64 (cn : Int)))).cell? ⟨W.heap.size, 2, none⟩ = some (.int .i64 fi) := cell_of_row _ _ 2 _ _ _ rA17_.out
    have A_3_ : ((w2.setCell ⟨W.heap.size, 0, none⟩ (.int .i64 (cn : Int)))).cell? ⟨W.heap.size, 3, none⟩ = some (.slice qp qn qc) := cell_of_row _ _ 3 _ _ _ rA17_.out
    have R_0_ : ((w2.setCell ⟨W.heap.size, 0, none⟩ (.int .i64 (cn : Int)))).cell? ⟨W.heap.size + 1, 0, none⟩ = some (.int .i64 0) := cell_of_row _ _ 0 _ _ _ rR16_.out
    have R_1_ : ((w2.setCell ⟨W.heap.size, 0, none⟩ (.int .i64 (cn : Int)))).cell? ⟨W.heap.size + 1, 1, none⟩ = some (.int .i64 0) := cell_of_row _ _ 1 _ _ _ rR16_.out
    have R_2_ : ((w2.setCell ⟨W.heap.size, 0, none⟩ (.int .i64 (cn : Int)))).cell? ⟨W.heap.size + 1, 2, none⟩ = some (.int .i64 0) := cell_of_row _ _ 2 _ _ _ rR16_.out
    have R_3_ : ((w2.setCell ⟨W.heap.size, 0, none⟩ (.int .i64 (cn : Int)))).cell? ⟨W.heap.size + 1, 3, none⟩ = some (.slice none 0 0) := cell_of_row _ _ 3 _ _ _ rR16_.out
    refine (hasErr_out _ _ _ HF.out).mono ?_
    rintro e w4 ⟨rfl, hd⟩
    have g := hd.gby none
    clear hd
    have sze_ := g.size
    try simp only [World.size_setCell, World.size_alloc] at sze_
    clear A_0_ A_1_ A_2_ A_3_ R_0_ R_1_ R_2_ R_3_
    have rA20_ := Lib.hid (show (w4).heap[W.heap.size]? = some (.cells #[.int .i64 (cn : Int), .int .i64 ma, .int .i64 fi, .slice qp qn qc] 26 (0, 0)) from row_held g rA17_.out)
    clear rA17_
    have rR21_ := Lib.hid (show (w4).heap[W.heap.size + 1]? = some (.cells #[.int .i64 0, .int .i64 0, .int .i64 0, .slice none 0 0] 26 (0, 0)) from row_held g rR16_.out)
    clear rR16_
    have oC22_ := Lib.hid (show OwU (w4) (W.heap.size + 1 + 1) (w1.heap.size) [] [own shI (.slice qp qn qc) xs] from OwU.grow oC18_.out g)
    clear oC18_
    have G23_ := Lib.hid (show (W).grownBy (w4) none from gby_trans G19_.out g)
    clear g
    have A_0_ : (w4).cell? ⟨W.heap.size, 0, none⟩ = some (.int .i64 (cn : Int)) := cell_of_row _ _ 0 _ _ _ rA20_.out
    have A_1_ : (w4).cell? ⟨W.heap.size, 1, none⟩ = some (.int .i64 ma) := cell_of_row _ _ 1 _ _ _ rA20_.out
    have A_2_ : (w4).cell? ⟨W.heap.size, 2, none⟩ = some (.int .i64 fi) := cell_of_row _ _ 2 _ _ _ rA20_.out
    have A_3_ : (w4).cell? ⟨W.heap.size, 3, none⟩ = some (.slice qp qn qc) := cell_of_row _ _ 3 _ _ _ rA20_.out
    have R_0_ : (w4).cell? ⟨W.heap.size + 1, 0, none⟩ = some (.int .i64 0) := cell_of_row _ _ 0 _ _ _ rR21_.out
    have R_1_ : (w4).cell? ⟨W.heap.size + 1, 1, none⟩ = some (.int .i64 0) := cell_of_row _ _ 1 _ _ _ rR21_.out
    have R_2_ : (w4).cell? ⟨W.heap.size + 1, 2, none⟩ = some (.int .i64 0) := cell_of_row _ _ 2 _ _ _ rR21_.out
    have R_3_ : (w4).cell? ⟨W.heap.size + 1, 3, none⟩ = some (.slice none 0 0) := cell_of_row _ _ 3 _ _ _ rR21_.out
    clear A_0_ A_1_ A_2_ A_3_ R_0_ R_1_ R_2_ R_3_
    have A_0_ : (w4).cell? ⟨W.heap.size, 0, none⟩ = some (.int .i64 (cn : Int)) := cell_of_row _ _ 0 _ _ _ rA20_.out
    have A_1_ : (w4).cell? ⟨W.heap.size, 1, none⟩ = some (.int .i64 ma) := cell_of_row _ _ 1 _ _ _ rA20_.out
    have A_2_ : (w4).cell? ⟨W.heap.size, 2, none⟩ = some (.int .i64 fi) := cell_of_row _ _ 2 _ _ _ rA20_.out
    have A_3_ : (w4).cell? ⟨W.heap.size, 3, none⟩ = some (.slice qp qn qc) := cell_of_row _ _ 3 _ _ _ rA20_.out
    have Af0_ : (w4).frozen? ⟨W.heap.size, 0, none⟩ = false := frozen_of_row _ _ 0 _ _ rA20_.out
    have Af1_ : (w4).frozen? ⟨W.heap.size, 1, none⟩ = false := frozen_of_row _ _ 1 _ _ rA20_.out
    have Af2_ : (w4).frozen? ⟨W.heap.size, 2, none⟩ = false := frozen_of_row _ _ 2 _ _ rA20_.out
    have Af3_ : (w4).frozen? ⟨W.heap.size, 3, none⟩ = false := frozen_of_row _ _ 3 _ _ rA20_.out
    have R_0_ : (w4).cell? ⟨W.heap.size + 1, 0, none⟩ = some (.int .i64 0) := cell_of_row _ _ 0 _ _ _ rR21_.out
    have R_1_ : (w4).cell? ⟨W.heap.size + 1, 1, none⟩ = some (.int .i64 0) := cell_of_row _ _ 1 _ _ _ rR21_.out
    have R_2_ : (w4).cell? ⟨W.heap.size + 1, 2, none⟩ = some (.int .i64 0) := cell_of_row _ _ 2 _ _ _ rR21_.out
    have R_3_ : (w4).cell? ⟨W.heap.size + 1, 3, none⟩ = some (.slice none 0 0) := cell_of_row _ _ 3 _ _ _ rR21_.out
    go_wp2_with fail
    go_at_call 53
    refine (least_any cn HCN.out _).mono ?_
    rintro e w5 ⟨rfl, g⟩
    have szq_ := g.size
    try simp only [World.size_setCell, World.size_alloc] at szq_
    clear A_0_ A_1_ A_2_ A_3_ Af0_ Af1_ Af2_ Af3_ R_0_ R_1_ R_2_ R_3_
    have rA24_ := Lib.hid (show (w5).heap[W.heap.size]? = some (.cells #[.int .i64 (cn : Int), .int .i64 ma, .int .i64 fi, .slice qp qn qc] 26 (0, 0)) from row_held g rA20_.out)
    clear rA20_
    have rR25_ := Lib.hid (show (w5).heap[W.heap.size + 1]? = some (.cells #[.int .i64 0, .int .i64 0, .int .i64 0, .slice none 0 0] 26 (0, 0)) from row_held g rR21_.out)
    clear rR21_
    have oC26_ := Lib.hid (show OwU (w5) (W.heap.size + 1 + 1) (w1.heap.size) [] [own shI (.slice qp qn qc) xs] from OwU.grow oC22_.out g)
    clear oC22_
    have G27_ := Lib.hid (show (W).grownBy (w5) none from gby_trans G23_.out g)
    clear g
    obtain ⟨d_, hd_⟩ : ∃ d, d = dwn cn 16 := ⟨_, rfl⟩
    have HCF := Lib.hid ((clF_out (s := cn) HF.out).trans hd_.symm)
    rw [← hd_]
    clear hd_
    -- the store of First, then the result
    have A_0_ : (w5).cell? ⟨W.heap.size, 0, none⟩ = some (.int .i64 (cn : Int)) := cell_of_row _ _ 0 _ _ _ rA24_.out
    have A_1_ : (w5).cell? ⟨W.heap.size, 1, none⟩ = some (.int .i64 ma) := cell_of_row _ _ 1 _ _ _ rA24_.out
    have A_2_ : (w5).cell? ⟨W.heap.size, 2, none⟩ = some (.int .i64 fi) := cell_of_row _ _ 2 _ _ _ rA24_.out
    have A_3_ : (w5).cell? ⟨W.heap.size, 3, none⟩ = some (.slice qp qn qc) := cell_of_row _ _ 3 _ _ _ rA24_.out
    have Af0_ : (w5).frozen? ⟨W.heap.size, 0, none⟩ = false := frozen_of_row _ _ 0 _ _ rA24_.out
    have Af1_ : (w5).frozen? ⟨W.heap.size, 1, none⟩ = false := frozen_of_row _ _ 1 _ _ rA24_.out
    have Af2_ : (w5).frozen? ⟨W.heap.size, 2, none⟩ = false := frozen_of_row _ _ 2 _ _ rA24_.out
    have Af3_ : (w5).frozen? ⟨W.heap.size, 3, none⟩ = false := frozen_of_row _ _ 3 _ _ rA24_.out
    have R_0_ : (w5).cell? ⟨W.heap.size + 1, 0, none⟩ = some (.int .i64 0) := cell_of_row _ _ 0 _ _ _ rR25_.out
    have R_1_ : (w5).cell? ⟨W.heap.size + 1, 1, none⟩ = some (.int .i64 0) := cell_of_row _ _ 1 _ _ _ rR25_.out
    have R_2_ : (w5).cell? ⟨W.heap.size + 1, 2, none⟩ = some (.int .i64 0) := cell_of_row _ _ 2 _ _ _ rR25_.out
    have R_3_ : (w5).cell? ⟨W.heap.size + 1, 3, none⟩ = some (.slice none 0 0) := cell_of_row _ _ 3 _ _ _ rR25_.out
    have Rf0_ : (w5).frozen? ⟨W.heap.size + 1, 0, none⟩ = false := frozen_of_row _ _ 0 _ _ rR25_.out
    have Rf1_ : (w5).frozen? ⟨W.heap.size + 1, 1, none⟩ = false := frozen_of_row _ _ 1 _ _ rR25_.out
    have Rf2_ : (w5).frozen? ⟨W.heap.size + 1, 2, none⟩ = false := frozen_of_row _ _ 2 _ _ rR25_.out
    have Rf3_ : (w5).frozen? ⟨W.heap.size + 1, 3, none⟩ = false := frozen_of_row _ _ 3 _ _ rR25_.out
    have rA2_ := Lib.hid (show ((w5.setCell ⟨W.heap.size, 2, none⟩ (.int .i64 d_))).heap[W.heap.size]? = some (.cells #[.int .i64 (cn : Int), .int .i64 ma, .int .i64 d_, .slice qp qn qc] 26 (0, 0)) from heap_setCell_same _ _ 2 _ _ _ rA24_.out)
    have rR2_ := Lib.hid (show ((w5.setCell ⟨W.heap.size, 2, none⟩ (.int .i64 d_))).heap[W.heap.size + 1]? = some (.cells #[.int .i64 0, .int .i64 0, .int .i64 0, .slice none 0 0] 26 (0, 0)) from set_far rR25_.out (by dsimp only; omega))
    have zr_ := Lib.hid (show ((((((w5.setCell ⟨W.heap.size, 2, none⟩ (.int .i64 d_)).setCell ⟨W.heap.size + 1, 0, none⟩ (.int .i64 (cn : Int))).setCell ⟨W.heap.size + 1, 1, none⟩ (.int .i64 ma)).setCell ⟨W.heap.size + 1, 2, none⟩ (.int .i64 d_)).setCell ⟨W.heap.size + 1, 3, none⟩ (.slice qp qn qc))).heap[W.heap.size + 1]? = some (.cells #[.int .i64 (cn : Int), .int .i64 ma, .int .i64 d_, .slice qp qn qc] 26 (0, 0)) from (heap_setCell_same _ _ 3 _ _ _ (heap_setCell_same _ _ 2 _ _ _ (heap_setCell_same _ _ 1 _ _ _ (heap_setCell_same _ _ 0 _ _ _ rR2_.out)))))
    have z0_ : ((((((w5.setCell ⟨W.heap.size, 2, none⟩ (.int .i64 d_)).setCell ⟨W.heap.size + 1, 0, none⟩ (.int .i64 (cn : Int))).setCell ⟨W.heap.size + 1, 1, none⟩ (.int .i64 ma)).setCell ⟨W.heap.size + 1, 2, none⟩ (.int .i64 d_)).setCell ⟨W.heap.size + 1, 3, none⟩ (.slice qp qn qc))).cell? ⟨W.heap.size + 1, 0, none⟩ = some (.int .i64 (cn : Int)) := cell_of_row _ _ 0 _ _ _ zr_.out
    have z1_ : ((((((w5.setCell ⟨W.heap.size, 2, none⟩ (.int .i64 d_)).setCell ⟨W.heap.size + 1, 0, none⟩ (.int .i64 (cn : Int))).setCell ⟨W.heap.size + 1, 1, none⟩ (.int .i64 ma)).setCell ⟨W.heap.size + 1, 2, none⟩ (.int .i64 d_)).setCell ⟨W.heap.size + 1, 3, none⟩ (.slice qp qn qc))).cell? ⟨W.heap.size + 1, 1, none⟩ = some (.int .i64 ma) := cell_of_row _ _ 1 _ _ _ zr_.out
    have z2_ : ((((((w5.setCell ⟨W.heap.size, 2, none⟩ (.int .i64 d_)).setCell ⟨W.heap.size + 1, 0, none⟩ (.int .i64 (cn : Int))).setCell ⟨W.heap.size + 1, 1, none⟩ (.int .i64 ma)).setCell ⟨W.heap.size + 1, 2, none⟩ (.int .i64 d_)).setCell ⟨W.heap.size + 1, 3, none⟩ (.slice qp qn qc))).cell? ⟨W.heap.size + 1, 2, none⟩ = some (.int .i64 d_) := cell_of_row _ _ 2 _ _ _ zr_.out
    have z3_ : ((((((w5.setCell ⟨W.heap.size, 2, none⟩ (.int .i64 d_)).setCell ⟨W.heap.size + 1, 0, none⟩ (.int .i64 (cn : Int))).setCell ⟨W.heap.size + 1, 1, none⟩ (.int .i64 ma)).setCell ⟨W.heap.size + 1, 2, none⟩ (.int .i64 d_)).setCell ⟨W.heap.size + 1, 3, none⟩ (.slice qp qn qc))).cell? ⟨W.heap.size + 1, 3, none⟩ = some (.slice qp qn qc) := cell_of_row _ _ 3 _ _ _ zr_.out
    go_wp2
    refine bodyPost_ret (v := .agg #[.int .i64 (cn : Int), .int .i64 ma, .int .i64 d_, .slice qp qn qc]) (by simp [results, go_sem, z0_, z1_, z2_, z3_]) rfl ⟨.slice qp qn qc, by rw [HCF.out] <;> rfl, ?_, ?_⟩
    · exact OwU.wide (lo := W.heap.size + 1 + 1) (by omega) (by simp only [World.size_setCell]; omega) (OwU.keep (chg_one _ _ _ _) (.inr (by omega)) (OwU.keep (chg_one _ _ _ _) (.inr (by omega)) (OwU.keep (chg_one _ _ _ _) (.inr (by omega)) (OwU.keep (chg_one _ _ _ _) (.inr (by omega)) (OwU.keep (chg_one _ _ _ _) (.inr (by omega)) oC26_.out)))))
    · exact (gby_setnew (gby_setnew (gby_setnew (gby_setnew (gby_setnew G27_.out _ (by dsimp only; omega) _) _ (by dsimp only; omega) _) _ (by dsimp only; omega) _) _ (by dsimp only; omega) _) _ (by dsimp only; omega) _)
  obtain ⟨f, rfl⟩ : ∃ f : Nat, fi = (f : Int) := ⟨fi.toNat, by omega⟩
  have hf15 : f ≤ 15 := by omega
  have HHE := Lib.hid (fun W => hasErr_in cn f W HCN.out hf15)
  cases hbit : bitB cn f with
  | true =>
    rw [hbit] at HHE
    have HB := Lib.hid hbit
    clear hbit
    go_wp2_with fail
    go_at_call 51
    clear A_0_ A_1_ A_2_ A_3_ Af0_ Af1_ Af2_ Af3_ R_0_ R_1_ R_2_ R_3_
    have rR16_ := Lib.hid (show ((w2.setCell ⟨W.heap.size, 0, none⟩ (.int .i64 (cn : Int)))).heap[W.heap.size + 1]? = some (.cells #[.int .i64 0, .int .i64 0, .int .i64 0, .slice none 0 0] 26 (0, 0)) from (set_far rR13_.out (by dsimp only; omega)))
    clear rR13_
    have rA17_ := Lib.hid (show ((w2.setCell ⟨W.heap.size, 0, none⟩ (.int .i64 (cn : Int)))).heap[W.heap.size]? = some (.cells #[.int .i64 (cn : Int), .int .i64 ma, .int .i64 (f : Int), .slice qp qn qc] 26 (0, 0)) from (heap_setCell_same _ _ 0 _ _ _ rA12_.out))
    clear rA12_
    have oC18_ := Lib.hid (show OwU ((w2.setCell ⟨W.heap.size, 0, none⟩ (.int .i64 (cn : Int)))) (W.heap.size + 1 + 1) (w1.heap.size) [] [own shI (.slice qp qn qc) xs] from (OwU.keep (chg_one _ _ _ _) (by omega) oC14_.out))
    clear oC14_
    have G19_ := Lib.hid (show (W).grownBy ((w2.setCell ⟨W.heap.size, 0, none⟩ (.int .i64 (cn : Int)))) none from (gby_setnew G15_.out _ (by dsimp only; omega) _))
    have A_0_ : ((w2.setCell ⟨W.heap.size, 0, none⟩ (.int .i64 (cn : Int)))).cell? ⟨W.heap.size, 0, none⟩ = some (.int .i64 (cn : Int)) := cell_of_row _ _ 0 _ _ _ rA17_.out
    have A_1_ : ((w2.setCell ⟨W.heap.size, 0, none⟩ (.int .i64 (cn : Int)))).cell? ⟨W.heap.size, 1, none⟩ = some (.int .i64 ma) := cell_of_row _ _ 1 _ _ _ rA17_.out
    have A_2_ : ((w2.setCell ⟨W.heap.size, 0, none⟩ (.int .i64 (cn : Int)))).cell? ⟨W.heap.size, 2, none⟩ = some (.int .i64 (f : Int)) := cell_of_row _ _ 2 _ _ _ rA17_.out
    have A_3_ : ((w2.setCell ⟨W.heap.size, 0, none⟩ (.int .i64 (cn : Int)))).cell? ⟨W.heap.size, 3, none⟩ = some (.slice qp qn qc) := cell_of_row _ _ 3 _ _ _ rA17_.out
    have R_0_ : ((w2.setCell ⟨W.heap.size, 0, none⟩ (.int .i64 (cn : Int)))).cell? ⟨W.heap.size + 1, 0, none⟩ = some (.int .i64 0) := cell_of_row _ _ 0 _ _ _ rR16_.out
    have R_1_ : ((w2.setCell ⟨W.heap.size, 0, none⟩ (.int .i64 (cn : Int)))).cell? ⟨W.heap.size + 1, 1, none⟩ = some (.int .i64 0) := cell_of_row _ _ 1 _ _ _ rR16_.out
    have R_2_ : ((w2.setCell ⟨W.heap.size, 0, none⟩ (.int .i64 (cn : Int)))).cell? ⟨W.heap.size + 1, 2, none⟩ = some (.int .i64 0) := cell_of_row _ _ 2 _ _ _ rR16_.out
    have R_3_ : ((w2.setCell ⟨W.heap.size, 0, none⟩ (.int .i64 (cn : Int)))).cell? ⟨W.heap.size + 1, 3, none⟩ = some (.slice none 0 0) := cell_of_row _ _ 3 _ _ _ rR16_.out
    refine (HHE.out _).mono ?_
    rintro e w4 ⟨rfl, hd⟩
    have g := hd.gby none
    clear hd
    have sze_ := g.size
    try simp only [World.size_setCell, World.size_alloc] at sze_
    clear A_0_ A_1_ A_2_ A_3_ R_0_ R_1_ R_2_ R_3_
    have rA20_ := Lib.hid (show (w4).heap[W.heap.size]? = some (.cells #[.int .i64 (cn : Int), .int .i64 ma, .int .i64 (f : Int), .slice qp qn qc] 26 (0, 0)) from row_held g rA17_.out)
    clear rA17_
    have rR21_ := Lib.hid (show (w4).heap[W.heap.size + 1]? = some (.cells #[.int .i64 0, .int .i64 0, .int .i64 0, .slice none 0 0] 26 (0, 0)) from row_held g rR16_.out)
    clear rR16_
    have oC22_ := Lib.hid (show OwU (w4) (W.heap.size + 1 + 1) (w1.heap.size) [] [own shI (.slice qp qn qc) xs] from OwU.grow oC18_.out g)
    clear oC18_
    have G23_ := Lib.hid (show (W).grownBy (w4) none from gby_trans G19_.out g)
    clear g
    have A_0_ : (w4).cell? ⟨W.heap.size, 0, none⟩ = some (.int .i64 (cn : Int)) := cell_of_row _ _ 0 _ _ _ rA20_.out
    have A_1_ : (w4).cell? ⟨W.heap.size, 1, none⟩ = some (.int .i64 ma) := cell_of_row _ _ 1 _ _ _ rA20_.out
    have A_2_ : (w4).cell? ⟨W.heap.size, 2, none⟩ = some (.int .i64 (f : Int)) := cell_of_row _ _ 2 _ _ _ rA20_.out
    have A_3_ : (w4).cell? ⟨W.heap.size, 3, none⟩ = some (.slice qp qn qc) := cell_of_row _ _ 3 _ _ _ rA20_.out
    have R_0_ : (w4).cell? ⟨W.heap.size + 1, 0, none⟩ = some (.int .i64 0) := cell_of_row _ _ 0 _ _ _ rR21_.out
    have R_1_ : (w4).cell? ⟨W.heap.size + 1, 1, none⟩ = some (.int .i64 0) := cell_of_row _ _ 1 _ _ _ rR21_.out
    have R_2_ : (w4).cell? ⟨W.heap.size + 1, 2, none⟩ = some (.int .i64 0) := cell_of_row _ _ 2 _ _ _ rR21_.out
    have R_3_ : (w4).cell? ⟨W.heap.size + 1, 3, none⟩ = some (.slice none 0 0) := cell_of_row _ _ 3 _ _ _ rR21_.out
    have HCF := Lib.hid (clF_keep hf15 HB.out)
    clear A_0_ A_1_ A_2_ A_3_ R_0_ R_1_ R_2_ R_3_
    have A_0_ : (w4).cell? ⟨W.heap.size, 0, none⟩ = some (.int .i64 (cn : Int)) := cell_of_row _ _ 0 _ _ _ rA20_.out
    have A_1_ : (w4).cell? ⟨W.heap.size, 1, none⟩ = some (.int .i64 ma) := cell_of_row _ _ 1 _ _ _ rA20_.out
    have A_2_ : (w4).cell? ⟨W.heap.size, 2, none⟩ = some (.int .i64 (f : Int)) := cell_of_row _ _ 2 _ _ _ rA20_.out
    have A_3_ : (w4).cell? ⟨W.heap.size, 3, none⟩ = some (.slice qp qn qc) := cell_of_row _ _ 3 _ _ _ rA20_.out
    have R_0_ : (w4).cell? ⟨W.heap.size + 1, 0, none⟩ = some (.int .i64 0) := cell_of_row _ _ 0 _ _ _ rR21_.out
    have R_1_ : (w4).cell? ⟨W.heap.size + 1, 1, none⟩ = some (.int .i64 0) := cell_of_row _ _ 1 _ _ _ rR21_.out
    have R_2_ : (w4).cell? ⟨W.heap.size + 1, 2, none⟩ = some (.int .i64 0) := cell_of_row _ _ 2 _ _ _ rR21_.out
    have R_3_ : (w4).cell? ⟨W.heap.size + 1, 3, none⟩ = some (.slice none 0 0) := cell_of_row _ _ 3 _ _ _ rR21_.out
    have Rf0_ : (w4).frozen? ⟨W.heap.size + 1, 0, none⟩ = false := frozen_of_row _ _ 0 _ _ rR21_.out
    have Rf1_ : (w4).frozen? ⟨W.heap.size + 1, 1, none⟩ = false := frozen_of_row _ _ 1 _ _ rR21_.out
    have Rf2_ : (w4).frozen? ⟨W.heap.size + 1, 2, none⟩ = false := frozen_of_row _ _ 2 _ _ rR21_.out
    have Rf3_ : (w4).frozen? ⟨W.heap.size + 1, 3, none⟩ = false := frozen_of_row _ _ 3 _ _ rR21_.out
    have zr_ := Lib.hid (show (((((w4.setCell ⟨W.heap.size + 1, 0, none⟩ (.int .i64 (cn : Int))).setCell ⟨W.heap.size + 1, 1, none⟩ (.int .i64 ma)).setCell ⟨W.heap.size + 1, 2, none⟩ (.int .i64 (f : Int))).setCell ⟨W.heap.size + 1, 3, none⟩ (.slice qp qn qc))).heap[W.heap.size + 1]? = some (.cells #[.int .i64 (cn : Int), .int .i64 ma, .int .i64 (f : Int), .slice qp qn qc] 26 (0, 0)) from (heap_setCell_same _ _ 3 _ _ _ (heap_setCell_same _ _ 2 _ _ _ (heap_setCell_same _ _ 1 _ _ _ (heap_setCell_same _ _ 0 _ _ _ rR21_.out)))))
    have z0_ : (((((w4.setCell ⟨W.heap.size + 1, 0, none⟩ (.int .i64 (cn : Int))).setCell ⟨W.heap.size + 1, 1, none⟩ (.int .i64 ma)).setCell ⟨W.heap.size + 1, 2, none⟩ (.int .i64 (f : Int))).setCell ⟨W.heap.size + 1, 3, none⟩ (.slice qp qn qc))).cell? ⟨W.heap.size + 1, 0, none⟩ = some (.int .i64 (cn : Int)) := cell_of_row _ _ 0 _ _ _ zr_.out
    have z1_ : (((((w4.setCell ⟨W.heap.size + 1, 0, none⟩ (.int .i64 (cn : Int))).setCell ⟨W.heap.size + 1, 1, none⟩ (.int .i64 ma)).setCell ⟨W.heap.size + 1, 2, none⟩ (.int .i64 (f : Int))).setCell ⟨W.heap.size + 1, 3, none⟩ (.slice qp qn qc))).cell? ⟨W.heap.size + 1, 1, none⟩ = some (.int .i64 ma) := cell_of_row _ _ 1 _ _ _ zr_.out
    have z2_ : (((((w4.setCell ⟨W.heap.size + 1, 0, none⟩ (.int .i64 (cn : Int))).setCell ⟨W.heap.size + 1, 1, none⟩ (.int .i64 ma)).setCell ⟨W.heap.size + 1, 2, none⟩ (.int .i64 (f : Int))).setCell ⟨W.heap.size + 1, 3, none⟩ (.slice qp qn qc))).cell? ⟨W.heap.size + 1, 2, none⟩ = some (.int .i64 (f : Int)) := cell_of_row _ _ 2 _ _ _ zr_.out
    have z3_ : (((((w4.setCell ⟨W.heap.size + 1, 0, none⟩ (.int .i64 (cn : Int))).setCell ⟨W.heap.size + 1, 1, none⟩ (.int .i64 ma)).setCell ⟨W.heap.size + 1, 2, none⟩ (.int .i64 (f : Int))).setCell ⟨W.heap.size + 1, 3, none⟩ (.slice qp qn qc))).cell? ⟨W.heap.size + 1, 3, none⟩ = some (.slice qp qn qc) := cell_of_row _ _ 3 _ _ _ zr_.out
    go_wp2
    refine bodyPost_ret (v := .agg #[.int .i64 (cn : Int), .int .i64 ma, .int .i64 (f : Int), .slice qp qn qc]) (by simp [results, go_sem, z0_, z1_, z2_, z3_]) rfl ⟨.slice qp qn qc, by rw [HCF.out] <;> rfl, ?_, ?_⟩
    · exact OwU.wide (lo := W.heap.size + 1 + 1) (by omega) (by simp only [World.size_setCell]; omega) (OwU.keep (chg_one _ _ _ _) (.inr (by omega)) (OwU.keep (chg_one _ _ _ _) (.inr (by omega)) (OwU.keep (chg_one _ _ _ _) (.inr (by omega)) (OwU.keep (chg_one _ _ _ _) (.inr (by omega)) oC22_.out))))
    · exact (gby_setnew (gby_setnew (gby_setnew (gby_setnew G23_.out _ (by dsimp only; omega) _) _ (by dsimp only; omega) _) _ (by dsimp only; omega) _) _ (by dsimp only; omega) _)

  | false =>
    rw [hbit] at HHE
    have HB := Lib.hid hbit
    clear hbit
    go_wp2_with fail
    go_at_call 51
    clear A_0_ A_1_ A_2_ A_3_ Af0_ Af1_ Af2_ Af3_ R_0_ R_1_ R_2_ R_3_
    have rR16_ := Lib.hid (show ((w2.setCell ⟨W.heap.size, 0, none⟩ (.int .i64 (cn : Int)))).heap[W.heap.size + 1]? = some (.cells #[.int .i64 0, .int .i64 0, .int .i64 0, .slice none 0 0] 26 (0, 0)) from (set_far rR13_.out (by dsimp only; omega)))
    clear rR13_
    have rA17_ := Lib.hid (show ((w2.setCell ⟨W.heap.size, 0, none⟩ (.int .i64 (cn : Int)))).heap[W.heap.size]? = some (.cells #[.int .i64 (cn : Int), .int .i64 ma, .int .i64 (f : Int), .slice qp qn qc] 26 (0, 0)) from (heap_setCell_same _ _ 0 _ _ _ rA12_.out))
    clear rA12_
    have oC18_ := Lib.hid (show OwU ((w2.setCell ⟨W.heap.size, 0, none⟩ (.int .i64 (cn : Int)))) (W.heap.size + 1 + 1) (w1.heap.size) [] [own shI (.slice qp qn qc) xs] from (OwU.keep (chg_one _ _ _ _) (by omega) oC14_.out))
    clear oC14_
    have G19_ := Lib.hid (show (W).grownBy ((w2.setCell ⟨W.heap.size, 0, none⟩ (.int .i64 (cn : Int)))) none from (gby_setnew G15_.out _ (by dsimp only; omega) _))
    have A_0_ : ((w2.setCell ⟨W.heap.size, 0, none⟩ (.int .i64 (cn : Int)))).cell? ⟨W.heap.size, 0, none⟩ = some (.int .i64 (cn : Int)) := cell_of_row _ _ 0 _ _ _ rA17_.out
    have A_1_ : ((w2.setCell ⟨W.heap.size, 0, none⟩ (.int .i64 (cn : Int)))).cell? ⟨W.heap.size, 1, none⟩ = some (.int .i64 ma) := cell_of_row _ _ 1 _ _ _ rA17_.out
    have A_2_ : ((w2.setCell ⟨W.heap.size, 0, none⟩ (.int .i64 (cn : Int)))).cell? ⟨W.heap.size, 2, none⟩ = some (.int .i64 (f : Int)) := cell_of_row _ _ 2 _ _ _ rA17_.out
    have A_3_ : ((w2.setCell ⟨W.heap.size, 0, none⟩ (.int .i64 (cn : Int)))).cell? ⟨W.heap.size, 3, none⟩ = some (.slice qp qn qc) := cell_of_row _ _ 3 _ _ _ rA17_.out
    have R_0_ : ((w2.setCell ⟨W.heap.size, 0, none⟩ (.int .i64 (cn : Int)))).cell? ⟨W.heap.size + 1, 0, none⟩ = some (.int .i64 0) := cell_of_row _ _ 0 _ _ _ rR16_.out
    have R_1_ : ((w2.setCell ⟨W.heap.size, 0, none⟩ (.int .i64 (cn : Int)))).cell? ⟨W.heap.size + 1, 1, none⟩ = some (.int .i64 0) := cell_of_row _ _ 1 _ _ _ rR16_.out
    have R_2_ : ((w2.setCell ⟨W.heap.size, 0, none⟩ (.int .i64 (cn : Int)))).cell? ⟨W.heap.size + 1, 2, none⟩ = some (.int .i64 0) := cell_of_row _ _ 2 _ _ _ rR16_.out
    have R_3_ : ((w2.setCell ⟨W.heap.size, 0, none⟩ (.int .i64 (cn : Int)))).cell? ⟨W.heap.size + 1, 3, none⟩ = some (.slice none 0 0) := cell_of_row _ _ 3 _ _ _ rR16_.out
    refine (HHE.out _).mono ?_
    rintro e w4 ⟨rfl, hd⟩
    have g := hd.gby none
    clear hd
    have sze_ := g.size
    try simp only [World.size_setCell, World.size_alloc] at sze_
    clear A_0_ A_1_ A_2_ A_3_ R_0_ R_1_ R_2_ R_3_
    have rA20_ := Lib.hid (show (w4).heap[W.heap.size]? = some (.cells #[.int .i64 (cn : Int), .int .i64 ma, .int .i64 (f : Int), .slice qp qn qc] 26 (0, 0)) from row_held g rA17_.out)
    clear rA17_
    have rR21_ := Lib.hid (show (w4).heap[W.heap.size + 1]? = some (.cells #[.int .i64 0, .int .i64 0, .int .i64 0, .slice none 0 0] 26 (0, 0)) from row_held g rR16_.out)
    clear rR16_
    have oC22_ := Lib.hid (show OwU (w4) (W.heap.size + 1 + 1) (w1.heap.size) [] [own shI (.slice qp qn qc) xs] from OwU.grow oC18_.out g)
    clear oC18_
    have G23_ := Lib.hid (show (W).grownBy (w4) none from gby_trans G19_.out g)
    clear g
    have A_0_ : (w4).cell? ⟨W.heap.size, 0, none⟩ = some (.int .i64 (cn : Int)) := cell_of_row _ _ 0 _ _ _ rA20_.out
    have A_1_ : (w4).cell? ⟨W.heap.size, 1, none⟩ = some (.int .i64 ma) := cell_of_row _ _ 1 _ _ _ rA20_.out
    have A_2_ : (w4).cell? ⟨W.heap.size, 2, none⟩ = some (.int .i64 (f : Int)) := cell_of_row _ _ 2 _ _ _ rA20_.out
    have A_3_ : (w4).cell? ⟨W.heap.size, 3, none⟩ = some (.slice qp qn qc) := cell_of_row _ _ 3 _ _ _ rA20_.out
    have R_0_ : (w4).cell? ⟨W.heap.size + 1, 0, none⟩ = some (.int .i64 0) := cell_of_row _ _ 0 _ _ _ rR21_.out
    have R_1_ : (w4).cell? ⟨W.heap.size + 1, 1, none⟩ = some (.int .i64 0) := cell_of_row _ _ 1 _ _ _ rR21_.out
    have R_2_ : (w4).cell? ⟨W.heap.size + 1, 2, none⟩ = some (.int .i64 0) := cell_of_row _ _ 2 _ _ _ rR21_.out
    have R_3_ : (w4).cell? ⟨W.heap.size + 1, 3, none⟩ = some (.slice none 0 0) := cell_of_row _ _ 3 _ _ _ rR21_.out
    clear A_0_ A_1_ A_2_ A_3_ R_0_ R_1_ R_2_ R_3_
    have A_0_ : (w4).cell? ⟨W.heap.size, 0, none⟩ = some (.int .i64 (cn : Int)) := cell_of_row _ _ 0 _ _ _ rA20_.out
    have A_1_ : (w4).cell? ⟨W.heap.size, 1, none⟩ = some (.int .i64 ma) := cell_of_row _ _ 1 _ _ _ rA20_.out
    have A_2_ : (w4).cell? ⟨W.heap.size, 2, none⟩ = some (.int .i64 (f : Int)) := cell_of_row _ _ 2 _ _ _ rA20_.out
    have A_3_ : (w4).cell? ⟨W.heap.size, 3, none⟩ = some (.slice qp qn qc) := cell_of_row _ _ 3 _ _ _ rA20_.out
    have Af0_ : (w4).frozen? ⟨W.heap.size, 0, none⟩ = false := frozen_of_row _ _ 0 _ _ rA20_.out
    have Af1_ : (w4).frozen? ⟨W.heap.size, 1, none⟩ = false := frozen_of_row _ _ 1 _ _ rA20_.out
    have Af2_ : (w4).frozen? ⟨W.heap.size, 2, none⟩ = false := frozen_of_row _ _ 2 _ _ rA20_.out
    have Af3_ : (w4).frozen? ⟨W.heap.size, 3, none⟩ = false := frozen_of_row _ _ 3 _ _ rA20_.out
    have R_0_ : (w4).cell? ⟨W.heap.size + 1, 0, none⟩ = some (.int .i64 0) := cell_of_row _ _ 0 _ _ _ rR21_.out
    have R_1_ : (w4).cell? ⟨W.heap.size + 1, 1, none⟩ = some (.int .i64 0) := cell_of_row _ _ 1 _ _ _ rR21_.out
    have R_2_ : (w4).cell? ⟨W.heap.size + 1, 2, none⟩ = some (.int .i64 0) := cell_of_row _ _ 2 _ _ _ rR21_.out
    have R_3_ : (w4).cell? ⟨W.heap.size + 1, 3, none⟩ = some (.slice none 0 0) := cell_of_row _ _ 3 _ _ _ rR21_.out
    go_wp2_with fail
    go_at_call 53
    refine (least_any cn HCN.out _).mono ?_
    rintro e w5 ⟨rfl, g⟩
    have szq_ := g.size
    try simp only [World.size_setCell, World.size_alloc] at szq_
    clear A_0_ A_1_ A_2_ A_3_ Af0_ Af1_ Af2_ Af3_ R_0_ R_1_ R_2_ R_3_
    have rA24_ := Lib.hid (show (w5).heap[W.heap.size]? = some (.cells #[.int .i64 (cn : Int), .int .i64 ma, .int .i64 (f : Int), .slice qp qn qc] 26 (0, 0)) from row_held g rA20_.out)
    clear rA20_
    have rR25_ := Lib.hid (show (w5).heap[W.heap.size + 1]? = some (.cells #[.int .i64 0, .int .i64 0, .int .i64 0, .slice none 0 0] 26 (0, 0)) from row_held g rR21_.out)
    clear rR21_
    have oC26_ := Lib.hid (show OwU (w5) (W.heap.size + 1 + 1) (w1.heap.size) [] [own shI (.slice qp qn qc) xs] from OwU.grow oC22_.out g)
    clear oC22_
    have G27_ := Lib.hid (show (W).grownBy (w5) none from gby_trans G23_.out g)
    clear g
    obtain ⟨d_, hd_⟩ : ∃ d, d = dwn cn 16 := ⟨_, rfl⟩
    have HCF := Lib.hid ((clF_new HB.out).trans hd_.symm)
    rw [← hd_]
    clear hd_
    -- the store of First, then the result
    have A_0_ : (w5).cell? ⟨W.heap.size, 0, none⟩ = some (.int .i64 (cn : Int)) := cell_of_row _ _ 0 _ _ _ rA24_.out
    have A_1_ : (w5).cell? ⟨W.heap.size, 1, none⟩ = some (.int .i64 ma) := cell_of_row _ _ 1 _ _ _ rA24_.out
    have A_2_ : (w5).cell? ⟨W.heap.size, 2, none⟩ = some (.int .i64 (f : Int)) := cell_of_row _ _ 2 _ _ _ rA24_.out
    have A_3_ : (w5).cell? ⟨W.heap.size, 3, none⟩ = some (.slice qp qn qc) := cell_of_row _ _ 3 _ _ _ rA24_.out
    have Af0_ : (w5).frozen? ⟨W.heap.size, 0, none⟩ = false := frozen_of_row _ _ 0 _ _ rA24_.out
    have Af1_ : (w5).frozen? ⟨W.heap.size, 1, none⟩ = false := frozen_of_row _ _ 1 _ _ rA24_.out
    have Af2_ : (w5).frozen? ⟨W.heap.size, 2, none⟩ = false := frozen_of_row _ _ 2 _ _ rA24_.out
    have Af3_ : (w5).frozen? ⟨W.heap.size, 3, none⟩ = false := frozen_of_row _ _ 3 _ _ rA24_.out
    have R_0_ : (w5).cell? ⟨W.heap.size + 1, 0, none⟩ = some (.int .i64 0) := cell_of_row _ _ 0 _ _ _ rR25_.out
    have R_1_ : (w5).cell? ⟨W.heap.size + 1, 1, none⟩ = some (.int .i64 0) := cell_of_row _ _ 1 _ _ _ rR25_.out
    have R_2_ : (w5).cell? ⟨W.heap.size + 1, 2, none⟩ = some (.int .i64 0) := cell_of_row _ _ 2 _ _ _ rR25_.out
    have R_3_ : (w5).cell? ⟨W.heap.size + 1, 3, none⟩ = some (.slice none 0 0) := cell_of_row _ _ 3 _ _ _ rR25_.out
    have Rf0_ : (w5).frozen? ⟨W.heap.size + 1, 0, none⟩ = false := frozen_of_row _ _ 0 _ _ rR25_.out
    have Rf1_ : (w5).frozen? ⟨W.heap.size + 1, 1, none⟩ = false := frozen_of_row _ _ 1 _ _ rR25_.out
    have Rf2_ : (w5).frozen? ⟨W.heap.size + 1, 2, none⟩ = false := frozen_of_row _ _ 2 _ _ rR25_.out
    have Rf3_ : (w5).frozen? ⟨W.heap.size + 1, 3, none⟩ = false := frozen_of_row _ _ 3 _ _ rR25_.out
    have rA2_ := Lib.hid (show ((w5.setCell ⟨W.heap.size, 2, none⟩ (.int .i64 d_))).heap[W.heap.size]? = some (.cells #[.int .i64 (cn : Int), .int .i64 ma, .int .i64 d_, .slice qp qn qc] 26 (0, 0)) from heap_setCell_same _ _ 2 _ _ _ rA24_.out)
    have rR2_ := Lib.hid (show ((w5.setCell ⟨W.heap.size, 2, none⟩ (.int .i64 d_))).heap[W.heap.size + 1]? = some (.cells #[.int .i64 0, .int .i64 0, .int .i64 0, .slice none 0 0] 26 (0, 0)) from set_far rR25_.out (by dsimp only; omega))
    have zr_ := Lib.hid (show ((((((w5.setCell ⟨W.heap.size, 2, none⟩ (.int .i64 d_)).setCell ⟨W.heap.size + 1, 0, none⟩ (.int .i64 (cn : Int))).setCell ⟨W.heap.size + 1, 1, none⟩ (.int .i64 ma)).setCell ⟨W.heap.size + 1, 2, none⟩ (.int .i64 d_)).setCell ⟨W.heap.size + 1, 3, none⟩ (.slice qp qn qc))).heap[W.heap.size + 1]? = some (.cells #[.int .i64 (cn : Int), .int .i64 ma, .int .i64 d_, .slice qp qn qc] 26 (0, 0)) from (heap_setCell_same _ _ 3 _ _ _ (heap_setCell_same _ _ 2 _ _ _ (heap_setCell_same _ _ 1 _ _ _ (heap_setCell_same _ _ 0 _ _ _ rR2_.out)))))
    have z0_ : ((((((w5.setCell ⟨W.heap.size, 2, none⟩ (.int .i64 d_)).setCell ⟨W.heap.size + 1, 0, none⟩ (.int .i64 (cn : Int))).setCell ⟨W.heap.size + 1, 1, none⟩ (.int .i64 ma)).setCell ⟨W.heap.size + 1, 2, none⟩ (.int .i64 d_)).setCell ⟨W.heap.size + 1, 3, none⟩ (.slice qp qn qc))).cell? ⟨W.heap.size + 1, 0, none⟩ = some (.int .i64 (cn : Int)) := cell_of_row _ _ 0 _ _ _ zr_.out
    have z1_ : ((((((w5.setCell ⟨W.heap.size, 2, none⟩ (.int .i64 d_)).setCell ⟨W.heap.size + 1, 0, none⟩ (.int .i64 (cn : Int))).setCell ⟨W.heap.size + 1, 1, none⟩ (.int .i64 ma)).setCell ⟨W.heap.size + 1, 2, none⟩ (.int .i64 d_)).setCell ⟨W.heap.size + 1, 3, none⟩ (.slice qp qn qc))).cell? ⟨W.heap.size + 1, 1, none⟩ = some (.int .i64 ma) := cell_of_row _ _ 1 _ _ _ zr_.out
    have z2_ : ((((((w5.setCell ⟨W.heap.size, 2, none⟩ (.int .i64 d_)).setCell ⟨W.heap.size + 1, 0, none⟩ (.int .i64 (cn : Int))).setCell ⟨W.heap.size + 1, 1, none⟩ (.int .i64 ma)).setCell ⟨W.heap.size + 1, 2, none⟩ (.int .i64 d_)).setCell ⟨W.heap.size + 1, 3, none⟩ (.slice qp qn qc))).cell? ⟨W.heap.size + 1, 2, none⟩ = some (.int .i64 d_) := cell_of_row _ _ 2 _ _ _ zr_.out
    have z3_ : ((((((w5.setCell ⟨W.heap.size, 2, none⟩ (.int .i64 d_)).setCell ⟨W.heap.size + 1, 0, none⟩ (.int .i64 (cn : Int))).setCell ⟨W.heap.size + 1, 1, none⟩ (.int .i64 ma)).setCell ⟨W.heap.size + 1, 2, none⟩ (.int .i64 d_)).setCell ⟨W.heap.size + 1, 3, none⟩ (.slice qp qn qc))).cell? ⟨W.heap.size + 1, 3, none⟩ = some (.slice qp qn qc) := cell_of_row _ _ 3 _ _ _ zr_.out
    go_wp2
    refine bodyPost_ret (v := .agg #[.int .i64 (cn : Int), .int .i64 ma, .int .i64 d_, .slice qp qn qc]) (by simp [results, go_sem, z0_, z1_, z2_, z3_]) rfl ⟨.slice qp qn qc, by rw [HCF.out] <;> rfl, ?_, ?_⟩
    · exact OwU.wide (lo := W.heap.size + 1 + 1) (by omega) (by simp only [World.size_setCell]; omega) (OwU.keep (chg_one _ _ _ _) (.inr (by omega)) (OwU.keep (chg_one _ _ _ _) (.inr (by omega)) (OwU.keep (chg_one _ _ _ _) (.inr (by omega)) (OwU.keep (chg_one _ _ _ _) (.inr (by omega)) (OwU.keep (chg_one _ _ _ _) (.inr (by omega)) oC26_.out)))))
    · exact (gby_setnew (gby_setnew (gby_setnew (gby_setnew (gby_setnew G27_.out _ (by dsimp only; omega) _) _ (by dsimp only; omega) _) _ (by dsimp only; omega) _) _ (by dsimp only; omega) _) _ (by dsimp only; omega) _)

set_option maxRecDepth 8000 in
set_option maxHeartbeats 4000000 in
theorem specClear_yes (W : World) (sn bn cn : Nat) (ma fi : Int) (v : Value) (xs : List Int) (H : RdL shI W v xs) (hl : szL shI xs ≤ 1048576) (hb : LOk sn ma fi xs) (hbn : bn ≤ 65535) (hcn : cn ≤ 65535) (hcs : cn ≤ sn) (hcl : bits .andNot .i64 (sn : Int) (bn : Int) = (cn : Int)) : Calls Try.prog 18 #[vLog sn ma fi v, .int .i64 (bn : Int)] W (ResIClearErrors cn ma (clF cn fi) xs W) := by
  have HSL := Lib.hid H
  have HL := Lib.hid hl
  obtain ⟨a1, n1, c1, rfl⟩ := RdL.form H
  clear H hl
  unfold vLog
  have HOK := Lib.hid hb
  have HCS := Lib.hid hcs
  have HCN := Lib.hid hcn
  clear hb hcs
  go_enter Try.func18, Try.ntmps18
  have rA1_ := Lib.hid (show (((W.alloc (.cells #[.int .i64 (sn : Int), .int .i64 ma, .int .i64 fi, .slice a1 n1 c1] 26)).alloc (.cells #[.int .i64 0, .int .i64 0, .int .i64 0, .slice none 0 0] 26))).heap[W.heap.size]? = some (.cells #[.int .i64 (sn : Int), .int .i64 ma, .int .i64 fi, .slice a1 n1 c1] 26 (0, 0)) from by rw [heap_alloc_old _ _ (by simp only [World.size_alloc]; omega)]; exact heap_alloc_new _ _)
  have rR2_ := Lib.hid (show (((W.alloc (.cells #[.int .i64 (sn : Int), .int .i64 ma, .int .i64 fi, .slice a1 n1 c1] 26)).alloc (.cells #[.int .i64 0, .int .i64 0, .int .i64 0, .slice none 0 0] 26))).heap[W.heap.size + 1]? = some (.cells #[.int .i64 0, .int .i64 0, .int .i64 0, .slice none 0 0] 26 (0, 0)) from by exact heap_pair _ _ _)
  have G3_ := Lib.hid (show (W).grownBy (((W.alloc (.cells #[.int .i64 (sn : Int), .int .i64 ma, .int .i64 fi, .slice a1 n1 c1] 26)).alloc (.cells #[.int .i64 0, .int .i64 0, .int .i64 0, .slice none 0 0] 26))) none from (gby_alloc (gby_alloc (gby_refl _ _) _) _))
  have A_0_ : (((W.alloc (.cells #[.int .i64 (sn : Int), .int .i64 ma, .int .i64 fi, .slice a1 n1 c1] 26)).alloc (.cells #[.int .i64 0, .int .i64 0, .int .i64 0, .slice none 0 0] 26))).cell? ⟨W.heap.size, 0, none⟩ = some (.int .i64 (sn : Int)) := cell_of_row _ _ 0 _ _ _ rA1_.out
  have A_1_ : (((W.alloc (.cells #[.int .i64 (sn : Int), .int .i64 ma, .int .i64 fi, .slice a1 n1 c1] 26)).alloc (.cells #[.int .i64 0, .int .i64 0, .int .i64 0, .slice none 0 0] 26))).cell? ⟨W.heap.size, 1, none⟩ = some (.int .i64 ma) := cell_of_row _ _ 1 _ _ _ rA1_.out
  have A_2_ : (((W.alloc (.cells #[.int .i64 (sn : Int), .int .i64 ma, .int .i64 fi, .slice a1 n1 c1] 26)).alloc (.cells #[.int .i64 0, .int .i64 0, .int .i64 0, .slice none 0 0] 26))).cell? ⟨W.heap.size, 2, none⟩ = some (.int .i64 fi) := cell_of_row _ _ 2 _ _ _ rA1_.out
  have A_3_ : (((W.alloc (.cells #[.int .i64 (sn : Int), .int .i64 ma, .int .i64 fi, .slice a1 n1 c1] 26)).alloc (.cells #[.int .i64 0, .int .i64 0, .int .i64 0, .slice none 0 0] 26))).cell? ⟨W.heap.size, 3, none⟩ = some (.slice a1 n1 c1) := cell_of_row _ _ 3 _ _ _ rA1_.out
  have R_0_ : (((W.alloc (.cells #[.int .i64 (sn : Int), .int .i64 ma, .int .i64 fi, .slice a1 n1 c1] 26)).alloc (.cells #[.int .i64 0, .int .i64 0, .int .i64 0, .slice none 0 0] 26))).cell? ⟨W.heap.size + 1, 0, none⟩ = some (.int .i64 0) := cell_of_row _ _ 0 _ _ _ rR2_.out
  have R_1_ : (((W.alloc (.cells #[.int .i64 (sn : Int), .int .i64 ma, .int .i64 fi, .slice a1 n1 c1] 26)).alloc (.cells #[.int .i64 0, .int .i64 0, .int .i64 0, .slice none 0 0] 26))).cell? ⟨W.heap.size + 1, 1, none⟩ = some (.int .i64 0) := cell_of_row _ _ 1 _ _ _ rR2_.out
  have R_2_ : (((W.alloc (.cells #[.int .i64 (sn : Int), .int .i64 ma, .int .i64 fi, .slice a1 n1 c1] 26)).alloc (.cells #[.int .i64 0, .int .i64 0, .int .i64 0, .slice none 0 0] 26))).cell? ⟨W.heap.size + 1, 2, none⟩ = some (.int .i64 0) := cell_of_row _ _ 2 _ _ _ rR2_.out
  have R_3_ : (((W.alloc (.cells #[.int .i64 (sn : Int), .int .i64 ma, .int .i64 fi, .slice a1 n1 c1] 26)).alloc (.cells #[.int .i64 0, .int .i64 0, .int .i64 0, .slice none 0 0] 26))).cell? ⟨W.heap.size + 1, 3, none⟩ = some (.slice none 0 0) := cell_of_row _ _ 3 _ _ _ rR2_.out
  have HTM4_ := Lib.hid (gby_refl (((W.alloc (.cells #[.int .i64 (sn : Int), .int .i64 ma, .int .i64 fi, .slice a1 n1 c1] 26)).alloc (.cells #[.int .i64 0, .int .i64 0, .int .i64 0, .slice none 0 0] 26))) none)
  have MG5_ := Lib.hid (show (W).grownBy (((W.alloc (.cells #[.int .i64 (sn : Int), .int .i64 ma, .int .i64 fi, .slice a1 n1 c1] 26)).alloc (.cells #[.int .i64 0, .int .i64 0, .int .i64 0, .slice none 0 0] 26))) none from G3_.out)
  have MR6_ := Lib.hid rA1_.out
  have MR7_ := Lib.hid rR2_.out
  go_wp2_with fail
  go_at_call 45
  refine (copyLog_d _ _ _ _ _ xs (HSL.out.grow G3_.out) HL.out).mono ?_
  rintro e w1 ⟨d, rfl, o, g⟩
  have sz_ := g.size
  try simp only [World.size_alloc] at sz_ o
  clear A_0_ A_1_ A_2_ A_3_ R_0_ R_1_ R_2_ R_3_
  have rA8_ := Lib.hid (show (w1).heap[W.heap.size]? = some (.cells #[.int .i64 (sn : Int), .int .i64 ma, .int .i64 fi, .slice a1 n1 c1] 26 (0, 0)) from row_held g rA1_.out)
  clear rA1_
  have rR9_ := Lib.hid (show (w1).heap[W.heap.size + 1]? = some (.cells #[.int .i64 0, .int .i64 0, .int .i64 0, .slice none 0 0] 26 (0, 0)) from row_held g rR2_.out)
  clear rR2_
  have G10_ := Lib.hid (show (W).grownBy (w1) none from gby_trans G3_.out g)
  have HTM11_ := Lib.hid (show (((W.alloc (.cells #[.int .i64 (sn : Int), .int .i64 ma, .int .i64 fi, .slice a1 n1 c1] 26)).alloc (.cells #[.int .i64 0, .int .i64 0, .int .i64 0, .slice none 0 0] 26))).grownBy (w1) none from gby_trans HTM4_.out g)
  clear HTM4_
  clear g
  obtain ⟨qp, qn, qc, hv2⟩ := RdL.form (OwU.rd o)
  subst hv2
  unfold vLog
  have oC12_ := Lib.hid (show OwU (w1) (W.heap.size + 1 + 1) (w1.heap.size) [] [own shI (.slice qp qn qc) xs] from o)
  clear o
  have al_ : (w1).grownBy ((w1).alloc (.cells #[.int .i64 (sn : Int), .int .i64 ma, .int .i64 fi, .slice qp qn qc] 26)) none := gby_alloc (gby_refl _ _) _
  have rA13_ := Lib.hid (show ((w1.alloc (.cells #[.int .i64 (sn : Int), .int .i64 ma, .int .i64 fi, .slice qp qn qc] 26))).heap[W.heap.size]? = some (.cells #[.int .i64 (sn : Int), .int .i64 ma, .int .i64 fi, .slice a1 n1 c1] 26 (0, 0)) from row_held al_ rA8_.out)
  clear rA8_
  have rR14_ := Lib.hid (show ((w1.alloc (.cells #[.int .i64 (sn : Int), .int .i64 ma, .int .i64 fi, .slice qp qn qc] 26))).heap[W.heap.size + 1]? = some (.cells #[.int .i64 0, .int .i64 0, .int .i64 0, .slice none 0 0] 26 (0, 0)) from row_held al_ rR9_.out)
  clear rR9_
  have oC15_ := Lib.hid (show OwU ((w1.alloc (.cells #[.int .i64 (sn : Int), .int .i64 ma, .int .i64 fi, .slice qp qn qc] 26))) (W.heap.size + 1 + 1) (w1.heap.size) [] [own shI (.slice qp qn qc) xs] from OwU.grow oC12_.out al_)
  clear oC12_
  have G16_ := Lib.hid (show (W).grownBy ((w1.alloc (.cells #[.int .i64 (sn : Int), .int .i64 ma, .int .i64 fi, .slice qp qn qc] 26))) none from gby_trans G10_.out al_)
  have HTM17_ := Lib.hid (show (((W.alloc (.cells #[.int .i64 (sn : Int), .int .i64 ma, .int .i64 fi, .slice a1 n1 c1] 26)).alloc (.cells #[.int .i64 0, .int .i64 0, .int .i64 0, .slice none 0 0] 26))).grownBy ((w1.alloc (.cells #[.int .i64 (sn : Int), .int .i64 ma, .int .i64 fi, .slice qp qn qc] 26))) none from gby_trans HTM11_.out al_)
  clear HTM11_
  have rX18_ := Lib.hid (show ((w1.alloc (.cells #[.int .i64 (sn : Int), .int .i64 ma, .int .i64 fi, .slice qp qn qc] 26))).heap[w1.heap.size]? = some (.cells #[.int .i64 (sn : Int), .int .i64 ma, .int .i64 fi, .slice qp qn qc] 26 (0, 0)) from heap_alloc_new _ _)
  clear al_
  have A_0_ : ((w1.alloc (.cells #[.int .i64 (sn : Int), .int .i64 ma, .int .i64 fi, .slice qp qn qc] 26))).cell? ⟨W.heap.size, 0, none⟩ = some (.int .i64 (sn : Int)) := cell_of_row _ _ 0 _ _ _ rA13_.out
  have A_1_ : ((w1.alloc (.cells #[.int .i64 (sn : Int), .int .i64 ma, .int .i64 fi, .slice qp qn qc] 26))).cell? ⟨W.heap.size, 1, none⟩ = some (.int .i64 ma) := cell_of_row _ _ 1 _ _ _ rA13_.out
  have A_2_ : ((w1.alloc (.cells #[.int .i64 (sn : Int), .int .i64 ma, .int .i64 fi, .slice qp qn qc] 26))).cell? ⟨W.heap.size, 2, none⟩ = some (.int .i64 fi) := cell_of_row _ _ 2 _ _ _ rA13_.out
  have A_3_ : ((w1.alloc (.cells #[.int .i64 (sn : Int), .int .i64 ma, .int .i64 fi, .slice qp qn qc] 26))).cell? ⟨W.heap.size, 3, none⟩ = some (.slice a1 n1 c1) := cell_of_row _ _ 3 _ _ _ rA13_.out
  have R_0_ : ((w1.alloc (.cells #[.int .i64 (sn : Int), .int .i64 ma, .int .i64 fi, .slice qp qn qc] 26))).cell? ⟨W.heap.size + 1, 0, none⟩ = some (.int .i64 0) := cell_of_row _ _ 0 _ _ _ rR14_.out
  have R_1_ : ((w1.alloc (.cells #[.int .i64 (sn : Int), .int .i64 ma, .int .i64 fi, .slice qp qn qc] 26))).cell? ⟨W.heap.size + 1, 1, none⟩ = some (.int .i64 0) := cell_of_row _ _ 1 _ _ _ rR14_.out
  have R_2_ : ((w1.alloc (.cells #[.int .i64 (sn : Int), .int .i64 ma, .int .i64 fi, .slice qp qn qc] 26))).cell? ⟨W.heap.size + 1, 2, none⟩ = some (.int .i64 0) := cell_of_row _ _ 2 _ _ _ rR14_.out
  have R_3_ : ((w1.alloc (.cells #[.int .i64 (sn : Int), .int .i64 ma, .int .i64 fi, .slice qp qn qc] 26))).cell? ⟨W.heap.size + 1, 3, none⟩ = some (.slice none 0 0) := cell_of_row _ _ 3 _ _ _ rR14_.out
  have X_0_ : ((w1.alloc (.cells #[.int .i64 (sn : Int), .int .i64 ma, .int .i64 fi, .slice qp qn qc] 26))).cell? ⟨w1.heap.size, 0, none⟩ = some (.int .i64 (sn : Int)) := cell_of_row _ _ 0 _ _ _ rX18_.out
  have X_1_ : ((w1.alloc (.cells #[.int .i64 (sn : Int), .int .i64 ma, .int .i64 fi, .slice qp qn qc] 26))).cell? ⟨w1.heap.size, 1, none⟩ = some (.int .i64 ma) := cell_of_row _ _ 1 _ _ _ rX18_.out
  have X_2_ : ((w1.alloc (.cells #[.int .i64 (sn : Int), .int .i64 ma, .int .i64 fi, .slice qp qn qc] 26))).cell? ⟨w1.heap.size, 2, none⟩ = some (.int .i64 fi) := cell_of_row _ _ 2 _ _ _ rX18_.out
  have X_3_ : ((w1.alloc (.cells #[.int .i64 (sn : Int), .int .i64 ma, .int .i64 fi, .slice qp qn qc] 26))).cell? ⟨w1.heap.size, 3, none⟩ = some (.slice qp qn qc) := cell_of_row _ _ 3 _ _ _ rX18_.out
  go_wp2_with fail
  go_at_call 46
  refine (specLog_yes _ _ _ _ _ xs (HSL.out.grow G16_.out) HL.out HOK.out).mono ?_
  rintro e w2 ⟨rfl, g⟩
  have szl_ := g.size
  try simp only [World.size_setCell, World.size_alloc] at szl_
  clear A_0_ A_1_ A_2_ A_3_ R_0_ R_1_ R_2_ R_3_ X_0_ X_1_ X_2_ X_3_
  have rA19_ := Lib.hid (show (w2).heap[W.heap.size]? = some (.cells #[.int .i64 (sn : Int), .int .i64 ma, .int .i64 fi, .slice a1 n1 c1] 26 (0, 0)) from row_held g rA13_.out)
  clear rA13_
  have rR20_ := Lib.hid (show (w2).heap[W.heap.size + 1]? = some (.cells #[.int .i64 0, .int .i64 0, .int .i64 0, .slice none 0 0] 26 (0, 0)) from row_held g rR14_.out)
  clear rR14_
  have rX21_ := Lib.hid (show (w2).heap[w1.heap.size]? = some (.cells #[.int .i64 (sn : Int), .int .i64 ma, .int .i64 fi, .slice qp qn qc] 26 (0, 0)) from row_held g rX18_.out)
  clear rX18_
  have oC22_ := Lib.hid (show OwU (w2) (W.heap.size + 1 + 1) (w1.heap.size) [] [own shI (.slice qp qn qc) xs] from OwU.grow oC15_.out g)
  clear oC15_
  have G23_ := Lib.hid (show (W).grownBy (w2) none from gby_trans G16_.out g)
  have HTM24_ := Lib.hid (show (((W.alloc (.cells #[.int .i64 (sn : Int), .int .i64 ma, .int .i64 fi, .slice a1 n1 c1] 26)).alloc (.cells #[.int .i64 0, .int .i64 0, .int .i64 0, .slice none 0 0] 26))).grownBy (w2) none from gby_trans HTM17_.out g)
  clear HTM17_
  clear g
  have A_0_ : (w2).cell? ⟨W.heap.size, 0, none⟩ = some (.int .i64 (sn : Int)) := cell_of_row _ _ 0 _ _ _ rA19_.out
  have A_1_ : (w2).cell? ⟨W.heap.size, 1, none⟩ = some (.int .i64 ma) := cell_of_row _ _ 1 _ _ _ rA19_.out
  have A_2_ : (w2).cell? ⟨W.heap.size, 2, none⟩ = some (.int .i64 fi) := cell_of_row _ _ 2 _ _ _ rA19_.out
  have A_3_ : (w2).cell? ⟨W.heap.size, 3, none⟩ = some (.slice a1 n1 c1) := cell_of_row _ _ 3 _ _ _ rA19_.out
  have R_0_ : (w2).cell? ⟨W.heap.size + 1, 0, none⟩ = some (.int .i64 0) := cell_of_row _ _ 0 _ _ _ rR20_.out
  have R_1_ : (w2).cell? ⟨W.heap.size + 1, 1, none⟩ = some (.int .i64 0) := cell_of_row _ _ 1 _ _ _ rR20_.out
  have R_2_ : (w2).cell? ⟨W.heap.size + 1, 2, none⟩ = some (.int .i64 0) := cell_of_row _ _ 2 _ _ _ rR20_.out
  have R_3_ : (w2).cell? ⟨W.heap.size + 1, 3, none⟩ = some (.slice none 0 0) := cell_of_row _ _ 3 _ _ _ rR20_.out
  have X_0_ : (w2).cell? ⟨w1.heap.size, 0, none⟩ = some (.int .i64 (sn : Int)) := cell_of_row _ _ 0 _ _ _ rX21_.out
  have X_1_ : (w2).cell? ⟨w1.heap.size, 1, none⟩ = some (.int .i64 ma) := cell_of_row _ _ 1 _ _ _ rX21_.out
  have X_2_ : (w2).cell? ⟨w1.heap.size, 2, none⟩ = some (.int .i64 fi) := cell_of_row _ _ 2 _ _ _ rX21_.out
  have X_3_ : (w2).cell? ⟨w1.heap.size, 3, none⟩ = some (.slice qp qn qc) := cell_of_row _ _ 3 _ _ _ rX21_.out
  go_wp2_with fail
  go_at_call 47
  refine (in_yes _ _ _ _ (by omega) (by omega)).mono ?_
  rintro e w3_ ⟨rfl, rfl⟩
  clear A_0_ A_1_ A_2_ A_3_ R_0_ R_1_ R_2_ R_3_ X_0_ X_1_ X_2_ X_3_
  have A_0_ : (w2).cell? ⟨W.heap.size, 0, none⟩ = some (.int .i64 (sn : Int)) := cell_of_row _ _ 0 _ _ _ rA19_.out
  have A_1_ : (w2).cell? ⟨W.heap.size, 1, none⟩ = some (.int .i64 ma) := cell_of_row _ _ 1 _ _ _ rA19_.out
  have A_2_ : (w2).cell? ⟨W.heap.size, 2, none⟩ = some (.int .i64 fi) := cell_of_row _ _ 2 _ _ _ rA19_.out
  have A_3_ : (w2).cell? ⟨W.heap.size, 3, none⟩ = some (.slice a1 n1 c1) := cell_of_row _ _ 3 _ _ _ rA19_.out
  have R_0_ : (w2).cell? ⟨W.heap.size + 1, 0, none⟩ = some (.int .i64 0) := cell_of_row _ _ 0 _ _ _ rR20_.out
  have R_1_ : (w2).cell? ⟨W.heap.size + 1, 1, none⟩ = some (.int .i64 0) := cell_of_row _ _ 1 _ _ _ rR20_.out
  have R_2_ : (w2).cell? ⟨W.heap.size + 1, 2, none⟩ = some (.int .i64 0) := cell_of_row _ _ 2 _ _ _ rR20_.out
  have R_3_ : (w2).cell? ⟨W.heap.size + 1, 3, none⟩ = some (.slice none 0 0) := cell_of_row _ _ 3 _ _ _ rR20_.out
  have X_0_ : (w2).cell? ⟨w1.heap.size, 0, none⟩ = some (.int .i64 (sn : Int)) := cell_of_row _ _ 0 _ _ _ rX21_.out
  have X_1_ : (w2).cell? ⟨w1.heap.size, 1, none⟩ = some (.int .i64 ma) := cell_of_row _ _ 1 _ _ _ rX21_.out
  have X_2_ : (w2).cell? ⟨w1.heap.size, 2, none⟩ = some (.int .i64 fi) := cell_of_row _ _ 2 _ _ _ rX21_.out
  have X_3_ : (w2).cell? ⟨w1.heap.size, 3, none⟩ = some (.slice qp qn qc) := cell_of_row _ _ 3 _ _ _ rX21_.out
  have Xf0_ : (w2).frozen? ⟨w1.heap.size, 0, none⟩ = false := frozen_of_row _ _ 0 _ _ rX21_.out
  have Xf1_ : (w2).frozen? ⟨w1.heap.size, 1, none⟩ = false := frozen_of_row _ _ 1 _ _ rX21_.out
  have Xf2_ : (w2).frozen? ⟨w1.heap.size, 2, none⟩ = false := frozen_of_row _ _ 2 _ _ rX21_.out
  have Xf3_ : (w2).frozen? ⟨w1.heap.size, 3, none⟩ = false := frozen_of_row _ _ 3 _ _ rX21_.out
  have hna_ : ¬ w1.heap.size = W.heap.size := by omega
  have hna2_ : ¬ W.heap.size = w1.heap.size := by omega
  by_cases h0 : cn = 0
  · subst h0
    have hcl0 : bits .andNot .i64 (sn : Int) (bn : Int) = 0 := hcl
    clear hcl
    have HCF := Lib.hid (clF_zero (fi := fi))
    clear A_0_ A_1_ A_2_ A_3_ R_0_ R_1_ R_2_ R_3_ X_0_ X_1_ X_2_ X_3_ Xf0_ Xf1_ Xf2_ Xf3_
    have A_0_ : (w2).cell? ⟨W.heap.size, 0, none⟩ = some (.int .i64 (sn : Int)) := cell_of_row _ _ 0 _ _ _ rA19_.out
    have A_1_ : (w2).cell? ⟨W.heap.size, 1, none⟩ = some (.int .i64 ma) := cell_of_row _ _ 1 _ _ _ rA19_.out
    have A_2_ : (w2).cell? ⟨W.heap.size, 2, none⟩ = some (.int .i64 fi) := cell_of_row _ _ 2 _ _ _ rA19_.out
    have A_3_ : (w2).cell? ⟨W.heap.size, 3, none⟩ = some (.slice a1 n1 c1) := cell_of_row _ _ 3 _ _ _ rA19_.out
    have R_0_ : (w2).cell? ⟨W.heap.size + 1, 0, none⟩ = some (.int .i64 0) := cell_of_row _ _ 0 _ _ _ rR20_.out
    have R_1_ : (w2).cell? ⟨W.heap.size + 1, 1, none⟩ = some (.int .i64 0) := cell_of_row _ _ 1 _ _ _ rR20_.out
    have R_2_ : (w2).cell? ⟨W.heap.size + 1, 2, none⟩ = some (.int .i64 0) := cell_of_row _ _ 2 _ _ _ rR20_.out
    have R_3_ : (w2).cell? ⟨W.heap.size + 1, 3, none⟩ = some (.slice none 0 0) := cell_of_row _ _ 3 _ _ _ rR20_.out
    have Rf0_ : (w2).frozen? ⟨W.heap.size + 1, 0, none⟩ = false := frozen_of_row _ _ 0 _ _ rR20_.out
    have Rf1_ : (w2).frozen? ⟨W.heap.size + 1, 1, none⟩ = false := frozen_of_row _ _ 1 _ _ rR20_.out
    have Rf2_ : (w2).frozen? ⟨W.heap.size + 1, 2, none⟩ = false := frozen_of_row _ _ 2 _ _ rR20_.out
    have Rf3_ : (w2).frozen? ⟨W.heap.size + 1, 3, none⟩ = false := frozen_of_row _ _ 3 _ _ rR20_.out
    have X_0_ : (w2).cell? ⟨w1.heap.size, 0, none⟩ = some (.int .i64 (sn : Int)) := cell_of_row _ _ 0 _ _ _ rX21_.out
    have X_1_ : (w2).cell? ⟨w1.heap.size, 1, none⟩ = some (.int .i64 ma) := cell_of_row _ _ 1 _ _ _ rX21_.out
    have X_2_ : (w2).cell? ⟨w1.heap.size, 2, none⟩ = some (.int .i64 fi) := cell_of_row _ _ 2 _ _ _ rX21_.out
    have X_3_ : (w2).cell? ⟨w1.heap.size, 3, none⟩ = some (.slice qp qn qc) := cell_of_row _ _ 3 _ _ _ rX21_.out
    have Xf0_ : (w2).frozen? ⟨w1.heap.size, 0, none⟩ = false := frozen_of_row _ _ 0 _ _ rX21_.out
    have Xf1_ : (w2).frozen? ⟨w1.heap.size, 1, none⟩ = false := frozen_of_row _ _ 1 _ _ rX21_.out
    have Xf2_ : (w2).frozen? ⟨w1.heap.size, 2, none⟩ = false := frozen_of_row _ _ 2 _ _ rX21_.out
    have Xf3_ : (w2).frozen? ⟨w1.heap.size, 3, none⟩ = false := frozen_of_row _ _ 3 _ _ rX21_.out
    have sR0_ := Lib.hid (show ((w2.setCell ⟨w1.heap.size, 0, none⟩ (.int .i64 0))).heap[W.heap.size + 1]? = some (.cells #[.int .i64 0, .int .i64 0, .int .i64 0, .slice none 0 0] 26 (0, 0)) from set_far rR20_.out (by dsimp only; omega))
    have sX0_ := Lib.hid (show ((w2.setCell ⟨w1.heap.size, 0, none⟩ (.int .i64 0))).heap[w1.heap.size]? = some (.cells #[.int .i64 0, .int .i64 ma, .int .i64 fi, .slice qp qn qc] 26 (0, 0)) from heap_setCell_same _ _ 0 _ _ _ rX21_.out)
    have sR1_ := Lib.hid (show (((w2.setCell ⟨w1.heap.size, 0, none⟩ (.int .i64 0)).setCell ⟨w1.heap.size, 2, none⟩ (.int .i64 (-1)))).heap[W.heap.size + 1]? = some (.cells #[.int .i64 0, .int .i64 0, .int .i64 0, .slice none 0 0] 26 (0, 0)) from set_far sR0_.out (by dsimp only; omega))
    have sX1_ := Lib.hid (show (((w2.setCell ⟨w1.heap.size, 0, none⟩ (.int .i64 0)).setCell ⟨w1.heap.size, 2, none⟩ (.int .i64 (-1)))).heap[w1.heap.size]? = some (.cells #[.int .i64 0, .int .i64 ma, .int .i64 (-1), .slice qp qn qc] 26 (0, 0)) from heap_setCell_same _ _ 2 _ _ _ sX0_.out)
    have zr_ := Lib.hid (show (((((((w2.setCell ⟨w1.heap.size, 0, none⟩ (.int .i64 0)).setCell ⟨w1.heap.size, 2, none⟩ (.int .i64 (-1))).setCell ⟨W.heap.size + 1, 0, none⟩ (.int .i64 0)).setCell ⟨W.heap.size + 1, 1, none⟩ (.int .i64 ma)).setCell ⟨W.heap.size + 1, 2, none⟩ (.int .i64 (-1))).setCell ⟨W.heap.size + 1, 3, none⟩ (.slice qp qn qc))).heap[W.heap.size + 1]? = some (.cells #[.int .i64 0, .int .i64 ma, .int .i64 (-1), .slice qp qn qc] 26 (0, 0)) from (heap_setCell_same _ _ 3 _ _ _ (heap_setCell_same _ _ 2 _ _ _ (heap_setCell_same _ _ 1 _ _ _ (heap_setCell_same _ _ 0 _ _ _ sR1_.out)))))
    have z0_ : (((((((w2.setCell ⟨w1.heap.size, 0, none⟩ (.int .i64 0)).setCell ⟨w1.heap.size, 2, none⟩ (.int .i64 (-1))).setCell ⟨W.heap.size + 1, 0, none⟩ (.int .i64 0)).setCell ⟨W.heap.size + 1, 1, none⟩ (.int .i64 ma)).setCell ⟨W.heap.size + 1, 2, none⟩ (.int .i64 (-1))).setCell ⟨W.heap.size + 1, 3, none⟩ (.slice qp qn qc))).cell? ⟨W.heap.size + 1, 0, none⟩ = some (.int .i64 0) := cell_of_row _ _ 0 _ _ _ zr_.out
    have z1_ : (((((((w2.setCell ⟨w1.heap.size, 0, none⟩ (.int .i64 0)).setCell ⟨w1.heap.size, 2, none⟩ (.int .i64 (-1))).setCell ⟨W.heap.size + 1, 0, none⟩ (.int .i64 0)).setCell ⟨W.heap.size + 1, 1, none⟩ (.int .i64 ma)).setCell ⟨W.heap.size + 1, 2, none⟩ (.int .i64 (-1))).setCell ⟨W.heap.size + 1, 3, none⟩ (.slice qp qn qc))).cell? ⟨W.heap.size + 1, 1, none⟩ = some (.int .i64 ma) := cell_of_row _ _ 1 _ _ _ zr_.out
    have z2_ : (((((((w2.setCell ⟨w1.heap.size, 0, none⟩ (.int .i64 0)).setCell ⟨w1.heap.size, 2, none⟩ (.int .i64 (-1))).setCell ⟨W.heap.size + 1, 0, none⟩ (.int .i64 0)).setCell ⟨W.heap.size + 1, 1, none⟩ (.int .i64 ma)).setCell ⟨W.heap.size + 1, 2, none⟩ (.int .i64 (-1))).setCell ⟨W.heap.size + 1, 3, none⟩ (.slice qp qn qc))).cell? ⟨W.heap.size + 1, 2, none⟩ = some (.int .i64 (-1)) := cell_of_row _ _ 2 _ _ _ zr_.out
    have z3_ : (((((((w2.setCell ⟨w1.heap.size, 0, none⟩ (.int .i64 0)).setCell ⟨w1.heap.size, 2, none⟩ (.int .i64 (-1))).setCell ⟨W.heap.size + 1, 0, none⟩ (.int .i64 0)).setCell ⟨W.heap.size + 1, 1, none⟩ (.int .i64 ma)).setCell ⟨W.heap.size + 1, 2, none⟩ (.int .i64 (-1))).setCell ⟨W.heap.size + 1, 3, none⟩ (.slice qp qn qc))).cell? ⟨W.heap.size + 1, 3, none⟩ = some (.slice qp qn qc) := cell_of_row _ _ 3 _ _ _ zr_.out
    go_wp2
    refine bodyPost_ret (v := .agg #[.int .i64 0, .int .i64 ma, .int .i64 (-1), .slice qp qn qc]) (by simp [results, go_sem, z0_, z1_, z2_, z3_]) rfl ⟨.slice qp qn qc, by rw [HCF.out] <;> rfl, ?_, ?_⟩
    · exact OwU.wide (lo := W.heap.size + 1 + 1) (by omega) (by simp only [World.size_setCell]; omega) (OwU.keep (chg_one _ _ _ _) (by omega) (OwU.keep (chg_one _ _ _ _) (by omega) (OwU.keep (chg_one _ _ _ _) (by omega) (OwU.keep (chg_one _ _ _ _) (by omega) (OwU.keep (chg_one _ _ _ _) (by omega) (OwU.keep (chg_one _ _ _ _) (by omega) oC22_.out))))))
    · exact (gby_setnew (gby_setnew (gby_setnew (gby_setnew (gby_setnew (gby_setnew G23_.out _ (by dsimp only; omega) _) _ (by dsimp only; omega) _) _ (by dsimp only; omega) _) _ (by dsimp only; omega) _) _ (by dsimp only; omega) _) _ (by dsimp only; omega) _)
  have hcb : ((cn : Int) == 0) = false := beq_eq_false_iff_ne.2 (by omega)
  have HC0 := Lib.hid h0
  clear h0
  have hfi := HOK.out.2.2.2.2.2 (by have := HCS.out; have := HC0.out; omega)
  obtain ⟨f, rfl⟩ : ∃ f : Nat, fi = (f : Int) := ⟨fi.toNat, by omega⟩
  have hf15 : f ≤ 15 := by omega
  have hf0 : (0 : Int) ≤ (f : Int) := by omega
  have htf : ((f : Int)).toNat = f := by omega
  have hf64 : (f : Int) ≤ 64 := by omega
  clear hfi
  cases hbit : bitB cn f with
  | true =>
    have hand := bit_and1 cn f HCN.out hbit
    have HCF := Lib.hid (clF_keep hf15 hbit)
    clear hbit
    clear A_0_ A_1_ A_2_ A_3_ R_0_ R_1_ R_2_ R_3_ X_0_ X_1_ X_2_ X_3_ Xf0_ Xf1_ Xf2_ Xf3_
    have A_0_ : (w2).cell? ⟨W.heap.size, 0, none⟩ = some (.int .i64 (sn : Int)) := cell_of_row _ _ 0 _ _ _ rA19_.out
    have A_1_ : (w2).cell? ⟨W.heap.size, 1, none⟩ = some (.int .i64 ma) := cell_of_row _ _ 1 _ _ _ rA19_.out
    have A_2_ : (w2).cell? ⟨W.heap.size, 2, none⟩ = some (.int .i64 (f : Int)) := cell_of_row _ _ 2 _ _ _ rA19_.out
    have A_3_ : (w2).cell? ⟨W.heap.size, 3, none⟩ = some (.slice a1 n1 c1) := cell_of_row _ _ 3 _ _ _ rA19_.out
    have R_0_ : (w2).cell? ⟨W.heap.size + 1, 0, none⟩ = some (.int .i64 0) := cell_of_row _ _ 0 _ _ _ rR20_.out
    have R_1_ : (w2).cell? ⟨W.heap.size + 1, 1, none⟩ = some (.int .i64 0) := cell_of_row _ _ 1 _ _ _ rR20_.out
    have R_2_ : (w2).cell? ⟨W.heap.size + 1, 2, none⟩ = some (.int .i64 0) := cell_of_row _ _ 2 _ _ _ rR20_.out
    have R_3_ : (w2).cell? ⟨W.heap.size + 1, 3, none⟩ = some (.slice none 0 0) := cell_of_row _ _ 3 _ _ _ rR20_.out
    have Rf0_ : (w2).frozen? ⟨W.heap.size + 1, 0, none⟩ = false := frozen_of_row _ _ 0 _ _ rR20_.out
    have Rf1_ : (w2).frozen? ⟨W.heap.size + 1, 1, none⟩ = false := frozen_of_row _ _ 1 _ _ rR20_.out
    have Rf2_ : (w2).frozen? ⟨W.heap.size + 1, 2, none⟩ = false := frozen_of_row _ _ 2 _ _ rR20_.out
    have Rf3_ : (w2).frozen? ⟨W.heap.size + 1, 3, none⟩ = false := frozen_of_row _ _ 3 _ _ rR20_.out
    have X_0_ : (w2).cell? ⟨w1.heap.size, 0, none⟩ = some (.int .i64 (sn : Int)) := cell_of_row _ _ 0 _ _ _ rX21_.out
    have X_1_ : (w2).cell? ⟨w1.heap.size, 1, none⟩ = some (.int .i64 ma) := cell_of_row _ _ 1 _ _ _ rX21_.out
    have X_2_ : (w2).cell? ⟨w1.heap.size, 2, none⟩ = some (.int .i64 (f : Int)) := cell_of_row _ _ 2 _ _ _ rX21_.out
    have X_3_ : (w2).cell? ⟨w1.heap.size, 3, none⟩ = some (.slice qp qn qc) := cell_of_row _ _ 3 _ _ _ rX21_.out
    have Xf0_ : (w2).frozen? ⟨w1.heap.size, 0, none⟩ = false := frozen_of_row _ _ 0 _ _ rX21_.out
    have Xf1_ : (w2).frozen? ⟨w1.heap.size, 1, none⟩ = false := frozen_of_row _ _ 1 _ _ rX21_.out
    have Xf2_ : (w2).frozen? ⟨w1.heap.size, 2, none⟩ = false := frozen_of_row _ _ 2 _ _ rX21_.out
    have Xf3_ : (w2).frozen? ⟨w1.heap.size, 3, none⟩ = false := frozen_of_row _ _ 3 _ _ rX21_.out
    have sR0_ := Lib.hid (show ((w2.setCell ⟨w1.heap.size, 0, none⟩ (.int .i64 (cn : Int)))).heap[W.heap.size + 1]? = some (.cells #[.int .i64 0, .int .i64 0, .int .i64 0, .slice none 0 0] 26 (0, 0)) from set_far rR20_.out (by dsimp only; omega))
    have sX0_ := Lib.hid (show ((w2.setCell ⟨w1.heap.size, 0, none⟩ (.int .i64 (cn : Int)))).heap[w1.heap.size]? = some (.cells #[.int .i64 (cn : Int), .int .i64 ma, .int .i64 (f : Int), .slice qp qn qc] 26 (0, 0)) from heap_setCell_same _ _ 0 _ _ _ rX21_.out)
    have zr_ := Lib.hid (show ((((((w2.setCell ⟨w1.heap.size, 0, none⟩ (.int .i64 (cn : Int))).setCell ⟨W.heap.size + 1, 0, none⟩ (.int .i64 (cn : Int))).setCell ⟨W.heap.size + 1, 1, none⟩ (.int .i64 ma)).setCell ⟨W.heap.size + 1, 2, none⟩ (.int .i64 (f : Int))).setCell ⟨W.heap.size + 1, 3, none⟩ (.slice qp qn qc))).heap[W.heap.size + 1]? = some (.cells #[.int .i64 (cn : Int), .int .i64 ma, .int .i64 (f : Int), .slice qp qn qc] 26 (0, 0)) from (heap_setCell_same _ _ 3 _ _ _ (heap_setCell_same _ _ 2 _ _ _ (heap_setCell_same _ _ 1 _ _ _ (heap_setCell_same _ _ 0 _ _ _ sR0_.out)))))
    have z0_ : ((((((w2.setCell ⟨w1.heap.size, 0, none⟩ (.int .i64 (cn : Int))).setCell ⟨W.heap.size + 1, 0, none⟩ (.int .i64 (cn : Int))).setCell ⟨W.heap.size + 1, 1, none⟩ (.int .i64 ma)).setCell ⟨W.heap.size + 1, 2, none⟩ (.int .i64 (f : Int))).setCell ⟨W.heap.size + 1, 3, none⟩ (.slice qp qn qc))).cell? ⟨W.heap.size + 1, 0, none⟩ = some (.int .i64 (cn : Int)) := cell_of_row _ _ 0 _ _ _ zr_.out
    have z1_ : ((((((w2.setCell ⟨w1.heap.size, 0, none⟩ (.int .i64 (cn : Int))).setCell ⟨W.heap.size + 1, 0, none⟩ (.int .i64 (cn : Int))).setCell ⟨W.heap.size + 1, 1, none⟩ (.int .i64 ma)).setCell ⟨W.heap.size + 1, 2, none⟩ (.int .i64 (f : Int))).setCell ⟨W.heap.size + 1, 3, none⟩ (.slice qp qn qc))).cell? ⟨W.heap.size + 1, 1, none⟩ = some (.int .i64 ma) := cell_of_row _ _ 1 _ _ _ zr_.out
    have z2_ : ((((((w2.setCell ⟨w1.heap.size, 0, none⟩ (.int .i64 (cn : Int))).setCell ⟨W.heap.size + 1, 0, none⟩ (.int .i64 (cn : Int))).setCell ⟨W.heap.size + 1, 1, none⟩ (.int .i64 ma)).setCell ⟨W.heap.size + 1, 2, none⟩ (.int .i64 (f : Int))).setCell ⟨W.heap.size + 1, 3, none⟩ (.slice qp qn qc))).cell? ⟨W.heap.size + 1, 2, none⟩ = some (.int .i64 (f : Int)) := cell_of_row _ _ 2 _ _ _ zr_.out
    have z3_ : ((((((w2.setCell ⟨w1.heap.size, 0, none⟩ (.int .i64 (cn : Int))).setCell ⟨W.heap.size + 1, 0, none⟩ (.int .i64 (cn : Int))).setCell ⟨W.heap.size + 1, 1, none⟩ (.int .i64 ma)).setCell ⟨W.heap.size + 1, 2, none⟩ (.int .i64 (f : Int))).setCell ⟨W.heap.size + 1, 3, none⟩ (.slice qp qn qc))).cell? ⟨W.heap.size + 1, 3, none⟩ = some (.slice qp qn qc) := cell_of_row _ _ 3 _ _ _ zr_.out
    go_wp2
    refine bodyPost_ret (v := .agg #[.int .i64 (cn : Int), .int .i64 ma, .int .i64 (f : Int), .slice qp qn qc]) (by simp [results, go_sem, z0_, z1_, z2_, z3_]) rfl ⟨.slice qp qn qc, by rw [HCF.out] <;> rfl, ?_, ?_⟩
    · exact OwU.wide (lo := W.heap.size + 1 + 1) (by omega) (by simp only [World.size_setCell]; omega) (OwU.keep (chg_one _ _ _ _) (by omega) (OwU.keep (chg_one _ _ _ _) (by omega) (OwU.keep (chg_one _ _ _ _) (by omega) (OwU.keep (chg_one _ _ _ _) (by omega) (OwU.keep (chg_one _ _ _ _) (by omega) oC22_.out)))))
    · exact (gby_setnew (gby_setnew (gby_setnew (gby_setnew (gby_setnew G23_.out _ (by dsimp only; omega) _) _ (by dsimp only; omega) _) _ (by dsimp only; omega) _) _ (by dsimp only; omega) _) _ (by dsimp only; omega) _)
  | false =>
    have hand := bit_and0 cn f HCN.out hbit
    have HCN2 := Lib.hid (clF_new hbit)
    clear hbit
    go_wp2
    clear A_0_ A_1_ A_2_ A_3_ R_0_ R_1_ R_2_ R_3_ X_0_ X_1_ X_2_ X_3_ Xf0_ Xf1_ Xf2_ Xf3_
    have rA25_ := Lib.hid (show ((w2.setCell ⟨w1.heap.size, 0, none⟩ (.int .i64 (cn : Int)))).heap[W.heap.size]? = some (.cells #[.int .i64 (sn : Int), .int .i64 ma, .int .i64 (f : Int), .slice a1 n1 c1] 26 (0, 0)) from (set_far rA19_.out (by dsimp only; omega)))
    clear rA19_
    have rR26_ := Lib.hid (show ((w2.setCell ⟨w1.heap.size, 0, none⟩ (.int .i64 (cn : Int)))).heap[W.heap.size + 1]? = some (.cells #[.int .i64 0, .int .i64 0, .int .i64 0, .slice none 0 0] 26 (0, 0)) from (set_far rR20_.out (by dsimp only; omega)))
    clear rR20_
    have rX27_ := Lib.hid (show ((w2.setCell ⟨w1.heap.size, 0, none⟩ (.int .i64 (cn : Int)))).heap[w1.heap.size]? = some (.cells #[.int .i64 (cn : Int), .int .i64 ma, .int .i64 (f : Int), .slice qp qn qc] 26 (0, 0)) from (heap_setCell_same _ _ 0 _ _ _ rX21_.out))
    clear rX21_
    have oC28_ := Lib.hid (show OwU ((w2.setCell ⟨w1.heap.size, 0, none⟩ (.int .i64 (cn : Int)))) (W.heap.size + 1 + 1) (w1.heap.size) [] [own shI (.slice qp qn qc) xs] from (OwU.keep (chg_one _ _ _ _) (by omega) oC22_.out))
    clear oC22_
    have G29_ := Lib.hid (show (W).grownBy ((w2.setCell ⟨w1.heap.size, 0, none⟩ (.int .i64 (cn : Int)))) none from (gby_setnew G23_.out _ (by dsimp only; omega) _))
    go_loopw [6] (fun kk wr => ∃ (i fv : Int), kk = .int .i64 i ∧ -1 ≤ i ∧ i ≤ 15 ∧ fv = (if dwn cn (15 - i).toNat = -1 then (f : Int) else dwn cn (15 - i).toNat) ∧ wr.heap[w1.heap.size]? = some (.cells #[.int .i64 (cn : Int), .int .i64 ma, .int .i64 fv, .slice qp qn qc] 26 (0, 0)) ∧ OwU wr (W.heap.size + 1 + 1) (w1.heap.size) [] [own shI (.slice qp qn qc) xs] ∧ (((W.alloc (.cells #[.int .i64 (sn : Int), .int .i64 ma, .int .i64 (f : Int), .slice a1 n1 c1] 26)).alloc (.cells #[.int .i64 0, .int .i64 0, .int .i64 0, .slice none 0 0] 26))).grownBy wr none) (fun kk _ => ((intOf kk) + 1).toNat)
    case atStart => exact ⟨15, (f : Int), rfl, by omega, by omega, by simp [dwn], rX27_.out, oC28_.out, gby_setnew HTM24_.out _ (by dsimp only; (try simp only [World.size_alloc]); omega) _⟩
    case round =>
      clear rA25_
      clear rR26_
      clear rX27_
      clear HTM24_
      obtain ⟨i, fv, rfl, hi1, hi2, hfv, hX, hC, hg⟩ := hrel
      have szr_ := hg.size
      try simp only [World.size_alloc, World.size_setCell] at szr_
      have G30_ := Lib.hid (show (W).grownBy (wr) none from gby_trans MG5_.out hg)
      have rA31_ := Lib.hid (show (wr).heap[W.heap.size]? = some (.cells #[.int .i64 (sn : Int), .int .i64 ma, .int .i64 (f : Int), .slice a1 n1 c1] 26 (0, 0)) from row_held hg MR6_.out)
      have rR32_ := Lib.hid (show (wr).heap[W.heap.size + 1]? = some (.cells #[.int .i64 0, .int .i64 0, .int .i64 0, .slice none 0 0] 26 (0, 0)) from row_held hg MR7_.out)
      have HTM33_ := Lib.hid hg
      clear hg
      have A_0_ : (wr).cell? ⟨W.heap.size, 0, none⟩ = some (.int .i64 (sn : Int)) := cell_of_row _ _ 0 _ _ _ rA31_.out
      have A_1_ : (wr).cell? ⟨W.heap.size, 1, none⟩ = some (.int .i64 ma) := cell_of_row _ _ 1 _ _ _ rA31_.out
      have A_2_ : (wr).cell? ⟨W.heap.size, 2, none⟩ = some (.int .i64 (f : Int)) := cell_of_row _ _ 2 _ _ _ rA31_.out
      have A_3_ : (wr).cell? ⟨W.heap.size, 3, none⟩ = some (.slice a1 n1 c1) := cell_of_row _ _ 3 _ _ _ rA31_.out
      have R_0_ : (wr).cell? ⟨W.heap.size + 1, 0, none⟩ = some (.int .i64 0) := cell_of_row _ _ 0 _ _ _ rR32_.out
      have R_1_ : (wr).cell? ⟨W.heap.size + 1, 1, none⟩ = some (.int .i64 0) := cell_of_row _ _ 1 _ _ _ rR32_.out
      have R_2_ : (wr).cell? ⟨W.heap.size + 1, 2, none⟩ = some (.int .i64 0) := cell_of_row _ _ 2 _ _ _ rR32_.out
      have R_3_ : (wr).cell? ⟨W.heap.size + 1, 3, none⟩ = some (.slice none 0 0) := cell_of_row _ _ 3 _ _ _ rR32_.out
      have rX34_ := Lib.hid (show (wr).heap[w1.heap.size]? = some (.cells #[.int .i64 (cn : Int), .int .i64 ma, .int .i64 fv, .slice qp qn qc] 26 (0, 0)) from hX)
      have oC35_ := Lib.hid (show OwU (wr) (W.heap.size + 1 + 1) (w1.heap.size) [] [own shI (.slice qp qn qc) xs] from hC)
      have HFV := Lib.hid hfv
      clear hX hC hfv
      have hxl_ : w1.heap.size < wr.heap.size := (Array.getElem?_eq_some_iff.1 rX34_.out).1
      clear A_0_ A_1_ A_2_ A_3_ R_0_ R_1_ R_2_ R_3_
      have A_0_ : (wr).cell? ⟨W.heap.size, 0, none⟩ = some (.int .i64 (sn : Int)) := cell_of_row _ _ 0 _ _ _ rA31_.out
      have A_1_ : (wr).cell? ⟨W.heap.size, 1, none⟩ = some (.int .i64 ma) := cell_of_row _ _ 1 _ _ _ rA31_.out
      have A_2_ : (wr).cell? ⟨W.heap.size, 2, none⟩ = some (.int .i64 (f : Int)) := cell_of_row _ _ 2 _ _ _ rA31_.out
      have A_3_ : (wr).cell? ⟨W.heap.size, 3, none⟩ = some (.slice a1 n1 c1) := cell_of_row _ _ 3 _ _ _ rA31_.out
      have R_0_ : (wr).cell? ⟨W.heap.size + 1, 0, none⟩ = some (.int .i64 0) := cell_of_row _ _ 0 _ _ _ rR32_.out
      have R_1_ : (wr).cell? ⟨W.heap.size + 1, 1, none⟩ = some (.int .i64 0) := cell_of_row _ _ 1 _ _ _ rR32_.out
      have R_2_ : (wr).cell? ⟨W.heap.size + 1, 2, none⟩ = some (.int .i64 0) := cell_of_row _ _ 2 _ _ _ rR32_.out
      have R_3_ : (wr).cell? ⟨W.heap.size + 1, 3, none⟩ = some (.slice none 0 0) := cell_of_row _ _ 3 _ _ _ rR32_.out
      have X_0_ : (wr).cell? ⟨w1.heap.size, 0, none⟩ = some (.int .i64 (cn : Int)) := cell_of_row _ _ 0 _ _ _ rX34_.out
      have X_1_ : (wr).cell? ⟨w1.heap.size, 1, none⟩ = some (.int .i64 ma) := cell_of_row _ _ 1 _ _ _ rX34_.out
      have X_2_ : (wr).cell? ⟨w1.heap.size, 2, none⟩ = some (.int .i64 fv) := cell_of_row _ _ 2 _ _ _ rX34_.out
      have X_3_ : (wr).cell? ⟨w1.heap.size, 3, none⟩ = some (.slice qp qn qc) := cell_of_row _ _ 3 _ _ _ rX34_.out
      have Xf0_ : (wr).frozen? ⟨w1.heap.size, 0, none⟩ = false := frozen_of_row _ _ 0 _ _ rX34_.out
      have Xf1_ : (wr).frozen? ⟨w1.heap.size, 1, none⟩ = false := frozen_of_row _ _ 1 _ _ rX34_.out
      have Xf2_ : (wr).frozen? ⟨w1.heap.size, 2, none⟩ = false := frozen_of_row _ _ 2 _ _ rX34_.out
      have Xf3_ : (wr).frozen? ⟨w1.heap.size, 3, none⟩ = false := frozen_of_row _ _ 3 _ _ rX34_.out
      by_cases hi0 : i < 0
      · obtain rfl : i = -1 := by omega
        have hge : ¬ (-1 : Int) ≥ 0 := by omega
        have hge2 : ¬ (0 : Int) ≤ -1 := by omega
        have HCF := Lib.hid (HCN2.out.trans (show dwn cn 16 = fv by rw [HFV.out]; simp; intro q; exact absurd q (dwn_ne HC0.out HCN.out)))
        clear A_0_ A_1_ A_2_ A_3_ R_0_ R_1_ R_2_ R_3_ X_0_ X_1_ X_2_ X_3_ Xf0_ Xf1_ Xf2_ Xf3_
        have A_0_ : (wr).cell? ⟨W.heap.size, 0, none⟩ = some (.int .i64 (sn : Int)) := cell_of_row _ _ 0 _ _ _ rA31_.out
        have A_1_ : (wr).cell? ⟨W.heap.size, 1, none⟩ = some (.int .i64 ma) := cell_of_row _ _ 1 _ _ _ rA31_.out
        have A_2_ : (wr).cell? ⟨W.heap.size, 2, none⟩ = some (.int .i64 (f : Int)) := cell_of_row _ _ 2 _ _ _ rA31_.out
        have A_3_ : (wr).cell? ⟨W.heap.size, 3, none⟩ = some (.slice a1 n1 c1) := cell_of_row _ _ 3 _ _ _ rA31_.out
        have R_0_ : (wr).cell? ⟨W.heap.size + 1, 0, none⟩ = some (.int .i64 0) := cell_of_row _ _ 0 _ _ _ rR32_.out
        have R_1_ : (wr).cell? ⟨W.heap.size + 1, 1, none⟩ = some (.int .i64 0) := cell_of_row _ _ 1 _ _ _ rR32_.out
        have R_2_ : (wr).cell? ⟨W.heap.size + 1, 2, none⟩ = some (.int .i64 0) := cell_of_row _ _ 2 _ _ _ rR32_.out
        have R_3_ : (wr).cell? ⟨W.heap.size + 1, 3, none⟩ = some (.slice none 0 0) := cell_of_row _ _ 3 _ _ _ rR32_.out
        have Rf0_ : (wr).frozen? ⟨W.heap.size + 1, 0, none⟩ = false := frozen_of_row _ _ 0 _ _ rR32_.out
        have Rf1_ : (wr).frozen? ⟨W.heap.size + 1, 1, none⟩ = false := frozen_of_row _ _ 1 _ _ rR32_.out
        have Rf2_ : (wr).frozen? ⟨W.heap.size + 1, 2, none⟩ = false := frozen_of_row _ _ 2 _ _ rR32_.out
        have Rf3_ : (wr).frozen? ⟨W.heap.size + 1, 3, none⟩ = false := frozen_of_row _ _ 3 _ _ rR32_.out
        have X_0_ : (wr).cell? ⟨w1.heap.size, 0, none⟩ = some (.int .i64 (cn : Int)) := cell_of_row _ _ 0 _ _ _ rX34_.out
        have X_1_ : (wr).cell? ⟨w1.heap.size, 1, none⟩ = some (.int .i64 ma) := cell_of_row _ _ 1 _ _ _ rX34_.out
        have X_2_ : (wr).cell? ⟨w1.heap.size, 2, none⟩ = some (.int .i64 fv) := cell_of_row _ _ 2 _ _ _ rX34_.out
        have X_3_ : (wr).cell? ⟨w1.heap.size, 3, none⟩ = some (.slice qp qn qc) := cell_of_row _ _ 3 _ _ _ rX34_.out
        have Xf0_ : (wr).frozen? ⟨w1.heap.size, 0, none⟩ = false := frozen_of_row _ _ 0 _ _ rX34_.out
        have Xf1_ : (wr).frozen? ⟨w1.heap.size, 1, none⟩ = false := frozen_of_row _ _ 1 _ _ rX34_.out
        have Xf2_ : (wr).frozen? ⟨w1.heap.size, 2, none⟩ = false := frozen_of_row _ _ 2 _ _ rX34_.out
        have Xf3_ : (wr).frozen? ⟨w1.heap.size, 3, none⟩ = false := frozen_of_row _ _ 3 _ _ rX34_.out
        have zr_ := Lib.hid (show (((((wr.setCell ⟨W.heap.size + 1, 0, none⟩ (.int .i64 (cn : Int))).setCell ⟨W.heap.size + 1, 1, none⟩ (.int .i64 ma)).setCell ⟨W.heap.size + 1, 2, none⟩ (.int .i64 fv)).setCell ⟨W.heap.size + 1, 3, none⟩ (.slice qp qn qc))).heap[W.heap.size + 1]? = some (.cells #[.int .i64 (cn : Int), .int .i64 ma, .int .i64 fv, .slice qp qn qc] 26 (0, 0)) from (heap_setCell_same _ _ 3 _ _ _ (heap_setCell_same _ _ 2 _ _ _ (heap_setCell_same _ _ 1 _ _ _ (heap_setCell_same _ _ 0 _ _ _ rR32_.out)))))
        have z0_ : (((((wr.setCell ⟨W.heap.size + 1, 0, none⟩ (.int .i64 (cn : Int))).setCell ⟨W.heap.size + 1, 1, none⟩ (.int .i64 ma)).setCell ⟨W.heap.size + 1, 2, none⟩ (.int .i64 fv)).setCell ⟨W.heap.size + 1, 3, none⟩ (.slice qp qn qc))).cell? ⟨W.heap.size + 1, 0, none⟩ = some (.int .i64 (cn : Int)) := cell_of_row _ _ 0 _ _ _ zr_.out
        have z1_ : (((((wr.setCell ⟨W.heap.size + 1, 0, none⟩ (.int .i64 (cn : Int))).setCell ⟨W.heap.size + 1, 1, none⟩ (.int .i64 ma)).setCell ⟨W.heap.size + 1, 2, none⟩ (.int .i64 fv)).setCell ⟨W.heap.size + 1, 3, none⟩ (.slice qp qn qc))).cell? ⟨W.heap.size + 1, 1, none⟩ = some (.int .i64 ma) := cell_of_row _ _ 1 _ _ _ zr_.out
        have z2_ : (((((wr.setCell ⟨W.heap.size + 1, 0, none⟩ (.int .i64 (cn : Int))).setCell ⟨W.heap.size + 1, 1, none⟩ (.int .i64 ma)).setCell ⟨W.heap.size + 1, 2, none⟩ (.int .i64 fv)).setCell ⟨W.heap.size + 1, 3, none⟩ (.slice qp qn qc))).cell? ⟨W.heap.size + 1, 2, none⟩ = some (.int .i64 fv) := cell_of_row _ _ 2 _ _ _ zr_.out
        have z3_ : (((((wr.setCell ⟨W.heap.size + 1, 0, none⟩ (.int .i64 (cn : Int))).setCell ⟨W.heap.size + 1, 1, none⟩ (.int .i64 ma)).setCell ⟨W.heap.size + 1, 2, none⟩ (.int .i64 fv)).setCell ⟨W.heap.size + 1, 3, none⟩ (.slice qp qn qc))).cell? ⟨W.heap.size + 1, 3, none⟩ = some (.slice qp qn qc) := cell_of_row _ _ 3 _ _ _ zr_.out
        go_wp2
        refine bodyPost_ret (v := .agg #[.int .i64 (cn : Int), .int .i64 ma, .int .i64 fv, .slice qp qn qc]) (by simp [results, go_sem, z0_, z1_, z2_, z3_]) rfl ⟨.slice qp qn qc, by rw [HCF.out] <;> rfl, ?_, ?_⟩
        · exact OwU.wide (lo := W.heap.size + 1 + 1) (by omega) (by simp only [World.size_setCell]; omega) (OwU.keep (chg_one _ _ _ _) (by omega) (OwU.keep (chg_one _ _ _ _) (by omega) (OwU.keep (chg_one _ _ _ _) (by omega) (OwU.keep (chg_one _ _ _ _) (by omega) oC35_.out))))
        · exact (gby_setnew (gby_setnew (gby_setnew (gby_setnew G30_.out _ (by dsimp only; omega) _) _ (by dsimp only; omega) _) _ (by dsimp only; omega) _) _ (by dsimp only; omega) _)
      obtain ⟨j, rfl⟩ : ∃ j : Nat, i = (j : Int) := ⟨i.toNat, by omega⟩
      have hge : (j : Int) ≥ 0 := by omega
      have hj0 : (0 : Int) ≤ (j : Int) := by omega
      have htj : ((j : Int)).toNat = j := by omega
      have hj64 : (j : Int) ≤ 64 := by omega
      have hjw : IntKind.i64.wrap ((j : Int) - 1) = (j : Int) - 1 := IntWalk.i64_in _ (by omega)
      have e_ : dwn cn (15 - ((j : Int) - 1)).toNat = if bitB cn j = true then (j : Int) else dwn cn (15 - (j : Int)).toNat := by
        have h1 : (15 - ((j : Int) - 1)).toNat = (15 - j) + 1 := by omega
        have h2 : 15 - (15 - j) = j := by omega
        have h3 : (15 - (j : Int)).toNat = 15 - j := by omega
        rw [h1, h3]; simp only [dwn, h2]
      have HE_ := Lib.hid e_
      clear e_
      cases hjb : bitB cn j with
      | true =>
        have handj := bit_and1 cn j HCN.out hjb
        rw [hjb] at HE_
        clear hjb
        go_wp2
        clear A_0_ A_1_ A_2_ A_3_ R_0_ R_1_ R_2_ R_3_ X_0_ X_1_ X_2_ X_3_ Xf0_ Xf1_ Xf2_ Xf3_
        have rA36_ := Lib.hid (show ((wr.setCell ⟨w1.heap.size, 2, none⟩ (.int .i64 (j : Int)))).heap[W.heap.size]? = some (.cells #[.int .i64 (sn : Int), .int .i64 ma, .int .i64 (f : Int), .slice a1 n1 c1] 26 (0, 0)) from (set_far rA31_.out (by dsimp only; omega)))
        clear rA31_
        have rR37_ := Lib.hid (show ((wr.setCell ⟨w1.heap.size, 2, none⟩ (.int .i64 (j : Int)))).heap[W.heap.size + 1]? = some (.cells #[.int .i64 0, .int .i64 0, .int .i64 0, .slice none 0 0] 26 (0, 0)) from (set_far rR32_.out (by dsimp only; omega)))
        clear rR32_
        have rX38_ := Lib.hid (show ((wr.setCell ⟨w1.heap.size, 2, none⟩ (.int .i64 (j : Int)))).heap[w1.heap.size]? = some (.cells #[.int .i64 (cn : Int), .int .i64 ma, .int .i64 (j : Int), .slice qp qn qc] 26 (0, 0)) from (heap_setCell_same _ _ 2 _ _ _ rX34_.out))
        clear rX34_
        have oC39_ := Lib.hid (show OwU ((wr.setCell ⟨w1.heap.size, 2, none⟩ (.int .i64 (j : Int)))) (W.heap.size + 1 + 1) (w1.heap.size) [] [own shI (.slice qp qn qc) xs] from (OwU.keep (chg_one _ _ _ _) (by omega) oC35_.out))
        clear oC35_
        have G40_ := Lib.hid (show (W).grownBy ((wr.setCell ⟨w1.heap.size, 2, none⟩ (.int .i64 (j : Int)))) none from (gby_setnew G30_.out _ (by dsimp only; omega) _))
        refine ⟨⟨(j : Int) - 1, (j : Int), by first | rfl | rw [hjw], by omega, by omega, ?_, rX38_.out, oC39_.out, gby_setnew HTM33_.out _ (by dsimp only; (try simp only [World.size_alloc]); omega) _⟩, by simp [intOf] <;> omega⟩
        have e2 := HE_.out
        simp only [if_true, eq_self_iff_true] at e2
        rw [e2, if_neg (by omega)]

      | false =>
        have handj := bit_and0 cn j HCN.out hjb
        rw [hjb] at HE_
        clear hjb
        go_wp2
        refine ⟨⟨(j : Int) - 1, fv, by first | rfl | rw [hjw], by omega, by omega, ?_, rX34_.out, oC35_.out, HTM33_.out⟩, by simp [intOf] <;> omega⟩
        have e2 := HE_.out
        simp only [Bool.false_eq_true, if_false] at e2
        rw [e2]
        exact HFV.out

theorem clearErrors_both (i0_0 i0_1 i0_2 : Int) (xs0_3 : List Int) (i1 : Int) (h0 : szL shI xs0_3 ≤ 1048576) : ∃ (ir0_0 : Int) (ir0_1 : Int) (ir0_2 : Int) (xsr0_3 : List Int), szL shI xsr0_3 ≤ 1048576 ∧ (∀ (W : World), ∀ u0_3, RdL shI W u0_3 xs0_3 → Calls Try.prog 18 #[.agg #[.int .i64 i0_0, .int .i64 i0_1, .int .i64 i0_2, u0_3], .int .i64 i1] W (ResSClearErrors ir0_0 ir0_1 ir0_2 xsr0_3 W)) ∧ ∀ (W : World), ∀ u0_3, RdL shI W u0_3 xs0_3 → Calls Try.prog 19 #[.agg #[.int .i64 i0_0, .int .i64 i0_1, .int .i64 i0_2, u0_3], .int .i64 i1] W (ResIClearErrors ir0_0 ir0_1 ir0_2 xsr0_3 W) := by
  by_cases hb : LOk i0_0 i0_1 i0_2 xs0_3
  · rcases inr_or i1 0 65535 with ⟨h1, h2⟩ | hk
    · obtain ⟨sn, hs⟩ : ∃ n : Nat, i0_0 = (n : Int) := ⟨i0_0.toNat, by have := hb.1; omega⟩
      obtain ⟨bn, rfl⟩ : ∃ n : Nat, i1 = (n : Int) := ⟨i1.toNat, by omega⟩
      subst hs
      have hsn : sn ≤ 65535 := by have := hb.1; omega
      have hle := clS_le sn bn
      exact ⟨clS sn bn, i0_1, clF (clS sn bn) i0_2, xs0_3, h0, fun W u H => (specClear_yes W sn bn _ _ _ u _ H h0 hb (by omega) (by omega) hle (clS_is hsn (by omega))).mono (fun e w q => resS_ofClearErrors e w q), fun W u H => implClear_yes W sn bn _ _ _ u _ H h0 hb (by omega) (by omega) hle (clS_is hsn (by omega))⟩
    · exact ⟨i0_0, i0_1, i0_2, xs0_3, h0, fun W u H => (specClear_out W _ _ _ u _ i1 H h0 hb hk).mono (fun e w q => resS_ofClearErrors e w q), fun W u H => implClear_out W _ _ _ u _ i1 H h0 hb hk⟩
  · exact ⟨i0_0, i0_1, i0_2, xs0_3, h0, fun W u H => (specClear_bad W _ _ _ u _ i1 H h0 hb).mono (fun e w q => resS_ofClearErrors e w q), fun W u H => implClear_bad W _ _ _ u _ i1 H h0 hb⟩

end Go.Proofs.Ytgagbhkidponnad
