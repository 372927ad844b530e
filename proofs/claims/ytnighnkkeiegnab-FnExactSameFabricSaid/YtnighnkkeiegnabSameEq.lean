/-
  Slices compared.
-/
import Derived.Test.YtnighnkkeiegnabSameNodes
import Derived.Test.YtnighnkkeiegnabIntsEq
import Derived.Test.YtnighnkkeiegnabDBar
import Derived.Test.YtnighnkkeiegnabQSBool
import Derived.Test.YtnighnkkeiegnabBPost0
namespace Go.Proofs.Ytnighnkkeiegnab
open Go Go.RowKit
set_option linter.unusedVariables false

theorem iff_noF {p : Prop} (h : ¬ p) : false = true ↔ p := ⟨fun q => (by cases q), fun q => absurd q h⟩
theorem iff_yesF {p : Prop} (h : p) : true = true ↔ p := ⟨fun _ => h, fun _ => rfl⟩
theorem list_eqF {α : Type} [Inhabited α] {xs ys : List α} (h : xs.length = ys.length) (he : ∀ j, j < xs.length → xs.getD j default = ys.getD j default) : xs = ys := by
  apply List.ext_getElem h
  intro j h1 h2
  have := he j h1
  rwa [List.getD_eq_getElem?_getD, List.getD_eq_getElem?_getD, List.getElem?_eq_getElem h1, List.getElem?_eq_getElem h2] at this
theorem l04IntsD (W : World) (v u : Value) (xs ys : List Int) (H : RdL shI W v xs) (K : RdL shI W u ys) (hl : szL shI xs ≤ 1048576) (kl : szL shI ys ≤ 1048576) (b : Bool) (hb : b = decide (xs = ys)) : Calls Try.prog 49 #[v, u] W (AnsN (.bool b) W) := by
  rw [szL_I] at hl kl
  obtain ⟨a, c, rfl, hi, _⟩ := rdI_in H
  obtain ⟨a', c', rfl, hi', _⟩ := rdI_in K
  rw [hb]
  exact (l04Ints_any W a a' _ _ c c' xs ys hi hi' hl (by omega)).mono ansN_of

theorem equalD (W : World) (v u : Value) (xs ys : List Int) (H : RdL shI W v xs) (K : RdL shI W u ys) (hl : szL shI xs ≤ 1048576) (kl : szL shI ys ≤ 1048576) (b : Bool) (hb : b = decide (xs = ys)) : Calls Try.prog 54 #[v, u] W (AnsN (.bool b) W) := by
  rw [szL_I] at hl kl
  obtain ⟨a, c, rfl, hi, _⟩ := rdI_in H
  obtain ⟨a', c', rfl, hi', _⟩ := rdI_in K
  rw [hb]
  exact (equal_any W a a' _ _ c c' xs ys hi hi' hl (by omega)).mono ansN_of

set_option maxRecDepth 8000 in
set_option maxHeartbeats 2000000 in
theorem equalBars (W : World) (v u : Value) (xs ys : List DBar) (H : RdL shBar W v xs) (K : RdL shBar W u ys) (hl : szL shBar xs ≤ 1048576) (kl : szL shBar ys ≤ 1048576) : Calls Try.prog 55 #[v, u] W (BPost (xs = ys) W) := by
  have HLx := Lib.hid hl
  obtain ⟨a0, c0, rfl, _, _, hi_⟩ := H
  have HA := Lib.hid hi_
  clear hi_
  obtain ⟨n0, hn_⟩ : ∃ n, n = xs.length := ⟨_, rfl⟩
  have HEx := Lib.hid hn_
  have hn0x_ : n0 ≤ 1048576 := by have := szL_len shBar xs; omega
  rw [← hn_] at HA ⊢
  clear hn_ hl
  have HLy := Lib.hid kl
  obtain ⟨a1, c1, rfl, _, _, hi_⟩ := K
  have HB := Lib.hid hi_
  clear hi_
  obtain ⟨n1, hn_⟩ : ∃ n, n = ys.length := ⟨_, rfl⟩
  have HEy := Lib.hid hn_
  have hn1x_ : n1 ≤ 1048576 := by have := szL_len shBar ys; omega
  rw [← hn_] at HB ⊢
  clear hn_ kl
  by_cases hll : n0 = n1
  rotate_left
  · have hz : ((n0 : Int) != (n1 : Int)) = true := by simp; omega
    have HN := Lib.hid hll
    clear hll
    go_enter Try.func55, Try.ntmps55
    go_wp2
    go_ret
    exact ⟨false, rfl, iff_noF (fun q => HN.out (by rw [HEx.out, HEy.out, q])), (gby_refl _ _)⟩
  subst hll
  have hz : ((n0 : Int) != (n0 : Int)) = false := by simp
  go_enter Try.func55, Try.ntmps55
  go_wp2
  go_loopw [13] (fun i wr => ∃ n : Nat, i = .int .i64 (n : Int) ∧ n ≤ n0 ∧ (∀ j, j < n → xs.getD j default = ys.getD j default) ∧ (W).grownBy wr none) (fun i _ => n0 - (intOf i).toNat)
  case atStart => exact ⟨0, rfl, by omega, fun j h => absurd h (Nat.not_lt_zero _), gby_refl _ _⟩
  case round =>
    obtain ⟨n, rfl, hn, hj_, hg⟩ := hrel
    have szrwr := hg.size
    try simp only [World.size_alloc] at szrwr
    try simp only [World.size_setCell] at szrwr
    have szr_ := szrwr
    have G1_ := Lib.hid (show (W).grownBy (wr) none from gby_trans (gby_refl _ _) hg)
    have HTB_ := Lib.hid hg
    clear hg
    have HJ := Lib.hid hj_
    clear hj_
    have hn0_ : (0 : Int) ≤ (n : Int) := by omega
    have htn : ((n : Int)).toNat = n := by omega
    by_cases hlt : n < n0
    rotate_left
    · obtain rfl : n = n0 := by omega
      have hki : ¬ (n : Int) < (n : Int) := by omega
      go_wp2
      go_ret
      exact ⟨true, rfl, iff_yesF (list_eqF (HEx.out.symm.trans HEy.out) (fun j hj => HJ.out j (by rw [HEx.out]; exact hj))), G1_.out⟩
    have hki : (n : Int) < (n0 : Int) := by omega
    obtain ⟨b1, o1, rfl, hc_⟩ := HA.out.resolve_left (by omega)
    obtain ⟨cs_, hat_, hrd_⟩ := hc_ n (by have := HEx.out; omega)
    obtain ⟨y, hy_⟩ : ∃ y, y = xs.getD n default := ⟨_, rfl⟩
    rw [← hy_] at hrd_
    have Hy := Lib.hid hy_
    clear hy_
    obtain rfl := hrd_
    obtain ⟨y0, y1⟩ := y
    dsimp only at hat_
    have Hyc0 := Lib.hid (show W.cell? ⟨b1, o1 + n * 2, none⟩ = some (.int .i64 y0) from at_cell (j := 0) hat_ rfl)
    have Hyc1 := Lib.hid (show W.cell? ⟨b1, o1 + n * 2 + 1, none⟩ = some (.int .i64 y1) from at_cell (j := 1) hat_ rfl)
    clear hat_ hc_
    obtain ⟨b2, o2, rfl, hc_⟩ := HB.out.resolve_left (by omega)
    obtain ⟨cs_, hat_, hrd_⟩ := hc_ n (by have := HEy.out; omega)
    obtain ⟨z, hy_⟩ : ∃ y, y = ys.getD n default := ⟨_, rfl⟩
    rw [← hy_] at hrd_
    have Hz := Lib.hid hy_
    clear hy_
    obtain rfl := hrd_
    obtain ⟨z0, z1⟩ := z
    dsimp only at hat_
    have Hzc0 := Lib.hid (show W.cell? ⟨b2, o2 + n * 2, none⟩ = some (.int .i64 z0) from at_cell (j := 0) hat_ rfl)
    have Hzc1 := Lib.hid (show W.cell? ⟨b2, o2 + n * 2 + 1, none⟩ = some (.int .i64 z1) from at_cell (j := 1) hat_ rfl)
    clear hat_ hc_
    have yc0_ := (G1_.out).cell Hyc0.out (by simp)
    have yc1_ := (G1_.out).cell Hyc1.out (by simp)
    have zc0_ := (G1_.out).cell Hzc0.out (by simp)
    have zc1_ := (G1_.out).cell Hzc1.out (by simp)
    by_cases h0 : y0 = z0
    rotate_left
    · have hb0 : (y0 == z0) = false := by simpa using h0
      have HNE := Lib.hid (show ¬ xs.getD n default = ys.getD n default from by rw [← Hy.out, ← Hz.out]; intro e; injection e with e1 e2; exact h0 e1)
      clear h0
      go_wp2_with fail
      go_quiet (fail)
      go_wp2
      go_ret
      exact ⟨false, rfl, iff_noF (fun q => HNE.out (by rw [q])), by repeat (first | exact G1_.out | with_reducible refine gby_drewN ?_ _)⟩
    have hb0 : (y0 == z0) = true := by simpa using h0
    have HE_0 := Lib.hid h0
    clear h0
    by_cases h1 : y1 = z1
    rotate_left
    · have hb1 : (y1 == z1) = false := by simpa using h1
      have HNE := Lib.hid (show ¬ xs.getD n default = ys.getD n default from by rw [← Hy.out, ← Hz.out]; intro e; injection e with e1 e2; exact h1 e2)
      clear h1
      go_wp2_with fail
      go_quiet (fail)
      go_wp2
      go_ret
      exact ⟨false, rfl, iff_noF (fun q => HNE.out (by rw [q])), by repeat (first | exact G1_.out | with_reducible refine gby_drewN ?_ _)⟩
    have hb1 : (y1 == z1) = true := by simpa using h1
    have HE_1 := Lib.hid h1
    clear h1
    go_wp2_with fail
    go_quiet (fail)
    go_wp2
    refine ⟨⟨n + 1, by go_num, by omega, fun j hj => ?_, by repeat (first | exact HTB_.out | with_reducible refine gby_drewN ?_ _)⟩, by simp [intOf]; omega⟩
    by_cases e : j = n
    · subst e; rw [← Hy.out, ← Hz.out, HE_0.out, HE_1.out]
    · exact HJ.out j (by omega)

set_option maxRecDepth 8000 in
set_option maxHeartbeats 2000000 in
theorem equalBools (W : World) (v u : Value) (xs ys : List Bool) (H : RdL shB W v xs) (K : RdL shB W u ys) (hl : szL shB xs ≤ 1048576) (kl : szL shB ys ≤ 1048576) : Calls Try.prog 57 #[v, u] W (BPost (xs = ys) W) := by
  have HLx := Lib.hid hl
  obtain ⟨a0, c0, rfl, _, _, hi_⟩ := H
  have HA := Lib.hid hi_
  clear hi_
  obtain ⟨n0, hn_⟩ : ∃ n, n = xs.length := ⟨_, rfl⟩
  have HEx := Lib.hid hn_
  have hn0x_ : n0 ≤ 1048576 := by have := szL_len shB xs; omega
  rw [← hn_] at HA ⊢
  clear hn_ hl
  have HLy := Lib.hid kl
  obtain ⟨a1, c1, rfl, _, _, hi_⟩ := K
  have HB := Lib.hid hi_
  clear hi_
  obtain ⟨n1, hn_⟩ : ∃ n, n = ys.length := ⟨_, rfl⟩
  have HEy := Lib.hid hn_
  have hn1x_ : n1 ≤ 1048576 := by have := szL_len shB ys; omega
  rw [← hn_] at HB ⊢
  clear hn_ kl
  by_cases hll : n0 = n1
  rotate_left
  · have hz : ((n0 : Int) != (n1 : Int)) = true := by simp; omega
    have HN := Lib.hid hll
    clear hll
    go_enter Try.func57, Try.ntmps57
    go_wp2
    go_ret
    exact ⟨false, rfl, iff_noF (fun q => HN.out (by rw [HEx.out, HEy.out, q])), (gby_refl _ _)⟩
  subst hll
  have hz : ((n0 : Int) != (n0 : Int)) = false := by simp
  go_enter Try.func57, Try.ntmps57
  go_wp2
  go_loopw [13] (fun i wr => ∃ n : Nat, i = .int .i64 (n : Int) ∧ n ≤ n0 ∧ (∀ j, j < n → xs.getD j default = ys.getD j default) ∧ (W).grownBy wr none) (fun i _ => n0 - (intOf i).toNat)
  case atStart => exact ⟨0, rfl, by omega, fun j h => absurd h (Nat.not_lt_zero _), gby_refl _ _⟩
  case round =>
    obtain ⟨n, rfl, hn, hj_, hg⟩ := hrel
    have szrwr := hg.size
    try simp only [World.size_alloc] at szrwr
    try simp only [World.size_setCell] at szrwr
    have szr_ := szrwr
    have G1_ := Lib.hid (show (W).grownBy (wr) none from gby_trans (gby_refl _ _) hg)
    have HTB_ := Lib.hid hg
    clear hg
    have HJ := Lib.hid hj_
    clear hj_
    have hn0_ : (0 : Int) ≤ (n : Int) := by omega
    have htn : ((n : Int)).toNat = n := by omega
    by_cases hlt : n < n0
    rotate_left
    · obtain rfl : n = n0 := by omega
      have hki : ¬ (n : Int) < (n : Int) := by omega
      go_wp2
      go_ret
      exact ⟨true, rfl, iff_yesF (list_eqF (HEx.out.symm.trans HEy.out) (fun j hj => HJ.out j (by rw [HEx.out]; exact hj))), G1_.out⟩
    have hki : (n : Int) < (n0 : Int) := by omega
    obtain ⟨b1, o1, rfl, hc_⟩ := HA.out.resolve_left (by omega)
    obtain ⟨cs_, hat_, hrd_⟩ := hc_ n (by have := HEx.out; omega)
    obtain ⟨y, hy_⟩ : ∃ y, y = xs.getD n default := ⟨_, rfl⟩
    rw [← hy_] at hrd_
    have Hy := Lib.hid hy_
    clear hy_
    obtain rfl := hrd_
    have Hyc0 := Lib.hid (show W.cell? ⟨b1, o1 + n, none⟩ = some (.bool y) from by have q := at_cell (j := 0) hat_ rfl; rwa [Nat.add_zero, show shB.n = 1 from rfl, Nat.mul_one] at q)
    clear hat_ hc_
    obtain ⟨b2, o2, rfl, hc_⟩ := HB.out.resolve_left (by omega)
    obtain ⟨cs_, hat_, hrd_⟩ := hc_ n (by have := HEy.out; omega)
    obtain ⟨z, hy_⟩ : ∃ y, y = ys.getD n default := ⟨_, rfl⟩
    rw [← hy_] at hrd_
    have Hz := Lib.hid hy_
    clear hy_
    obtain rfl := hrd_
    have Hzc0 := Lib.hid (show W.cell? ⟨b2, o2 + n, none⟩ = some (.bool z) from by have q := at_cell (j := 0) hat_ rfl; rwa [Nat.add_zero, show shB.n = 1 from rfl, Nat.mul_one] at q)
    clear hat_ hc_
    have yc0_ := (G1_.out).cell Hyc0.out (by simp)
    have zc0_ := (G1_.out).cell Hzc0.out (by simp)
    by_cases h0 : y = z
    rotate_left
    · have hb0 : (y == z) = false := by simpa using h0
      have hb1 : (y != z) = true := by simpa using h0
      have HNE := Lib.hid (show ¬ xs.getD n default = ys.getD n default from by rw [← Hy.out, ← Hz.out]; exact h0)
      clear h0
      go_wp2_with fail
      go_quiet (fail)
      go_wp2
      go_ret
      exact ⟨false, rfl, iff_noF (fun q => HNE.out (by rw [q])), by repeat (first | exact G1_.out | with_reducible refine gby_drewN ?_ _)⟩
    have hb0 : (y == z) = true := by simpa using h0
    have hb1 : (y != z) = false := by simpa using h0
    have HE_0 := Lib.hid h0
    clear h0
    go_wp2_with fail
    go_quiet (fail)
    go_wp2
    refine ⟨⟨n + 1, by go_num, by omega, fun j hj => ?_, by repeat (first | exact HTB_.out | with_reducible refine gby_drewN ?_ _)⟩, by simp [intOf]; omega⟩
    by_cases e : j = n
    · subst e; rw [← Hy.out, ← Hz.out, HE_0.out]
    · exact HJ.out j (by omega)

set_option maxRecDepth 8000 in
set_option maxHeartbeats 2000000 in
theorem equalLists (W : World) (v u : Value) (xs ys : List (List Int)) (H : RdL (shL shI) W v xs) (K : RdL (shL shI) W u ys) (hl : szL (shL shI) xs ≤ 1048576) (kl : szL (shL shI) ys ≤ 1048576) : Calls Try.prog 56 #[v, u, .func (.func 54) #[] #[]] W (BPost (xs = ys) W) := by
  have HLx := Lib.hid hl
  obtain ⟨a0, c0, rfl, _, _, hi_⟩ := H
  have HA := Lib.hid hi_
  clear hi_
  obtain ⟨n0, hn_⟩ : ∃ n, n = xs.length := ⟨_, rfl⟩
  have HEx := Lib.hid hn_
  have hn0x_ : n0 ≤ 1048576 := by have := szL_len (shL shI) xs; omega
  rw [← hn_] at HA ⊢
  clear hn_ hl
  have HLy := Lib.hid kl
  obtain ⟨a1, c1, rfl, _, _, hi_⟩ := K
  have HB := Lib.hid hi_
  clear hi_
  obtain ⟨n1, hn_⟩ : ∃ n, n = ys.length := ⟨_, rfl⟩
  have HEy := Lib.hid hn_
  have hn1x_ : n1 ≤ 1048576 := by have := szL_len (shL shI) ys; omega
  rw [← hn_] at HB ⊢
  clear hn_ kl
  by_cases hll : n0 = n1
  rotate_left
  · have hz : ((n0 : Int) != (n1 : Int)) = true := by simp; omega
    have HN := Lib.hid hll
    clear hll
    go_enter Try.func56, Try.ntmps56
    go_wp2
    go_ret
    exact ⟨false, rfl, iff_noF (fun q => HN.out (by rw [HEx.out, HEy.out, q])), (gby_refl _ _)⟩
  subst hll
  have hz : ((n0 : Int) != (n0 : Int)) = false := by simp
  go_enter Try.func56, Try.ntmps56
  go_wp2
  go_loopw [17] (fun i wr => ∃ n : Nat, i = .int .i64 (n : Int) ∧ n ≤ n0 ∧ (∀ j, j < n → xs.getD j default = ys.getD j default) ∧ (W).grownBy wr none) (fun i _ => n0 - (intOf i).toNat)
  case atStart => exact ⟨0, rfl, by omega, fun j h => absurd h (Nat.not_lt_zero _), gby_refl _ _⟩
  case round =>
    obtain ⟨n, rfl, hn, hj_, hg⟩ := hrel
    have szrwr := hg.size
    try simp only [World.size_alloc] at szrwr
    try simp only [World.size_setCell] at szrwr
    have szr_ := szrwr
    have G1_ := Lib.hid (show (W).grownBy (wr) none from gby_trans (gby_refl _ _) hg)
    have HTB_ := Lib.hid hg
    clear hg
    have HJ := Lib.hid hj_
    clear hj_
    have hn0_ : (0 : Int) ≤ (n : Int) := by omega
    have htn : ((n : Int)).toNat = n := by omega
    by_cases hlt : n < n0
    rotate_left
    · obtain rfl : n = n0 := by omega
      have hki : ¬ (n : Int) < (n : Int) := by omega
      go_wp2
      go_ret
      exact ⟨true, rfl, iff_yesF (list_eqF (HEx.out.symm.trans HEy.out) (fun j hj => HJ.out j (by rw [HEx.out]; exact hj))), G1_.out⟩
    have hki : (n : Int) < (n0 : Int) := by omega
    obtain ⟨b1, o1, rfl, hc_⟩ := HA.out.resolve_left (by omega)
    obtain ⟨cs_, hat_, hrd_⟩ := hc_ n (by have := HEx.out; omega)
    obtain ⟨y, hy_⟩ : ∃ y, y = xs.getD n default := ⟨_, rfl⟩
    rw [← hy_] at hrd_
    have Hy := Lib.hid hy_
    have hzy_ : szL shI y ≤ 1048576 := by have q1 := szL_at (shL shI) xs n (by have := HEx.out; omega); rw [← hy_] at q1; exact Nat.le_trans q1 HLx.out
    clear hy_
    obtain ⟨vy, rfl, hr_⟩ := hrd_
    have Hyr := Lib.hid hr_
    have Hyc0 := Lib.hid (show W.cell? ⟨b1, o1 + n, none⟩ = some vy from by have q := at_cell (j := 0) hat_ rfl; rwa [Nat.add_zero, show (shL shI).n = 1 from rfl, Nat.mul_one] at q)
    clear hat_ hc_ hr_
    obtain ⟨b2, o2, rfl, hc_⟩ := HB.out.resolve_left (by omega)
    obtain ⟨cs_, hat_, hrd_⟩ := hc_ n (by have := HEy.out; omega)
    obtain ⟨z, hy_⟩ : ∃ y, y = ys.getD n default := ⟨_, rfl⟩
    rw [← hy_] at hrd_
    have Hz := Lib.hid hy_
    have hzz_ : szL shI z ≤ 1048576 := by have q1 := szL_at (shL shI) ys n (by have := HEy.out; omega); rw [← hy_] at q1; exact Nat.le_trans q1 HLy.out
    clear hy_
    obtain ⟨vz, rfl, hr_⟩ := hrd_
    have Hzr := Lib.hid hr_
    have Hzc0 := Lib.hid (show W.cell? ⟨b2, o2 + n, none⟩ = some vz from by have q := at_cell (j := 0) hat_ rfl; rwa [Nat.add_zero, show (shL shI).n = 1 from rfl, Nat.mul_one] at q)
    clear hat_ hc_ hr_
    have yc0_ := (G1_.out).cell Hyc0.out (by simp)
    have zc0_ := (G1_.out).cell Hzc0.out (by simp)
    obtain ⟨q, hq_⟩ : ∃ b, b = decide (y = z) := ⟨_, rfl⟩
    have HQ := Lib.hid hq_
    clear hq_
    cases q
    · have HNE := Lib.hid (show ¬ xs.getD n default = ys.getD n default from by rw [← Hy.out, ← Hz.out]; exact of_decide_eq_false HQ.out.symm)
      go_wp2_with fail
      go_at_call 54
      refine (equalD _ _ _ y z (Hyr.out.grow G1_.out) (Hzr.out.grow G1_.out) hzy_ hzz_ false HQ.out).mono ?_
      rintro e w1 ⟨rfl, g⟩
      have szw1 := g.size
      try simp only [World.size_alloc] at szw1
      try simp only [World.size_setCell] at szw1
      clear yc0_ zc0_
      have G2_ := Lib.hid (show (W).grownBy (w1) none from gby_trans G1_.out g)
      have HTB3_ := Lib.hid (show (W).grownBy (w1) none from gby_trans HTB_.out g)
      clear HTB_
      clear g
      have yc0_ := (G2_.out).cell Hyc0.out (by simp)
      have zc0_ := (G2_.out).cell Hzc0.out (by simp)
      go_wp2
      go_ret
      exact ⟨false, rfl, iff_noF (fun q => HNE.out (by rw [q])), G2_.out⟩
    · skip
      go_wp2_with fail
      go_at_call 54
      refine (equalD _ _ _ y z (Hyr.out.grow G1_.out) (Hzr.out.grow G1_.out) hzy_ hzz_ true HQ.out).mono ?_
      rintro e w1 ⟨rfl, g⟩
      have szw1 := g.size
      try simp only [World.size_alloc] at szw1
      try simp only [World.size_setCell] at szw1
      clear yc0_ zc0_
      have G2_ := Lib.hid (show (W).grownBy (w1) none from gby_trans G1_.out g)
      have HTB3_ := Lib.hid (show (W).grownBy (w1) none from gby_trans HTB_.out g)
      clear HTB_
      clear g
      have yc0_ := (G2_.out).cell Hyc0.out (by simp)
      have zc0_ := (G2_.out).cell Hzc0.out (by simp)
      go_wp2
      refine ⟨⟨n + 1, by go_num, by omega, fun j hj => ?_, by repeat (first | exact HTB3_.out | with_reducible refine gby_drewN ?_ _)⟩, by simp [intOf]; omega⟩
      by_cases e : j = n
      · subst e; rw [← Hy.out, ← Hz.out]; exact of_decide_eq_true HQ.out.symm
      · exact HJ.out j (by omega)

end Go.Proofs.Ytnighnkkeiegnab
