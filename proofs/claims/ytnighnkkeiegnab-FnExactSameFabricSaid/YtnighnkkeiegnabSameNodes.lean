/-
  Lists of nodes, the same or not, on both sides.
-/
import Derived.Test.YtnighnkkeiegnabTreeMath
import Derived.Test.YtnighnkkeiegnabBPost0
namespace Go.Proofs.Ytnighnkkeiegnab
open Go Go.RowKit
set_option linter.unusedVariables false

theorem iff_noT {p : Prop} (h : ¬ p) : false = true ↔ p := ⟨fun q => (by cases q), fun q => absurd q h⟩
theorem iff_yesT {p : Prop} (h : p) : true = true ↔ p := ⟨fun _ => h, fun _ => rfl⟩
theorem nodes_eq {xs ys : List DNode} (h : xs.length = ys.length) (he : ∀ j, j < xs.length → nd xs j = nd ys j) : xs = ys := by
  apply List.ext_getElem h
  intro j h1 h2
  have := he j h1
  unfold nd at this
  rwa [List.getD_eq_getElem?_getD, List.getD_eq_getElem?_getD, List.getElem?_eq_getElem h1, List.getElem?_eq_getElem h2] at this

set_option maxRecDepth 8000 in
set_option maxHeartbeats 2000000 in
theorem specSame (W : World) (v u : Value) (xs ys : List DNode) (H : RdL shNode W v xs) (H1 : RdL shNode W u ys) (hl : szL shNode xs ≤ 1048576) (hl1 : szL shNode ys ≤ 1048576) : Calls Try.prog 48 #[v, u] W (BPost (xs = ys) W) := by
  have hlx : xs.length ≤ 1048576 := by have := szL_len shNode xs; omega
  have hly : ys.length ≤ 1048576 := by have := szL_len shNode ys; omega
  obtain ⟨a0, cap, rfl, hcap, hi⟩ := rdN_in H
  obtain ⟨a1, cap1, rfl, hcap1, hi1⟩ := rdN_in H1
  have HA := Lib.hid hi
  have HA1 := Lib.hid hi1
  obtain ⟨len, hlen⟩ : ∃ len, len = xs.length := ⟨_, rfl⟩
  obtain ⟨len1, hlen1⟩ : ∃ len, len = ys.length := ⟨_, rfl⟩
  have HE := Lib.hid hlen
  have HE1 := Lib.hid hlen1
  unfold RdN at HA HA1
  rw [← hlen] at hlx HA ⊢
  rw [← hlen1] at hly HA1 ⊢
  clear H hi hlen hl hcap H1 hi1 hlen1 hl1 hcap1
  by_cases hll : len = len1
  rotate_left
  · have hz : ((len : Int) != (len1 : Int)) = true := by simp; omega
    have HN := Lib.hid hll
    clear hll
    go_enter Try.func48, Try.ntmps48
    go_wp2
    go_ret
    exact ⟨false, rfl, iff_noT (fun q => HN.out (by rw [HE.out, HE1.out, q])), (gby_refl _ _)⟩
  subst hll
  have hz : ((len : Int) != (len : Int)) = false := by simp
  go_enter Try.func48, Try.ntmps48
  go_wp2
  go_loopw [5] (fun i wr => ∃ n : Nat, n ≤ len ∧ i = .int .i64 (n : Int) ∧ (∀ j, j < n → nd xs j = nd ys j) ∧ (W).grownBy wr none) (fun i _ => len - (intOf i).toNat)
  case atStart => exact ⟨0, by omega, rfl, fun j h => absurd h (Nat.not_lt_zero _), gby_refl _ _⟩
  case round =>
    obtain ⟨n, hn, rfl, hj, hg⟩ := hrel
    have szrwr := hg.size
    try simp only [World.size_alloc] at szrwr
    have szr_ := szrwr
    have G1_ := Lib.hid (show (W).grownBy (wr) none from gby_trans (gby_refl _ _) hg)
    have HTB_ := Lib.hid hg
    clear hg
    have HJ := Lib.hid hj
    clear hj
    have hn0 : (0 : Int) ≤ (n : Int) := by omega
    have htn : ((n : Int)).toNat = n := by omega
    by_cases hlt : n < len
    · have hki : (n : Int) < (len : Int) := by omega
      obtain ⟨b, off, rfl, hcell⟩ := HA.out.resolve_left (by omega)
      obtain ⟨y, hy⟩ : ∃ y, y = nd xs n := ⟨_, rfl⟩
      have hyc := hcell n hlt
      rw [← hy] at hyc
      have HY := Lib.hid hy
      clear hy hcell
      obtain ⟨b1, off1, rfl, hcell⟩ := HA1.out.resolve_left (by omega)
      obtain ⟨z, hz_⟩ : ∃ z, z = nd ys n := ⟨_, rfl⟩
      have hzc := hcell n hlt
      rw [← hz_] at hzc
      have HZ := Lib.hid hz_
      clear hz_ hcell
      obtain ⟨y0, y1, y2⟩ := y
      obtain ⟨z0, z1, z2⟩ := z
      dsimp only at hyc hzc
      have HY0C := Lib.hid hyc.1
      have HY1C := Lib.hid hyc.2.1
      have HY2C := Lib.hid hyc.2.2
      have HZ0C := Lib.hid hzc.1
      have HZ1C := Lib.hid hzc.2.1
      have HZ2C := Lib.hid hzc.2.2
      clear hyc hzc
      have y0_ := (G1_.out).cell HY0C.out (by simp)
      have y1_ := (G1_.out).cell HY1C.out (by simp)
      have y2_ := (G1_.out).cell HY2C.out (by simp)
      have z0_ := (G1_.out).cell HZ0C.out (by simp)
      have z1_ := (G1_.out).cell HZ1C.out (by simp)
      have z2_ := (G1_.out).cell HZ2C.out (by simp)
      by_cases h0 : y0 = z0
      rotate_left
      · have hb0 : (y0 == z0) = false := by simpa using h0
        have HB := Lib.hid h0
        clear h0
        go_wp2_with fail
        go_quiet (fail)
        go_wp2
        go_ret
        exact ⟨false, rfl, iff_noT (fun q => HB.out (by have e_ : (⟨y0, y1, y2⟩ : DNode) = ⟨z0, z1, z2⟩ := (by rw [HY.out, HZ.out, q]); injection e_)), by repeat (first | exact G1_.out | with_reducible refine gby_drewN ?_ _)⟩
      have hb0 : (y0 == z0) = true := by simpa using h0
      have HE_0 := Lib.hid h0
      clear h0
      by_cases h1 : y1 = z1
      rotate_left
      · have hb1 : (y1 == z1) = false := by simpa using h1
        have HB := Lib.hid h1
        clear h1
        go_wp2_with fail
        go_quiet (fail)
        go_wp2
        go_ret
        exact ⟨false, rfl, iff_noT (fun q => HB.out (by have e_ : (⟨y0, y1, y2⟩ : DNode) = ⟨z0, z1, z2⟩ := (by rw [HY.out, HZ.out, q]); injection e_)), by repeat (first | exact G1_.out | with_reducible refine gby_drewN ?_ _)⟩
      have hb1 : (y1 == z1) = true := by simpa using h1
      have HE_1 := Lib.hid h1
      clear h1
      by_cases h2 : y2 = z2
      rotate_left
      · have hb2 : (y2 == z2) = false := by simpa using h2
        have HB := Lib.hid h2
        clear h2
        go_wp2_with fail
        go_quiet (fail)
        go_wp2
        go_ret
        exact ⟨false, rfl, iff_noT (fun q => HB.out (by have e_ : (⟨y0, y1, y2⟩ : DNode) = ⟨z0, z1, z2⟩ := (by rw [HY.out, HZ.out, q]); injection e_)), by repeat (first | exact G1_.out | with_reducible refine gby_drewN ?_ _)⟩
      have hb2 : (y2 == z2) = true := by simpa using h2
      have HE_2 := Lib.hid h2
      clear h2
      go_wp2_with fail
      go_quiet (fail)
      go_wp2
      refine ⟨⟨n + 1, by omega, by go_num, fun j hj => ?_, by repeat (first | exact HTB_.out | with_reducible refine gby_drewN ?_ _)⟩, by simp [intOf]; omega⟩
      by_cases e : j = n
      · subst e; rw [← HY.out, ← HZ.out, HE_0.out, HE_1.out, HE_2.out]
      · exact HJ.out j (by omega)
    · obtain rfl : n = len := by omega
      have hki : ¬ (n : Int) < (n : Int) := by omega
      go_wp2
      go_ret
      exact ⟨true, rfl, iff_yesT (nodes_eq (HE.out.symm.trans HE1.out) (fun j hj => HJ.out j (by rw [HE.out]; exact hj))), G1_.out⟩

set_option maxRecDepth 8000 in
set_option maxHeartbeats 2000000 in
theorem equalSame (W : World) (v u : Value) (xs ys : List DNode) (H : RdL shNode W v xs) (H1 : RdL shNode W u ys) (hl : szL shNode xs ≤ 1048576) (hl1 : szL shNode ys ≤ 1048576) : Calls Try.prog 92 #[v, u] W (BPost (xs = ys) W) := by
  have hlx : xs.length ≤ 1048576 := by have := szL_len shNode xs; omega
  have hly : ys.length ≤ 1048576 := by have := szL_len shNode ys; omega
  obtain ⟨a0, cap, rfl, hcap, hi⟩ := rdN_in H
  obtain ⟨a1, cap1, rfl, hcap1, hi1⟩ := rdN_in H1
  have HA := Lib.hid hi
  have HA1 := Lib.hid hi1
  obtain ⟨len, hlen⟩ : ∃ len, len = xs.length := ⟨_, rfl⟩
  obtain ⟨len1, hlen1⟩ : ∃ len, len = ys.length := ⟨_, rfl⟩
  have HE := Lib.hid hlen
  have HE1 := Lib.hid hlen1
  unfold RdN at HA HA1
  rw [← hlen] at hlx HA ⊢
  rw [← hlen1] at hly HA1 ⊢
  clear H hi hlen hl hcap H1 hi1 hlen1 hl1 hcap1
  by_cases hll : len = len1
  rotate_left
  · have hz : ((len : Int) != (len1 : Int)) = true := by simp; omega
    have HN := Lib.hid hll
    clear hll
    go_enter Try.func92, Try.ntmps92
    go_wp2
    go_ret
    exact ⟨false, rfl, iff_noT (fun q => HN.out (by rw [HE.out, HE1.out, q])), (gby_refl _ _)⟩
  subst hll
  have hz : ((len : Int) != (len : Int)) = false := by simp
  go_enter Try.func92, Try.ntmps92
  go_wp2
  go_loopw [5, 13] (fun z i wr => ∃ n : Nat, n ≤ len ∧ (∃ q, z = q) ∧ i = .int .i64 (n : Int) ∧ (∀ j, j < n → nd xs j = nd ys j) ∧ (W).grownBy wr none) (fun _ i _ => len - (intOf i).toNat)
  case atStart => exact ⟨0, by omega, ⟨_, rfl⟩, rfl, fun j h => absurd h (Nat.not_lt_zero _), gby_refl _ _⟩
  case round =>
    obtain ⟨n, hn, ⟨z, rfl⟩, rfl, hj, hg⟩ := hrel
    have szrwr := hg.size
    try simp only [World.size_alloc] at szrwr
    have szr_ := szrwr
    have G1_ := Lib.hid (show (W).grownBy (wr) none from gby_trans (gby_refl _ _) hg)
    have HTB_ := Lib.hid hg
    clear hg
    have HJ := Lib.hid hj
    clear hj
    have hn0 : (0 : Int) ≤ (n : Int) := by omega
    have htn : ((n : Int)).toNat = n := by omega
    by_cases hlt : n < len
    · have hki : (n : Int) < (len : Int) := by omega
      obtain ⟨b, off, rfl, hcell⟩ := HA.out.resolve_left (by omega)
      obtain ⟨y, hy⟩ : ∃ y, y = nd xs n := ⟨_, rfl⟩
      have hyc := hcell n hlt
      rw [← hy] at hyc
      have HY := Lib.hid hy
      clear hy hcell
      obtain ⟨b1, off1, rfl, hcell⟩ := HA1.out.resolve_left (by omega)
      obtain ⟨z, hz_⟩ : ∃ z, z = nd ys n := ⟨_, rfl⟩
      have hzc := hcell n hlt
      rw [← hz_] at hzc
      have HZ := Lib.hid hz_
      clear hz_ hcell
      obtain ⟨y0, y1, y2⟩ := y
      obtain ⟨z0, z1, z2⟩ := z
      dsimp only at hyc hzc
      have HY0C := Lib.hid hyc.1
      have HY1C := Lib.hid hyc.2.1
      have HY2C := Lib.hid hyc.2.2
      have HZ0C := Lib.hid hzc.1
      have HZ1C := Lib.hid hzc.2.1
      have HZ2C := Lib.hid hzc.2.2
      clear hyc hzc
      have y0_ := (G1_.out).cell HY0C.out (by simp)
      have y1_ := (G1_.out).cell HY1C.out (by simp)
      have y2_ := (G1_.out).cell HY2C.out (by simp)
      have z0_ := (G1_.out).cell HZ0C.out (by simp)
      have z1_ := (G1_.out).cell HZ1C.out (by simp)
      have z2_ := (G1_.out).cell HZ2C.out (by simp)
      by_cases h0 : y0 = z0
      rotate_left
      · have hb0 : (y0 == z0) = false := by simpa using h0
        have HB := Lib.hid h0
        clear h0
        go_wp2_with fail
        go_quiet (fail)
        go_wp2
        go_ret
        exact ⟨false, rfl, iff_noT (fun q => HB.out (by have e_ : (⟨y0, y1, y2⟩ : DNode) = ⟨z0, z1, z2⟩ := (by rw [HY.out, HZ.out, q]); injection e_)), by repeat (first | exact G1_.out | with_reducible refine gby_drewN ?_ _)⟩
      have hb0 : (y0 == z0) = true := by simpa using h0
      have HE_0 := Lib.hid h0
      clear h0
      by_cases h1 : y1 = z1
      rotate_left
      · have hb1 : (y1 == z1) = false := by simpa using h1
        have HB := Lib.hid h1
        clear h1
        go_wp2_with fail
        go_quiet (fail)
        go_wp2
        go_ret
        exact ⟨false, rfl, iff_noT (fun q => HB.out (by have e_ : (⟨y0, y1, y2⟩ : DNode) = ⟨z0, z1, z2⟩ := (by rw [HY.out, HZ.out, q]); injection e_)), by repeat (first | exact G1_.out | with_reducible refine gby_drewN ?_ _)⟩
      have hb1 : (y1 == z1) = true := by simpa using h1
      have HE_1 := Lib.hid h1
      clear h1
      by_cases h2 : y2 = z2
      rotate_left
      · have hb2 : (y2 == z2) = false := by simpa using h2
        have HB := Lib.hid h2
        clear h2
        go_wp2_with fail
        go_quiet (fail)
        go_wp2
        go_ret
        exact ⟨false, rfl, iff_noT (fun q => HB.out (by have e_ : (⟨y0, y1, y2⟩ : DNode) = ⟨z0, z1, z2⟩ := (by rw [HY.out, HZ.out, q]); injection e_)), by repeat (first | exact G1_.out | with_reducible refine gby_drewN ?_ _)⟩
      have hb2 : (y2 == z2) = true := by simpa using h2
      have HE_2 := Lib.hid h2
      clear h2
      go_wp2_with fail
      go_quiet (fail)
      go_wp2
      refine ⟨⟨n + 1, by omega, ⟨_, rfl⟩, by go_num, fun j hj => ?_, by repeat (first | exact HTB_.out | with_reducible refine gby_drewN ?_ _)⟩, by simp [intOf]; omega⟩
      by_cases e : j = n
      · subst e; rw [← HY.out, ← HZ.out, HE_0.out, HE_1.out, HE_2.out]
      · exact HJ.out j (by omega)
    · obtain rfl : n = len := by omega
      have hki : ¬ (n : Int) < (n : Int) := by omega
      go_wp2
      go_ret
      exact ⟨true, rfl, iff_yesT (nodes_eq (HE.out.symm.trans HE1.out) (fun j hj => HJ.out j (by rw [HE.out]; exact hj))), G1_.out⟩

theorem implSame (W : World) (v u : Value) (xs ys : List DNode) (H : RdL shNode W v xs) (H1 : RdL shNode W u ys) (hl : szL shNode xs ≤ 1048576) (hl1 : szL shNode ys ≤ 1048576) : Calls Try.prog 53 #[v, u] W (BPost (xs = ys) W) := by
  have HQ := Lib.hid (fun (_ : Unit) => equalSame W v u xs ys H H1 hl hl1)
  obtain ⟨a0, cap, rfl, _⟩ := rdN_in H
  obtain ⟨a1, cap1, rfl, _⟩ := rdN_in H1
  clear H H1
  go_enter Try.func53, Try.ntmps53
  go_wp2_with fail
  go_at_call 92
  refine (HQ.out ()).mono ?_
  rintro e w1 ⟨r, rfl, hr, g_⟩
  have G1_ := Lib.hid (show (W).grownBy (w1) none from gby_trans (gby_refl _ _) g_)
  have HR := Lib.hid hr
  clear hr g_
  go_wp2
  go_ret
  exact ⟨r, rfl, HR.out, G1_.out⟩

end Go.Proofs.Ytnighnkkeiegnab
