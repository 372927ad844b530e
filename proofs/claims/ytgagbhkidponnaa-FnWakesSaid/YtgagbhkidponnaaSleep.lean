/-
  Depths of sleep, on both sides: one for each node; valid or not.
-/
import Derived.Test.YtgagbhkidponnaaShpI
import Derived.Test.YtgagbhkidponnaaDNode
import Derived.Test.YtgagbhkidponnaaBPost
namespace Go.Proofs.Ytgagbhkidponnaa
open Go Go.RowKit

def ResSSleepOk (br0 : Bool) (W : World) (e : Ending) (w' : World) : Prop := e = .returned (.bool br0) ∧ W.grownBy w' none
def ResISleepOk (br0 : Bool) (W : World) (e : Ending) (w' : World) : Prop := e = .returned (.bool br0) ∧ W.grownBy w' none

end Go.Proofs.Ytgagbhkidponnaa

namespace Go.Proofs.Ytgagbhkidponnaa
open Go Go.RowKit
set_option linter.unusedVariables false

/-- a depth for each node of a valid tree -/
def WishP (xs : List DNode) (ss : List Int) : Prop := (∀ k, k < ss.length → 0 ≤ ss.getD k 0 ∧ ss.getD k 0 ≤ 3) ∧ TOk xs ∧ ss.length = xs.length
/-- .. no bridge sleeps more deeply than a node below it -/
def SleepP (xs : List DNode) (ss : List Int) : Prop := WishP xs ss ∧ ∀ k, 1 ≤ k → k < xs.length → ss.getD (nd xs k).f0.toNat 0 ≤ ss.getD k 0

set_option maxRecDepth 8000 in
set_option maxHeartbeats 2000000 in
theorem specWish (W : World) (v u : Value) (xs : List DNode) (ss : List Int) (H : RdL shNode W v xs) (Hs : RdL shI W u ss) (hl : szL shNode xs ≤ 1048576) (hls : szL shI ss ≤ 1048576) : Calls Try.prog 51 #[v, u] W (BPost (WishP xs ss) W) := by
  have HT := Lib.hid H
  have HSL := Lib.hid Hs
  have HL := Lib.hid hl
  have HLS := Lib.hid hls
  have hlx : xs.length ≤ 1048576 := by have := szL_len shNode xs; omega
  rw [szL_I] at hls
  obtain ⟨a0, cap, rfl, hcap, hi⟩ := rdN_in H
  obtain ⟨a1, cap1, rfl, hcap1, hi1⟩ := rdI1_in Hs
  have HA := Lib.hid hi
  have HA1 := Lib.hid hi1
  obtain ⟨len, hlen⟩ : ∃ len, len = xs.length := ⟨_, rfl⟩
  obtain ⟨len1, hlen1⟩ : ∃ len, len = ss.length := ⟨_, rfl⟩
  have HE := Lib.hid hlen
  have HE1 := Lib.hid hlen1
  unfold RdN at HA
  unfold RdN1 at HA1
  rw [← hlen] at hlx HT HA ⊢
  rw [← hlen1] at hls HSL HA1 ⊢
  clear H Hs hi hi1 hlen hlen1 hl hcap hcap1
  go_enter Try.func51, Try.ntmps51
  go_wp2
  go_loopw [5] (fun i wr => ∃ n : Nat, n ≤ len1 ∧ i = .int .i64 (n : Int) ∧ (∀ j, j < n → 0 ≤ ss.getD j 0 ∧ ss.getD j 0 ≤ 3) ∧ (W).grownBy wr none) (fun i _ => len1 - (intOf i).toNat)
  case atStart => exact ⟨0, by omega, rfl, fun j hj => absurd hj (Nat.not_lt_zero _), gby_refl _ _⟩
  case round =>
    obtain ⟨n, hn, rfl, hj, hg⟩ := hrel
    have szrwr := hg.size
    try simp only [World.size_alloc] at szrwr
    have szr_ := szrwr
    have G1_ := Lib.hid (show (W).grownBy (wr) none from gby_trans (gby_refl _ _) hg)
    have HTB_ := Lib.hid hg
    clear hg
    have HJ := Lib.hid hj
    clear hj
    have hn0 : (0 : Int) ≤ (n : Int) := by omega
    have htn : ((n : Int)).toNat = n := by omega
    by_cases hlt : n < len1
    · have hki : (n : Int) < (len1 : Int) := by omega
      obtain ⟨b, off, rfl, hcell⟩ := HA1.out.resolve_left (by omega)
      obtain ⟨x, hx⟩ : ∃ x, x = ss.getD n 0 := ⟨_, rfl⟩
      have HX := Lib.hid hx
      have hxc := hcell n hlt
      rw [← hx] at hxc
      clear hx hcell
      have x_ := (G1_.out).cell hxc (by simp)
      clear hxc
      rcases inr_or x 0 3 with ⟨x1, x2⟩ | hb
      rotate_left
      · have HB := Lib.hid hb
        clear hb
        go_wp2_with fail
        go_at_call 75
        refine (in_no _ _ _ _ HB.out).mono ?_
        rintro e w1_ ⟨rfl, rfl⟩
        go_wp2
        go_ret
        exact ⟨false, rfl, iff_no (fun q => absurd (q.1 n (by rw [← HE1.out]; exact hlt)) (by rw [← HX.out]; have := HB.out; omega)), G1_.out⟩
      go_wp2_with fail
      go_at_call 75
      refine (in_yes _ _ _ _ (by omega) (by omega)).mono ?_
      rintro e w1_ ⟨rfl, rfl⟩
      go_wp2
      refine ⟨⟨n + 1, by omega, by go_num, fun j hj => ?_, HTB_.out⟩, by simp [intOf]; omega⟩
      by_cases e : j = n
      · subst e; rw [← HX.out]; exact ⟨x1, x2⟩
      · exact HJ.out j (by omega)
    · obtain rfl : n = len1 := by omega
      have hki : ¬ (n : Int) < (n : Int) := by omega
      by_cases ht : TOk xs
      rotate_left
      · have HNT := Lib.hid ht
        clear ht
        go_wp2_with fail
        go_at_call 74
        refine (specTree_no _ _ xs (HT.out.grow G1_.out) HL.out HNT.out).mono ?_
        rintro e w1 ⟨rfl, g⟩
        have szw1 := g.size
        try simp only [World.size_alloc] at szw1
        have G2_ := Lib.hid (show (W).grownBy (w1) none from gby_trans G1_.out g)
        have HTB3_ := Lib.hid (show (W).grownBy (w1) none from gby_trans HTB_.out g)
        clear HTB_
        clear g
        go_wp2
        go_ret
        exact ⟨false, rfl, iff_no (fun q => HNT.out q.2.1), G2_.out⟩
      have HYT := Lib.hid ht
      clear ht
      by_cases hll : n = len
      · subst hll
        have hbb : ((n : Int) == (n : Int)) = true := by simp
        go_wp2_with fail
        go_at_call 74
        refine (specTree_yes _ _ xs (HT.out.grow G1_.out) HL.out HYT.out).mono ?_
        rintro e w1 ⟨rfl, g⟩
        have szw1 := g.size
        try simp only [World.size_alloc] at szw1
        have G2_ := Lib.hid (show (W).grownBy (w1) none from gby_trans G1_.out g)
        have HTB3_ := Lib.hid (show (W).grownBy (w1) none from gby_trans HTB_.out g)
        clear HTB_
        clear g
        go_wp2
        go_ret
        exact ⟨true, rfl, iff_yes ⟨fun k hk => HJ.out k (by rw [HE1.out]; exact hk), HYT.out, HE1.out.symm.trans HE.out⟩, G2_.out⟩
      · have hbb : ((n : Int) == (len : Int)) = false := by simp; omega
        have HNL := Lib.hid hll
        clear hll
        go_wp2_with fail
        go_at_call 74
        refine (specTree_yes _ _ xs (HT.out.grow G1_.out) HL.out HYT.out).mono ?_
        rintro e w1 ⟨rfl, g⟩
        have szw1 := g.size
        try simp only [World.size_alloc] at szw1
        have G2_ := Lib.hid (show (W).grownBy (w1) none from gby_trans G1_.out g)
        have HTB3_ := Lib.hid (show (W).grownBy (w1) none from gby_trans HTB_.out g)
        clear HTB_
        clear g
        go_wp2
        go_ret
        exact ⟨false, rfl, iff_no (fun q => HNL.out (HE1.out.trans (q.2.2.trans HE.out.symm))), G2_.out⟩

set_option maxRecDepth 8000 in
set_option maxHeartbeats 2000000 in
theorem implWish (W : World) (v u : Value) (xs : List DNode) (ss : List Int) (H : RdL shNode W v xs) (Hs : RdL shI W u ss) (hl : szL shNode xs ≤ 1048576) (hls : szL shI ss ≤ 1048576) : Calls Try.prog 53 #[v, u] W (BPost (WishP xs ss) W) := by
  have HT := Lib.hid H
  have HSL := Lib.hid Hs
  have HL := Lib.hid hl
  have HLS := Lib.hid hls
  have hlx : xs.length ≤ 1048576 := by have := szL_len shNode xs; omega
  rw [szL_I] at hls
  obtain ⟨a0, cap, rfl, hcap, hi⟩ := rdN_in H
  obtain ⟨a1, cap1, rfl, hcap1, hi1⟩ := rdI1_in Hs
  have HA := Lib.hid hi
  have HA1 := Lib.hid hi1
  obtain ⟨len, hlen⟩ : ∃ len, len = xs.length := ⟨_, rfl⟩
  obtain ⟨len1, hlen1⟩ : ∃ len, len = ss.length := ⟨_, rfl⟩
  have HE := Lib.hid hlen
  have HE1 := Lib.hid hlen1
  unfold RdN at HA
  unfold RdN1 at HA1
  rw [← hlen] at hlx HT HA ⊢
  rw [← hlen1] at hls HSL HA1 ⊢
  clear H Hs hi hi1 hlen hlen1 hl hcap hcap1
  go_enter Try.func53, Try.ntmps53
  go_wp2
  go_loopw [6, 9] (fun z i wr => ∃ n : Nat, n ≤ len1 ∧ (∃ q, z = q) ∧ i = .int .i64 (n : Int) ∧ (∀ j, j < n → 0 ≤ ss.getD j 0 ∧ ss.getD j 0 ≤ 3) ∧ (W).grownBy wr none) (fun _ i _ => len1 - (intOf i).toNat)
  case atStart => exact ⟨0, by omega, ⟨_, rfl⟩, rfl, fun j hj => absurd hj (Nat.not_lt_zero _), gby_refl _ _⟩
  case round =>
    obtain ⟨n, hn, ⟨z, rfl⟩, rfl, hj, hg⟩ := hrel
    have szrwr := hg.size
    try simp only [World.size_alloc] at szrwr
    have szr_ := szrwr
    have G1_ := Lib.hid (show (W).grownBy (wr) none from gby_trans (gby_refl _ _) hg)
    have HTB_ := Lib.hid hg
    clear hg
    have HJ := Lib.hid hj
    clear hj
    have hn0 : (0 : Int) ≤ (n : Int) := by omega
    have htn : ((n : Int)).toNat = n := by omega
    by_cases hlt : n < len1
    · have hki : (n : Int) < (len1 : Int) := by omega
      obtain ⟨b, off, rfl, hcell⟩ := HA1.out.resolve_left (by omega)
      obtain ⟨x, hx⟩ : ∃ x, x = ss.getD n 0 := ⟨_, rfl⟩
      have HX := Lib.hid hx
      have hxc := hcell n hlt
      rw [← hx] at hxc
      clear hx hcell
      have x_ := (G1_.out).cell hxc (by simp)
      clear hxc
      rcases inr_or x 0 3 with ⟨x1, x2⟩ | hb
      rotate_left
      · have HB := Lib.hid hb
        clear hb
        go_wp2_with fail
        go_at_call 62
        refine (rng_no _ _ _ _ HB.out).mono ?_
        rintro e w1_ ⟨rfl, rfl⟩
        go_wp2
        go_ret
        exact ⟨false, rfl, iff_no (fun q => absurd (q.1 n (by rw [← HE1.out]; exact hlt)) (by rw [← HX.out]; have := HB.out; omega)), G1_.out⟩
      go_wp2_with fail
      go_at_call 62
      refine (rng_yes _ _ _ _ (by omega) (by omega)).mono ?_
      rintro e w1_ ⟨rfl, rfl⟩
      go_wp2
      refine ⟨⟨n + 1, by omega, ⟨_, rfl⟩, by go_num, fun j hj => ?_, HTB_.out⟩, by simp [intOf]; omega⟩
      by_cases e : j = n
      · subst e; rw [← HX.out]; exact ⟨x1, x2⟩
      · exact HJ.out j (by omega)
    · obtain rfl : n = len1 := by omega
      have hki : ¬ (n : Int) < (n : Int) := by omega
      by_cases ht : TOk xs
      rotate_left
      · have HNT := Lib.hid ht
        clear ht
        go_wp2_with fail
        go_at_call 48
        refine (implTree_no _ _ xs (HT.out.grow G1_.out) HL.out HNT.out).mono ?_
        rintro e w1 ⟨rfl, g⟩
        have szw1 := g.size
        try simp only [World.size_alloc] at szw1
        have G2_ := Lib.hid (show (W).grownBy (w1) none from gby_trans G1_.out g)
        have HTB3_ := Lib.hid (show (W).grownBy (w1) none from gby_trans HTB_.out g)
        clear HTB_
        clear g
        go_wp2
        go_ret
        exact ⟨false, rfl, iff_no (fun q => HNT.out q.2.1), G2_.out⟩
      have HYT := Lib.hid ht
      clear ht
      by_cases hll : n = len
      · subst hll
        have hbb : ((n : Int) == (n : Int)) = true := by simp
        go_wp2_with fail
        go_at_call 48
        refine (implTree_yes _ _ xs (HT.out.grow G1_.out) HL.out HYT.out).mono ?_
        rintro e w1 ⟨rfl, g⟩
        have szw1 := g.size
        try simp only [World.size_alloc] at szw1
        have G2_ := Lib.hid (show (W).grownBy (w1) none from gby_trans G1_.out g)
        have HTB3_ := Lib.hid (show (W).grownBy (w1) none from gby_trans HTB_.out g)
        clear HTB_
        clear g
        go_wp2
        go_ret
        exact ⟨true, rfl, iff_yes ⟨fun k hk => HJ.out k (by rw [HE1.out]; exact hk), HYT.out, HE1.out.symm.trans HE.out⟩, G2_.out⟩
      · have hbb : ((n : Int) == (len : Int)) = false := by simp; omega
        have HNL := Lib.hid hll
        clear hll
        go_wp2_with fail
        go_at_call 48
        refine (implTree_yes _ _ xs (HT.out.grow G1_.out) HL.out HYT.out).mono ?_
        rintro e w1 ⟨rfl, g⟩
        have szw1 := g.size
        try simp only [World.size_alloc] at szw1
        have G2_ := Lib.hid (show (W).grownBy (w1) none from gby_trans G1_.out g)
        have HTB3_ := Lib.hid (show (W).grownBy (w1) none from gby_trans HTB_.out g)
        clear HTB_
        clear g
        go_wp2
        go_ret
        exact ⟨false, rfl, iff_no (fun q => HNL.out (HE1.out.trans (q.2.2.trans HE.out.symm))), G2_.out⟩

set_option maxRecDepth 8000 in
set_option maxHeartbeats 2000000 in
theorem implSleep (W : World) (v u : Value) (xs : List DNode) (ss : List Int) (H : RdL shNode W v xs) (Hs : RdL shI W u ss) (hl : szL shNode xs ≤ 1048576) (hls : szL shI ss ≤ 1048576) : Calls Try.prog 23 #[v, u] W (BPost (SleepP xs ss) W) := by
  have HT := Lib.hid H
  have HSL := Lib.hid Hs
  have HL := Lib.hid hl
  have HLS := Lib.hid hls
  have hlx : xs.length ≤ 1048576 := by have := szL_len shNode xs; omega
  rw [szL_I] at hls
  obtain ⟨a0, cap, rfl, hcap, hi⟩ := rdN_in H
  obtain ⟨a1, cap1, rfl, hcap1, hi1⟩ := rdI1_in Hs
  have HA := Lib.hid hi
  have HA1 := Lib.hid hi1
  obtain ⟨len, hlen⟩ : ∃ len, len = xs.length := ⟨_, rfl⟩
  obtain ⟨len1, hlen1⟩ : ∃ len, len = ss.length := ⟨_, rfl⟩
  have HE := Lib.hid hlen
  have HE1 := Lib.hid hlen1
  unfold RdN at HA
  unfold RdN1 at HA1
  rw [← hlen] at hlx HT HA ⊢
  rw [← hlen1] at hls HSL HA1 ⊢
  clear H Hs hi hi1 hlen hlen1 hl hcap hcap1
  by_cases hw : WishP xs ss
  rotate_left
  · have HW_ := Lib.hid hw
    clear hw
    go_enter Try.func23, Try.ntmps23
    go_wp2_with fail
    go_at_call 53
    refine (((implWish _ _ _ xs ss (HT.out.grow (gby_refl _ _)) (HSL.out.grow (gby_refl _ _)) HL.out HLS.out).mono (bpost_no HW_.out))).mono ?_
    rintro e w1 ⟨rfl, g⟩
    have szw1 := g.size
    try simp only [World.size_alloc] at szw1
    have G1_ := Lib.hid (show (W).grownBy (w1) none from gby_trans (gby_refl _ _) g)
    clear g
    go_wp2
    go_ret
    exact ⟨false, rfl, iff_no (fun q => HW_.out q.1), G1_.out⟩
  have HW_ := Lib.hid hw
  obtain ⟨_, ht, hll⟩ := hw
  rw [← HE1.out, ← HE.out] at hll
  subst hll
  have HTO := Lib.hid ht
  have l1 := ht.1.1
  have l2 := ht.1.2
  rw [← HE.out] at l1 l2
  clear ht
  obtain ⟨b, off, rfl, hcell⟩ := HA.out.resolve_left (by omega)
  obtain ⟨b1, off1, rfl, hcell1⟩ := HA1.out.resolve_left (by omega)
  have HC := Lib.hid hcell
  have HC1 := Lib.hid hcell1
  clear hcell hcell1
  go_enter Try.func23, Try.ntmps23
  go_wp2_with fail
  go_at_call 53
  refine (((implWish _ _ _ xs ss (HT.out.grow (gby_refl _ _)) (HSL.out.grow (gby_refl _ _)) HL.out HLS.out).mono (bpost_yes HW_.out))).mono ?_
  rintro e w1 ⟨rfl, g⟩
  have szw1 := g.size
  try simp only [World.size_alloc] at szw1
  have G1_ := Lib.hid (show (W).grownBy (w1) none from gby_trans (gby_refl _ _) g)
  clear g
  go_wp2
  go_loopw [5] (fun i wr => ∃ n : Nat, 1 ≤ n ∧ n ≤ len1 ∧ i = .int .i64 (n : Int) ∧ (∀ k, 1 ≤ k → k < n → ss.getD (nd xs k).f0.toNat 0 ≤ ss.getD k 0) ∧ (w1).grownBy wr none) (fun i _ => len1 - (intOf i).toNat)
  case atStart => exact ⟨1, by omega, by omega, rfl, fun k h1 h2 => by omega, gby_refl _ _⟩
  case round =>
    obtain ⟨n, hn1, hn, rfl, hj, hg⟩ := hrel
    have szrwr := hg.size
    try simp only [World.size_alloc] at szrwr
    have szr_ := szrwr
    have G2_ := Lib.hid (show (W).grownBy (wr) none from gby_trans G1_.out hg)
    have HTB_ := Lib.hid hg
    clear hg
    have HJ := Lib.hid hj
    clear hj
    have hn0 : (0 : Int) ≤ (n : Int) := by omega
    have htn : ((n : Int)).toNat = n := by omega
    by_cases hlt : n < len1
    · have hki : (n : Int) < (len1 : Int) := by omega
      have hpl := HTO.out.2.2 n hn1 (by have := HE.out; omega)
      have hp1 := hpl.1.1
      have hp2 := hpl.1.2
      clear hpl
      obtain ⟨p, hp⟩ : ∃ p : Nat, (nd xs n).f0 = (p : Int) := ⟨(nd xs n).f0.toNat, by omega⟩
      have hpc := (HC.out n hlt).1
      rw [hp] at hpc hp1 hp2
      have HPP := Lib.hid (show (nd xs n).f0.toNat = p from by rw [hp]; rfl)
      clear hp
      have hpl : (p : Int) < (len1 : Int) := by omega
      have hp0 : (0 : Int) ≤ (p : Int) := by omega
      have htp : ((p : Int)).toNat = p := by omega
      obtain ⟨x, hx⟩ : ∃ x, x = ss.getD n 0 := ⟨_, rfl⟩
      obtain ⟨y, hy⟩ : ∃ y, y = ss.getD p 0 := ⟨_, rfl⟩
      have hxc := HC1.out n hlt
      have hyc := HC1.out p (by omega)
      rw [← hx] at hxc
      rw [← hy] at hyc
      have HX := Lib.hid hx
      have HY := Lib.hid hy
      clear hx hy
      have p_ := (G2_.out).cell hpc (by simp)
      have x_ := (G2_.out).cell hxc (by simp)
      have y_ := (G2_.out).cell hyc (by simp)
      clear hpc hxc hyc
      by_cases hxy : x < y
      · have hgt : y > x := hxy
        go_wp2_with fail
        go_quiet (fail)
        go_wp2
        go_ret
        exact ⟨false, rfl, iff_no (fun q => by have q_ := q.2 n hn1 (by have := HE.out; omega); rw [HPP.out, ← HX.out, ← HY.out] at q_; omega), by repeat (first | exact G2_.out | with_reducible refine gby_drewN ?_ _)⟩
      · have hgt : ¬ y > x := hxy
        go_wp2_with fail
        go_quiet (fail)
        go_wp2
        refine ⟨⟨n + 1, by omega, by omega, by go_num, fun k h1 h2 => ?_, by repeat (first | exact HTB_.out | with_reducible refine gby_drewN ?_ _)⟩, by simp [intOf]; omega⟩
        by_cases e : k = n
        · subst e; rw [HPP.out, ← HX.out, ← HY.out]; omega
        · exact HJ.out k h1 (by omega)
    · obtain rfl : n = len1 := by omega
      have hki : ¬ (n : Int) < (n : Int) := by omega
      go_wp2
      go_ret
      exact ⟨true, rfl, iff_yes ⟨HW_.out, fun k h1 h2 => HJ.out k h1 (by have := HE.out; omega)⟩, G2_.out⟩

end Go.Proofs.Ytgagbhkidponnaa
