/-
  Sizes of windows, on both sides: valid or not.
-/
import Derived.Test.YtjkjodcgpdhldacBPost
import Derived.Test.YtjkjodcgpdhldacRSizesOk
import Derived.Test.YtjkjodcgpdhldacBar
namespace Go.Proofs.Ytjkjodcgpdhldac
open Go Go.RowKit
set_option linter.unusedVariables false

/-- a size for a node -/
def SzAt (xs : List DNode) (k : Nat) (x : Int) : Prop := x = 0 ∨ (¬ (nd xs k).f2 = 0 ∧ IsPow x ∧ 16 ≤ x ∧ x ≤ 4096)
/-- a size for each node of a valid tree -/
def SizesP (xs : List DNode) (ss : List Int) : Prop := TOk xs ∧ ss.length = xs.length ∧ ∀ k, k < xs.length → SzAt xs k (ss.getD k 0)
theorem specPow_yes (x : Int) (W : World) (h : IsPow x) : Calls Try.prog 64 #[.int .i64 x] W (Ans (.bool true) W) :=
  (specPower_any x W).mono (by rintro e w ⟨h1 | h1, hd⟩; exact ⟨h1.2, hd⟩; exact absurd h h1.1)
theorem specPow_no (x : Int) (W : World) (h : ¬ IsPow x) : Calls Try.prog 64 #[.int .i64 x] W (Ans (.bool false) W) :=
  (specPower_any x W).mono (by rintro e w ⟨h1 | h1, hd⟩; exact absurd h1.1 h; exact ⟨h1.2, hd⟩)

set_option maxRecDepth 8000 in
set_option maxHeartbeats 2000000 in
theorem specSizes (W : World) (v u : Value) (xs : List DNode) (ss : List Int) (H : RdL shNode W v xs) (Hs : RdL shI W u ss) (hl : szL shNode xs ≤ 1048576) (hls : szL shI ss ≤ 1048576) : Calls Try.prog 32 #[v, u] W (BPost (SizesP xs ss) W) := by
  have HT := Lib.hid H
  have HSL := Lib.hid Hs
  have HL := Lib.hid hl
  have HLS := Lib.hid hls
  have hlx : xs.length ≤ 1048576 := by have := szL_len shNode xs; omega
  rw [szL_I] at hls
  obtain ⟨a0, cap, rfl, hcap, hi⟩ := rdN_in H
  obtain ⟨a1, cap1, rfl, hcap1, hi1⟩ := rdI1_in Hs
  have HA := Lib.hid hi
  have HA1 := Lib.hid hi1
  obtain ⟨len, hlen⟩ : ∃ len, len = xs.length := ⟨_, rfl⟩
  obtain ⟨len1, hlen1⟩ : ∃ len, len = ss.length := ⟨_, rfl⟩
  have HE := Lib.hid hlen
  have HE1 := Lib.hid hlen1
  unfold RdN at HA
  unfold RdN1 at HA1
  rw [← hlen] at hlx HT HA ⊢
  rw [← hlen1] at hls HSL HA1 ⊢
  clear H Hs hi hi1 hlen hlen1 hl hcap hcap1
  by_cases ht : TOk xs
  rotate_left
  · have HNT := Lib.hid ht
    clear ht
    go_enter Try.func32, Try.ntmps32
    go_wp2_with fail
    go_at_call 16
    refine (specTree_no _ _ xs (HT.out.grow (gby_refl _ _)) HL.out HNT.out).mono ?_
    rintro e w1 ⟨rfl, g⟩
    have szw1 := g.size
    try simp only [World.size_alloc] at szw1
    have G1_ := Lib.hid (show (W).grownBy (w1) none from gby_trans (gby_refl _ _) g)
    clear g
    go_wp2
    go_ret
    exact ⟨false, rfl, iff_no (fun q => HNT.out q.1), G1_.out⟩
  have HYT := Lib.hid ht
  have l1 := ht.1.1
  have l2 := ht.1.2
  rw [← HE.out] at l1 l2
  clear ht
  by_cases hll : len1 = len
  rotate_left
  · have hbb : ((len1 : Int) != (len : Int)) = true := by simp; omega
    have HNL := Lib.hid hll
    clear hll
    go_enter Try.func32, Try.ntmps32
    go_wp2_with fail
    go_at_call 16
    refine (specTree_yes _ _ xs (HT.out.grow (gby_refl _ _)) HL.out HYT.out).mono ?_
    rintro e w1 ⟨rfl, g⟩
    have szw1 := g.size
    try simp only [World.size_alloc] at szw1
    have G1_ := Lib.hid (show (W).grownBy (w1) none from gby_trans (gby_refl _ _) g)
    clear g
    go_wp2
    go_ret
    exact ⟨false, rfl, iff_no (fun q => HNL.out (HE1.out.trans (q.2.1.trans HE.out.symm))), G1_.out⟩
  subst hll
  have hbb : ((len1 : Int) != (len1 : Int)) = false := by simp
  obtain ⟨b, off, rfl, hcell⟩ := HA.out.resolve_left (by omega)
  obtain ⟨b1, off1, rfl, hcell1⟩ := HA1.out.resolve_left (by omega)
  have HC := Lib.hid hcell
  have HC1 := Lib.hid hcell1
  clear hcell hcell1
  go_enter Try.func32, Try.ntmps32
  go_wp2_with fail
  go_at_call 16
  refine (specTree_yes _ _ xs (HT.out.grow (gby_refl _ _)) HL.out HYT.out).mono ?_
  rintro e w1 ⟨rfl, g⟩
  have szw1 := g.size
  try simp only [World.size_alloc] at szw1
  have G1_ := Lib.hid (show (W).grownBy (w1) none from gby_trans (gby_refl _ _) g)
  clear g
  go_wp2
  go_loopw [5] (fun i wr => ∃ n : Nat, n ≤ len1 ∧ i = .int .i64 (n : Int) ∧ (∀ k, k < n → SzAt xs k (ss.getD k 0)) ∧ (w1).grownBy wr none) (fun i _ => len1 - (intOf i).toNat)
  case atStart => exact ⟨0, by omega, rfl, fun k h => absurd h (Nat.not_lt_zero _), gby_refl _ _⟩
  case round =>
    obtain ⟨n, hn, rfl, hj, hg⟩ := hrel
    have szrwr := hg.size
    try simp only [World.size_alloc] at szrwr
    have szr_ := szrwr
    have G2_ := Lib.hid (show (W).grownBy (wr) none from gby_trans G1_.out hg)
    have HTB_ := Lib.hid hg
    clear hg
    have HJ := Lib.hid hj
    clear hj
    have hn0 : (0 : Int) ≤ (n : Int) := by omega
    have htn : ((n : Int)).toNat = n := by omega
    by_cases hlt : n < len1
    · have hki : (n : Int) < (len1 : Int) := by omega
      obtain ⟨x, hx⟩ : ∃ x, x = ss.getD n 0 := ⟨_, rfl⟩
      have hxc := HC1.out n hlt
      rw [← hx] at hxc
      have HX := Lib.hid hx
      obtain ⟨y, hy⟩ : ∃ y, y = nd xs n := ⟨_, rfl⟩
      have hyc := HC.out n hlt
      rw [← hy] at hyc
      have HY := Lib.hid hy
      clear hx hy
      obtain ⟨y0, y1, y2⟩ := y
      dsimp only at hyc
      have HXC := Lib.hid hxc
      have HY0C := Lib.hid hyc.1
      have HY1C := Lib.hid hyc.2.1
      have HY2C := Lib.hid hyc.2.2
      clear hxc hyc
      have x_ := (G2_.out).cell HXC.out (by simp)
      have y0_ := (G2_.out).cell HY0C.out (by simp)
      have y1_ := (G2_.out).cell HY1C.out (by simp)
      have y2_ := (G2_.out).cell HY2C.out (by simp)
      have HP_ := Lib.hid (show SzAt xs n (ss.getD n 0) ↔ (x = 0 ∨ (¬ y2 = 0 ∧ IsPow x ∧ 16 ≤ x ∧ x ≤ 4096)) from by unfold SzAt; rw [← HX.out, ← HY.out])
      by_cases hx0 : x = 0
      · have hxb : (x != 0) = false := by simpa using hx0
        have HX0 := Lib.hid hx0
        clear hx0
        go_wp2
        refine ⟨⟨n + 1, by omega, by go_num, fun k hk => ?_, HTB_.out⟩, by simp [intOf]; omega⟩
        by_cases e : k = n
        · subst e; exact HP_.out.2 (.inl HX0.out)
        · exact HJ.out k (by omega)
      · have hxb : (x != 0) = true := by simpa using hx0
        have HX0 := Lib.hid hx0
        clear hx0
        by_cases hy0 : y2 = 0
        · have hyb : (y2 == 0) = true := by simpa using hy0
          have HY0 := Lib.hid hy0
          clear hy0
          go_wp2
          go_ret
          exact ⟨false, rfl, iff_no (fun q => by have q_ := HP_.out.1 (q.2.2 n (by have := HE.out; omega)); rcases q_ with q_ | q_; exact HX0.out q_; exact q_.1 HY0.out), G2_.out⟩
        · have hyb : (y2 == 0) = false := by simpa using hy0
          have HY0 := Lib.hid hy0
          clear hy0
          by_cases hp : IsPow x
          · have HPW := Lib.hid hp
            clear hp
            rcases inr_or x 16 4096 with ⟨r1, r2⟩ | hb
            · skip
              go_wp2_with fail
              go_at_call 64
              refine (specPow_yes _ _ HPW.out).mono ?_
              rintro e w2 ⟨rfl, hd⟩
              have g := hd.gby none
              clear hd
              have szw2 := g.size
              try simp only [World.size_alloc] at szw2
              clear x_ y0_ y1_ y2_
              have G3_ := Lib.hid (show (W).grownBy (w2) none from gby_trans G2_.out g)
              have HTB4_ := Lib.hid (show (w1).grownBy (w2) none from gby_trans HTB_.out g)
              clear HTB_
              clear g
              have x_ := (G3_.out).cell HXC.out (by simp)
              have y0_ := (G3_.out).cell HY0C.out (by simp)
              have y1_ := (G3_.out).cell HY1C.out (by simp)
              have y2_ := (G3_.out).cell HY2C.out (by simp)
              go_wp2_with fail
              go_at_call 52
              refine (in_yes _ _ _ _ (by omega) (by omega)).mono ?_
              rintro e w3_ ⟨rfl, rfl⟩
              go_wp2
              refine ⟨⟨n + 1, by omega, by go_num, fun k hk => ?_, HTB4_.out⟩, by simp [intOf]; omega⟩
              by_cases e : k = n
              · subst e; exact HP_.out.2 (.inr ⟨HY0.out, HPW.out, r1, r2⟩)
              · exact HJ.out k (by omega)
            · have HB := Lib.hid hb
              clear hb
              go_wp2_with fail
              go_at_call 64
              refine (specPow_yes _ _ HPW.out).mono ?_
              rintro e w2 ⟨rfl, hd⟩
              have g := hd.gby none
              clear hd
              have szw2 := g.size
              try simp only [World.size_alloc] at szw2
              clear x_ y0_ y1_ y2_
              have G3_ := Lib.hid (show (W).grownBy (w2) none from gby_trans G2_.out g)
              have HTB4_ := Lib.hid (show (w1).grownBy (w2) none from gby_trans HTB_.out g)
              clear HTB_
              clear g
              have x_ := (G3_.out).cell HXC.out (by simp)
              have y0_ := (G3_.out).cell HY0C.out (by simp)
              have y1_ := (G3_.out).cell HY1C.out (by simp)
              have y2_ := (G3_.out).cell HY2C.out (by simp)
              go_wp2_with fail
              go_at_call 52
              refine (in_no _ _ _ _ HB.out).mono ?_
              rintro e w3_ ⟨rfl, rfl⟩
              go_wp2
              go_ret
              exact ⟨false, rfl, iff_no (fun q => by have q_ := HP_.out.1 (q.2.2 n (by have := HE.out; omega)); rcases q_ with q_ | q_; exact HX0.out q_; have := HB.out; omega), G3_.out⟩
          · have HPW := Lib.hid hp
            clear hp
            go_wp2_with fail
            go_at_call 64
            refine (specPow_no _ _ HPW.out).mono ?_
            rintro e w2 ⟨rfl, hd⟩
            have g := hd.gby none
            clear hd
            have szw2 := g.size
            try simp only [World.size_alloc] at szw2
            clear x_ y0_ y1_ y2_
            have G3_ := Lib.hid (show (W).grownBy (w2) none from gby_trans G2_.out g)
            have HTB4_ := Lib.hid (show (w1).grownBy (w2) none from gby_trans HTB_.out g)
            clear HTB_
            clear g
            have x_ := (G3_.out).cell HXC.out (by simp)
            have y0_ := (G3_.out).cell HY0C.out (by simp)
            have y1_ := (G3_.out).cell HY1C.out (by simp)
            have y2_ := (G3_.out).cell HY2C.out (by simp)
            go_wp2
            go_ret
            exact ⟨false, rfl, iff_no (fun q => by have q_ := HP_.out.1 (q.2.2 n (by have := HE.out; omega)); rcases q_ with q_ | q_; exact HX0.out q_; exact HPW.out q_.2.1), G3_.out⟩
    · obtain rfl : n = len1 := by omega
      have hki : ¬ (n : Int) < (n : Int) := by omega
      go_wp2
      go_ret
      exact ⟨true, rfl, iff_yes ⟨HYT.out, HE1.out.symm.trans HE.out, fun k hk => HJ.out k (by have := HE.out; omega)⟩, G2_.out⟩

set_option maxRecDepth 8000 in
set_option maxHeartbeats 2000000 in
theorem implSizes (W : World) (v u : Value) (xs : List DNode) (ss : List Int) (H : RdL shNode W v xs) (Hs : RdL shI W u ss) (hl : szL shNode xs ≤ 1048576) (hls : szL shI ss ≤ 1048576) : Calls Try.prog 34 #[v, u] W (BPost (SizesP xs ss) W) := by
  have HT := Lib.hid H
  have HSL := Lib.hid Hs
  have HL := Lib.hid hl
  have HLS := Lib.hid hls
  have hlx : xs.length ≤ 1048576 := by have := szL_len shNode xs; omega
  rw [szL_I] at hls
  obtain ⟨a0, cap, rfl, hcap, hi⟩ := rdN_in H
  obtain ⟨a1, cap1, rfl, hcap1, hi1⟩ := rdI1_in Hs
  have HA := Lib.hid hi
  have HA1 := Lib.hid hi1
  obtain ⟨len, hlen⟩ : ∃ len, len = xs.length := ⟨_, rfl⟩
  obtain ⟨len1, hlen1⟩ : ∃ len, len = ss.length := ⟨_, rfl⟩
  have HE := Lib.hid hlen
  have HE1 := Lib.hid hlen1
  unfold RdN at HA
  unfold RdN1 at HA1
  rw [← hlen] at hlx HT HA ⊢
  rw [← hlen1] at hls HSL HA1 ⊢
  clear H Hs hi hi1 hlen hlen1 hl hcap hcap1
  by_cases ht : TOk xs
  rotate_left
  · have HNT := Lib.hid ht
    clear ht
    go_enter Try.func34, Try.ntmps34
    go_wp2_with fail
    go_at_call 18
    refine (implTree_no _ _ xs (HT.out.grow (gby_refl _ _)) HL.out HNT.out).mono ?_
    rintro e w1 ⟨rfl, g⟩
    have szw1 := g.size
    try simp only [World.size_alloc] at szw1
    have G1_ := Lib.hid (show (W).grownBy (w1) none from gby_trans (gby_refl _ _) g)
    clear g
    go_wp2
    go_ret
    exact ⟨false, rfl, iff_no (fun q => HNT.out q.1), G1_.out⟩
  have HYT := Lib.hid ht
  have l1 := ht.1.1
  have l2 := ht.1.2
  rw [← HE.out] at l1 l2
  clear ht
  by_cases hll : len1 = len
  rotate_left
  · have hbb : ((len1 : Int) != (len : Int)) = true := by simp; omega
    have HNL := Lib.hid hll
    clear hll
    go_enter Try.func34, Try.ntmps34
    go_wp2_with fail
    go_at_call 18
    refine (implTree_yes _ _ xs (HT.out.grow (gby_refl _ _)) HL.out HYT.out).mono ?_
    rintro e w1 ⟨rfl, g⟩
    have szw1 := g.size
    try simp only [World.size_alloc] at szw1
    have G1_ := Lib.hid (show (W).grownBy (w1) none from gby_trans (gby_refl _ _) g)
    clear g
    go_wp2
    go_ret
    exact ⟨false, rfl, iff_no (fun q => HNL.out (HE1.out.trans (q.2.1.trans HE.out.symm))), G1_.out⟩
  subst hll
  have hbb : ((len1 : Int) != (len1 : Int)) = false := by simp
  obtain ⟨b, off, rfl, hcell⟩ := HA.out.resolve_left (by omega)
  obtain ⟨b1, off1, rfl, hcell1⟩ := HA1.out.resolve_left (by omega)
  have HC := Lib.hid hcell
  have HC1 := Lib.hid hcell1
  clear hcell hcell1
  go_enter Try.func34, Try.ntmps34
  go_wp2_with fail
  go_at_call 18
  refine (implTree_yes _ _ xs (HT.out.grow (gby_refl _ _)) HL.out HYT.out).mono ?_
  rintro e w1 ⟨rfl, g⟩
  have szw1 := g.size
  try simp only [World.size_alloc] at szw1
  have G1_ := Lib.hid (show (W).grownBy (w1) none from gby_trans (gby_refl _ _) g)
  clear g
  go_wp2
  go_loopw [5, 6, 19] (fun z1 z2 i wr => ∃ n : Nat, n ≤ len1 ∧ (∃ q, z1 = q) ∧ (∃ q, z2 = q) ∧ i = .int .i64 (n : Int) ∧ (∀ k, k < n → SzAt xs k (ss.getD k 0)) ∧ (w1).grownBy wr none) (fun _ _ i _ => len1 - (intOf i).toNat)
  case atStart => exact ⟨0, by omega, ⟨_, rfl⟩, ⟨_, rfl⟩, rfl, fun k h => absurd h (Nat.not_lt_zero _), gby_refl _ _⟩
  case round =>
    obtain ⟨n, hn, ⟨z1, rfl⟩, ⟨z2, rfl⟩, rfl, hj, hg⟩ := hrel
    have szrwr := hg.size
    try simp only [World.size_alloc] at szrwr
    have szr_ := szrwr
    have G2_ := Lib.hid (show (W).grownBy (wr) none from gby_trans G1_.out hg)
    have HTB_ := Lib.hid hg
    clear hg
    have HJ := Lib.hid hj
    clear hj
    have hn0 : (0 : Int) ≤ (n : Int) := by omega
    have htn : ((n : Int)).toNat = n := by omega
    by_cases hlt : n < len1
    · have hki : (n : Int) < (len1 : Int) := by omega
      obtain ⟨x, hx⟩ : ∃ x, x = ss.getD n 0 := ⟨_, rfl⟩
      have hxc := HC1.out n hlt
      rw [← hx] at hxc
      have HX := Lib.hid hx
      obtain ⟨y, hy⟩ : ∃ y, y = nd xs n := ⟨_, rfl⟩
      have hyc := HC.out n hlt
      rw [← hy] at hyc
      have HY := Lib.hid hy
      clear hx hy
      obtain ⟨y0, y1, y2⟩ := y
      dsimp only at hyc
      have HXC := Lib.hid hxc
      have HY0C := Lib.hid hyc.1
      have HY1C := Lib.hid hyc.2.1
      have HY2C := Lib.hid hyc.2.2
      clear hxc hyc
      have x_ := (G2_.out).cell HXC.out (by simp)
      have y0_ := (G2_.out).cell HY0C.out (by simp)
      have y1_ := (G2_.out).cell HY1C.out (by simp)
      have y2_ := (G2_.out).cell HY2C.out (by simp)
      have HP_ := Lib.hid (show SzAt xs n (ss.getD n 0) ↔ (x = 0 ∨ (¬ y2 = 0 ∧ IsPow x ∧ 16 ≤ x ∧ x ≤ 4096)) from by unfold SzAt; rw [← HX.out, ← HY.out])
      by_cases hx0 : x = 0
      · have hxb : (x != 0) = false := by simpa using hx0
        have HX0 := Lib.hid hx0
        clear hx0
        go_wp2
        refine ⟨⟨n + 1, by omega, ⟨_, rfl⟩, ⟨_, rfl⟩, by go_num, fun k hk => ?_, HTB_.out⟩, by simp [intOf]; omega⟩
        by_cases e : k = n
        · subst e; exact HP_.out.2 (.inl HX0.out)
        · exact HJ.out k (by omega)
      · have hxb : (x != 0) = true := by simpa using hx0
        have HX0 := Lib.hid hx0
        clear hx0
        by_cases hy0 : y2 = 0
        · have HY0 := Lib.hid hy0
          clear hy0
          go_wp2_with fail
          go_at_call 65
          refine (bridge_yes _ _ _ _ HY0.out).mono ?_
          rintro e w2 ⟨rfl, g⟩
          have szw2 := g.size
          try simp only [World.size_alloc] at szw2
          clear x_ y0_ y1_ y2_
          have G3_ := Lib.hid (show (W).grownBy (w2) none from gby_trans G2_.out g)
          have HTB4_ := Lib.hid (show (w1).grownBy (w2) none from gby_trans HTB_.out g)
          clear HTB_
          clear g
          have x_ := (G3_.out).cell HXC.out (by simp)
          have y0_ := (G3_.out).cell HY0C.out (by simp)
          have y1_ := (G3_.out).cell HY1C.out (by simp)
          have y2_ := (G3_.out).cell HY2C.out (by simp)
          go_wp2
          go_ret
          exact ⟨false, rfl, iff_no (fun q => by have q_ := HP_.out.1 (q.2.2 n (by have := HE.out; omega)); rcases q_ with q_ | q_; exact HX0.out q_; exact q_.1 HY0.out), G3_.out⟩
        · have HY0 := Lib.hid hy0
          clear hy0
          go_wp2_with fail
          go_at_call 65
          refine (bridge_no _ _ _ _ HY0.out).mono ?_
          rintro e w2 ⟨rfl, g⟩
          have szw2 := g.size
          try simp only [World.size_alloc] at szw2
          clear x_ y0_ y1_ y2_
          have G3_ := Lib.hid (show (W).grownBy (w2) none from gby_trans G2_.out g)
          have HTB4_ := Lib.hid (show (w1).grownBy (w2) none from gby_trans HTB_.out g)
          clear HTB_
          clear g
          have x_ := (G3_.out).cell HXC.out (by simp)
          have y0_ := (G3_.out).cell HY0C.out (by simp)
          have y1_ := (G3_.out).cell HY1C.out (by simp)
          have y2_ := (G3_.out).cell HY2C.out (by simp)
          by_cases hp : BSz x
          · have HPW := Lib.hid hp
            clear hp
            by_cases hb : x ≤ 4096
            · have hb2 : ¬ x > 4096 := by omega
              go_wp2_with fail
              go_at_call 66
              refine (implBSz_yes _ _ HPW.out).mono ?_
              rintro e w3 ⟨rfl, hd⟩
              have g := hd.gby none
              clear hd
              have szw3 := g.size
              try simp only [World.size_alloc] at szw3
              clear x_ y0_ y1_ y2_
              have G5_ := Lib.hid (show (W).grownBy (w3) none from gby_trans G3_.out g)
              have HTB6_ := Lib.hid (show (w1).grownBy (w3) none from gby_trans HTB4_.out g)
              clear HTB4_
              clear g
              have x_ := (G5_.out).cell HXC.out (by simp)
              have y0_ := (G5_.out).cell HY0C.out (by simp)
              have y1_ := (G5_.out).cell HY1C.out (by simp)
              have y2_ := (G5_.out).cell HY2C.out (by simp)
              go_wp2
              refine ⟨⟨n + 1, by omega, ⟨_, rfl⟩, ⟨_, rfl⟩, by go_num, fun k hk => ?_, HTB6_.out⟩, by simp [intOf]; omega⟩
              by_cases e : k = n
              · subst e; exact HP_.out.2 (.inr ⟨HY0.out, HPW.out.1, HPW.out.2.1, hb⟩)
              · exact HJ.out k (by omega)
            · have hb2 : x > 4096 := by omega
              go_wp2_with fail
              go_at_call 66
              refine (implBSz_yes _ _ HPW.out).mono ?_
              rintro e w3 ⟨rfl, hd⟩
              have g := hd.gby none
              clear hd
              have szw3 := g.size
              try simp only [World.size_alloc] at szw3
              clear x_ y0_ y1_ y2_
              have G5_ := Lib.hid (show (W).grownBy (w3) none from gby_trans G3_.out g)
              have HTB6_ := Lib.hid (show (w1).grownBy (w3) none from gby_trans HTB4_.out g)
              clear HTB4_
              clear g
              have x_ := (G5_.out).cell HXC.out (by simp)
              have y0_ := (G5_.out).cell HY0C.out (by simp)
              have y1_ := (G5_.out).cell HY1C.out (by simp)
              have y2_ := (G5_.out).cell HY2C.out (by simp)
              go_wp2
              go_ret
              exact ⟨false, rfl, iff_no (fun q => by have q_ := HP_.out.1 (q.2.2 n (by have := HE.out; omega)); rcases q_ with q_ | q_; exact HX0.out q_; omega), G5_.out⟩
          · have HPW := Lib.hid hp
            clear hp
            go_wp2_with fail
            go_at_call 66
            refine (implBSz_no _ _ HPW.out).mono ?_
            rintro e w3 ⟨rfl, hd⟩
            have g := hd.gby none
            clear hd
            have szw3 := g.size
            try simp only [World.size_alloc] at szw3
            clear x_ y0_ y1_ y2_
            have G5_ := Lib.hid (show (W).grownBy (w3) none from gby_trans G3_.out g)
            have HTB6_ := Lib.hid (show (w1).grownBy (w3) none from gby_trans HTB4_.out g)
            clear HTB4_
            clear g
            have x_ := (G5_.out).cell HXC.out (by simp)
            have y0_ := (G5_.out).cell HY0C.out (by simp)
            have y1_ := (G5_.out).cell HY1C.out (by simp)
            have y2_ := (G5_.out).cell HY2C.out (by simp)
            go_wp2
            go_ret
            exact ⟨false, rfl, iff_no (fun q => by have q_ := HP_.out.1 (q.2.2 n (by have := HE.out; omega)); rcases q_ with q_ | q_; exact HX0.out q_; exact HPW.out ⟨q_.2.1, q_.2.2.1, by omega⟩), G5_.out⟩
    · obtain rfl : n = len1 := by omega
      have hki : ¬ (n : Int) < (n : Int) := by omega
      go_wp2
      go_ret
      exact ⟨true, rfl, iff_yes ⟨HYT.out, HE1.out.symm.trans HE.out, fun k hk => HJ.out k (by have := HE.out; omega)⟩, G2_.out⟩

theorem sizesOk_both (xs0 : List DNode) (xs1 : List Int) (h0 : szL shNode xs0 ≤ 1048576) (h1 : szL shI xs1 ≤ 1048576) : ∃ br0 : Bool, (∀ (W : World), ∀ u0 u1, RdL shNode W u0 xs0 → RdL shI W u1 xs1 → Calls Try.prog 32 #[u0, u1] W (ResSSizesOk br0 W)) ∧ ∀ (W : World), ∀ u0 u1, RdL shNode W u0 xs0 → RdL shI W u1 xs1 → Calls Try.prog 34 #[u0, u1] W (ResISizesOk br0 W) := by
  by_cases h : SizesP xs0 xs1
  · exact ⟨true, fun W u0 u1 H0 H1 => (specSizes W u0 u1 _ _ H0 H1 h0 h1).mono (bpost_yes h), fun W u0 u1 H0 H1 => (implSizes W u0 u1 _ _ H0 H1 h0 h1).mono (bpost_yes h)⟩
  · exact ⟨false, fun W u0 u1 H0 H1 => (specSizes W u0 u1 _ _ H0 H1 h0 h1).mono (bpost_no h), fun W u0 u1 H0 H1 => (implSizes W u0 u1 _ _ H0 H1 h0 h1).mono (bpost_no h)⟩

end Go.Proofs.Ytjkjodcgpdhldac
