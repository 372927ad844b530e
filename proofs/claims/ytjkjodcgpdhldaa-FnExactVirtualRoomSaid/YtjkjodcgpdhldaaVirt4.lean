/-
  How many virtual functions there may be, on both sides.
-/
import Derived.Test.YtjkjodcgpdhldaaVirt3
import Derived.Test.YtjkjodcgpdhldaaRVirtualRoom
namespace Go.Proofs.Ytjkjodcgpdhldaa
open Go Go.RowKit
set_option linter.unusedVariables false

/-- a list, and this truth value -/
def PostB (q : Bool) (W : World) (e : Ending) (w' : World) : Prop := ∃ v, e = .returned (.tuple #[v, .bool q]) ∧ W.grownBy w' none
/-- so many there may be -/
def RoomIs (b a s : Int) (n : Nat) : Prop := n ≤ 64 ∧ AllIn b a s n ∧ (n = 64 ∨ 255 < b + a + (n : Int) * s)
theorem room_ex (b a s : Int) : ∃ n, RoomIs b a s n := by
  rcases allIn_or b a s 64 with h | ⟨k0, hk, h1, h2⟩
  · exact ⟨64, Nat.le_refl _, h, .inl rfl⟩
  · exact ⟨k0, by omega, h2, .inr h1⟩
theorem implIdsB_no (b a s : Int) (c : Nat) (W : World) (h : (b < 0 ∨ 255 < b) ∨ ¬ VOk a s (c : Int) ∨ ¬ AllIn b a s c) : Calls Try.prog 21 #[.int .i64 b, vVirtual a s (c : Int)] W (PostB false W) := by
  have key : Calls Try.prog 21 #[.int .i64 b, vVirtual a s (c : Int)] W (ResIVirtualIds [] false W) := by
    by_cases hb : b < 0 ∨ 255 < b
    · exact implIds_b b a s c W hb
    · by_cases hv : VOk a s (c : Int)
      · rcases allIn_or b a s c with q | ⟨k0, hk, q⟩
        · exact absurd q (by rcases h with h | h | h; exact absurd h hb; exact absurd hv h; exact h)
        · exact implIds_bad b a s c W (by omega) (by omega) hv k0 hk q
      · exact implIds_v b a s c W (by omega) (by omega) hv
  exact key.mono (by rintro e w ⟨v, rfl, _, g⟩; exact ⟨v, rfl, g⟩)
theorem implIds_ok (b a s : Int) (c : Nat) (W : World) (h0 : 0 ≤ b) (h1 : b ≤ 255) (hv : VOk a s (c : Int)) (ha : AllIn b a s c) : Calls Try.prog 21 #[.int .i64 b, vVirtual a s (c : Int)] W (PostB true W) :=
  (implIds_good b a s c W h0 h1 hv ha).mono (by rintro e w ⟨v, rfl, _, g⟩; exact ⟨v, rfl, g⟩)

set_option maxRecDepth 8000 in
set_option maxHeartbeats 2000000 in
theorem implRoom (b a s R : Int) (W : World) (h64 : R ≤ 64) (hm : -1 ≤ R)
    (hno : ∀ m : Int, R < m → m ≤ 64 → ∀ W, Calls Try.prog 21 #[.int .i64 b, .agg #[.int .i64 a, .int .i64 s, .int .i64 m]] W (PostB false W))
    (hyes : 0 ≤ R → ∀ W, Calls Try.prog 21 #[.int .i64 b, .agg #[.int .i64 a, .int .i64 s, .int .i64 R]] W (PostB true W)) :
    Calls Try.prog 28 #[.int .i64 b, .int .i64 a, .int .i64 s] W (AnsN (.int .i64 R) W) := by
  have HNO := Lib.hid hno
  have HYES := Lib.hid hyes
  clear hno hyes
  go_enter Try.func28, Try.ntmps28
  go_wp2
  go_loopw [7, 8, 9, 10] (fun i z1 z2 z3 wr => ∃ n : Int, R ≤ n ∧ n ≤ 64 ∧ i = .int .i64 n ∧ (∃ q, z1 = q) ∧ (∃ q, z2 = q) ∧ (∃ q, z3 = q) ∧ (W).grownBy wr none) (fun i _ _ _ _ => (intOf i + 1).toNat)
  case atStart => exact ⟨64, h64, by omega, rfl, ⟨_, rfl⟩, ⟨_, rfl⟩, ⟨_, rfl⟩, gby_refl _ _⟩
  case round =>
    obtain ⟨n, hn, hn2, rfl, ⟨z1, rfl⟩, ⟨z2, rfl⟩, ⟨z3, rfl⟩, hg⟩ := hrel
    have szr_ := hg.size
    try simp only [World.size_alloc] at szr_
    have G1_ := Lib.hid (show (W).grownBy (wr) none from gby_trans (gby_refl _ _) hg)
    have HTB_ := Lib.hid hg
    clear hg
    by_cases hlt : R < n
    · have hki : 0 ≤ n := by omega
      have hm1 : IntKind.i64.wrap (n - 1) = n - 1 := IntWalk.i64_in _ (by omega)
      go_wp2_with fail
      have al_ : (wr).grownBy ((wr).alloc (.cells #[.int .i64 a, .int .i64 s, .int .i64 n] 25)) none := gby_alloc (gby_refl _ _) _
      have G2_ := Lib.hid (show (W).grownBy ((wr.alloc (.cells #[.int .i64 a, .int .i64 s, .int .i64 n] 25))) none from gby_trans G1_.out al_)
      have HTB3_ := Lib.hid (show (W).grownBy ((wr.alloc (.cells #[.int .i64 a, .int .i64 s, .int .i64 n] 25))) none from gby_trans HTB_.out al_)
      clear HTB_
      clear al_
      go_wp2_with fail
      go_at_call 21
      refine (HNO.out n hlt hn2 _).mono ?_
      rintro e w1 ⟨v_, rfl, g⟩
      have szw1 := g.size
      try simp only [World.size_alloc] at szw1
      have G4_ := Lib.hid (show (W).grownBy (w1) none from gby_trans G2_.out g)
      have HTB5_ := Lib.hid (show (W).grownBy (w1) none from gby_trans HTB3_.out g)
      clear HTB3_
      clear g
      go_wp2
      exact ⟨⟨n - 1, by omega, by omega, rfl, ⟨_, rfl⟩, ⟨_, rfl⟩, ⟨_, rfl⟩, HTB5_.out⟩, by simp [intOf]; omega⟩
    · obtain rfl : n = R := by omega
      by_cases h0 : 0 ≤ n
      · skip
        go_wp2_with fail
        have al_ : (wr).grownBy ((wr).alloc (.cells #[.int .i64 a, .int .i64 s, .int .i64 n] 25)) none := gby_alloc (gby_refl _ _) _
        have G2_ := Lib.hid (show (W).grownBy ((wr.alloc (.cells #[.int .i64 a, .int .i64 s, .int .i64 n] 25))) none from gby_trans G1_.out al_)
        have HTB3_ := Lib.hid (show (W).grownBy ((wr.alloc (.cells #[.int .i64 a, .int .i64 s, .int .i64 n] 25))) none from gby_trans HTB_.out al_)
        clear HTB_
        clear al_
        go_wp2_with fail
        go_at_call 21
        refine (HYES.out h0 _).mono ?_
        rintro e w1 ⟨v_, rfl, g⟩
        have szw1 := g.size
        try simp only [World.size_alloc] at szw1
        have G4_ := Lib.hid (show (W).grownBy (w1) none from gby_trans G2_.out g)
        have HTB5_ := Lib.hid (show (W).grownBy (w1) none from gby_trans HTB3_.out g)
        clear HTB3_
        clear g
        go_wp2
        go_ret
        exact ⟨rfl, G4_.out⟩
      · obtain rfl : n = -1 := by omega
        go_wp2
        go_ret
        exact ⟨rfl, G1_.out⟩

set_option maxHeartbeats 2000000 in
theorem specRoom_b (b a s : Int) (W : World) (hn : b < 0 ∨ 255 < b) : Calls Try.prog 27 #[.int .i64 b, .int .i64 a, .int .i64 s] W (AnsN (.int .i64 (-1)) W) := by
  have HN := Lib.hid hn
  clear hn
  go_enter Try.func27, Try.ntmps27
  go_wp2_with fail
  go_at_call 51
  refine (isId_no _ _ HN.out).mono ?_
  rintro e w1 ⟨rfl, hd⟩
  have g := hd.gby none
  clear hd
  have szw1 := g.size
  try simp only [World.size_alloc] at szw1
  have G1_ := Lib.hid (show (W).grownBy (w1) none from gby_trans (gby_refl _ _) g)
  clear g
  go_wp2
  go_ret
  exact ⟨rfl, G1_.out⟩

set_option maxHeartbeats 2000000 in
theorem specRoom_v (b a s : Int) (W : World) (h0 : 0 ≤ b) (h1 : b ≤ 255) (hv : ¬ VOk a s 0) : Calls Try.prog 27 #[.int .i64 b, .int .i64 a, .int .i64 s] W (AnsN (.int .i64 (-1)) W) := by
  have HV := Lib.hid hv
  clear hv
  have HW := Lib.hid (fun W => specVOk_no a s 0 W HV.out)
  unfold vVirtual at HW
  go_enter Try.func27, Try.ntmps27
  go_wp2_with fail
  go_at_call 51
  refine (isId_yes _ _ (by omega) (by omega)).mono ?_
  rintro e w1 ⟨rfl, hd⟩
  have g := hd.gby none
  clear hd
  have szw1 := g.size
  try simp only [World.size_alloc] at szw1
  have G1_ := Lib.hid (show (W).grownBy (w1) none from gby_trans (gby_refl _ _) g)
  clear g
  go_wp2_with fail
  go_at_call 15
  refine (HW.out _).mono ?_
  rintro e w2 ⟨rfl, g⟩
  have szw2 := g.size
  try simp only [World.size_alloc] at szw2
  have G2_ := Lib.hid (show (W).grownBy (w2) none from gby_trans G1_.out g)
  clear g
  go_wp2
  go_ret
  exact ⟨rfl, G2_.out⟩

set_option maxHeartbeats 2000000 in
theorem specRoom_good (b a s : Int) (W : World) (h0 : 0 ≤ b) (h1 : b ≤ 255) (hv : VOk a s 0) (R : Nat) (hr : RoomIs b a s R) : Calls Try.prog 27 #[.int .i64 b, .int .i64 a, .int .i64 s] W (AnsN (.int .i64 (R : Int)) W) := by
  have HV := Lib.hid hv
  obtain ⟨hr1, hr2, hr3⟩ := hr
  have HA := Lib.hid hr2
  have HE := Lib.hid hr3
  obtain ⟨⟨a1, a2⟩, ⟨s1, s2⟩, ⟨c1, c2⟩⟩ := hv
  have HW := Lib.hid (fun W => specVOk_yes a s 0 W HV.out)
  unfold vVirtual at HW
  clear hr2 hr3
  go_enter Try.func27, Try.ntmps27
  go_wp2_with fail
  go_at_call 51
  refine (isId_yes _ _ (by omega) (by omega)).mono ?_
  rintro e w1 ⟨rfl, hd⟩
  have g := hd.gby none
  clear hd
  have szw1 := g.size
  try simp only [World.size_alloc] at szw1
  have G1_ := Lib.hid (show (W).grownBy (w1) none from gby_trans (gby_refl _ _) g)
  clear g
  go_wp2_with fail
  go_at_call 15
  refine (HW.out _).mono ?_
  rintro e w2 ⟨rfl, g⟩
  have szw2 := g.size
  try simp only [World.size_alloc] at szw2
  have G2_ := Lib.hid (show (W).grownBy (w2) none from gby_trans G1_.out g)
  clear g
  go_wp2
  go_loopw [7] (fun i wr => ∃ n : Nat, n ≤ R ∧ i = .int .i64 (n : Int) ∧ (w2).grownBy wr none) (fun i _ => R - (intOf i).toNat)
  case atStart => exact ⟨0, by omega, rfl, gby_refl _ _⟩
  case round =>
    obtain ⟨n, hn, rfl, hg⟩ := hrel
    have szr_ := hg.size
    try simp only [World.size_alloc] at szr_
    have G3_ := Lib.hid (show (W).grownBy (wr) none from gby_trans G2_.out hg)
    have HTB_ := Lib.hid hg
    clear hg
    have hn0 : (0 : Int) ≤ (n : Int) := by omega
    by_cases hlt : n < R
    · have hki : (n : Int) < 64 := by omega
      obtain ⟨m1, m2⟩ := mul_bound hn0 (show (n : Int) ≤ 63 by omega) s1 s2
      have hin := HA.out n hlt
      go_wp2_with fail
      go_at_call 51
      refine (isId_yes _ _ (by omega) (by omega)).mono ?_
      rintro e w3 ⟨rfl, hd⟩
      have g := hd.gby none
      clear hd
      have szw3 := g.size
      try simp only [World.size_alloc] at szw3
      have G4_ := Lib.hid (show (W).grownBy (w3) none from gby_trans G3_.out g)
      have HTB5_ := Lib.hid (show (w2).grownBy (w3) none from gby_trans HTB_.out g)
      clear HTB_
      clear g
      go_wp2
      exact ⟨⟨n + 1, by omega, by go_num, HTB5_.out⟩, by simp [intOf]; omega⟩
    · obtain rfl : n = R := by omega
      rcases HE.out with q | q
      · have hki : ¬ (n : Int) < 64 := by omega
        clear q
        go_wp2
        go_ret
        exact ⟨rfl, G3_.out⟩
      · by_cases hki : (n : Int) < 64
        · obtain ⟨m1, m2⟩ := mul_bound hn0 (show (n : Int) ≤ 63 by omega) s1 s2
          go_wp2_with fail
          go_at_call 51
          refine (isId_no _ _ (by omega)).mono ?_
          rintro e w3 ⟨rfl, hd⟩
          have g := hd.gby none
          clear hd
          have szw3 := g.size
          try simp only [World.size_alloc] at szw3
          have G4_ := Lib.hid (show (W).grownBy (w3) none from gby_trans G3_.out g)
          have HTB5_ := Lib.hid (show (w2).grownBy (w3) none from gby_trans HTB_.out g)
          clear HTB_
          clear g
          go_wp2
          go_ret
          exact ⟨rfl, G4_.out⟩
        · clear q
          go_wp2
          go_ret
          exact ⟨rfl, G3_.out⟩

theorem vok_zero {a s c : Int} (h : VOk a s c) : VOk a s 0 := ⟨h.1, h.2.1, by omega, by omega⟩
theorem virtualIds_both (i0 i1_0 i1_1 i1_2 : Int) : ∃ (xsr0 : List Int) (br1 : Bool), szL shI xsr0 ≤ 1048576 ∧ (∀ (W : World), Calls Try.prog 20 #[.int .i64 i0, .agg #[.int .i64 i1_0, .int .i64 i1_1, .int .i64 i1_2]] W (ResSVirtualIds xsr0 br1 W)) ∧ ∀ (W : World), Calls Try.prog 21 #[.int .i64 i0, .agg #[.int .i64 i1_0, .int .i64 i1_1, .int .i64 i1_2]] W (ResIVirtualIds xsr0 br1 W) := by
  have key : ∃ (xsr0 : List Int) (br1 : Bool), szL shI xsr0 ≤ 1048576 ∧ (∀ (W : World), Calls Try.prog 20 #[.int .i64 i0, vVirtual i1_0 i1_1 i1_2] W (ResIVirtualIds xsr0 br1 W)) ∧ ∀ (W : World), Calls Try.prog 21 #[.int .i64 i0, vVirtual i1_0 i1_1 i1_2] W (ResIVirtualIds xsr0 br1 W) := by
    by_cases hb : i0 < 0 ∨ 255 < i0
    · exact ⟨[], false, by simp [szL], fun W => specIds_b' i0 i1_0 i1_1 i1_2 W hb, fun W => implIds_b' i0 i1_0 i1_1 i1_2 W hb⟩
    · have h0 : 0 ≤ i0 := by omega
      have h1 : i0 ≤ 255 := by omega
      by_cases hv : VOk i1_0 i1_1 i1_2
      · obtain ⟨c, rfl⟩ : ∃ c : Nat, i1_2 = (c : Int) := ⟨i1_2.toNat, by have := hv.2.2.1; omega⟩
        have hc := hv.2.2.2
        rcases allIn_or i0 i1_0 i1_1 c with ha | ⟨k0, hk, hf⟩
        · exact ⟨_, true, by rw [szL_I, vids_len]; omega, fun W => specIds_good i0 i1_0 i1_1 c W h0 h1 hv ha, fun W => implIds_good i0 i1_0 i1_1 c W h0 h1 hv ha⟩
        · exact ⟨[], false, by simp [szL], fun W => specIds_bad i0 i1_0 i1_1 c W h0 h1 hv k0 hk hf, fun W => implIds_bad i0 i1_0 i1_1 c W h0 h1 hv k0 hk hf⟩
      · exact ⟨[], false, by simp [szL], fun W => specIds_v' i0 i1_0 i1_1 i1_2 W h0 h1 hv, fun W => implIds_v' i0 i1_0 i1_1 i1_2 W h0 h1 hv⟩
  obtain ⟨xs, br, h, hs, hi⟩ := key
  exact ⟨xs, br, h, fun W => (hs W).mono (fun e w q => resS_ofVirtualIds e w q), hi⟩

theorem virtualRoom_both (i0 i1 i2 : Int) : ∃ ir0 : Int, (∀ (W : World), Calls Try.prog 27 #[.int .i64 i0, .int .i64 i1, .int .i64 i2] W (ResSVirtualRoom ir0 W)) ∧ ∀ (W : World), Calls Try.prog 28 #[.int .i64 i0, .int .i64 i1, .int .i64 i2] W (ResIVirtualRoom ir0 W) := by
  by_cases hb : i0 < 0 ∨ 255 < i0
  · refine ⟨-1, fun W => specRoom_b i0 i1 i2 W hb, fun W => implRoom i0 i1 i2 (-1) W (by omega) (by omega) (fun m hm _ W => ?_) (fun h => absurd h (by omega))⟩
    obtain ⟨c, rfl⟩ : ∃ c : Nat, m = (c : Int) := ⟨m.toNat, by omega⟩
    exact implIdsB_no i0 i1 i2 c W (.inl hb)
  · have h0 : 0 ≤ i0 := by omega
    have h1 : i0 ≤ 255 := by omega
    by_cases hv : VOk i1 i2 0
    · obtain ⟨R, hR⟩ := room_ex i0 i1 i2
      have hR1 := hR.1
      refine ⟨(R : Int), fun W => specRoom_good i0 i1 i2 W h0 h1 hv R hR, fun W => implRoom i0 i1 i2 (R : Int) W (by omega) (by omega) (fun m hm hm2 W => ?_) (fun _ W => implIds_ok i0 i1 i2 R W h0 h1 ⟨hv.1, hv.2.1, by omega, by omega⟩ hR.2.1)⟩
      obtain ⟨c, rfl⟩ : ∃ c : Nat, m = (c : Int) := ⟨m.toNat, by omega⟩
      refine implIdsB_no i0 i1 i2 c W (.inr (.inr (fun q => ?_)))
      have := q R (by omega)
      rcases hR.2.2 with r | r <;> omega
    · refine ⟨-1, fun W => specRoom_v i0 i1 i2 W h0 h1 hv, fun W => implRoom i0 i1 i2 (-1) W (by omega) (by omega) (fun m hm _ W => ?_) (fun h => absurd h (by omega))⟩
      obtain ⟨c, rfl⟩ : ∃ c : Nat, m = (c : Int) := ⟨m.toNat, by omega⟩
      exact implIdsB_no i0 i1 i2 c W (.inr (.inl (fun q => hv (vok_zero q))))

end Go.Proofs.Ytjkjodcgpdhldaa
