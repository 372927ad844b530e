/-
  NextState and StateName on both sides.
-/
import Derived.Test.YtgmpehccklifdaaBits4Impl
import Derived.Test.YtgmpehccklifdaaPort
namespace Go.Proofs.Ytgmpehccklifdaa
open Go Go.RowKit
set_option linter.unusedVariables false

/-- the next state, as the model writes it -/
def nxS (x : Nat) : Int := wrap64 ((x : Int) * 2 % 256 + bits .and .i64 (bits .xor .i64 (bits .xor .i64 (bits .xor .i64 ((x : Int) / 128) ((x : Int) / 32)) ((x : Int) / 16)) ((x : Int) / 8)) 1)
/-- .. and as the program does -/
def nxI (x : Nat) : Int := 2 * (x : Int) % 256 + (onesTo (x &&& 184) 16 : Int) % 2
theorem nx_same : ∀ x, x < 256 → nxI x = nxS x := by decide +kernel
theorem nx_rng : ∀ x, x < 256 → 0 ≤ nxS x ∧ nxS x ≤ 255 := by decide +kernel
/-- the answer at any number -/
def nxA (x : Int) : Int := if 1 ≤ x ∧ x ≤ 255 then nxS x.toNat else 1

theorem specNx_any (x : Int) (W : World) : Calls Try.prog 34 #[.int .i64 x] W (Ans (.int .i64 (nxA x)) W) := by
  by_cases h : 1 ≤ x ∧ x ≤ 255
  · obtain ⟨h1, h2⟩ := h
    obtain ⟨m, rfl⟩ : ∃ m : Nat, x = (m : Int) := ⟨x.toNat, by omega⟩
    rw [show nxA (m : Int) = nxS m from if_pos ⟨h1, h2⟩]
    go_enter Try.func34, Try.ntmps34
    go_wp2_with (go_at_call 50; refine (in_yes _ _ _ _ (by omega) (by omega)).mono ?_; rintro e w' ⟨rfl, rfl⟩)
    go_ret
    exact ⟨rfl, Drew.refl _⟩
  · rw [show nxA x = 1 from if_neg h]
    have H := Lib.hid h
    clear h
    go_enter Try.func34, Try.ntmps34
    go_wp2_with (go_at_call 50; refine (in_no _ _ _ _ (by have := H.out; omega)).mono ?_; rintro e w' ⟨rfl, rfl⟩)
    go_ret
    exact ⟨rfl, Drew.refl _⟩

theorem isSt_yes (x : Int) (W : World) (h1 : 1 ≤ x) (h2 : x ≤ 255) : Calls Try.prog 56 #[.int .i64 x] W fun e w' => e = .returned (.bool true) ∧ W = w' := by
  go_enter Try.func56, Try.ntmps56
  go_wp2_with (go_at_call 48; refine (rng_yes _ _ _ _ (by omega) (by omega)).mono ?_; rintro e w' ⟨rfl, rfl⟩)
  go_ret
  exact ⟨rfl, rfl⟩
theorem isSt_no (x : Int) (W : World) (h : x < 1 ∨ 255 < x) : Calls Try.prog 56 #[.int .i64 x] W fun e w' => e = .returned (.bool false) ∧ W = w' := by
  go_enter Try.func56, Try.ntmps56
  go_wp2_with (go_at_call 48; refine (rng_no _ _ _ _ h).mono ?_; rintro e w' ⟨rfl, rfl⟩)
  go_ret
  exact ⟨rfl, rfl⟩

theorem implNx_any (x : Int) (W : World) : Calls Try.prog 35 #[.int .i64 x] W (Ans (.int .i64 (nxA x)) W) := by
  by_cases h : 1 ≤ x ∧ x ≤ 255
  · obtain ⟨h1, h2⟩ := h
    obtain ⟨m, rfl⟩ : ∃ m : Nat, x = (m : Int) := ⟨x.toNat, by omega⟩
    rw [show nxA (m : Int) = nxI m from (if_pos ⟨h1, h2⟩).trans (nx_same m (by omega)).symm]
    have hb : bits .and .i64 (m : Int) 184 = ((m &&& 184 : Nat) : Int) := and_nat m 184 (by omega) (by omega)
    have hle : m &&& 184 ≤ 184 := Nat.and_le_right
    have HC := Lib.hid (fun W : World => implCount_in (m &&& 184) W (by omega))
    have ho : onesTo (m &&& 184) 16 ≤ 16 := onesTo_le _ _
    have HN := Lib.hid (show nxI m = 2 * (m : Int) % 256 + (onesTo (m &&& 184) 16 : Int) % 2 from rfl)
    generalize hz : onesTo (m &&& 184) 16 = z at *
    clear hz hle
    go_enter Try.func35, Try.ntmps35
    go_wp2_with (go_at_call 56; refine (isSt_yes _ _ (by omega) (by omega)).mono ?_; rintro e w' ⟨rfl, rfl⟩)
    go_at_call 57
    refine (HC.out _).mono ?_
    rintro e w' ⟨rfl, hd⟩
    have HD := Lib.hid hd
    clear hd
    go_wp2
    go_ret
    exact ⟨by rw [HN.out]; first | rfl | exact ret_i64 (by go_num), HD.out⟩
  · rw [show nxA x = 1 from if_neg h]
    have H := Lib.hid h
    clear h
    go_enter Try.func35, Try.ntmps35
    go_wp2_with (go_at_call 56; refine (isSt_no _ _ (by have := H.out; omega)).mono ?_; rintro e w' ⟨rfl, rfl⟩)
    go_ret
    exact ⟨rfl, Drew.refl _⟩

/-- the names of the states -/
def stN (x : Int) : ByteArray := if x = 0 then ⟨#[100, 101, 116, 101, 99, 116]⟩ else if x = 1 then ⟨#[112, 111, 108, 108, 105, 110, 103]⟩ else if x = 2 then ⟨#[99, 111, 110, 102, 105, 103]⟩ else if x = 3 then ⟨#[97, 99, 116, 105, 118, 101]⟩ else if x = 4 then ⟨#[114, 101, 99, 111, 118, 101, 114, 121]⟩ else if x = 5 then ⟨#[100, 105, 115, 97, 98, 108, 101, 100]⟩ else ⟨#[]⟩

set_option maxRecDepth 8000 in
set_option maxHeartbeats 2000000 in
theorem specNm_any (x : Int) (W : World) : Calls Try.prog 17 #[.int .i64 x] W (AnsN (.string (stN x)) W) := by
  by_cases h : 0 ≤ x ∧ x ≤ 5
  · rcases (show x = 0 ∨ x = 1 ∨ x = 2 ∨ x = 3 ∨ x = 4 ∨ x = 5 by omega) with rfl | rfl | rfl | rfl | rfl | rfl
    all_goals
      go_enter Try.func17, Try.ntmps17
      go_wp2
      go_ret
      exact ⟨rfl, by repeat (first | exact gby_refl _ _ | with_reducible refine gby_alloc ?_ _)⟩
  · have e : stN x = ⟨#[]⟩ := by unfold stN; rw [if_neg (by omega), if_neg (by omega), if_neg (by omega), if_neg (by omega), if_neg (by omega), if_neg (by omega)]
    rw [e]
    have H := Lib.hid h
    have b0 : (x == 0) = false := by simp; omega
    have b1 : (x == 1) = false := by simp; omega
    have b2 : (x == 2) = false := by simp; omega
    have b3 : (x == 3) = false := by simp; omega
    have b4 : (x == 4) = false := by simp; omega
    have b5 : (x == 5) = false := by simp; omega
    clear h
    go_enter Try.func17, Try.ntmps17
    go_wp2_with (go_at_call 50; refine (in_no _ _ _ _ (by have := H.out; omega)).mono ?_; rintro e w' ⟨rfl, rfl⟩)
    go_ret
    exact ⟨rfl, gby_refl _ _⟩

set_option maxRecDepth 8000 in
set_option maxHeartbeats 2000000 in
theorem implNm_any (x : Int) (W : World) : Calls Try.prog 18 #[.int .i64 x] W (AnsN (.string (stN x)) W) := by
  by_cases h : 0 ≤ x ∧ x ≤ 5
  · rcases (show x = 0 ∨ x = 1 ∨ x = 2 ∨ x = 3 ∨ x = 4 ∨ x = 5 by omega) with rfl | rfl | rfl | rfl | rfl | rfl
    all_goals
      go_enter Try.func18, Try.ntmps18
      go_wp2
      go_ret
      exact ⟨rfl, by repeat (first | exact gby_refl _ _ | with_reducible refine gby_alloc ?_ _)⟩
  · have e : stN x = ⟨#[]⟩ := by unfold stN; rw [if_neg (by omega), if_neg (by omega), if_neg (by omega), if_neg (by omega), if_neg (by omega), if_neg (by omega)]
    rw [e]
    have H := Lib.hid h
    have b0 : (x == 0) = false := by simp; omega
    have b1 : (x == 1) = false := by simp; omega
    have b2 : (x == 2) = false := by simp; omega
    have b3 : (x == 3) = false := by simp; omega
    have b4 : (x == 4) = false := by simp; omega
    have b5 : (x == 5) = false := by simp; omega
    clear h
    go_enter Try.func18, Try.ntmps18
    go_wp2_with (go_at_call 50; refine (in_no _ _ _ _ (by have := H.out; omega)).mono ?_; rintro e w' ⟨rfl, rfl⟩)
    go_ret
    exact ⟨rfl, gby_refl _ _⟩

set_option maxRecDepth 8000 in
theorem walk_exactNextState (q : Int) (W : World) :
    Calls Try.prog 10 #[.int .i64 q] W fun e w' => e = .returned (.bool true) ∧ Below W.heap.size W w' := by
  obtain ⟨r, hr⟩ : ∃ r, r = nxA q := ⟨_, rfl⟩
  have HS := Lib.hid (hr ▸ fun W => specNx_any q W)
  have HM := Lib.hid (hr ▸ fun W => implNx_any q W)
  clear hr
  have hz : (r != r) = false := by simp
  go_enter Try.func10, Try.ntmps10
  go_wp2_with fail
  go_at_call 34
  refine (HS.out _).mono ?_
  rintro e w1 ⟨rfl, g1⟩
  have G1 := Lib.hid g1
  clear g1
  go_wp2_with fail
  go_at_call 35
  refine (HM.out _).mono ?_
  rintro e w2 ⟨rfl, g2⟩
  have G2 := Lib.hid g2
  clear g2
  go_wp2
  go_ret
  exact ⟨rfl, gby_below ((G1.out.trans G2.out).gby none)⟩

set_option maxRecDepth 8000 in
theorem walk_exactStateName (q : Int) (W : World) :
    Calls Try.prog 4 #[.int .i64 q] W fun e w' => e = .returned (.bool true) ∧ Below W.heap.size W w' := by
  obtain ⟨r, hr⟩ : ∃ r, r = stN q := ⟨_, rfl⟩
  have HS := Lib.hid (hr ▸ fun W => specNm_any q W)
  have HM := Lib.hid (hr ▸ fun W => implNm_any q W)
  clear hr
  go_enter Try.func4, Try.ntmps4
  go_wp2_with fail
  go_at_call 17
  refine (HS.out _).mono ?_
  rintro e w1 ⟨rfl, g1⟩
  have G1 := Lib.hid g1
  clear g1
  go_wp2_with fail
  go_at_call 18
  refine (HM.out _).mono ?_
  rintro e w2 ⟨rfl, g2⟩
  have G2 := Lib.hid g2
  clear g2
  go_wp2
  go_ret
  exact ⟨rfl, gby_below (gby_trans G1.out G2.out)⟩

end Go.Proofs.Ytgmpehccklifdaa
