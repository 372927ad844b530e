/-
  The walk of FnClamped: at every slice of bytes the law returns true and writes nothing that was there.
-/
import Derived.Test.YtmgdcnlbpghjjaaDrawNumber
namespace Go.Proofs.Ytmgdcnlbpghjjaa
open Go Go.RowKit

/-- a number moved into a range; the lower end wins -/
def clampI (n l h : Int) : Int := if h < l then l else if n < l then l else if h < n then h else n

theorem ret_i64 {a b : Int} (h : a = b) : Ending.returned (.int .i64 a) = .returned (.int .i64 b) := by rw [h]

theorem ret_true {b : Bool} (h : b = true) : Ending.returned (.bool b) = .returned (.bool true) := by rw [h]

set_option maxHeartbeats 400000 in
theorem clamp_any (n l h r : Int) (w : World) (hr : clampI n l h = r) :
    Calls Try.prog 10 #[.int .i64 n, .int .i64 l, .int .i64 h] w (fun e w' => e = .returned (.int .i64 r) ∧ w = w') := by
  have HR := Lib.hid hr
  clear hr
  go_enter Try.func10, Try.ntmps10
  go_wp2
  all_goals go_ret
  all_goals refine ⟨?_, rfl⟩
  all_goals exact ret_i64 (by have := HR.out; unfold clampI at this; (repeat' split at this) <;> (repeat' split at *) <;> omega)

theorem big_any (a : Option Addr) (len cap : Nat) (w : World) :
    Calls Try.prog 8 #[.slice a len cap] w (fun e w' => e = .returned (.bool (decide ((1048576 : Int) < (len : Int)))) ∧ w = w') := by
  go_enter Try.func8, Try.ntmps8
  go_wp2
  go_ret
  exact ⟨rfl, rfl⟩

theorem clampI_low {n l h : Int} (hl : h < l) : clampI n l h = l := by unfold clampI; rw [if_pos hl]
theorem clampI_in {n l h : Int} (hl : ¬ h < l) : l ≤ clampI n l h ∧ clampI n l h ≤ h ∧ clampI (clampI n l h) l h = clampI n l h ∧ (n < l ∨ h < n ∨ clampI n l h = n) := by
  unfold clampI; (repeat' split) <;> omega

/-- three numbers of 64 bits -/
def Drawn3 (w : World) (e : Ending) (w' : World) : Prop := ∃ x y z : Int, e = .returned (.tuple #[.int .i64 x, .int .i64 y, .int .i64 z]) ∧ w.grownBy w' none

set_option maxHeartbeats 400000 in
theorem drawClamp_any (w : World) (a : Option Addr) (len cap : Nat) (zs : List Int) (hB : Bytes w a len zs) (hl : len ≤ 1048576) :
    Calls Try.prog 9 #[.slice a len cap] w (Drawn3 w) := by
  have HB := Lib.hid hB
  clear hB
  go_enter Try.func9, Try.ntmps9
  go_wp2_with fail
  go_at_call 21
  refine (new_any _ _ _ _ _ HB.out hl).mono ?_
  rintro e w1 ⟨c, rfl, hc, H1, G1⟩
  have HG1 := Lib.hid G1
  clear G1
  go_wp2_with fail
  go_at_call 22
  refine (once_any _ _ _ H1 (by omega) (by omega)).mono ?_
  rintro e w2 ⟨t, rfl, H2, G2⟩
  have HG2 := Lib.hid (gby_own HG1.out G2 hc)
  clear G2
  cases t
  · go_wp2_with fail
    go_at_call 24
    refine (below_any _ _ _ H2 (by omega) (by omega)).mono ?_
    rintro e w3 ⟨x, ⟨hx0, hx1⟩, rfl, H3, G3⟩
    have HG3 := Lib.hid (gby_own HG2.out G3 hc)
    clear G3
    go_wp2_with fail
    go_at_call 24
    refine (below_any _ _ _ H3 (by omega) (by omega)).mono ?_
    rintro e w4 ⟨y, ⟨hy0, hy1⟩, rfl, H4, G4⟩
    have HG4 := Lib.hid (gby_own HG3.out G4 hc)
    clear G4
    go_wp2_with fail
    go_at_call 24
    refine (below_any _ _ _ H4 (by omega) (by omega)).mono ?_
    rintro e w5 ⟨z, ⟨hz0, hz1⟩, rfl, H5, G5⟩
    have HG5 := Lib.hid (gby_own HG4.out G5 hc)
    clear G5
    go_wp2
    go_ret3
    exact ⟨_, _, _, rfl, HG5.out⟩
  · go_wp2_with fail
    go_at_call 23
    refine (number_any _ _ H2).mono ?_
    rintro e w3 ⟨x, ⟨hx0, hx1⟩, rfl, H3, G3⟩
    have HG3 := Lib.hid (gby_own HG2.out G3 hc)
    clear G3
    go_wp2_with fail
    go_at_call 23
    refine (number_any _ _ H3).mono ?_
    rintro e w4 ⟨y, ⟨hy0, hy1⟩, rfl, H4, G4⟩
    have HG4 := Lib.hid (gby_own HG3.out G4 hc)
    clear G4
    go_wp2_with fail
    go_at_call 23
    refine (number_any _ _ H4).mono ?_
    rintro e w5 ⟨z, ⟨hz0, hz1⟩, rfl, H5, G5⟩
    have HG5 := Lib.hid (gby_own HG4.out G5 hc)
    clear G5
    go_wp2
    go_ret3
    exact ⟨_, _, _, rfl, HG5.out⟩

set_option maxHeartbeats 400000 in
theorem walk_clamped (a : Option Addr) (len cap : Nat) (zs : List Int) (w : World) (hB : Bytes w a len zs) :
    Calls Try.prog 3 #[.slice a len cap] w fun e w' => e = .returned (.bool true) ∧ Below w.heap.size w w' := by
  have HB := Lib.hid hB
  clear hB
  by_cases hbig : (1048576 : Int) < (len : Int)
  · go_enter Try.func3, Try.ntmps3
    go_wp2
    go_ret
    exact ⟨rfl, Below.refl _ _⟩
  · go_enter Try.func3, Try.ntmps3
    go_wp2_with fail
    go_at_call 8
    refine (big_any _ _ _ _).mono ?_
    rintro e w1 ⟨rfl, rfl⟩
    go_wp2_with fail
    go_at_call 9
    refine (drawClamp_any _ _ _ _ _ HB.out (by omega)).mono ?_
    rintro e w1 ⟨n, l, h, rfl, G1⟩
    have HG := Lib.hid G1
    clear G1
    go_wp2_with fail
    go_at_call 10
    refine (clamp_any _ _ _ _ _ rfl).mono ?_
    rintro e w2 ⟨rfl, rfl⟩
    by_cases hlt : h < l
    · rw [clampI_low hlt]
      go_wp2_with fail
      go_at_call 10
      refine (clamp_any _ _ _ 5 _ rfl).mono ?_
      rintro e w2 ⟨rfl, rfl⟩
      go_wp2
      go_ret
      exact ⟨rfl, gby_below HG.out⟩
    · obtain ⟨h1, h2, h3, h4⟩ := clampI_in (n := n) hlt
      generalize clampI n l h = x at h1 h2 h3 h4
      have H3 := Lib.hid h3
      clear h3
      go_wp2_with fail
      go_at_call 10
      refine (clamp_any _ _ _ _ _ H3.out).mono ?_
      rintro e w2 ⟨rfl, rfl⟩
      have H4 := Lib.hid h4
      clear h4
      go_wp2
      all_goals go_ret
      all_goals refine ⟨?_, gby_below HG.out⟩
      all_goals first | rfl | exact ret_true (by have := H4.out; simp; omega)

end Go.Proofs.Ytmgdcnlbpghjjaa
