/-
  The walk of FnExactSharesOf: at every argument the program answers as its model and writes nothing that was there.
-/
import Derived.Test.YtgmpehccklifdacShares
namespace Go.Proofs.Ytgmpehccklifdac
open Go Go.RowKit

set_option maxRecDepth 8000 in
set_option maxHeartbeats 4000000 in
theorem walk_exactSharesOf_of (both : ∀ (xs0 : List Int) (q1 : Int), xs0.length ≤ 1048576 → ∃ r : Int, (∀ (W : World) (v0 : Value), RdI W v0 xs0 → Calls Try.prog 35 #[v0, .int .i64 q1] W (AnsN (.int .i64 r) W)) ∧ ∀ (W : World) (v0 : Value), RdI W v0 xs0 → Calls Try.prog 36 #[v0, .int .i64 q1] W (AnsN (.int .i64 r) W))
    (W : World) (a0 : Option Addr) (l0 c0 : Nat) (xs0 : List Int) (q1 : Int) (H0 : ISl W a0 l0 xs0) (hc0 : l0 ≤ 9223372036854775807) :
    Calls Try.prog 7 #[.slice a0 l0 c0, .int .i64 q1] W fun e w' => e = .returned (.bool true) ∧ Below W.heap.size W w' := by
  have HI0 := Lib.hid H0
  have hlx0 := H0.1
  clear H0
  by_cases hbig0 : (1048576 : Int) < (l0 : Int)
  · clear hlx0
    go_enter Try.func7, Try.ntmps7
    go_wp2
    go_ret
    exact ⟨rfl, Below.refl _ _⟩
  have hl0 : l0 ≤ 1048576 := by omega
  have hx0 : xs0.length ≤ 1048576 := by omega
  clear hc0
  obtain ⟨r, hs, hi⟩ := both xs0 q1 hx0
  have HS := Lib.hid hs
  have HM := Lib.hid hi
  clear hs hi both hlx0
  have hz : (r != r) = false := by simp
  all_goals
    go_enter Try.func7, Try.ntmps7
    go_wp2_with fail
    go_at_call 21
    refine (toI_any _ a0 l0 c0 xs0 (HI0.out.kept (gby_refl W none)) hl0).mono ?_
    rintro e w1 ⟨u1, rfl, o1, g1⟩
    have s1 := g1.size
    have G1 := Lib.hid (gby_trans (gby_refl W none) g1)
    have T0_1 := Lib.hid o1
    clear o1 g1
    go_wp2_with fail
    go_at_call 35
    refine (HS.out _ _ (T0_1.out.rd)).mono ?_
    rintro e w2 ⟨rfl, g2⟩
    have s2 := g2.size
    have T0_2 := Lib.hid (T0_1.out.grow g2)
    clear T0_1
    have G2 := Lib.hid (gby_trans G1.out g2)
    clear g2
    clear T0_2
    go_wp2_with fail
    go_at_call 21
    refine (toI_any _ a0 l0 c0 xs0 (HI0.out.kept G2.out) hl0).mono ?_
    rintro e w3 ⟨u3, rfl, o3, g3⟩
    have s3 := g3.size
    have G3 := Lib.hid (gby_trans G2.out g3)
    have X0_3 := Lib.hid o3
    clear o3 g3
    go_wp2_with fail
    go_at_call 36
    refine (HM.out _ _ (X0_3.out.rd)).mono ?_
    rintro e w4 ⟨rfl, g4⟩
    have s4 := g4.size
    have X0_4 := Lib.hid (X0_3.out.grow g4)
    clear X0_3
    have G4 := Lib.hid (gby_trans G3.out g4)
    clear g4
    go_wp2_with fail
    go_at_call 21
    refine (toI_any _ a0 l0 c0 xs0 (HI0.out.kept G4.out) hl0).mono ?_
    rintro e w5 ⟨u5, rfl, o5, g5⟩
    have s5 := g5.size
    have X0_5 := Lib.hid (X0_4.out.grow g5)
    clear X0_4
    have G5 := Lib.hid (gby_trans G4.out g5)
    have T0_5 := Lib.hid o5
    clear o5 g5
    go_wp2_with fail
    go_at_call 23
    refine (eqI_same _ _ _ xs0 (X0_5.out.rd) (T0_5.out.rd) (by omega)).mono ?_
    rintro e w6 ⟨rfl, d6⟩
    have g6 := d6.gby none
    have s6 := g6.size
    have X0_6 := Lib.hid (X0_5.out.grow g6)
    clear X0_5
    have T0_6 := Lib.hid (T0_5.out.grow g6)
    clear T0_5
    have G6 := Lib.hid (gby_trans G5.out g6)
    clear d6 g6
    clear T0_6
    go_wp2
    go_ret
    exact ⟨rfl, gby_below G6.out⟩

end Go.Proofs.Ytgmpehccklifdac
