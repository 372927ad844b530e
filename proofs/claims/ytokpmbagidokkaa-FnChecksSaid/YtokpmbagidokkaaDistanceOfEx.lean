/-
  The walk of FnExactDistanceOf: at every argument the program answers as its model and writes nothing that was there.
-/
import Derived.Test.YtokpmbagidokkaaChg
namespace Go.Proofs.Ytokpmbagidokkaa
open Go Go.RowKit

set_option maxRecDepth 8000 in
set_option maxHeartbeats 4000000 in
theorem walk_exactDistanceOf_of (both : ∀ (xs0 : List Int) (xs1 : List Int), xs0.length ≤ 1048576 → xs1.length ≤ 1048576 → ∃ r : Int, (∀ (W : World) (v0 v1 : Value), RdI W v0 xs0 → RdI W v1 xs1 → Calls Try.prog 48 #[v0, v1] W (AnsN (.int .i64 r) W)) ∧ ∀ (W : World) (v0 v1 : Value), RdI W v0 xs0 → RdI W v1 xs1 → Calls Try.prog 41 #[v0, v1] W (AnsN (.int .i64 r) W))
    (W : World) (a0 : Option Addr) (l0 c0 : Nat) (xs0 : List Int) (a1 : Option Addr) (l1 c1 : Nat) (xs1 : List Int) (H0 : ISl W a0 l0 xs0) (hc0 : l0 ≤ 9223372036854775807) (H1 : ISl W a1 l1 xs1) (hc1 : l1 ≤ 9223372036854775807) :
    Calls Try.prog 14 #[.slice a0 l0 c0, .slice a1 l1 c1] W fun e w' => e = .returned (.bool true) ∧ Below W.heap.size W w' := by
  have HI0 := Lib.hid H0
  have hlx0 := H0.1
  clear H0
  have HI1 := Lib.hid H1
  have hlx1 := H1.1
  clear H1
  by_cases hbig0 : (1048576 : Int) < (l0 : Int)
  · clear hlx0 hlx1
    go_enter Try.func14, Try.ntmps14
    go_wp2
    go_ret
    exact ⟨rfl, Below.refl _ _⟩
  by_cases hbig1 : (1048576 : Int) < (l1 : Int)
  · clear hlx0 hlx1
    go_enter Try.func14, Try.ntmps14
    go_wp2
    go_ret
    exact ⟨rfl, Below.refl _ _⟩
  have hl0 : l0 ≤ 1048576 := by omega
  have hx0 : xs0.length ≤ 1048576 := by omega
  clear hc0
  have hl1 : l1 ≤ 1048576 := by omega
  have hx1 : xs1.length ≤ 1048576 := by omega
  clear hc1
  obtain ⟨r, hs, hi⟩ := both xs0 xs1 hx0 hx1
  have HS := Lib.hid hs
  have HM := Lib.hid hi
  clear hs hi both hlx0 hlx1
  have hz : (r != r) = false := by simp
  all_goals
    go_enter Try.func14, Try.ntmps14
    go_wp2_with fail
    go_at_call 33
    refine (toI_any _ a0 l0 c0 xs0 (HI0.out.kept (gby_refl W none)) hl0).mono ?_
    rintro e w1 ⟨u1, rfl, o1, g1⟩
    have s1 := g1.size
    have G1 := Lib.hid (gby_trans (gby_refl W none) g1)
    have T0_1 := Lib.hid o1
    clear o1 g1
    go_wp2_with fail
    go_at_call 33
    refine (toI_any _ a1 l1 c1 xs1 (HI1.out.kept G1.out) hl1).mono ?_
    rintro e w2 ⟨u2, rfl, o2, g2⟩
    have s2 := g2.size
    have T0_2 := Lib.hid (T0_1.out.grow g2)
    clear T0_1
    have G2 := Lib.hid (gby_trans G1.out g2)
    have T1_2 := Lib.hid o2
    clear o2 g2
    go_wp2_with fail
    go_at_call 48
    refine (HS.out _ _ _ (T0_2.out.rd) (T1_2.out.rd)).mono ?_
    rintro e w3 ⟨rfl, g3⟩
    have s3 := g3.size
    have T0_3 := Lib.hid (T0_2.out.grow g3)
    clear T0_2
    have T1_3 := Lib.hid (T1_2.out.grow g3)
    clear T1_2
    have G3 := Lib.hid (gby_trans G2.out g3)
    clear g3
    clear T0_3
    clear T1_3
    go_wp2_with fail
    go_at_call 33
    refine (toI_any _ a0 l0 c0 xs0 (HI0.out.kept G3.out) hl0).mono ?_
    rintro e w4 ⟨u4, rfl, o4, g4⟩
    have s4 := g4.size
    have G4 := Lib.hid (gby_trans G3.out g4)
    have X0_4 := Lib.hid o4
    clear o4 g4
    go_wp2_with fail
    go_at_call 33
    refine (toI_any _ a1 l1 c1 xs1 (HI1.out.kept G4.out) hl1).mono ?_
    rintro e w5 ⟨u5, rfl, o5, g5⟩
    have s5 := g5.size
    have X0_5 := Lib.hid (X0_4.out.grow g5)
    clear X0_4
    have G5 := Lib.hid (gby_trans G4.out g5)
    have X1_5 := Lib.hid o5
    clear o5 g5
    go_wp2_with fail
    go_at_call 41
    refine (HM.out _ _ _ (X0_5.out.rd) (X1_5.out.rd)).mono ?_
    rintro e w6 ⟨rfl, g6⟩
    have s6 := g6.size
    have X0_6 := Lib.hid (X0_5.out.grow g6)
    clear X0_5
    have X1_6 := Lib.hid (X1_5.out.grow g6)
    clear X1_5
    have G6 := Lib.hid (gby_trans G5.out g6)
    clear g6
    go_wp2_with fail
    go_at_call 33
    refine (toI_any _ a0 l0 c0 xs0 (HI0.out.kept G6.out) hl0).mono ?_
    rintro e w7 ⟨u7, rfl, o7, g7⟩
    have s7 := g7.size
    have X0_7 := Lib.hid (X0_6.out.grow g7)
    clear X0_6
    have X1_7 := Lib.hid (X1_6.out.grow g7)
    clear X1_6
    have G7 := Lib.hid (gby_trans G6.out g7)
    have T0_7 := Lib.hid o7
    clear o7 g7
    go_wp2_with fail
    go_at_call 27
    refine (eqI_same _ _ _ xs0 (X0_7.out.rd) (T0_7.out.rd) (by omega)).mono ?_
    rintro e w8 ⟨rfl, d8⟩
    have g8 := d8.gby none
    have s8 := g8.size
    have X0_8 := Lib.hid (X0_7.out.grow g8)
    clear X0_7
    have X1_8 := Lib.hid (X1_7.out.grow g8)
    clear X1_7
    have T0_8 := Lib.hid (T0_7.out.grow g8)
    clear T0_7
    have G8 := Lib.hid (gby_trans G7.out g8)
    clear d8 g8
    clear T0_8
    go_wp2_with fail
    go_at_call 33
    refine (toI_any _ a1 l1 c1 xs1 (HI1.out.kept G8.out) hl1).mono ?_
    rintro e w9 ⟨u9, rfl, o9, g9⟩
    have s9 := g9.size
    have X0_9 := Lib.hid (X0_8.out.grow g9)
    clear X0_8
    have X1_9 := Lib.hid (X1_8.out.grow g9)
    clear X1_8
    have G9 := Lib.hid (gby_trans G8.out g9)
    have T1_9 := Lib.hid o9
    clear o9 g9
    go_wp2_with fail
    go_at_call 27
    refine (eqI_same _ _ _ xs1 (X1_9.out.rd) (T1_9.out.rd) (by omega)).mono ?_
    rintro e w10 ⟨rfl, d10⟩
    have g10 := d10.gby none
    have s10 := g10.size
    have X0_10 := Lib.hid (X0_9.out.grow g10)
    clear X0_9
    have X1_10 := Lib.hid (X1_9.out.grow g10)
    clear X1_9
    have T1_10 := Lib.hid (T1_9.out.grow g10)
    clear T1_9
    have G10 := Lib.hid (gby_trans G9.out g10)
    clear d10 g10
    clear T1_10
    go_wp2
    go_ret
    exact ⟨rfl, gby_below G10.out⟩

end Go.Proofs.Ytokpmbagidokkaa
