/-
  The walks of FnExactIsSeq, FnExactNextSeq, FnExactSeqDistance, FnExactIsOld.
-/
import Derived.Test.YtokpmbagidokkabSeq
namespace Go.Proofs.Ytokpmbagidokkab
open Go Go.RowKit

theorem walk_exactIsSeq (q0 : Int) (W : World) :
    Calls Try.prog 4 #[.int .i64 q0] W fun e w' => e = .returned (.bool true) ∧ Below W.heap.size W w' := by
  obtain ⟨r, hr⟩ : ∃ r, r = decide (IsQ q0) := ⟨_, rfl⟩
  have HS := Lib.hid (hr ▸ fun W => specSeq_any q0 W)
  have HM := Lib.hid (hr ▸ fun W => implSeq_any q0 W)
  clear hr
  cases r
  all_goals
    go_enter Try.func4, Try.ntmps4
    go_wp2_with fail
    go_at_call 21
    refine (HS.out _).mono ?_
    rintro e w1 ⟨rfl, g1⟩
    have G1 := Lib.hid g1
    clear g1
    go_wp2_with fail
    go_at_call 19
    refine (HM.out _).mono ?_
    rintro e w2 ⟨rfl, g2⟩
    have G2 := Lib.hid g2
    clear g2
    go_wp2
    go_ret
    exact ⟨rfl, gby_below (gby_trans (G1.out.gby none) (G2.out.gby none))⟩

theorem walk_exactNextSeq (q0 : Int) (W : World) :
    Calls Try.prog 5 #[.int .i64 q0] W fun e w' => e = .returned (.bool true) ∧ Below W.heap.size W w' := by
  obtain ⟨r, hr⟩ : ∃ r, r = nextQ q0 := ⟨_, rfl⟩
  have HS := Lib.hid (hr ▸ fun W => specNext_any q0 W)
  have HM := Lib.hid (hr ▸ fun W => implNext_any q0 W)
  clear hr
  have hz : (r != r) = false := by simp
  all_goals
    go_enter Try.func5, Try.ntmps5
    go_wp2_with fail
    go_at_call 22
    refine (HS.out _).mono ?_
    rintro e w1 ⟨rfl, g1⟩
    have G1 := Lib.hid g1
    clear g1
    go_wp2_with fail
    go_at_call 18
    refine (HM.out _).mono ?_
    rintro e w2 ⟨rfl, g2⟩
    have G2 := Lib.hid g2
    clear g2
    go_wp2
    go_ret
    exact ⟨rfl, gby_below (gby_trans (G1.out.gby none) (G2.out))⟩

theorem walk_exactSeqDistance (q0 q1 : Int) (W : World) :
    Calls Try.prog 6 #[.int .i64 q0, .int .i64 q1] W fun e w' => e = .returned (.bool true) ∧ Below W.heap.size W w' := by
  obtain ⟨r, hr⟩ : ∃ r, r = distQ q0 q1 := ⟨_, rfl⟩
  have HS := Lib.hid (hr ▸ fun W => specDist_any q0 q1 W)
  have HM := Lib.hid (hr ▸ fun W => implDist_any q0 q1 W)
  clear hr
  have hz : (r != r) = false := by simp
  all_goals
    go_enter Try.func6, Try.ntmps6
    go_wp2_with fail
    go_at_call 23
    refine (HS.out _).mono ?_
    rintro e w1 ⟨rfl, g1⟩
    have G1 := Lib.hid g1
    clear g1
    go_wp2_with fail
    go_at_call 17
    refine (HM.out _).mono ?_
    rintro e w2 ⟨rfl, g2⟩
    have G2 := Lib.hid g2
    clear g2
    go_wp2
    go_ret
    exact ⟨rfl, gby_below (gby_trans (G1.out.gby none) (G2.out))⟩

theorem walk_exactIsOld (q0 q1 : Int) (W : World) :
    Calls Try.prog 7 #[.int .i64 q0, .int .i64 q1] W fun e w' => e = .returned (.bool true) ∧ Below W.heap.size W w' := by
  obtain ⟨r, hr⟩ : ∃ r, r = decide (OldQ q0 q1) := ⟨_, rfl⟩
  have HS := Lib.hid (hr ▸ fun W => specOld_any q0 q1 W)
  have HM := Lib.hid (hr ▸ fun W => implOld_any q0 q1 W)
  clear hr
  cases r
  all_goals
    go_enter Try.func7, Try.ntmps7
    go_wp2_with fail
    go_at_call 24
    refine (HS.out _).mono ?_
    rintro e w1 ⟨rfl, g1⟩
    have G1 := Lib.hid g1
    clear g1
    go_wp2_with fail
    go_at_call 20
    refine (HM.out _).mono ?_
    rintro e w2 ⟨rfl, g2⟩
    have G2 := Lib.hid g2
    clear g2
    go_wp2
    go_ret
    exact ⟨rfl, gby_below (gby_trans (G1.out.gby none) (G2.out))⟩

end Go.Proofs.Ytokpmbagidokkab
