/-
  The program's generator of states: its contract as an iterator.
-/
import Derived.Test.YtgmpehccklifdaaUps
import Derived.Test.YtgmpehccklifdaaOrb
namespace Go.Proofs.Ytgmpehccklifdaa
open Go Go.RowKit
set_option linter.unusedVariables false
attribute [local go_sem] Oper.semAt_some

def stVals (s : Int) (k : Nat) : Array Value := #[.int .i64 (k : Int), .int .i64 (st s k)]

theorem states_any (s : Int) (W : World) : Calls Try.prog 60 #[.int .i64 s] W fun e w' => e = .returned (.func (.func 70) #[] #[.pointer (some ⟨W.heap.size, 0, none⟩)]) ∧ w' = W.alloc (.cells #[.int .i64 s] 3) := by
  go_enter Try.func60, Try.ntmps60
  go_wp2
  go_ret
  exact ⟨rfl, rfl⟩

set_option maxRecDepth 8000 in
set_option maxHeartbeats 1000000 in
theorem states_ups (n b : Nat) (hn : 1 ≤ n) (s : Int) (w : World) (hb : b < w.heap.size) (hc : w.cell? ⟨b, 0, none⟩ = some (.int .i64 s)) : Ups Try.prog n 70 #[.pointer (some ⟨b, 0, none⟩)] (stVals s) w := by
  intro l N J Jx W hW hJ hY hN hN2 h0
  have hc' : W.cell? ⟨b, 0, none⟩ = some (.int .i64 s) := (hW.cell (p := ⟨b, 0, none⟩) hb).trans hc
  refine callsIn_of_wp Try.func70 rfl trivial ?_ rfl
  simp only [Try.ntmps70, List.size_toArray, List.length_cons, List.length_nil, Nat.reduceAdd, Nat.reduceSub, Array.replicate_succ, Array.replicate_zero, List.push_toArray, List.append_toArray, List.nil_append, List.cons_append]
  gi_wp2
  gi_loopw [3, 4] (fun x i wr => ∃ k : Nat, x = .int .i64 (st s k) ∧ i = .int .i64 (k : Int) ∧ J k wr ∧ k < N) (fun x i _ => N - (intOf i).toNat)
  case atStart => exact ⟨0, rfl, rfl, h0, hN⟩
  case round =>
    obtain ⟨k, rfl, rfl, hj, hk⟩ := hrel
    obtain ⟨fn, tmps, assign, body, hy, hR⟩ := hY k _ hj hk
    dsimp only [stVals] at hy
    gi_wp2
    refine hR.mono ?_
    rintro e B (⟨rfl, hj', hlt⟩ | ⟨rfl, hx⟩)
    · gi_wp2_with (refine ⟨trivial, ?_⟩; gi_at_call 35; refine (callsIn_wide.2 (implNx_any _ _)).mono ?_; rintro e w' ⟨rfl, d⟩; have hj2 := hJ _ _ _ hj' (Drew.gby d none))
      go_roundw
      case rel => exact ⟨k + 1, rfl, by go_num, hj2, hlt⟩
      case measure => simp [intOf]; omega
    · gi_wp2
      go_end0
      exact ⟨⟨_, rfl⟩, hx⟩

end Go.Proofs.Ytgmpehccklifdaa
