/-
  The generator's states: after 255 steps, and no sooner, each of them comes back.
-/
import Derived.Test.YtgmpehccklifdaaNx
namespace Go.Proofs.Ytgmpehccklifdaa
open Go Go.RowKit

/-- the state after k steps -/
def st (s : Int) : Nat → Int
  | 0 => s
  | k + 1 => nxA (st s k)
/-- the next state, as a number of Nat -/
def nxN (x : Nat) : Nat := 2 * x % 256 + onesTo (x &&& 184) 16 % 2
def sgN (s : Nat) : Nat → Nat
  | 0 => s
  | k + 1 => nxN (sgN s k)
/-- the first n states from x on -/
def orb : Nat → Nat → List Nat
  | 0, _ => []
  | n + 1, x => x :: orb n (nxN x)
theorem nxN_is : ∀ x, x < 256 → nxS x = (nxN x : Int) := by decide +kernel
theorem nxN_rng : ∀ x, x < 256 → 0 < x → 0 < nxN x ∧ nxN x < 256 := by decide +kernel
theorem orb_last : sgN 1 255 = 1 := by decide +kernel
theorem orb_none : ∀ k, k < 255 → 0 < k → sgN 1 k ≠ 1 := by decide +kernel
theorem orb_all : ∀ s, s < 256 → 0 < s → s ∈ orb 255 1 := by decide +kernel
theorem sgN_next (x : Nat) : ∀ k, sgN (nxN x) k = sgN x (k + 1)
  | 0 => rfl
  | k + 1 => congrArg nxN (sgN_next x k)
theorem sgN_add (s a : Nat) : ∀ b, sgN s (a + b) = sgN (sgN s a) b
  | 0 => rfl
  | b + 1 => congrArg nxN (sgN_add s a b)
theorem orb_mem {s : Nat} : ∀ (n x : Nat), s ∈ orb n x → ∃ k, k < n ∧ sgN x k = s
  | 0, _, h => by simp [orb] at h
  | n + 1, x, h => by
    simp only [orb, List.mem_cons] at h
    rcases h with rfl | h
    · exact ⟨0, by omega, rfl⟩
    · obtain ⟨k, hk, e⟩ := orb_mem n _ h
      exact ⟨k + 1, by omega, by rw [← e, sgN_next]⟩
theorem sgN_rng {s : Nat} (h0 : 0 < s) (h1 : s < 256) : ∀ k, 0 < sgN s k ∧ sgN s k < 256
  | 0 => ⟨h0, h1⟩
  | k + 1 => by
    have q := sgN_rng h0 h1 k
    exact nxN_rng _ q.2 q.1
theorem st_nat {s : Nat} (h0 : 0 < s) (h1 : s < 256) : ∀ k, st s k = (sgN s k : Int)
  | 0 => rfl
  | k + 1 => by
    have q := sgN_rng h0 h1 k
    show nxA (st s k) = _
    rw [st_nat h0 h1 k, show nxA (sgN s k : Int) = nxS (sgN s k) from if_pos ⟨by omega, by omega⟩]
    exact nxN_is _ q.2
/-- every state comes back after 255 steps -/
theorem sgN_full {s : Nat} (h0 : 0 < s) (h1 : s < 256) : sgN s 255 = s := by
  obtain ⟨j, hj, e⟩ := orb_mem _ _ (orb_all s h1 h0)
  rw [← e, ← sgN_add, Nat.add_comm, sgN_add, orb_last]
/-- .. and no sooner -/
theorem sgN_not {s : Nat} (h0 : 0 < s) (h1 : s < 256) {k : Nat} (hk : 0 < k) (hk2 : k < 255) : sgN s k ≠ s := by
  intro h
  obtain ⟨j, hj, e⟩ := orb_mem _ _ (orb_all s h1 h0)
  refine orb_none k hk2 hk ?_
  have a : sgN (sgN 1 k) j = sgN 1 j := by rw [← sgN_add, Nat.add_comm, sgN_add, e, h]
  have b := congrArg (fun x => sgN x (255 - j)) a
  simp only [← sgN_add] at b
  rw [show j + (255 - j) = 255 by omega, orb_last] at b
  rw [show k + j + (255 - j) = k + 255 by omega, sgN_add] at b
  have r := sgN_rng (s := 1) (by omega) (by omega) k
  exact (sgN_full r.1 r.2).symm.trans b

end Go.Proofs.Ytgmpehccklifdaa
