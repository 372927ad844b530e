/-
  The next port that asks.
-/
import Derived.Test.YtgagbhkidponnadQSBool
import Derived.Test.YtgagbhkidponnadBPost0
import Derived.Test.YtgagbhkidponnadArb
namespace Go.Proofs.Ytgagbhkidponnad
open Go Go.RowKit
set_option linter.unusedVariables false

def ak (ask : List Bool) (i : Nat) : Bool := ask.getD i false
/-- the k-th port behind t is the first that asks -/
def NextAt (ask : List Bool) (t n k : Nat) : Prop := 1 ≤ k ∧ k ≤ n ∧ ak ask ((t + k) % n) = true ∧ ∀ j, 1 ≤ j → j < k → ak ask ((t + j) % n) = false
def NoneAt (ask : List Bool) (t n : Nat) : Prop := ∀ j, 1 ≤ j → j ≤ n → ak ask ((t + j) % n) = false
theorem next_or (ask : List Bool) (t n : Nat) : (∃ k, NextAt ask t n k) ∨ NoneAt ask t n := by
  have h : ∀ m, m ≤ n → (∃ k, NextAt ask t n k) ∨ ∀ j, 1 ≤ j → j ≤ m → ak ask ((t + j) % n) = false := by
    intro m
    induction m with
    | zero => intro _; exact .inr (fun j h1 h2 => by omega)
    | succ m ih =>
      intro hm
      rcases ih (by omega) with h | h
      · exact .inl h
      · cases e : ak ask ((t + (m + 1)) % n) with
        | true => exact .inl ⟨m + 1, by omega, hm, e, fun j h1 h2 => h j h1 (by omega)⟩
        | false =>
          refine .inr (fun j h1 h2 => ?_)
          by_cases q : j = m + 1
          · subst q; exact e
          · exact h j h1 (by omega)
  exact h n (Nat.le_refl _)
theorem mod_step (a n : Nat) : (a % n + 1) % n = (a + 1) % n := by rw [Nat.add_mod, Nat.mod_mod, ← Nat.add_mod]
theorem tmod_nat (a n : Nat) : ((a : Int)).tmod (n : Int) = ((a % n : Nat) : Int) := by rw [Int.tmod_eq_emod_of_nonneg (by omega), Int.natCast_emod]
theorem rdB_at {w : World} {v : Value} {ask : List Bool} (H : RdL shB w v ask) (h : 0 < ask.length) : ∃ b off c, v = .slice (some ⟨b, off, none⟩) ask.length c ∧ ∀ k, k < ask.length → w.cell? ⟨b, off + k, none⟩ = some (.bool (ak ask k)) := by
  obtain ⟨a1, c1, rfl, _, r1⟩ := rdB_in H
  obtain ⟨b2, o2, rfl, hc⟩ := r1.resolve_left (by omega)
  exact ⟨b2, o2, c1, rfl, hc⟩

set_option maxRecDepth 8000 in
set_option maxHeartbeats 1000000 in
theorem implNext_yes (W : World) (b off c n t k : Nat) (ask : List Bool) (hA : ∀ k, k < n → W.cell? ⟨b, off + k, none⟩ = some (.bool (ak ask k))) (hn : 1 ≤ n) (hn4 : n ≤ 4) (ht : t < n) (hN : NextAt ask t n k) : Calls Try.prog 67 #[.slice (some ⟨b, off, none⟩) n c, .int .i64 (t : Int), .bool true] W (AnsN (.int .i64 (((t + k) % n : Nat))) W) := by
  have HA := Lib.hid hA
  have HN := Lib.hid hN
  have hk1 := hN.1
  have hkn := hN.2.1
  clear hA hN
  go_enter Try.func67, Try.ntmps67
  go_wp2
  go_loopw [1, 9] (fun p i wr => ∃ j : Nat, i = .int .i64 (j : Int) ∧ p = .int .i64 (((t + j) % n : Nat) : Int) ∧ j < k ∧ (W).grownBy wr none) (fun _ i _ => n - (intOf i).toNat)
  case atStart => exact ⟨0, rfl, by rw [Nat.add_zero, Nat.mod_eq_of_lt ht], by omega, gby_refl _ _⟩
  case round =>
    obtain ⟨j, rfl, rfl, hj, hg⟩ := hrel
    have szrwr := hg.size
    try simp only [World.size_alloc] at szrwr
    try simp only [World.size_setCell] at szrwr
    have szr_ := szrwr
    have G1_ := Lib.hid (show (W).grownBy (wr) none from gby_trans (gby_refl W none) hg)
    have HTB_ := Lib.hid hg
    clear hg
    have hj0 : (0 : Int) ≤ (j : Int) := by omega
    have htj : ((j : Int)).toNat = j := by omega
    have hlt : j < n := by omega
    have hji : (j : Int) < (n : Int) := by omega
    obtain ⟨q, hq⟩ : ∃ q, q = (t + j) % n := ⟨_, rfl⟩
    obtain ⟨r, hr⟩ : ∃ r, r = (t + (j + 1)) % n := ⟨_, rfl⟩
    have hqn : q < n := by rw [hq]; exact Nat.mod_lt _ (by omega)
    have hrn : r < n := by rw [hr]; exact Nat.mod_lt _ (by omega)
    have hqr : (q + 1) % n = r := by rw [hq, hr, mod_step]; rfl
    have w1_ : IntKind.i64.wrap ((q : Int) + 1) = (q : Int) + 1 := IntWalk.i64_in _ (by omega)
    have w2_ : ((q : Int) + 1).tmod (n : Int) = (r : Int) := by rw [← hqr, ← tmod_nat]; rfl
    have w3_ : ((q : Int) + 1) % (n : Int) = (r : Int) := by rw [← hqr, Int.natCast_emod]; rfl
    have w4_ : ¬ (n : Int) = 0 := by omega
    have w5_ : ((n : Int) == 0) = false := beq_eq_false_iff_ne.2 w4_
    have hr0 : (0 : Int) ≤ (r : Int) := by omega
    have hri : (r : Int) < (n : Int) := by omega
    have htr : ((r : Int)).toNat = r := by omega
    have HR := Lib.hid hr
    rw [← hq]
    clear hq hqr hr
    by_cases he : j + 1 = k
    · have e1_ : (true == true) = true := rfl
      have ca_ := (G1_.out).cell (HA.out r hrn) (by simp)
      rw [show ak ask r = true from by rw [HR.out, he]; exact HN.out.2.2.1] at ca_
      have HE := Lib.hid he
      clear he
      go_wp2
      go_ret
      exact ⟨by rw [HR.out, HE.out]; rfl, G1_.out⟩
    have e1_ : (false == true) = false := rfl
    have ca_ := (G1_.out).cell (HA.out r hrn) (by simp)
    rw [show ak ask r = false from by rw [HR.out]; exact HN.out.2.2.2 _ (by omega) (by omega)] at ca_
    go_wp2
    refine ⟨⟨j + 1, by go_num, by rw [HR.out], by omega, HTB_.out⟩, by simp [intOf]; omega⟩

set_option maxRecDepth 8000 in
set_option maxHeartbeats 1000000 in
theorem implNext_no (W : World) (b off c n t : Nat) (ask : List Bool) (hA : ∀ k, k < n → W.cell? ⟨b, off + k, none⟩ = some (.bool (ak ask k))) (hn : 1 ≤ n) (hn4 : n ≤ 4) (ht : t < n) (hN : NoneAt ask t n) : Calls Try.prog 67 #[.slice (some ⟨b, off, none⟩) n c, .int .i64 (t : Int), .bool true] W (AnsN (.int .i64 (-1)) W) := by
  have HA := Lib.hid hA
  have HN := Lib.hid hN
  skip
  skip
  clear hA hN
  go_enter Try.func67, Try.ntmps67
  go_wp2
  go_loopw [1, 9] (fun p i wr => ∃ j : Nat, i = .int .i64 (j : Int) ∧ p = .int .i64 (((t + j) % n : Nat) : Int) ∧ j ≤ n ∧ (W).grownBy wr none) (fun _ i _ => n - (intOf i).toNat)
  case atStart => exact ⟨0, rfl, by rw [Nat.add_zero, Nat.mod_eq_of_lt ht], by omega, gby_refl _ _⟩
  case round =>
    obtain ⟨j, rfl, rfl, hj, hg⟩ := hrel
    have szrwr := hg.size
    try simp only [World.size_alloc] at szrwr
    try simp only [World.size_setCell] at szrwr
    have szr_ := szrwr
    have G1_ := Lib.hid (show (W).grownBy (wr) none from gby_trans (gby_refl W none) hg)
    have HTB_ := Lib.hid hg
    clear hg
    have hj0 : (0 : Int) ≤ (j : Int) := by omega
    have htj : ((j : Int)).toNat = j := by omega
    by_cases hlt : j < n
    rotate_left
    · obtain rfl : j = n := by omega
      have hji : ¬ (j : Int) < (j : Int) := by omega
      go_wp2
      go_ret
      exact ⟨rfl, G1_.out⟩
    have hji : (j : Int) < (n : Int) := by omega
    obtain ⟨q, hq⟩ : ∃ q, q = (t + j) % n := ⟨_, rfl⟩
    obtain ⟨r, hr⟩ : ∃ r, r = (t + (j + 1)) % n := ⟨_, rfl⟩
    have hqn : q < n := by rw [hq]; exact Nat.mod_lt _ (by omega)
    have hrn : r < n := by rw [hr]; exact Nat.mod_lt _ (by omega)
    have hqr : (q + 1) % n = r := by rw [hq, hr, mod_step]; rfl
    have w1_ : IntKind.i64.wrap ((q : Int) + 1) = (q : Int) + 1 := IntWalk.i64_in _ (by omega)
    have w2_ : ((q : Int) + 1).tmod (n : Int) = (r : Int) := by rw [← hqr, ← tmod_nat]; rfl
    have w3_ : ((q : Int) + 1) % (n : Int) = (r : Int) := by rw [← hqr, Int.natCast_emod]; rfl
    have w4_ : ¬ (n : Int) = 0 := by omega
    have w5_ : ((n : Int) == 0) = false := beq_eq_false_iff_ne.2 w4_
    have hr0 : (0 : Int) ≤ (r : Int) := by omega
    have hri : (r : Int) < (n : Int) := by omega
    have htr : ((r : Int)).toNat = r := by omega
    have HR := Lib.hid hr
    rw [← hq]
    clear hq hqr hr
    have e1_ : (false == true) = false := rfl
    have ca_ := (G1_.out).cell (HA.out r hrn) (by simp)
    rw [show ak ask r = false from by rw [HR.out]; exact HN.out _ (by omega) (by omega)] at ca_
    go_wp2
    refine ⟨⟨j + 1, by go_num, by rw [HR.out], by omega, HTB_.out⟩, by simp [intOf]; omega⟩

end Go.Proofs.Ytgagbhkidponnad
