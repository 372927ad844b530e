/-
  SharesOf on both sides: how often a number is in a slice.
-/
import Derived.Test.YtgagbhkidponnadChg
namespace Go.Proofs.Ytgagbhkidponnad
open Go Go.RowKit

theorem cnt_succ (xs : List Int) (p : Int) (k : Nat) (hk : k < xs.length) : (xs.take (k + 1)).count p = (xs.take k).count p + (if xs.getD k 0 = p then 1 else 0) := by
  rw [List.take_add_one, List.count_append, List.getElem?_eq_getElem hk, List.getD_eq_getElem?_getD, List.getElem?_eq_getElem hk]
  by_cases h : xs[k] = p
  · simp [h]
  · simp [h]
theorem cnt_le (xs : List Int) (p : Int) (k : Nat) : (xs.take k).count p ≤ k := Nat.le_trans List.count_le_length (by rw [List.length_take]; omega)

set_option maxHeartbeats 1000000 in
theorem implShares_any (W : World) (v : Value) (xs : List Int) (p : Int) (H : RdI W v xs) (hl : xs.length ≤ 1048576) :
    Calls Try.prog 41 #[v, .int .i64 p] W (AnsN (.int .i64 ((xs.count p : Nat) : Int)) W) := by
  obtain ⟨a, c, rfl, ⟨_, H2⟩, _⟩ := H
  have HC := Lib.hid H2
  clear H2
  generalize hn : xs.length = n at *
  have HE := Lib.hid hn
  clear hn
  go_enter Try.func41, Try.ntmps41
  go_wp2
  go_loopw [5, 10] (fun z i wr => ∃ k : Nat, k ≤ n ∧ i = .int .i64 (k : Int) ∧ z = .int .i64 (((xs.take k).count p : Nat) : Int) ∧ W = wr) (fun _ i _ => n - (intOf i).toNat)
  case atStart => exact ⟨0, Nat.zero_le _, rfl, by simp, rfl⟩
  case round =>
    obtain ⟨k, hk, rfl, rfl, rfl⟩ := hrel
    have HS := Lib.hid (cnt_succ xs p k)
    have hle := cnt_le xs p k
    generalize hz : (xs.take k).count p = z at hle HS
    have HZ := Lib.hid hz
    clear hz
    by_cases hlt : k < n
    · have hki : (k : Int) < (n : Int) := by omega
      have hk0 : (0 : Int) ≤ (k : Int) := by omega
      have htn : ((k : Int)).toNat = k := by omega
      obtain ⟨b, off, rfl, hcell⟩ := HC.out.resolve_left (by omega)
      have hc := hcell k hlt
      clear hcell
      obtain ⟨x, hx⟩ : ∃ x : Int, x = xs.getD k 0 := ⟨_, rfl⟩
      rw [← hx] at hc
      have HX := Lib.hid hx
      clear hx
      by_cases hg : x = p
      · subst hg
        have hb : (x == x) = true := by simp
        go_wp2
        refine ⟨⟨k + 1, by omega, by go_num, ?_, by trivial⟩, by simp [intOf]; omega⟩
        rw [HS.out (by have := HE.out; omega), if_pos HX.out.symm]; go_num
      · have hb : (x == p) = false := by simp [hg]
        have HG := Lib.hid hg
        clear hg
        go_wp2
        refine ⟨⟨k + 1, by omega, by go_num, ?_, by trivial⟩, by simp [intOf]; omega⟩
        rw [HS.out (by have := HE.out; omega), if_neg (by rw [← HX.out]; exact HG.out)]; rfl
    · have hki : ¬ (k : Int) < (n : Int) := by omega
      go_wp2
      go_ret
      have e : z = xs.count p := by rw [← HZ.out, List.take_of_length_le (by have := HE.out; omega)]
      exact ⟨by rw [← e]; rfl, gby_refl _ _⟩

end Go.Proofs.Ytgagbhkidponnad
