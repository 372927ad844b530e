/-
  StateAfter and PeriodOf: the model's side, and both agree.
-/
import Derived.Test.YtgmpehccklifdaaStAft
namespace Go.Proofs.Ytgmpehccklifdaa
open Go Go.RowKit
set_option linter.unusedVariables false

theorem drew_g {A B : World} (h : Drew A B) : A.grownBy B none := h.gby none

set_option maxRecDepth 8000 in
set_option maxHeartbeats 1000000 in
theorem specAfter_in (s n : Int) (h1 : 1 ≤ s) (h2 : s ≤ 255) (h3 : 0 ≤ n) (h4 : n ≤ 1000) (W : World) :
    Calls Try.prog 40 #[.int .i64 s, .int .i64 n] W (AnsN (.int .i64 (st s n.toNat)) W) := by
  obtain ⟨m, rfl⟩ : ∃ m : Nat, n = (m : Int) := ⟨n.toNat, by omega⟩
  rw [Int.toNat_natCast]
  go_enter Try.func40, Try.ntmps40
  go_wp2_with (first
    | (go_at_call_of 50 (Value.int .i64 255); refine (in_yes _ _ _ _ h1 h2).mono ?_; rintro e w' ⟨rfl, rfl⟩)
    | (go_at_call 50; refine (in_yes _ _ _ _ h3 h4).mono ?_; rintro e w' ⟨rfl, rfl⟩))
  go_loopw [5, 6] (fun x k wr => ∃ j : Nat, j ≤ m ∧ x = .int .i64 (st s j) ∧ k = .int .i64 (j : Int) ∧ W.grownBy wr none) (fun x k _ => m - (intOf k).toNat)
  case atStart => exact ⟨0, Nat.zero_le _, rfl, rfl, (gby_refl _ _)⟩
  case round =>
    obtain ⟨j, hj, rfl, rfl, hg⟩ := hrel
    by_cases hlt : j < m
    · have hi1 : (j : Int) < (m : Int) := by omega
      go_wp2_with (go_at_call 34; refine (specNx_any _ _).mono ?_; rintro e w' ⟨rfl, d⟩; have hg2 := gby_trans hg (drew_g d))
      exact ⟨⟨j + 1, by omega, rfl, by go_num, hg2⟩, by simp [intOf]; omega⟩
    · have hi1 : ¬ (j : Int) < (m : Int) := by omega
      obtain rfl : j = m := by omega
      go_wp2
      go_ret
      exact ⟨rfl, hg⟩

set_option maxRecDepth 8000 in
theorem specAfter_out (s n : Int) (h : ¬ (1 ≤ s ∧ s ≤ 255 ∧ 0 ≤ n ∧ n ≤ 1000)) (W : World) :
    Calls Try.prog 40 #[.int .i64 s, .int .i64 n] W (AnsN (.int .i64 0) W) := by
  by_cases hs : 1 ≤ s ∧ s ≤ 255
  · have hn : n < 0 ∨ 1000 < n := by omega
    have HN := Lib.hid hn
    clear h hn
    go_enter Try.func40, Try.ntmps40
    go_wp2_with (first
      | (go_at_call_of 50 (Value.int .i64 255); refine (in_yes _ _ _ _ hs.1 hs.2).mono ?_; rintro e w' ⟨rfl, rfl⟩)
      | (go_at_call 50; refine (in_no _ _ _ _ HN.out).mono ?_; rintro e w' ⟨rfl, rfl⟩))
    go_ret
    exact ⟨rfl, (gby_refl _ _)⟩
  · have hn : s < 1 ∨ 255 < s := by omega
    have HN := Lib.hid hn
    clear h hn hs
    go_enter Try.func40, Try.ntmps40
    go_wp2_with (go_at_call 50; refine (in_no _ _ _ _ HN.out).mono ?_; rintro e w' ⟨rfl, rfl⟩)
    go_ret
    exact ⟨rfl, (gby_refl _ _)⟩

set_option maxRecDepth 8000 in
set_option maxHeartbeats 1000000 in
theorem specPer_in (s : Int) (h1 : 1 ≤ s) (h2 : s ≤ 255) (p : Nat) (hp0 : 0 < p) (hp1 : p ≤ 255) (hp2 : st s p = s) (hp3 : ∀ k, 0 < k → k < p → st s k ≠ s) (W : World) :
    Calls Try.prog 42 #[.int .i64 s] W (AnsN (.int .i64 (p : Int)) W) := by
  have H2 := Lib.hid hp2
  have H3 := Lib.hid hp3
  clear hp2 hp3
  go_enter Try.func42, Try.ntmps42
  go_wp2_with (first
    | (go_at_call 50; refine (in_yes _ _ _ _ h1 h2).mono ?_; rintro e w' ⟨rfl, rfl⟩)
    | (go_at_call 34; refine (specNx_any _ _).mono ?_; rintro e w1 ⟨rfl, d⟩; have hg1 := drew_g d))
  go_loopw [3, 4] (fun x k wr => ∃ j : Nat, 0 < j ∧ j ≤ p ∧ x = .int .i64 (st s j) ∧ k = .int .i64 (j : Int) ∧ W.grownBy wr none) (fun x k _ => p - (intOf k).toNat)
  case atStart => exact ⟨1, by omega, by omega, rfl, rfl, hg1⟩
  case round =>
    obtain ⟨j, h0, hj, rfl, rfl, hg⟩ := hrel
    by_cases e : j = p
    · subst e
      have hb : (st s j != s) = false := by rw [H2.out]; simp
      go_wp2
      go_ret
      exact ⟨rfl, hg⟩
    · have hb : (st s j != s) = true := by simpa using H3.out j h0 (by omega)
      go_wp2_with (go_at_call 34; refine (specNx_any _ _).mono ?_; rintro e w' ⟨rfl, d⟩; have hg2 := gby_trans hg (drew_g d))
      exact ⟨⟨j + 1, by omega, by omega, rfl, by go_num, hg2⟩, by simp [intOf]; omega⟩

set_option maxRecDepth 8000 in
theorem specPer_out (s : Int) (h : ¬ (1 ≤ s ∧ s ≤ 255)) (W : World) : Calls Try.prog 42 #[.int .i64 s] W (AnsN (.int .i64 0) W) := by
  have hn : s < 1 ∨ 255 < s := by omega
  have HN := Lib.hid hn
  clear h hn
  go_enter Try.func42, Try.ntmps42
  go_wp2_with (go_at_call 50; refine (in_no _ _ _ _ HN.out).mono ?_; rintro e w' ⟨rfl, rfl⟩)
  go_ret
  exact ⟨rfl, (gby_refl _ _)⟩

set_option maxRecDepth 8000 in
theorem implPer_out (s : Int) (h : ¬ (1 ≤ s ∧ s ≤ 255)) (W : World) : Calls Try.prog 43 #[.int .i64 s] W (AnsN (.int .i64 0) W) := by
  have hn : s < 1 ∨ 255 < s := by omega
  have HN := Lib.hid hn
  clear h hn
  go_enter Try.func43, Try.ntmps43
  go_wp2_with (go_at_call 56; refine (isSt_no _ _ HN.out).mono ?_; rintro e w' ⟨rfl, rfl⟩)
  refine bodyPost_ret (v := .int .i64 0) (by simp [results, go_sem]) rfl ⟨rfl, ?_⟩
  repeat (first | exact gby_alloc (gby_alloc (gby_refl _ _) _) _ | with_reducible refine gby_setnew ?_ _ (by dsimp only; omega) _)

theorem after_both (s n : Int) : ∃ r : Int, (∀ W, Calls Try.prog 40 #[.int .i64 s, .int .i64 n] W (AnsN (.int .i64 r) W)) ∧ ∀ W, Calls Try.prog 41 #[.int .i64 s, .int .i64 n] W (AnsN (.int .i64 r) W) := by
  by_cases h : 1 ≤ s ∧ s ≤ 255 ∧ 0 ≤ n ∧ n ≤ 1000
  · exact ⟨_, specAfter_in s n h.1 h.2.1 h.2.2.1 h.2.2.2, implAfter_in s n h.1 h.2.1 h.2.2.1 h.2.2.2⟩
  · exact ⟨_, specAfter_out s n h, implAfter_out s n h⟩
theorem per_both (s : Int) : ∃ r : Int, (∀ W, Calls Try.prog 42 #[.int .i64 s] W (AnsN (.int .i64 r) W)) ∧ ∀ W, Calls Try.prog 43 #[.int .i64 s] W (AnsN (.int .i64 r) W) := by
  by_cases h : 1 ≤ s ∧ s ≤ 255
  · obtain ⟨m, rfl⟩ : ∃ m : Nat, s = (m : Int) := ⟨s.toNat, by omega⟩
    have a0 : 0 < m := by omega
    have a1 : m < 256 := by omega
    have e1 : st m 255 = m := by rw [st_nat a0 a1, sgN_full a0 a1]
    have e2 : ∀ k, 0 < k → k < 255 → st m k ≠ m := fun k k0 k1 e => sgN_not a0 a1 k0 k1 (by rw [st_nat a0 a1] at e; omega)
    exact ⟨_, specPer_in m h.1 h.2 255 (by omega) (by omega) e1 e2, implPer_in m h.1 h.2 255 (by omega) (by omega) e1 e2⟩
  · exact ⟨_, specPer_out s h, implPer_out s h⟩

end Go.Proofs.Ytgmpehccklifdaa
