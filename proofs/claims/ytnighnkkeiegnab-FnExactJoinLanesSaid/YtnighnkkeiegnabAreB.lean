/-
  AreBytes, the program's side.
-/
import Derived.Test.YtnighnkkeiegnabChg
import Derived.Test.YtnighnkkeiegnabWireNum
namespace Go.Proofs.Ytnighnkkeiegnab
open Go Go.RowKit

set_option maxHeartbeats 1000000 in
theorem implBytes_any (W : World) (a : Option Addr) (len cap : Nat) (xs : List Int) (H : ISl W a len xs) (hl : len ≤ 9223372036854775807) :
    Calls Try.prog 75 #[.slice a len cap] W (fun e w' => e = .returned (.bool (decide (AreB xs))) ∧ W = w') := by
  obtain ⟨e, H2⟩ := H
  have HC := Lib.hid H2
  have HE := Lib.hid e
  clear H2 e
  by_cases hbig : (40 : Int) < (len : Int)
  · go_enter Try.func75, Try.ntmps75
    go_wp2
    go_ret
    have hnot : ¬ AreB xs := fun h => by have := h.2; have := HE.out; omega
    exact ⟨ret_bool (by simp [hnot]), rfl⟩
  go_enter Try.func75, Try.ntmps75
  go_wp2
  go_loopw [10] (fun i wr => ∃ k : Nat, k ≤ len ∧ i = .int .i64 (k : Int) ∧ (∀ j, j < k → 0 ≤ xs.getD j 0 ∧ xs.getD j 0 ≤ 255) ∧ W = wr) (fun i _ => len - (intOf i).toNat)
  case atStart => exact ⟨0, Nat.zero_le _, rfl, fun j hj => absurd hj (Nat.not_lt_zero _), rfl⟩
  case round =>
    obtain ⟨k, hk, rfl, hn, rfl⟩ := hrel
    have HN := Lib.hid hn
    clear hn
    by_cases hlt : k < len
    · have hki : (k : Int) < (len : Int) := by omega
      obtain ⟨b, off, rfl, hcell⟩ := HC.out.resolve_left (by omega)
      have hc := hcell k hlt
      clear hcell
      obtain ⟨x, hx⟩ : ∃ x : Int, x = xs.getD k 0 := ⟨_, rfl⟩
      rw [← hx] at hc
      have HX := Lib.hid hx
      clear hx
      by_cases hg : 0 ≤ x ∧ x ≤ 255
      · obtain ⟨g1, g2⟩ := hg
        go_wp2_with (first | (go_at_call 79; refine (rng_yes _ _ _ _ g1 g2).mono ?_; rintro e w' ⟨rfl, rfl⟩) | go_in)
        refine ⟨⟨k + 1, by omega, by go_num, ?_, by trivial⟩, by simp [intOf]; omega⟩
        intro j hj
        by_cases e : j = k
        · subst e; rw [← HX.out]; exact ⟨g1, g2⟩
        · exact HN.out j (by omega)
      · have HG := Lib.hid hg
        clear hg
        go_wp2_with (first | (go_at_call 79; refine (rng_no _ _ _ _ (by have := HG.out; omega)).mono ?_; rintro e w' ⟨rfl, rfl⟩) | go_in)
        go_ret
        have hnot : ¬ AreB xs := areB_bad (k := k) (by have := HE.out; omega) (by have h := HG.out; rw [HX.out] at h; omega)
        exact ⟨ret_bool (by simp [hnot]), rfl⟩
    · have hki : ¬ (k : Int) < (len : Int) := by omega
      have hyes : AreB xs := ⟨areB_all (fun j hj => HN.out j (by have := HE.out; omega)), by have := HE.out; omega⟩
      go_wp2
      go_ret
      exact ⟨ret_bool (by simp), rfl⟩

end Go.Proofs.Ytnighnkkeiegnab
