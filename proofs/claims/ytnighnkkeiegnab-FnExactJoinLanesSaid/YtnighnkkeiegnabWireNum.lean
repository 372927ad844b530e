/-
  Contracts of bytes: AreBytes and SplitWord.
-/
import Derived.Test.YtnighnkkeiegnabInts
namespace Go.Proofs.Ytnighnkkeiegnab
open Go Go.RowKit

/-- the numbers are bytes, and not too many -/
def AreB (xs : List Int) : Prop := (∀ x ∈ xs, 0 ≤ x ∧ x ≤ 255) ∧ xs.length ≤ 40
instance (xs : List Int) : Decidable (AreB xs) := inferInstanceAs (Decidable ((∀ x ∈ xs, _) ∧ _))

theorem areB_bad {xs : List Int} {k : Nat} (hk : k < xs.length) (h : xs.getD k 0 < 0 ∨ 255 < xs.getD k 0) : ¬ AreB xs := by
  intro ha
  rw [List.getD_eq_getElem?_getD, List.getElem?_eq_getElem hk] at h
  have := ha.1 _ (List.getElem_mem hk)
  simp at h; omega

theorem areB_all {xs : List Int} (h : ∀ k, k < xs.length → 0 ≤ xs.getD k 0 ∧ xs.getD k 0 ≤ 255) : ∀ x ∈ xs, 0 ≤ x ∧ x ≤ 255 := by
  intro x hx
  obtain ⟨k, hk, rfl⟩ := List.mem_iff_getElem.1 hx
  have := h k hk
  rw [List.getD_eq_getElem?_getD, List.getElem?_eq_getElem hk] at this
  simpa using this

theorem areB_at {xs : List Int} (h : AreB xs) {k : Nat} (hk : k < xs.length) : 0 ≤ xs.getD k 0 ∧ xs.getD k 0 ≤ 255 := by
  rw [List.getD_eq_getElem?_getD, List.getElem?_eq_getElem hk]
  exact h.1 _ (List.getElem_mem hk)

set_option maxHeartbeats 1000000 in
theorem specBytes_any (W : World) (a : Option Addr) (len cap : Nat) (xs : List Int) (H : ISl W a len xs) (hl : len ≤ 2000000) :
    Calls Try.prog 64 #[.slice a len cap] W (fun e w' => e = .returned (.bool (decide (AreB xs))) ∧ W = w') := by
  obtain ⟨e, H2⟩ := H
  have HC := Lib.hid H2
  have HE := Lib.hid e
  clear H2 e
  go_enter Try.func64, Try.ntmps64
  go_wp2
  go_loopw [3] (fun i wr => ∃ k : Nat, k ≤ len ∧ i = .int .i64 (k : Int) ∧ (∀ j, j < k → 0 ≤ xs.getD j 0 ∧ xs.getD j 0 ≤ 255) ∧ W = wr) (fun i _ => len - (intOf i).toNat)
  case atStart => exact ⟨0, Nat.zero_le _, rfl, fun j hj => absurd hj (Nat.not_lt_zero _), rfl⟩
  case round =>
    obtain ⟨k, hk, rfl, hn, rfl⟩ := hrel
    have HN := Lib.hid hn
    clear hn
    by_cases hlt : k < len
    · have hki : (k : Int) < (len : Int) := by omega
      obtain ⟨b, off, rfl, hcell⟩ := HC.out.resolve_left (by omega)
      have hc := hcell k hlt
      clear hcell
      obtain ⟨x, hx⟩ : ∃ x : Int, x = xs.getD k 0 := ⟨_, rfl⟩
      rw [← hx] at hc
      have HX := Lib.hid hx
      clear hx
      by_cases hg : 0 ≤ x ∧ x ≤ 255
      · obtain ⟨g1, g2⟩ := hg
        go_wp2_with (first | (go_at_call 81; refine (in_yes _ _ _ _ g1 g2).mono ?_; rintro e w' ⟨rfl, rfl⟩) | go_in)
        refine ⟨⟨k + 1, by omega, by go_num, ?_, by trivial⟩, by simp [intOf]; omega⟩
        intro j hj
        by_cases e : j = k
        · subst e; rw [← HX.out]; exact ⟨g1, g2⟩
        · exact HN.out j (by omega)
      · have HG := Lib.hid hg
        clear hg
        go_wp2_with (first | (go_at_call 81; refine (in_no _ _ _ _ (by have := HG.out; omega)).mono ?_; rintro e w' ⟨rfl, rfl⟩) | go_in)
        go_ret
        have hnot : ¬ AreB xs := areB_bad (k := k) (by have := HE.out; omega) (by have h := HG.out; rw [HX.out] at h; omega)
        exact ⟨ret_bool (by simp [hnot]), rfl⟩
    · have hki : ¬ (k : Int) < (len : Int) := by omega
      have hall := areB_all (xs := xs) (fun j hj => HN.out j (by have := HE.out; omega))
      have HA := Lib.hid hall
      clear hall
      go_wp2
      go_ret
      have hd : AreB xs ↔ (len : Int) ≤ 40 := ⟨fun h => by have := h.2; have := HE.out; omega, fun h => ⟨HA.out, by have := HE.out; omega⟩⟩
      exact ⟨ret_bool (decide_eq_decide.2 hd.symm), rfl⟩

end Go.Proofs.Ytnighnkkeiegnab
