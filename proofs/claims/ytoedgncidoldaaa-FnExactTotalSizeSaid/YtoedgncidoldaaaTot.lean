/-
  Sums of sizes, on both sides.
-/
import Derived.Test.YtoedgncidoldaaaRTotalSize
import Derived.Test.YtoedgncidoldaaaBitsSpec
namespace Go.Proofs.Ytoedgncidoldaaa
open Go Go.RowKit
set_option linter.unusedVariables false

/-- the sum of the first k, as the machine has it -/
def sumW (xs : List Int) (k : Nat) : Int := (xs.take k).foldl (fun a x => wrap64 (a + x)) 0
theorem sumW_succ (xs : List Int) (k : Nat) (hk : k < xs.length) : sumW xs (k + 1) = wrap64 (sumW xs k + xs.getD k 0) := by
  unfold sumW
  rw [List.take_succ_eq_append_getElem hk, List.foldl_append, List.getD_eq_getElem?_getD, List.getElem?_eq_getElem hk]; rfl

set_option maxHeartbeats 1000000 in
theorem specTot (W : World) (v : Value) (xs : List Int) (H : RdL shI W v xs) (hl : szL shI xs ≤ 1048576) : Calls Try.prog 19 #[v] W (AnsN (.int .i64 (sumW xs xs.length)) W) := by
  rw [szL_I] at hl
  obtain ⟨a, cap, rfl, ⟨_, h1⟩, _⟩ := rdI_in H
  have HA := Lib.hid h1
  obtain ⟨len, hlen⟩ : ∃ len, len = xs.length := ⟨_, rfl⟩
  have HE := Lib.hid hlen
  rw [← hlen] at hl HA ⊢
  clear H h1 hlen
  go_enter Try.func19, Try.ntmps19
  go_wp2
  go_loopw [3, 4] (fun n i wr => ∃ k : Nat, k ≤ len ∧ n = .int .i64 (sumW xs k) ∧ i = .int .i64 (k : Int) ∧ W.grownBy wr none) (fun _ i _ => len - (intOf i).toNat)
  case atStart => exact ⟨0, Nat.zero_le _, rfl, rfl, gby_refl _ _⟩
  case round =>
    obtain ⟨k, hk, rfl, rfl, hg⟩ := hrel
    have HG := Lib.hid hg
    clear hg
    by_cases hlt : k < len
    · have hki : (k : Int) < (len : Int) := by omega
      have hk0 : (0 : Int) ≤ (k : Int) := by omega
      have htn : ((k : Int)).toNat = k := by omega
      obtain ⟨b, off, rfl, hcell⟩ := HA.out.resolve_left (by omega)
      have k2 := HG.out.cell (hcell k hlt) (by simp)
      have hs := sumW_succ xs k (by have := HE.out; omega)
      generalize xs.getD k 0 = x at k2 hs
      have HS := Lib.hid hs
      generalize sumW xs k = s at HS ⊢
      clear hcell hs
      go_wp2
      exact ⟨⟨k + 1, by omega, by rw [HS.out], by go_num, HG.out⟩, by simp [intOf]; omega⟩
    · have hki : ¬ (k : Int) < (len : Int) := by omega
      obtain rfl : k = len := by omega
      go_wp2
      go_ret
      exact ⟨rfl, HG.out⟩

set_option maxHeartbeats 1000000 in
theorem implTot (W : World) (v : Value) (xs : List Int) (H : RdL shI W v xs) (hl : szL shI xs ≤ 1048576) : Calls Try.prog 20 #[v] W (AnsN (.int .i64 (sumW xs xs.length)) W) := by
  rw [szL_I] at hl
  obtain ⟨a, cap, rfl, ⟨_, h1⟩, _⟩ := rdI_in H
  have HA := Lib.hid h1
  obtain ⟨len, hlen⟩ : ∃ len, len = xs.length := ⟨_, rfl⟩
  have HE := Lib.hid hlen
  rw [← hlen] at hl HA ⊢
  clear H h1 hlen
  go_enter Try.func20, Try.ntmps20
  go_wp2
  go_loopw [3, 5, 8] (fun n y i wr => ∃ k : Nat, k ≤ len ∧ n = .int .i64 (sumW xs k) ∧ (∃ z, y = z) ∧ i = .int .i64 (k : Int) ∧ W.grownBy wr none) (fun _ _ i _ => len - (intOf i).toNat)
  case atStart => exact ⟨0, Nat.zero_le _, rfl, ⟨_, rfl⟩, rfl, gby_refl _ _⟩
  case round =>
    obtain ⟨k, hk, rfl, ⟨z, rfl⟩, rfl, hg⟩ := hrel
    have HG := Lib.hid hg
    clear hg
    by_cases hlt : k < len
    · have hki : (k : Int) < (len : Int) := by omega
      have hk0 : (0 : Int) ≤ (k : Int) := by omega
      have htn : ((k : Int)).toNat = k := by omega
      obtain ⟨b, off, rfl, hcell⟩ := HA.out.resolve_left (by omega)
      have k2 := HG.out.cell (hcell k hlt) (by simp)
      have hs := sumW_succ xs k (by have := HE.out; omega)
      generalize xs.getD k 0 = x at k2 hs
      have HS := Lib.hid hs
      generalize sumW xs k = s at HS ⊢
      clear hcell hs
      go_wp2
      exact ⟨⟨k + 1, by omega, by rw [HS.out], ⟨_, rfl⟩, by go_num, HG.out⟩, by simp [intOf]; omega⟩
    · have hki : ¬ (k : Int) < (len : Int) := by omega
      obtain rfl : k = len := by omega
      go_wp2
      go_ret
      exact ⟨rfl, HG.out⟩

theorem totalSize_both (xs0 : List Int) (h0 : szL shI xs0 ≤ 1048576) : ∃ (ir0 : Int), (∀ (W : World), ∀ u0, RdL shI W u0 xs0 → Calls Try.prog 19 #[u0] W (ResSTotalSize ir0 W)) ∧ ∀ (W : World), ∀ u0, RdL shI W u0 xs0 → Calls Try.prog 20 #[u0] W (ResITotalSize ir0 W) :=
  ⟨_, fun W u H => specTot W u xs0 H h0, fun W u H => implTot W u xs0 H h0⟩

end Go.Proofs.Ytoedgncidoldaaa
