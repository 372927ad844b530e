/-
  Tags taken and freed, on both sides.
-/
import Derived.Test.YtgagbhkidponnaaTags
import Derived.Test.YtgagbhkidponnaaRTakeTag
import Derived.Test.YtgagbhkidponnaaRFreeTag
import Derived.Test.YtgagbhkidponnaaBits2Impl
import Derived.Deep.RegionHeld3
namespace Go.Proofs.Ytgagbhkidponnaa
open Go Go.RowKit
set_option linter.unusedVariables false

theorem owU_out {α : Type} [Inhabited α] {s : Shp α} {w : World} {lo hi : Nat} {v : Value} {xs : List α} (h : OwU w lo hi [] [own s v xs]) : OwL s w lo hi v xs := by
  obtain ⟨a, b, h1, h2, _, h, _⟩ := h
  exact OwL.wide h h1 h2
/-- the first k are busy, the next one is free -/
def FreeAt (xs : List Bool) (k : Nat) : Prop := k < xs.length ∧ xs.getD k false = false ∧ ∀ j, j < k → xs.getD j false = true
theorem free_or (xs : List Bool) : (∃ k, FreeAt xs k) ∨ ∀ j, j < xs.length → xs.getD j false = true := by
  have key : ∀ n, n ≤ xs.length → (∃ k, FreeAt xs k) ∨ ∀ j, j < n → xs.getD j false = true := by
    intro n
    induction n with
    | zero => exact fun _ => .inr (fun j hj => absurd hj (Nat.not_lt_zero _))
    | succ n ih =>
      intro hn
      rcases ih (by omega) with h | h
      · exact .inl h
      · cases e : xs.getD n false with
        | false => exact .inl ⟨n, hn, e, h⟩
        | true => exact .inr (fun j hj => by
            by_cases q : j = n
            · subst q; exact e
            · exact h j (by omega))
  exact key xs.length (Nat.le_refl _)

set_option maxHeartbeats 1000000 in
theorem least_yes (W : World) (v0 : Value) (xs : List Bool) (H0 : RdL shB W v0 xs) (hl0 : xs.length ≤ 1048576) (k0 : Nat) (hf : FreeAt xs k0) : Calls Try.prog 71 #[vTags v0] W (AnsN (.int .i64 (k0 : Int)) W) := by
  obtain ⟨a, cap, rfl, _, h1⟩ := rdB_in H0
  have HA := Lib.hid h1
  obtain ⟨hf1, hf2, hf3⟩ := hf
  have HF2 := Lib.hid hf2
  have HF3 := Lib.hid hf3
  clear hf2 hf3
  obtain ⟨len, hlen⟩ : ∃ len, len = xs.length := ⟨_, rfl⟩
  have HE := Lib.hid hlen
  rw [← hlen] at hl0 ⊢
  clear H0 h1 hlen
  unfold vTags
  have hA := Lib.hid (heap_alloc_new W (.cells #[.slice a len cap] 57))
  have q0 : (W.alloc (.cells #[.slice a len cap] 57)).cell? ⟨W.heap.size, 0, none⟩ = some (.slice a len cap) := cell_of_row _ _ 0 _ _ _ hA.out
  go_enter Try.func71, Try.ntmps71
  go_wp2
  go_loopw [3, 7] (fun z i wr => ∃ k : Nat, k ≤ k0 ∧ (∃ y, z = y) ∧ i = .int .i64 (k : Int) ∧ (W.alloc (.cells #[.slice a len cap] 57)).grownBy wr none) (fun _ i _ => len - (intOf i).toNat)
  case atStart => exact ⟨0, Nat.zero_le _, ⟨_, rfl⟩, rfl, gby_refl _ _⟩
  case round =>
    obtain ⟨k, hk, ⟨y, rfl⟩, rfl, hg⟩ := hrel
    have HG := Lib.hid hg
    have k1 := hg.cell q0 (by simp)
    clear hg
    by_cases hlt : k < k0
    · skip
      have hki : (k : Int) < (len : Int) := by have := HE.out; omega
      have hk0 : (0 : Int) ≤ (k : Int) := by omega
      have htn : ((k : Int)).toNat = k := by omega
      have hke : k < xs.length := by have := HE.out; omega
      obtain ⟨b, off, rfl, hcell⟩ := HA.out.resolve_left (by omega)
      have k2 := HG.out.cell (show (W.alloc (.cells #[.slice (some ⟨b, off, none⟩) len cap] 57)).cell? ⟨b, off + k, none⟩ = _ from (gby_alloc (gby_refl W none) _).cell (hcell k hke) (by simp)) (by simp)
      clear hcell
      rw [HF3.out k hlt] at k2
      go_wp2
      exact ⟨⟨k + 1, by omega, ⟨_, rfl⟩, by go_num, HG.out⟩, by simp [intOf]; omega⟩
    · obtain rfl : k = k0 := by omega
      have hki : (k : Int) < (len : Int) := by have := HE.out; omega
      have hk0 : (0 : Int) ≤ (k : Int) := by omega
      have htn : ((k : Int)).toNat = k := by omega
      have hke : k < xs.length := by have := HE.out; omega
      obtain ⟨b, off, rfl, hcell⟩ := HA.out.resolve_left (by omega)
      have k2 := HG.out.cell (show (W.alloc (.cells #[.slice (some ⟨b, off, none⟩) len cap] 57)).cell? ⟨b, off + k, none⟩ = _ from (gby_alloc (gby_refl W none) _).cell (hcell k hke) (by simp)) (by simp)
      clear hcell
      rw [HF2.out] at k2
      go_wp2
      go_ret
      exact ⟨rfl, gby_trans (gby_alloc (gby_refl W none) _) HG.out⟩

set_option maxHeartbeats 1000000 in
theorem least_no (W : World) (v0 : Value) (xs : List Bool) (H0 : RdL shB W v0 xs) (hl0 : xs.length ≤ 1048576) (hf : ∀ j, j < xs.length → xs.getD j false = true) : Calls Try.prog 71 #[vTags v0] W (AnsN (.int .i64 (-1)) W) := by
  obtain ⟨a, cap, rfl, _, h1⟩ := rdB_in H0
  have HA := Lib.hid h1
  have HF3 := Lib.hid hf
  clear hf
  obtain ⟨len, hlen⟩ : ∃ len, len = xs.length := ⟨_, rfl⟩
  have HE := Lib.hid hlen
  rw [← hlen] at hl0 ⊢
  clear H0 h1 hlen
  unfold vTags
  have hA := Lib.hid (heap_alloc_new W (.cells #[.slice a len cap] 57))
  have q0 : (W.alloc (.cells #[.slice a len cap] 57)).cell? ⟨W.heap.size, 0, none⟩ = some (.slice a len cap) := cell_of_row _ _ 0 _ _ _ hA.out
  go_enter Try.func71, Try.ntmps71
  go_wp2
  go_loopw [3, 7] (fun z i wr => ∃ k : Nat, k ≤ len ∧ (∃ y, z = y) ∧ i = .int .i64 (k : Int) ∧ (W.alloc (.cells #[.slice a len cap] 57)).grownBy wr none) (fun _ i _ => len - (intOf i).toNat)
  case atStart => exact ⟨0, Nat.zero_le _, ⟨_, rfl⟩, rfl, gby_refl _ _⟩
  case round =>
    obtain ⟨k, hk, ⟨y, rfl⟩, rfl, hg⟩ := hrel
    have HG := Lib.hid hg
    have k1 := hg.cell q0 (by simp)
    clear hg
    by_cases hlt : k < len
    · skip
      have hki : (k : Int) < (len : Int) := by have := HE.out; omega
      have hk0 : (0 : Int) ≤ (k : Int) := by omega
      have htn : ((k : Int)).toNat = k := by omega
      have hke : k < xs.length := by have := HE.out; omega
      obtain ⟨b, off, rfl, hcell⟩ := HA.out.resolve_left (by omega)
      have k2 := HG.out.cell (show (W.alloc (.cells #[.slice (some ⟨b, off, none⟩) len cap] 57)).cell? ⟨b, off + k, none⟩ = _ from (gby_alloc (gby_refl W none) _).cell (hcell k hke) (by simp)) (by simp)
      clear hcell
      rw [HF3.out k hke] at k2
      go_wp2
      exact ⟨⟨k + 1, by omega, ⟨_, rfl⟩, by go_num, HG.out⟩, by simp [intOf]; omega⟩
    · have hki : ¬ (k : Int) < (len : Int) := by omega
      go_wp2
      go_ret
      exact ⟨rfl, gby_trans (gby_alloc (gby_refl W none) _) HG.out⟩

set_option maxHeartbeats 1000000 in
theorem free_any (W : World) (lo hi : Nat) (v0 : Value) (xs : List Bool) (H0 : OwL shB W lo hi v0 xs) (hhi : hi ≤ W.heap.size) (k : Nat) (hk : k < xs.length) (hl0 : xs.length ≤ 1048576) :
    Calls Try.prog 73 #[vTags v0, .int .i64 (k : Int)] W (fun e w' => e = .returned (.bool (xs.getD k false)) ∧ OwL shB w' lo hi v0 (xs.set k false) ∧ Chg W w' lo hi) := by
  obtain ⟨b, off, c, rfl, _⟩ := owB_at H0 k hk
  have h2 := owB_at (H0.grow (gby_alloc (gby_refl W none) (.cells #[.slice (some ⟨b, off, none⟩) xs.length c] 57))) k hk
  obtain ⟨b', off', c', hv, s1, s2, s3, s4, s5⟩ := h2
  injection hv with e1 e2 e3
  injection e1 with e1
  injection e1 with e4 e5
  subst e4 e5 e3
  have s5 := s5 false
  obtain ⟨len, hlen⟩ : ∃ len, len = xs.length := ⟨_, rfl⟩
  have hkl : k < len := by omega
  have S5 := Lib.hid s5
  rw [← hlen] at hl0
  generalize xs.getD k false = x at s3 ⊢
  have hA := Lib.hid (heap_alloc_new W (.cells #[.slice (some ⟨b, off, none⟩) len c] 57))
  have q0 : (W.alloc (.cells #[.slice (some ⟨b, off, none⟩) len c] 57)).cell? ⟨W.heap.size, 0, none⟩ = some (.slice (some ⟨b, off, none⟩) len c) := cell_of_row _ _ 0 _ _ _ hA.out
  rw [← hlen] at s3 s4 S5 ⊢
  have hki : (k : Int) < (len : Int) := by omega
  have hk0 : (0 : Int) ≤ (k : Int) := by omega
  have htn : ((k : Int)).toNat = k := by omega
  have HLN := Lib.hid hlen
  clear H0 s5 hlen hk
  unfold vTags
  go_enter Try.func73, Try.ntmps73
  go_wp2
  go_ret
  exact ⟨rfl, S5.out.1, chg_trans (chg_gby (gby_alloc (gby_refl W none) _) lo hi) S5.out.2⟩

theorem isTag_yes (x : Int) (W : World) (h1 : 0 ≤ x) (h2 : x ≤ 7) : Calls Try.prog 72 #[.int .i64 x] W fun e w' => e = .returned (.bool true) ∧ W = w' := by
  go_enter Try.func72, Try.ntmps72
  go_wp2_with fail
  go_at_call 62
  refine (rng_yes _ _ _ _ (by omega) (by omega)).mono ?_
  rintro e w1 ⟨rfl, rfl⟩
  go_wp2
  go_ret
  exact ⟨rfl, rfl⟩
theorem isTag_no (x : Int) (W : World) (h : x < 0 ∨ 7 < x) : Calls Try.prog 72 #[.int .i64 x] W fun e w' => e = .returned (.bool false) ∧ W = w' := by
  go_enter Try.func72, Try.ntmps72
  go_wp2_with fail
  go_at_call 62
  refine (rng_no _ _ _ _ (by omega)).mono ?_
  rintro e w1 ⟨rfl, rfl⟩
  go_wp2
  go_ret
  exact ⟨rfl, rfl⟩

end Go.Proofs.Ytgagbhkidponnaa
