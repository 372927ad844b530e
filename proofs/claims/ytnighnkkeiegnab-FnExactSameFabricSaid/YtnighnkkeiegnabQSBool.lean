/-
  Slices of truth values as shapes: the law's functions on them.
-/
import Derived.Test.YtnighnkkeiegnabShpI
import Derived.Test.YtnighnkkeiegnabBitsSpec
import Derived.Deep.QuietTactic
namespace Go.Proofs.Ytnighnkkeiegnab
open Go Go.RowKit
set_option linter.unusedVariables false

set_option maxRecDepth 100000 in
theorem infoBool : (Try.prog.info? 4).map (fun i => (i.zero, i.size, i.bytes)) = some (some (.bool false), 1, 1) := by kernel_rfl

theorem szL_B (xs : List Bool) : szL shB xs = xs.length := by
  unfold szL
  have : (xs.map shB.size).sum = 0 := by induction xs with | nil => rfl | cons x xs ih => simpa [shB] using ih
  omega
theorem ecL_B (xs : List Bool) : ecL shB xs = xs.length := by
  unfold ecL
  induction xs with | nil => rfl | cons x xs ih => simp only [List.map_cons, List.sum_cons, ih, List.length_cons]; show 1 + _ = _; omega
theorem emL_B (m : Nat) (xs : List Bool) (k : Nat) (hk : k < xs.length) : (emL shB m xs).getD k false = ((m + k) % 3 == 0) := by
  have := emL_getD shB m xs k hk
  rw [ecL_B, List.length_take, Nat.min_eq_left (by omega)] at this
  exact this

/-- truth values, read -/
def RdB (w : World) (a : Option Addr) (xs : List Bool) : Prop := xs.length = 0 ∨ ∃ b off, a = some ⟨b, off, none⟩ ∧ ∀ k, k < xs.length → w.cell? ⟨b, off + k, none⟩ = some (.bool (xs.getD k false))
theorem rdB_in {w : World} {v : Value} {xs : List Bool} (H : RdL shB w v xs) : ∃ a cap, v = .slice a xs.length cap ∧ CapOk a xs.length cap ∧ RdB w a xs := by
  obtain ⟨a, cap, rfl, hc, _, h⟩ := H
  refine ⟨a, cap, rfl, hc, ?_⟩
  rcases h with h0 | ⟨b, off, ha, h⟩
  · exact .inl h0
  · refine .inr ⟨b, off, ha, fun k hk => ?_⟩
    obtain ⟨cs, h1, h2⟩ := h k hk
    obtain rfl : cs = [.bool (xs.getD k false)] := h2
    have := at_one h1
    rwa [show shB.n = 1 from rfl, Nat.mul_one] at this
/-- .. owned -/
def OwB (w : World) (a : Option Addr) (xs : List Bool) : Prop := xs.length = 0 ∨ ∃ b off C t, a = some ⟨b, off, none⟩ ∧ w.heap[b]? = some (.cells C t (0, 0)) ∧ ∀ k, k < xs.length → C[off + k]? = some (.bool (xs.getD k false))
theorem owB_in {w : World} {lo hi : Nat} {v : Value} {xs : List Bool} (H : OwL shB w lo hi v xs) : ∃ a cap, v = .slice a xs.length cap ∧ CapOk a xs.length cap ∧ (∀ p, a = some p → lo ≤ p.block ∧ p.block < hi) ∧ OwB w a xs := by
  obtain ⟨a, cap, rfl, hc, _, hp, h⟩ := H
  refine ⟨a, cap, rfl, hc, hp, ?_⟩
  rcases h with h0 | ⟨b, off, P, Q, C, t, ha, h3, h4, h5⟩
  · exact .inl h0
  · refine .inr ⟨b, off, C, t, ha, h3, fun k hk => ?_⟩
    obtain ⟨_, _, _, cs, q1, q2⟩ := h4 k hk
    obtain rfl : cs = [.bool (xs.getD k false)] := q2
    have := q1 0 (by simp)
    rwa [show shB.n = 1 from rfl, Nat.mul_one] at this
theorem owB_out {w : World} {lo hi cap n : Nat} {a : Option Addr} {xs : List Bool} (hn : n = xs.length) (hm : xs.length ≤ 9223372036854775807) (hc : CapOk a xs.length cap) (hp : ∀ p, a = some p → lo ≤ p.block ∧ p.block < hi) (h : OwB w a xs) : OwL shB w lo hi (.slice a n cap) xs := by
  subst hn
  refine ⟨a, cap, rfl, hc, hm, hp, ?_⟩
  rcases h with h0 | ⟨b, off, C, t, ha, hb, hC⟩
  · exact .inl h0
  · have := hp _ ha
    refine .inr ⟨b, off, fun _ => b, fun _ => b, C, t, ha, hb, fun k hk => ⟨this.1, Nat.le_of_lt this.2, .inr (Nat.le_refl _), _, fun j hj => ?_, rfl⟩, fun j k _ _ => .inl (Nat.le_refl _)⟩
    simp only [List.length_cons, List.length_nil] at hj
    obtain rfl : j = 0 := by omega
    rw [show shB.n = 1 from rfl, Nat.mul_one]
    exact hC k hk

theorem szBoolS_d (W : World) (n : Int) (v : Value) (xs : List Bool) (H : RdL shB W v xs) (hn : n ≤ 1048576) (h0 : 0 ≤ n) :
    Calls Try.prog 88 #[v, .int .i64 n] W (AnsN (.int .i64 (lessN n (szL shB xs))) W) := by
  rw [szL_B]
  have hc := H.max
  obtain ⟨a, cap, rfl, _⟩ := H
  generalize xs.length = len at hc
  by_cases h1 : n - (len : Int) < 0
  · rw [show lessN n len = -1 from if_pos (by omega)]
    go_enter Try.func88, Try.ntmps88
    go_wp2
    go_ret
    exact ⟨rfl, gby_refl _ _⟩
  · rw [show lessN n len = n - (len : Int) from (if_neg (by omega)).trans (by omega)]
    go_enter Try.func88, Try.ntmps88
    go_wp2
    go_ret
    exact ⟨rfl, gby_refl _ _⟩

set_option maxHeartbeats 1000000 in
theorem eqBoolS_d (W : World) (v1 v2 : Value) (xs : List Bool) (H1 : RdL shB W v1 xs) (H2 : RdL shB W v2 xs) (hl : szL shB xs ≤ 1048576) :
    Calls Try.prog 95 #[v1, v2] W (AnsN (.bool true) W) := by
  rw [szL_B] at hl
  obtain ⟨a1, c1, rfl, _, h1⟩ := rdB_in H1
  obtain ⟨a2, c2, rfl, _, h2⟩ := rdB_in H2
  have HA := Lib.hid h1
  have HB := Lib.hid h2
  obtain ⟨len, hlen⟩ : ∃ len, len = xs.length := ⟨_, rfl⟩
  have HE := Lib.hid hlen
  rw [← hlen] at hl ⊢
  clear H1 H2 h1 h2 hlen
  go_enter Try.func95, Try.ntmps95
  go_wp2
  go_loopw [5] (fun i wr => ∃ k : Nat, k ≤ len ∧ i = .int .i64 (k : Int) ∧ W.grownBy wr none) (fun i _ => len - (intOf i).toNat)
  case atStart => exact ⟨0, Nat.zero_le _, rfl, gby_refl _ _⟩
  case round =>
    obtain ⟨k, hk, rfl, hg⟩ := hrel
    have HG := Lib.hid hg
    clear hg
    by_cases hlt : k < len
    · have hki : (k : Int) < (len : Int) := by omega
      have hk0 : (0 : Int) ≤ (k : Int) := by omega
      have htn : ((k : Int)).toNat = k := by omega
      have hke : k < xs.length := by have := HE.out; omega
      obtain ⟨b, off, rfl, hcell⟩ := HA.out.resolve_left (by omega)
      obtain ⟨b', off', rfl, hcell'⟩ := HB.out.resolve_left (by omega)
      have k1 := HG.out.cell (hcell k hke) (by simp)
      have k2 := HG.out.cell (hcell' k hke) (by simp)
      generalize xs.getD k false = x at k1 k2
      clear hcell hcell'
      cases x
      all_goals
        go_wp2
        try go_quiet (fail)
        go_wp2
        exact ⟨⟨k + 1, by omega, by go_num, by repeat (first | exact HG.out | with_reducible refine gby_drewN ?_ _)⟩, by simp [intOf]; omega⟩
    · have hki : ¬ (k : Int) < (len : Int) := by omega
      go_wp2
      go_ret
      exact ⟨rfl, HG.out⟩

set_option maxRecDepth 8000 in
set_option maxHeartbeats 2000000 in
theorem toBoolS_d (W : World) (v : Value) (xs : List Bool) (H : RdL shB W v xs) (hl : szL shB xs ≤ 1048576) :
    Calls Try.prog 91 #[v] W (fun e w' => ∃ v', e = .returned v' ∧ OwL shB w' W.heap.size w'.heap.size v' xs ∧ W.grownBy w' none) := by
  rw [szL_B] at hl
  obtain ⟨a1, c1, rfl, _, h1⟩ := rdB_in H
  have HA := Lib.hid h1
  obtain ⟨len, hlen⟩ : ∃ len, len = xs.length := ⟨_, rfl⟩
  have HE := Lib.hid hlen
  rw [← hlen] at hl ⊢
  clear H h1 hlen
  obtain ⟨i0, hi0, hz0, hz1, hz2⟩ := info_parts infoBool
  go_enter Try.func91, Try.ntmps91
  go_wp2_with (at_make; refine wpList_make_full _ rfl _ _ 26 rfl W.heap.size 4 i0 (.bool false) 1 Try.underlying26 hi0 hz0 hz1 .i64 .i64 _ _ len rfl rfl rfl rfl (by rw [hz2]; omega) (by unfold maxLen; omega) (Nat.le_refl _) ?_; intro w0 hown0 hgrow0; have HO0 := Lib.hid hown0; have HG0 := Lib.hid hgrow0; clear hown0 hgrow0)
  go_loopw [4] (fun i wr => ∃ (k : Nat) (C : Array Value), k ≤ len ∧ i = .int .i64 (k : Int) ∧ C.size = len * 1 ∧ wr.heap[W.heap.size]? = some (.cells C 4 (0, 0)) ∧ (∀ j, j < k → C[j]? = some (.bool (xs.getD j false))) ∧ W.grownBy wr none) (fun i _ => len - (intOf i).toNat)
  case atStart =>
    obtain ⟨C, hC, hs⟩ := row_of_own HO0.out
    exact ⟨0, C, Nat.zero_le _, rfl, hs, hC, fun j hj => absurd hj (Nat.not_lt_zero _), HG0.out⟩
  case round =>
    obtain ⟨k, C, hk, rfl, hCs, hrow, hcp, hg⟩ := hrel
    have HR := Lib.hid hrow
    have HG := Lib.hid hg
    have HP := Lib.hid hcp
    have HCS := Lib.hid hCs
    clear hrow hg hcp hCs
    by_cases hlt : k < len
    · have hki : (k : Int) < (len : Int) := by omega
      have hk0 : (0 : Int) ≤ (k : Int) := by omega
      have htn : ((k : Int)).toNat = k := by omega
      have hke : k < xs.length := by have := HE.out; omega
      obtain ⟨b, off, rfl, hcell⟩ := HA.out.resolve_left (by omega)
      have k1 := HG.out.cell (hcell k hke) (by simp)
      obtain ⟨x, hx⟩ : ∃ x, x = xs.getD k false := ⟨_, rfl⟩
      rw [← hx] at k1
      have HX := Lib.hid hx
      obtain ⟨y0, hy0⟩ : ∃ y, C[k]? = some y := ⟨_, Array.getElem?_eq_getElem (by have := HCS.out; omega)⟩
      have t0_ : wr.cell? ⟨W.heap.size, k, none⟩ = some y0 := (cell_of_row wr _ _ _ _ _ HR.out).trans hy0
      have u0_ : wr.frozen? ⟨W.heap.size, k, none⟩ = false := frozen_of_row wr _ _ _ _ HR.out
      clear hy0 hcell hx
      go_wp2
      refine ⟨⟨k + 1, C.setIfInBounds k (.bool x), by omega, by go_num, by simpa using HCS.out, heap_setCell_same wr _ k C _ _ HR.out, ?_, gby_setnew HG.out _ (Nat.le_refl _) _⟩, by simp [intOf]; omega⟩
      intro j hj
      rw [Array.getElem?_setIfInBounds]
      by_cases e : k = j
      · subst e
        rw [if_pos rfl, if_pos (by have := HCS.out; omega), HX.out]
      · rw [if_neg e]
        exact HP.out j (by omega)
    · have hki : ¬ (k : Int) < (len : Int) := by omega
      obtain rfl : k = len := by omega
      go_wp2
      go_ret
      refine ⟨_, rfl, owB_out HE.out (by have := HE.out; omega) ⟨(fun e => by cases e), by have := HE.out; omega⟩ (fun p hp => by cases hp; exact ⟨Nat.le_refl _, block_in HR.out⟩) (.inr ⟨_, 0, C, _, rfl, HR.out, fun j hj => ?_⟩), HG.out⟩
      rw [Nat.zero_add]
      exact HP.out j (by have := HE.out; omega)

theorem mod3 (n : Nat) : Int.tmod (n : Int) 3 = ((n % 3 : Nat) : Int) := by
  rw [Int.tmod_eq_emod_of_nonneg (by omega)]; omega
theorem mod3e (m k : Nat) : ((((m : Int) + (k : Int)) % 3 == 0) : Bool) = ((m + k) % 3 == 0) := by
  by_cases h : (m + k) % 3 = 0
  · rw [h, show ((m : Int) + (k : Int)) % 3 = 0 by omega]; rfl
  · rw [beq_eq_false_iff_ne.2 h, beq_eq_false_iff_ne.2 (by omega)]
theorem mod3b (n : Nat) : ((((n % 3 : Nat) : Int) == 0) : Bool) = (n % 3 == 0) := by
  by_cases h : n % 3 = 0
  · rw [h]; rfl
  · rw [beq_eq_false_iff_ne.2 h, beq_eq_false_iff_ne.2 (by omega)]

end Go.Proofs.Ytnighnkkeiegnab
