/-
  Slices of truth values as shapes: the law's functions on them.
-/
import Derived.Test.YtomiicegkdogkaaShpI
import Derived.Test.YtomiicegkdogkaaBitsSpec
import Derived.Deep.QuietTactic
namespace Go.Proofs.Ytomiicegkdogkaa
open Go Go.RowKit
set_option linter.unusedVariables false

set_option maxRecDepth 100000 in
theorem infoBool : (Try.prog.info? 4).map (fun i => (i.zero, i.size, i.bytes)) = some (some (.bool false), 1, 1) := by kernel_rfl

theorem szL_B (xs : List Bool) : szL shB xs = xs.length := by
  unfold szL
  have : (xs.map shB.size).sum = 0 := by induction xs with | nil => rfl | cons x xs ih => simpa [shB] using ih
  omega
theorem ecL_B (xs : List Bool) : ecL shB xs = xs.length := by
  unfold ecL
  induction xs with | nil => rfl | cons x xs ih => simp only [List.map_cons, List.sum_cons, ih, List.length_cons]; show 1 + _ = _; omega
theorem emL_B (m : Nat) (xs : List Bool) (k : Nat) (hk : k < xs.length) : (emL shB m xs).getD k false = ((m + k) % 3 == 0) := by
  have := emL_getD shB m xs k hk
  rw [ecL_B, List.length_take, Nat.min_eq_left (by omega)] at this
  exact this

/-- truth values, read -/
def RdB (w : World) (a : Option Addr) (xs : List Bool) : Prop := xs.length = 0 ∨ ∃ b off, a = some ⟨b, off, none⟩ ∧ ∀ k, k < xs.length → w.cell? ⟨b, off + k, none⟩ = some (.bool (xs.getD k false))
theorem rdB_in {w : World} {v : Value} {xs : List Bool} (H : RdL shB w v xs) : ∃ a cap, v = .slice a xs.length cap ∧ CapOk a xs.length cap ∧ RdB w a xs := by
  obtain ⟨a, cap, rfl, hc, _, h⟩ := H
  refine ⟨a, cap, rfl, hc, ?_⟩
  rcases h with h0 | ⟨b, off, ha, h⟩
  · exact .inl h0
  · refine .inr ⟨b, off, ha, fun k hk => ?_⟩
    obtain ⟨cs, h1, h2⟩ := h k hk
    obtain rfl : cs = [.bool (xs.getD k false)] := h2
    have := at_one h1
    rwa [show shB.n = 1 from rfl, Nat.mul_one] at this
/-- .. owned -/
def OwB (w : World) (a : Option Addr) (xs : List Bool) : Prop := xs.length = 0 ∨ ∃ b off C t, a = some ⟨b, off, none⟩ ∧ w.heap[b]? = some (.cells C t (0, 0)) ∧ ∀ k, k < xs.length → C[off + k]? = some (.bool (xs.getD k false))
theorem owB_in {w : World} {lo hi : Nat} {v : Value} {xs : List Bool} (H : OwL shB w lo hi v xs) : ∃ a cap, v = .slice a xs.length cap ∧ CapOk a xs.length cap ∧ (∀ p, a = some p → lo ≤ p.block ∧ p.block < hi) ∧ OwB w a xs := by
  obtain ⟨a, cap, rfl, hc, _, hp, h⟩ := H
  refine ⟨a, cap, rfl, hc, hp, ?_⟩
  rcases h with h0 | ⟨b, off, P, Q, C, t, ha, h3, h4, h5⟩
  · exact .inl h0
  · refine .inr ⟨b, off, C, t, ha, h3, fun k hk => ?_⟩
    obtain ⟨_, _, _, cs, q1, q2⟩ := h4 k hk
    obtain rfl : cs = [.bool (xs.getD k false)] := q2
    have := q1 0 (by simp)
    rwa [show shB.n = 1 from rfl, Nat.mul_one] at this
theorem owB_out {w : World} {lo hi cap n : Nat} {a : Option Addr} {xs : List Bool} (hn : n = xs.length) (hm : xs.length ≤ 9223372036854775807) (hc : CapOk a xs.length cap) (hp : ∀ p, a = some p → lo ≤ p.block ∧ p.block < hi) (h : OwB w a xs) : OwL shB w lo hi (.slice a n cap) xs := by
  subst hn
  refine ⟨a, cap, rfl, hc, hm, hp, ?_⟩
  rcases h with h0 | ⟨b, off, C, t, ha, hb, hC⟩
  · exact .inl h0
  · have := hp _ ha
    refine .inr ⟨b, off, fun _ => b, fun _ => b, C, t, ha, hb, fun k hk => ⟨this.1, Nat.le_of_lt this.2, .inr (Nat.le_refl _), _, fun j hj => ?_, rfl⟩, fun j k _ _ => .inl (Nat.le_refl _)⟩
    simp only [List.length_cons, List.length_nil] at hj
    obtain rfl : j = 0 := by omega
    rw [show shB.n = 1 from rfl, Nat.mul_one]
    exact hC k hk

theorem szBoolS_d (W : World) (n : Int) (v : Value) (xs : List Bool) (H : RdL shB W v xs) (hn : n ≤ 1048576) (h0 : 0 ≤ n) :
    Calls Try.prog 59 #[v, .int .i64 n] W (AnsN (.int .i64 (lessN n (szL shB xs))) W) := by
  rw [szL_B]
  have hc := H.max
  obtain ⟨a, cap, rfl, _⟩ := H
  generalize xs.length = len at hc
  by_cases h1 : n - (len : Int) < 0
  · rw [show lessN n len = -1 from if_pos (by omega)]
    go_enter Try.func59, Try.ntmps59
    go_wp2
    go_ret
    exact ⟨rfl, gby_refl _ _⟩
  · rw [show lessN n len = n - (len : Int) from (if_neg (by omega)).trans (by omega)]
    go_enter Try.func59, Try.ntmps59
    go_wp2
    go_ret
    exact ⟨rfl, gby_refl _ _⟩

set_option maxHeartbeats 1000000 in
theorem eqBoolS_d (W : World) (v1 v2 : Value) (xs : List Bool) (H1 : RdL shB W v1 xs) (H2 : RdL shB W v2 xs) (hl : szL shB xs ≤ 1048576) :
    Calls Try.prog 66 #[v1, v2] W (AnsN (.bool true) W) := by
  rw [szL_B] at hl
  obtain ⟨a1, c1, rfl, _, h1⟩ := rdB_in H1
  obtain ⟨a2, c2, rfl, _, h2⟩ := rdB_in H2
  have HA := Lib.hid h1
  have HB := Lib.hid h2
  obtain ⟨len, hlen⟩ : ∃ len, len = xs.length := ⟨_, rfl⟩
  have HE := Lib.hid hlen
  rw [← hlen] at hl ⊢
  clear H1 H2 h1 h2 hlen
  go_enter Try.func66, Try.ntmps66
  go_wp2
  go_loopw [5] (fun i wr => ∃ k : Nat, k ≤ len ∧ i = .int .i64 (k : Int) ∧ W.grownBy wr none) (fun i _ => len - (intOf i).toNat)
  case atStart => exact ⟨0, Nat.zero_le _, rfl, gby_refl _ _⟩
  case round =>
    obtain ⟨k, hk, rfl, hg⟩ := hrel
    have HG := Lib.hid hg
    clear hg
    by_cases hlt : k < len
    · have hki : (k : Int) < (len : Int) := by omega
      have hk0 : (0 : Int) ≤ (k : Int) := by omega
      have htn : ((k : Int)).toNat = k := by omega
      have hke : k < xs.length := by have := HE.out; omega
      obtain ⟨b, off, rfl, hcell⟩ := HA.out.resolve_left (by omega)
      obtain ⟨b', off', rfl, hcell'⟩ := HB.out.resolve_left (by omega)
      have k1 := HG.out.cell (hcell k hke) (by simp)
      have k2 := HG.out.cell (hcell' k hke) (by simp)
      generalize xs.getD k false = x at k1 k2
      clear hcell hcell'
      cases x
      all_goals
        go_wp2
        try go_quiet (fail)
        go_wp2
        exact ⟨⟨k + 1, by omega, by go_num, by repeat (first | exact HG.out | with_reducible refine gby_drewN ?_ _)⟩, by simp [intOf]; omega⟩
    · have hki : ¬ (k : Int) < (len : Int) := by omega
      go_wp2
      go_ret
      exact ⟨rfl, HG.out⟩

set_option maxRecDepth 8000 in
set_option maxHeartbeats 2000000 in
theorem toBoolS_d (W : World) (v : Value) (xs : List Bool) (H : RdL shB W v xs) (hl : szL shB xs ≤ 1048576) :
    Calls Try.prog 62 #[v] W (fun e w' => ∃ v', e = .returned v' ∧ OwL shB w' W.heap.size w'.heap.size v' xs ∧ W.grownBy w' none) := by
  rw [szL_B] at hl
  obtain ⟨a1, c1, rfl, _, h1⟩ := rdB_in H
  have HA := Lib.hid h1
  obtain ⟨len, hlen⟩ : ∃ len, len = xs.length := ⟨_, rfl⟩
  have HE := Lib.hid hlen
  rw [← hlen] at hl ⊢
  clear H h1 hlen
  obtain ⟨i0, hi0, hz0, hz1, hz2⟩ := info_parts infoBool
  go_enter Try.func62, Try.ntmps62
  go_wp2_with (at_make; refine wpList_make_full _ rfl _ _ 22 rfl W.heap.size 4 i0 (.bool false) 1 Try.underlying22 hi0 hz0 hz1 .i64 .i64 _ _ len rfl rfl rfl rfl (by rw [hz2]; omega) (by unfold maxLen; omega) (Nat.le_refl _) ?_; intro w0 hown0 hgrow0; have HO0 := Lib.hid hown0; have HG0 := Lib.hid hgrow0; clear hown0 hgrow0)
  go_loopw [4] (fun i wr => ∃ (k : Nat) (C : Array Value), k ≤ len ∧ i = .int .i64 (k : Int) ∧ C.size = len * 1 ∧ wr.heap[W.heap.size]? = some (.cells C 4 (0, 0)) ∧ (∀ j, j < k → C[j]? = some (.bool (xs.getD j false))) ∧ W.grownBy wr none) (fun i _ => len - (intOf i).toNat)
  case atStart =>
    obtain ⟨C, hC, hs⟩ := row_of_own HO0.out
    exact ⟨0, C, Nat.zero_le _, rfl, hs, hC, fun j hj => absurd hj (Nat.not_lt_zero _), HG0.out⟩
  case round =>
    obtain ⟨k, C, hk, rfl, hCs, hrow, hcp, hg⟩ := hrel
    have HR := Lib.hid hrow
    have HG := Lib.hid hg
    have HP := Lib.hid hcp
    have HCS := Lib.hid hCs
    clear hrow hg hcp hCs
    by_cases hlt : k < len
    · have hki : (k : Int) < (len : Int) := by omega
      have hk0 : (0 : Int) ≤ (k : Int) := by omega
      have htn : ((k : Int)).toNat = k := by omega
      have hke : k < xs.length := by have := HE.out; omega
      obtain ⟨b, off, rfl, hcell⟩ := HA.out.resolve_left (by omega)
      have k1 := HG.out.cell (hcell k hke) (by simp)
      obtain ⟨x, hx⟩ : ∃ x, x = xs.getD k false := ⟨_, rfl⟩
      rw [← hx] at k1
      have HX := Lib.hid hx
      obtain ⟨y0, hy0⟩ : ∃ y, C[k]? = some y := ⟨_, Array.getElem?_eq_getElem (by have := HCS.out; omega)⟩
      have t0_ : wr.cell? ⟨W.heap.size, k, none⟩ = some y0 := (cell_of_row wr _ _ _ _ _ HR.out).trans hy0
      have u0_ : wr.frozen? ⟨W.heap.size, k, none⟩ = false := frozen_of_row wr _ _ _ _ HR.out
      clear hy0 hcell hx
      go_wp2
      refine ⟨⟨k + 1, C.setIfInBounds k (.bool x), by omega, by go_num, by simpa using HCS.out, heap_setCell_same wr _ k C _ _ HR.out, ?_, gby_setnew HG.out _ (Nat.le_refl _) _⟩, by simp [intOf]; omega⟩
      intro j hj
      rw [Array.getElem?_setIfInBounds]
      by_cases e : k = j
      · subst e
        rw [if_pos rfl, if_pos (by have := HCS.out; omega), HX.out]
      · rw [if_neg e]
        exact HP.out j (by omega)
    · have hki : ¬ (k : Int) < (len : Int) := by omega
      obtain rfl : k = len := by omega
      go_wp2
      go_ret
      refine ⟨_, rfl, owB_out HE.out (by have := HE.out; omega) ⟨(fun e => by cases e), by have := HE.out; omega⟩ (fun p hp => by cases hp; exact ⟨Nat.le_refl _, block_in HR.out⟩) (.inr ⟨_, 0, C, _, rfl, HR.out, fun j hj => ?_⟩), HG.out⟩
      rw [Nat.zero_add]
      exact HP.out j (by have := HE.out; omega)

theorem mod3 (n : Nat) : Int.tmod (n : Int) 3 = ((n % 3 : Nat) : Int) := by
  rw [Int.tmod_eq_emod_of_nonneg (by omega)]; omega
theorem mod3e (m k : Nat) : ((((m : Int) + (k : Int)) % 3 == 0) : Bool) = ((m + k) % 3 == 0) := by
  by_cases h : (m + k) % 3 = 0
  · rw [h, show ((m : Int) + (k : Int)) % 3 = 0 by omega]; rfl
  · rw [beq_eq_false_iff_ne.2 h, beq_eq_false_iff_ne.2 (by omega)]
theorem mod3b (n : Nat) : ((((n % 3 : Nat) : Int) == 0) : Bool) = (n % 3 == 0) := by
  by_cases h : n % 3 = 0
  · rw [h]; rfl
  · rw [beq_eq_false_iff_ne.2 h, beq_eq_false_iff_ne.2 (by omega)]

set_option maxRecDepth 8000 in
set_option maxHeartbeats 2000000 in
theorem markBoolS_d (w : World) (lo hi m : Nat) (v : Value) (xs : List Bool) (h1 : OwL shB w lo hi v xs) (hl : szL shB xs ≤ 1048576) (hm2 : m + ecL shB xs ≤ 900000000) :
    Calls Try.prog 68 #[v, .int .i64 (m : Int)] w (fun e w' => e = .returned (.int .i64 ((m + ecL shB xs : Nat) : Int)) ∧ OwL shB w' lo hi v (emL shB m xs) ∧ Chg w w' lo hi) := by
  rw [szL_B] at hl
  rw [ecL_B] at hm2 ⊢
  obtain ⟨a, cap, rfl, hc, hp, h⟩ := owB_in h1
  have HA := Lib.hid h
  have HK := Lib.hid hc
  have HP := Lib.hid hp
  obtain ⟨len, hlen⟩ : ∃ len, len = xs.length := ⟨_, rfl⟩
  have HE := Lib.hid hlen
  rw [← hlen] at hl hm2 ⊢
  clear h1 h hc hp hlen
  go_enter Try.func68, Try.ntmps68
  go_wp2
  go_loopw [1, 5] (fun q i wr => ∃ (k : Nat) (ys : List Bool), k ≤ len ∧ i = .int .i64 (k : Int) ∧ q = .int .i64 ((m + k : Nat) : Int) ∧ ys.length = len ∧ (∀ j, j < k → ys.getD j false = ((m + j) % 3 == 0)) ∧ OwB wr a ys ∧ Chg w wr lo hi) (fun _ i _ => len - (intOf i).toNat)
  case atStart => exact ⟨0, xs, Nat.zero_le _, rfl, rfl, HE.out.symm, fun j hj => absurd hj (Nat.not_lt_zero _), HA.out, chg_gby (gby_refl _ _) _ _⟩
  case round =>
    obtain ⟨k, ys, hk, rfl, rfl, hyl, hys, hown, hg⟩ := hrel
    have HG := Lib.hid hg
    have HY := Lib.hid hys
    have HL := Lib.hid hyl
    have HO := Lib.hid hown
    clear hg hown hys hyl
    by_cases hlt : k < len
    · obtain ⟨b, off, C, t, rfl, hb, hC⟩ := HO.out.resolve_left (by have := HL.out; omega)
      have hpb := HP.out _ rfl
      have HPB := Lib.hid hpb
      have hc1 := cell_of_row wr b (off + k) C t _ hb
      rw [hC k (by have := HL.out; omega)] at hc1
      have hf1 := frozen_of_row wr b (off + k) C t hb
      have HB := Lib.hid hb
      have HC := Lib.hid hC
      have hsz : off + k < C.size := by
        have := hC k (by have := HL.out; omega)
        rcases Nat.lt_or_ge (off + k) C.size with q | q
        · exact q
        · rw [Array.getElem?_eq_none q] at this; cases this
      have HSZ := Lib.hid hsz
      generalize ys.getD k false = y at hc1
      clear hb hC hsz hpb
      have hi0 : (0 : Int) ≤ (k : Int) := by omega
      have hi1 : (k : Int) < (len : Int) := by omega
      have htn : ((k : Int)).toNat = k := by omega
      go_wp2
      refine ⟨⟨k + 1, ys.set k ((m + k) % 3 == 0), by omega, by go_num, by go_num, by simp [HL.out], ?_, .inr ⟨b, off, C.setIfInBounds (off + k) (.bool (((m : Int) + (k : Int)) % 3 == 0)), t, rfl, ?_, ?_⟩, ?_⟩, by simp [intOf]; omega⟩
      · intro j hj
        have hlen := HL.out
        rw [List.getD_eq_getElem?_getD, List.getElem?_set]
        by_cases e : k = j
        · subst e
          rw [if_pos rfl, if_pos (by omega)]; rfl
        · rw [if_neg e, ← List.getD_eq_getElem?_getD]
          exact HY.out j (by omega)
      · exact heap_setCell_same wr b (off + k) C t _ HB.out
      · intro j hj
        have hlen := HL.out
        rw [List.length_set] at hj
        rw [Array.getElem?_setIfInBounds, List.getD_eq_getElem?_getD, List.getElem?_set]
        by_cases e : k = j
        · subst e
          rw [if_pos rfl, if_pos HSZ.out, if_pos rfl, if_pos (by omega), mod3e]; rfl
        · rw [if_neg (by omega), if_neg e, ← List.getD_eq_getElem?_getD]
          exact HC.out j hj
      · exact chg_setp HG.out ⟨b, off + k, none⟩ HPB.out.1 HPB.out.2 _
    · have hi1 : ¬ (k : Int) < (len : Int) := by omega
      obtain rfl : k = len := by omega
      go_wp2
      go_ret
      have ey : ys = emL shB m xs := by
        apply List.ext_getElem
        · rw [emL_length]; have := HL.out; have := HE.out; omega
        · intro j h1 h2
          have q1 := HY.out j (by have := HL.out; omega)
          have q2 := emL_B m xs j (by have := HL.out; have := HE.out; omega)
          rw [← q2] at q1
          rw [List.getD_eq_getElem?_getD, List.getD_eq_getElem?_getD, List.getElem?_eq_getElem h1, List.getElem?_eq_getElem h2] at q1
          simpa using q1
      have hO := HO.out
      have hL := HL.out
      have hE := HE.out
      rw [ey] at hO
      exact ⟨rfl, owB_out (by rw [emL_length]; exact hE) (by rw [emL_length]; omega) (by rw [emL_length]; exact HK.out) HP.out hO, HG.out⟩

set_option maxHeartbeats 2000000 in
theorem heldBoolS_d (w : World) (m : Nat) (v : Value) (xs : List Bool) (h1 : RdL shB w v (emL shB m xs)) (hl : szL shB xs ≤ 1048576) (hm2 : m + ecL shB xs ≤ 900000000) :
    Calls Try.prog 70 #[v, .int .i64 (m : Int)] w (AnsN (.int .i64 ((m + ecL shB xs : Nat) : Int)) w) := by
  rw [szL_B] at hl
  rw [ecL_B] at hm2 ⊢
  obtain ⟨a1, c1, rfl, _, h1⟩ := rdB_in h1
  rw [emL_length]
  have HA := Lib.hid h1
  obtain ⟨len, hlen⟩ : ∃ len, len = xs.length := ⟨_, rfl⟩
  have HE := Lib.hid hlen
  rw [← hlen] at hl hm2 ⊢
  clear h1 hlen
  go_enter Try.func70, Try.ntmps70
  go_wp2
  go_loopw [1, 5] (fun q i wr => ∃ k : Nat, k ≤ len ∧ i = .int .i64 (k : Int) ∧ q = .int .i64 ((m + k : Nat) : Int) ∧ w.grownBy wr none) (fun _ i _ => len - (intOf i).toNat)
  case atStart => exact ⟨0, Nat.zero_le _, rfl, rfl, gby_refl _ _⟩
  case round =>
    obtain ⟨k, hk, rfl, rfl, hg⟩ := hrel
    have HG := Lib.hid hg
    clear hg
    by_cases hlt : k < len
    · have hki : (k : Int) < (len : Int) := by omega
      have hk0 : (0 : Int) ≤ (k : Int) := by omega
      have htn : ((k : Int)).toNat = k := by omega
      have hke : k < xs.length := by have := HE.out; omega
      obtain ⟨b, off, rfl, hcell⟩ := HA.out.resolve_left (by rw [emL_length]; omega)
      have k1 := HG.out.cell (hcell k (by rw [emL_length]; omega)) (by simp)
      rw [emL_B m xs k hke] at k1
      have hmb := mod3e m k
      generalize ((m + k) % 3 == 0) = t at k1 hmb
      clear hcell
      cases t
      all_goals
        go_wp2
        try go_quiet (fail)
        try go_wp2
        exact ⟨⟨k + 1, by omega, by go_num, by go_num, by repeat (first | exact HG.out | with_reducible refine gby_drewN ?_ _)⟩, by simp [intOf]; omega⟩
    · have hki : ¬ (k : Int) < (len : Int) := by omega
      obtain rfl : k = len := by omega
      go_wp2
      go_ret
      exact ⟨rfl, HG.out⟩

end Go.Proofs.Ytomiicegkdogkaa
