/-
  Arbiters: when they are valid; the contracts of both ArbiterOk.
-/
import Derived.Test.YtgagbhkidponnadKArbiter
import Derived.Test.YtgagbhkidponnadBits2Impl
namespace Go.Proofs.Ytgagbhkidponnad
open Go Go.RowKit
set_option linter.unusedVariables false

theorem all_in {xs : List Int} {a b : Int} (h : ∀ k, k < xs.length → a ≤ xs.getD k 0 ∧ xs.getD k 0 ≤ b) : ∀ x ∈ xs, a ≤ x ∧ x ≤ b := by
  intro x hx
  obtain ⟨k, hk, rfl⟩ := List.mem_iff_getElem.1 hx
  have := h k hk
  rw [List.getD_eq_getElem?_getD, List.getElem?_eq_getElem hk] at this
  exact this
theorem all_out {xs : List Int} {a b : Int} {k : Nat} (hk : k < xs.length) (h : xs.getD k 0 < a ∨ b < xs.getD k 0) : ¬ ∀ x ∈ xs, a ≤ x ∧ x ≤ b := by
  intro q
  have := q (xs.getD k 0) (by rw [List.getD_eq_getElem?_getD, List.getElem?_eq_getElem hk]; exact List.getElem_mem hk)
  omega

theorem rngq_yes {x a b : Int} (h1 : a ≤ x) (h2 : x ≤ b) (W : World) : Calls Try.prog 50 #[.int .i64 x, .int .i64 a, .int .i64 b] W (Ans (.bool true) W) :=
  (rng_yes x a b W h1 h2).mono (fun e w' h => ⟨h.1, h.2 ▸ Drew.refl _⟩)
theorem rngq_no {x a b : Int} (h : x < a ∨ b < x) (W : World) : Calls Try.prog 50 #[.int .i64 x, .int .i64 a, .int .i64 b] W (Ans (.bool false) W) :=
  (rng_no x a b W h).mono (fun e w' h => ⟨h.1, h.2 ▸ Drew.refl _⟩)
theorem inq_yes {x a b : Int} (h1 : a ≤ x) (h2 : x ≤ b) (W : World) : Calls Try.prog 47 #[.int .i64 x, .int .i64 a, .int .i64 b] W (Ans (.bool true) W) :=
  (in_yes x a b W h1 h2).mono (fun e w' h => ⟨h.1, h.2 ▸ Drew.refl _⟩)
theorem inq_no {x a b : Int} (h : x < a ∨ b < x) (W : World) : Calls Try.prog 47 #[.int .i64 x, .int .i64 a, .int .i64 b] W (Ans (.bool false) W) :=
  (in_no x a b W h).mono (fun e w' h => ⟨h.1, h.2 ▸ Drew.refl _⟩)
theorem drew_cell {w w' : World} (h : Drew w w') {a : Addr} {v : Value} (hc : w.cell? a = some v) : w'.cell? a = some v := by obtain ⟨n, rfl⟩ := h; exact hc
theorem drew_row {w w' : World} (h : Drew w w') {b : Nat} {o : Obj} (hc : w.heap[b]? = some o) : w'.heap[b]? = some o := by obtain ⟨n, rfl⟩ := h; exact hc

/-- a valid arbiter -/
def ArbOk (xs : List Int) (t l : Int) : Prop := (∀ x ∈ xs, 1 ≤ x ∧ x ≤ 9) ∧ 1 ≤ xs.length ∧ xs.length ≤ 4 ∧ 0 ≤ t ∧ t < xs.length ∧ 0 ≤ l ∧ l ≤ xs.getD t.toNat 0
instance (xs : List Int) (t l : Int) : Decidable (ArbOk xs t l) := by unfold ArbOk; infer_instance

set_option maxHeartbeats 2000000 in
theorem specAb_any (W : World) (a : Option Addr) (n c : Nat) (xs : List Int) (t l : Int) (H : ISl W a n xs) (hl : n ≤ 1048576) :
    Calls Try.prog 58 #[abV a n c t l] W (AnsN (.bool (decide (ArbOk xs t l))) W) := by
  obtain ⟨e, H2⟩ := H
  have HC := Lib.hid H2
  have HE := Lib.hid e
  clear H2 e
  unfold abV
  go_enter Try.func58, Try.ntmps58
  go_wp2
  go_loopw [3] (fun i wr => ∃ k : Nat, k ≤ n ∧ i = .int .i64 (k : Int) ∧ (∀ j, j < k → 1 ≤ xs.getD j 0 ∧ xs.getD j 0 ≤ 9) ∧ W.alloc (.cells #[.slice a n c, .int .i64 t, .int .i64 l] 44) = wr) (fun i _ => n - (intOf i).toNat)
  case atStart => exact ⟨0, Nat.zero_le _, rfl, fun j hj => absurd hj (Nat.not_lt_zero _), rfl⟩
  case round =>
    obtain ⟨k, hk, rfl, hn, rfl⟩ := hrel
    have HN := Lib.hid hn
    clear hn
    by_cases hlt : k < n
    · have hki : (k : Int) < (n : Int) := by omega
      obtain ⟨b, off, rfl, hcell⟩ := HC.out.resolve_left (by omega)
      have hc := (gby_alloc (gby_refl W none) (.cells #[.slice (some ⟨b, off, none⟩) n c, .int .i64 t, .int .i64 l] 44)).cell (hcell k hlt) (by simp)
      clear hcell
      obtain ⟨x, hx⟩ : ∃ x : Int, x = xs.getD k 0 := ⟨_, rfl⟩
      rw [← hx] at hc
      have HX := Lib.hid hx
      clear hx
      have hk0 : (0 : Int) ≤ (k : Int) := by omega
      have htn : ((k : Int)).toNat = k := by omega
      by_cases hg : 1 ≤ x ∧ x ≤ 9
      · obtain ⟨g1, g2⟩ := hg
        go_wp2_with (go_at_call 47; refine (in_yes _ _ _ _ g1 g2).mono ?_; rintro e w' ⟨rfl, rfl⟩)
        refine ⟨⟨k + 1, by omega, by go_num, ?_, by trivial⟩, by simp [intOf]; omega⟩
        intro j hj
        by_cases e : j = k
        · subst e; rw [← HX.out]; exact ⟨g1, g2⟩
        · exact HN.out j (by omega)
      · have HG := Lib.hid hg
        clear hg
        go_wp2_with (go_at_call 47; refine (in_no _ _ _ _ (by have := HG.out; omega)).mono ?_; rintro e w' ⟨rfl, rfl⟩)
        go_ret
        have hnot : ¬ ArbOk xs t l := fun h => all_out (k := k) (by have := HE.out; omega) (by have h := HG.out; rw [HX.out] at h; omega) h.1
        exact ⟨ret_bool (by simp [hnot]), gby_alloc (gby_refl _ _) _⟩
    · have hki : ¬ (k : Int) < (n : Int) := by omega
      have HY := Lib.hid (all_in (xs := xs) (fun j hj => HN.out j (by have := HE.out; omega)))
      by_cases h1 : 1 ≤ (n : Int) ∧ (n : Int) ≤ 4
      · obtain ⟨h1, h1'⟩ := h1
        by_cases h2 : 0 ≤ t ∧ t ≤ (n : Int) - 1
        · obtain ⟨h2, h2'⟩ := h2
          obtain ⟨m, rfl⟩ : ∃ m : Nat, t = (m : Int) := ⟨t.toNat, by omega⟩
          obtain ⟨b, off, rfl, hcell⟩ := HC.out.resolve_left (by omega)
          have hc := (gby_alloc (gby_refl W none) (.cells #[.slice (some ⟨b, off, none⟩) n c, .int .i64 (m : Int), .int .i64 l] 44)).cell (hcell m (by omega)) (by simp)
          clear hcell
          obtain ⟨x, hx⟩ : ∃ x : Int, x = xs.getD m 0 := ⟨_, rfl⟩
          rw [← hx] at hc
          have HX := Lib.hid hx
          clear hx
          have htn : ((m : Int)).toNat = m := by omega
          have hmn : (m : Int) < (n : Int) := by omega
          by_cases h3 : 0 ≤ l ∧ l ≤ x
          · obtain ⟨h3, h3'⟩ := h3
            go_wp2
            go_quiet ((go_at_call 47; exact ans_quiet (inq_yes (by omega) (by omega))))
            go_wp2
            go_ret
            have hyes : ArbOk xs (m : Int) l := ⟨HY.out, by have := HE.out; omega, by have := HE.out; omega, by omega, by have := HE.out; omega, by omega, by rw [htn, ← HX.out]; omega⟩
            exact ⟨ret_bool (by simp [hyes]), by first | exact gby_alloc (gby_refl _ _) _ | exact gby_drewN (gby_alloc (gby_refl _ _) _) _⟩
          · have H3 := Lib.hid h3
            clear h3
            go_wp2
            go_quiet ((go_at_call 47; first | exact ans_quiet (inq_yes (by omega) (by omega)) | exact ans_quiet (inq_no (by have := H3.out; omega))))
            go_wp2
            go_ret
            have hnot : ¬ ArbOk xs (m : Int) l := fun h => by
              obtain ⟨_, _, _, _, _, q1, q2⟩ := h
              rw [htn, ← HX.out] at q2
              exact H3.out ⟨q1, q2⟩
            exact ⟨ret_bool (by simp [hnot]), by first | exact gby_alloc (gby_refl _ _) _ | exact gby_drewN (gby_alloc (gby_refl _ _) _) _⟩
        · have H2 := Lib.hid h2
          clear h2
          go_wp2
          go_quiet ((go_at_call 47; first | exact ans_quiet (inq_yes (by omega) (by omega)) | exact ans_quiet (inq_no (by have := H2.out; omega))))
          go_wp2
          go_ret
          have hnot : ¬ ArbOk xs t l := fun h => by
            obtain ⟨_, _, _, q1, q2, _⟩ := h
            exact H2.out ⟨q1, by have := HE.out; omega⟩
          exact ⟨ret_bool (by simp [hnot]), by first | exact gby_alloc (gby_refl _ _) _ | exact gby_drewN (gby_alloc (gby_refl _ _) _) _⟩
      · have H1 := Lib.hid h1
        clear h1
        go_wp2
        go_quiet ((go_at_call 47; exact ans_quiet (inq_no (by have := H1.out; omega))))
        go_wp2
        go_ret
        have hnot : ¬ ArbOk xs t l := fun h => by
          obtain ⟨_, q1, q2, _⟩ := h
          exact H1.out ⟨by have := HE.out; omega, by have := HE.out; omega⟩
        exact ⟨ret_bool (by simp [hnot]), by first | exact gby_alloc (gby_refl _ _) _ | exact gby_drewN (gby_alloc (gby_refl _ _) _) _⟩

set_option maxHeartbeats 2000000 in
theorem implAb_any (W : World) (a : Option Addr) (n c : Nat) (xs : List Int) (t l : Int) (H : ISl W a n xs) (hl : n ≤ 1048576) :
    Calls Try.prog 42 #[abV a n c t l] W (AnsN (.bool (decide (ArbOk xs t l))) W) := by
  obtain ⟨e, H2⟩ := H
  have HC := Lib.hid H2
  have HE := Lib.hid e
  clear H2 e
  unfold abV
  by_cases h1 : 1 ≤ (n : Int) ∧ (n : Int) ≤ 4
  · obtain ⟨h1, h1'⟩ := h1
    by_cases h2 : 0 ≤ t ∧ t ≤ (n : Int) - 1
    · obtain ⟨h2, h2'⟩ := h2
      go_enter Try.func42, Try.ntmps42
      go_wp2_with (go_at_call 50; refine (rng_yes _ _ _ _ (by omega) (by omega)).mono ?_; rintro e w' ⟨rfl, rfl⟩)
      go_loopw [23] (fun i wr => ∃ k : Nat, k ≤ n ∧ i = .int .i64 (k : Int) ∧ (∀ j, j < k → 1 ≤ xs.getD j 0 ∧ xs.getD j 0 ≤ 9) ∧ Drew (W.alloc (.cells #[.slice a n c, .int .i64 t, .int .i64 l] 44)) wr) (fun i _ => n - (intOf i).toNat)
      case atStart => exact ⟨0, Nat.zero_le _, rfl, fun j hj => absurd hj (Nat.not_lt_zero _), by first | exact Drew.refl _ | exact ⟨_, rfl⟩⟩
      case round =>
        obtain ⟨k, hk, rfl, hn, hd⟩ := hrel
        have HD := Lib.hid hd
        obtain ⟨z0, z1, z2⟩ := ab_row (drew_row hd (heap_alloc_new _ _))
        clear hd
        have HN := Lib.hid hn
        clear hn
        by_cases hlt : k < n
        · have hki : (k : Int) < (n : Int) := by omega
          obtain ⟨b, off, rfl, hcell⟩ := HC.out.resolve_left (by omega)
          have hc := drew_cell HD.out ((gby_alloc (gby_refl W none) _).cell (hcell k hlt) (by simp))
          clear hcell
          obtain ⟨x, hx⟩ : ∃ x : Int, x = xs.getD k 0 := ⟨_, rfl⟩
          rw [← hx] at hc
          have HX := Lib.hid hx
          clear hx
          by_cases hg : 1 ≤ x ∧ x ≤ 9
          · obtain ⟨g1, g2⟩ := hg
            go_wp2_with (go_at_call 50; refine (rng_yes _ _ _ _ g1 g2).mono ?_; rintro e w' ⟨rfl, rfl⟩)
            refine ⟨⟨k + 1, by omega, by go_num, ?_, by first | exact HD.out | exact HD.out.drewN _⟩, by simp [intOf]; omega⟩
            intro j hj
            by_cases e : j = k
            · subst e; rw [← HX.out]; exact ⟨g1, g2⟩
            · exact HN.out j (by omega)
          · have HG := Lib.hid hg
            clear hg
            go_wp2_with (go_at_call 50; refine (rng_no _ _ _ _ (by have := HG.out; omega)).mono ?_; rintro e w' ⟨rfl, rfl⟩)
            go_ret
            have hnot : ¬ ArbOk xs t l := fun h => all_out (k := k) (by have := HE.out; omega) (by have h := HG.out; rw [HX.out] at h; omega) h.1
            exact ⟨ret_bool (by simp [hnot]), by first | exact gby_alloc (gby_refl _ _) _ | exact gby_drewN (gby_alloc (gby_refl _ _) _) _ | exact gby_trans (gby_alloc (gby_refl _ _) _) (HD.out.gby none) | exact gby_drewN (gby_trans (gby_alloc (gby_refl _ _) _) (HD.out.gby none)) _⟩
        · have hki : ¬ (k : Int) < (n : Int) := by omega
          have HY := Lib.hid (all_in (xs := xs) (fun j hj => HN.out j (by have := HE.out; omega)))
          obtain ⟨m, rfl⟩ : ∃ m : Nat, t = (m : Int) := ⟨t.toNat, by omega⟩
          obtain ⟨b, off, rfl, hcell⟩ := HC.out.resolve_left (by omega)
          have hc := drew_cell HD.out ((gby_alloc (gby_refl W none) _).cell (hcell m (by omega)) (by simp))
          clear hcell
          obtain ⟨x, hx⟩ : ∃ x : Int, x = xs.getD m 0 := ⟨_, rfl⟩
          rw [← hx] at hc
          have HX := Lib.hid hx
          clear hx
          have htn : ((m : Int)).toNat = m := by omega
          have hmn : (m : Int) < (n : Int) := by omega
          by_cases h3 : 0 ≤ l ∧ l ≤ x
          · obtain ⟨h3, h3'⟩ := h3
            go_wp2
            go_quiet ((go_at_call 50; exact ans_quiet (rngq_yes (by omega) (by omega))))
            go_wp2
            go_ret
            have hyes : ArbOk xs (m : Int) l := ⟨HY.out, by have := HE.out; omega, by have := HE.out; omega, by omega, by have := HE.out; omega, by omega, by rw [htn, ← HX.out]; omega⟩
            exact ⟨ret_bool (by simp [hyes]), by first | exact gby_alloc (gby_refl _ _) _ | exact gby_drewN (gby_alloc (gby_refl _ _) _) _ | exact gby_trans (gby_alloc (gby_refl _ _) _) (HD.out.gby none) | exact gby_drewN (gby_trans (gby_alloc (gby_refl _ _) _) (HD.out.gby none)) _⟩
          · have H3 := Lib.hid h3
            clear h3
            go_wp2
            go_quiet ((go_at_call 50; exact ans_quiet (rngq_no (by have := H3.out; omega))))
            go_wp2
            go_ret
            have hnot : ¬ ArbOk xs (m : Int) l := fun h => by
              obtain ⟨_, _, _, _, _, q1, q2⟩ := h
              rw [htn, ← HX.out] at q2
              exact H3.out ⟨q1, q2⟩
            exact ⟨ret_bool (by simp [hnot]), by first | exact gby_alloc (gby_refl _ _) _ | exact gby_drewN (gby_alloc (gby_refl _ _) _) _ | exact gby_trans (gby_alloc (gby_refl _ _) _) (HD.out.gby none) | exact gby_drewN (gby_trans (gby_alloc (gby_refl _ _) _) (HD.out.gby none)) _⟩
    · have H2 := Lib.hid h2
      clear h2
      go_enter Try.func42, Try.ntmps42
      go_wp2_with (go_at_call 50; first | (refine (rng_yes _ _ _ _ (by omega) (by omega)).mono ?_; rintro e w' ⟨rfl, rfl⟩) | (refine (rng_no _ _ _ _ (by have := H2.out; omega)).mono ?_; rintro e w' ⟨rfl, rfl⟩))
      go_ret
      have hnot : ¬ ArbOk xs t l := fun h => by
        obtain ⟨_, _, _, q1, q2, _⟩ := h
        exact H2.out ⟨q1, by have := HE.out; omega⟩
      exact ⟨ret_bool (by simp [hnot]), by first | exact gby_alloc (gby_refl _ _) _ | exact gby_drewN (gby_alloc (gby_refl _ _) _) _ | exact gby_trans (gby_alloc (gby_refl _ _) _) (HD.out.gby none) | exact gby_drewN (gby_trans (gby_alloc (gby_refl _ _) _) (HD.out.gby none)) _⟩
  · have H1 := Lib.hid h1
    clear h1
    go_enter Try.func42, Try.ntmps42
    go_wp2_with (go_at_call 50; refine (rng_no _ _ _ _ (by have := H1.out; omega)).mono ?_; rintro e w' ⟨rfl, rfl⟩)
    go_ret
    have hnot : ¬ ArbOk xs t l := fun h => by
      obtain ⟨_, q1, q2, _⟩ := h
      exact H1.out ⟨by have := HE.out; omega, by have := HE.out; omega⟩
    exact ⟨ret_bool (by simp [hnot]), by first | exact gby_alloc (gby_refl _ _) _ | exact gby_drewN (gby_alloc (gby_refl _ _) _) _ | exact gby_trans (gby_alloc (gby_refl _ _) _) (HD.out.gby none) | exact gby_drewN (gby_trans (gby_alloc (gby_refl _ _) _) (HD.out.gby none)) _⟩

end Go.Proofs.Ytgagbhkidponnad
