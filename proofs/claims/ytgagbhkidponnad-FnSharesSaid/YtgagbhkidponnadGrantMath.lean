/-
  Grants one behind the other: whoever asks gets its turn, and if all ask, each gets its weight in every round.
-/
import Derived.Test.YtgagbhkidponnadGrantRun
namespace Go.Proofs.Ytgagbhkidponnad
open Go Go.RowKit
set_option linter.unusedVariables false

theorem giter_add (xs : List Int) (ask : List Bool) (s : Int × Int) (a : Nat) : ∀ b, giter xs ask s (a + b) = giter xs ask (giter xs ask s a) b
  | 0 => rfl
  | b + 1 => by rw [← Nat.add_assoc]; show gstep xs ask (giter xs ask s (a + b)) = gstep xs ask (giter xs ask (giter xs ask s a) b); rw [giter_add xs ask s a b]

theorem gports_add (xs : List Int) (ask : List Bool) (s : Int × Int) (a : Nat) : ∀ b, gports xs ask s (a + b) = gports xs ask s a ++ gports xs ask (giter xs ask s a) b
  | 0 => by simp [gports]
  | b + 1 => by
    rw [← Nat.add_assoc]
    show gports xs ask s (a + b) ++ [(giter xs ask s (a + b + 1)).1] = _ ++ (gports xs ask (giter xs ask s a) b ++ [(giter xs ask (giter xs ask s a) (b + 1)).1])
    rw [gports_add xs ask s a b, List.append_assoc, Nat.add_assoc, giter_add xs ask s a (b + 1)]

theorem gports_at (xs : List Int) (ask : List Bool) (s : Int × Int) : ∀ m j, j < m → (gports xs ask s m).getD j 0 = (giter xs ask s (j + 1)).1
  | 0, j, h => absurd h (Nat.not_lt_zero _)
  | m + 1, j, h => by
    show (gports xs ask s m ++ [(giter xs ask s (m + 1)).1]).getD j 0 = _
    rw [List.getD_eq_getElem?_getD]
    by_cases e : j < m
    · rw [List.getElem?_append_left (by rw [gports_len]; exact e), ← List.getD_eq_getElem?_getD, gports_at xs ask s m j e]
    · obtain rfl : j = m := by omega
      rw [List.getElem?_append_right (by rw [gports_len]; exact Nat.le_refl _), gports_len]
      simp

/-- a port that is granted asks -/
theorem gstep_asks {xs : List Int} {ask : List Bool} {s : Int × Int} (h : GOkS xs ask s) : ak ask (gstep xs ask s).1.toNat = true := by
  obtain ⟨k, hN, hp⟩ := stepP_is h.2.2
  unfold gstep
  split
  · next q => exact q.1
  · dsimp only; rw [Int.toNat_natCast, hp]; exact hN.2.2.1

theorem gports_asks {xs : List Int} {ask : List Bool} {s : Int × Int} (h : GOkS xs ask s) : ∀ m, ∀ p ∈ gports xs ask s m, ak ask p.toNat = true ∧ 0 ≤ p
  | 0, p, hp => by cases hp
  | m + 1, p, hp => by
    rcases List.mem_append.1 hp with q | q
    · exact gports_asks h m p q
    · obtain rfl := List.mem_singleton.1 q
      exact ⟨gstep_asks (gok_iter h m), (gok_iter h (m + 1)).1.2.2.2.1⟩

/-- how far it is from t to i -/
def ga_far (n t i : Nat) : Nat := (i + n - t) % n

theorem ga_far_le {n t i : Nat} (hn : 1 ≤ n) (hn4 : n ≤ 4) : ga_far n t i < n := Nat.mod_lt _ (by omega)
theorem ga_far_is {n t i : Nat} (hn4 : n ≤ 4) (ht : t < n) (hi : i < n) : (t + ga_far n t i) % n = i := by
  unfold ga_far
  match n, hn4 with
  | 1, _ => omega
  | 2, _ => omega
  | 3, _ => omega
  | 4, _ => omega
theorem ga_far_step {n t i k : Nat} (hn4 : n ≤ 4) (ht : t < n) (hi : i < n) (hk : k ≤ ga_far n t i) : ga_far n ((t + k) % n) i = ga_far n t i - k := by
  unfold ga_far at *
  match n, hn4 with
  | 1, _ => omega
  | 2, _ => omega
  | 3, _ => omega
  | 4, _ => omega
theorem ga_far_zero {n t i : Nat} (hn4 : n ≤ 4) (ht : t < n) (hi : i < n) (h : ga_far n t i = 0) : t = i := by
  unfold ga_far at *
  match n, hn4 with
  | 1, _ => omega
  | 2, _ => omega
  | 3, _ => omega
  | 4, _ => omega

theorem ga_shift {xs : List Int} {ask : List Bool} {s : Int × Int} {i : Int} {D : Nat} (h : ∃ m, m < D ∧ (giter xs ask (gstep xs ask s) (m + 1)).1 = i) : ∃ m, m < D + 1 ∧ (giter xs ask s (m + 1)).1 = i := by
  obtain ⟨m, h1, h2⟩ := h
  refine ⟨m + 1, by omega, ?_⟩
  have e : giter xs ask s (1 + (m + 1)) = giter xs ask (gstep xs ask s) (m + 1) := giter_add xs ask s 1 (m + 1)
  rw [show m + 1 + 1 = 1 + (m + 1) by omega, e]; exact h2

theorem ga_turn_D {xs : List Int} {ask : List Bool} (hw : ∀ x ∈ xs, x ≤ 4) {i : Nat} (hi : i < xs.length) (ha : ak ask i = true) : ∀ (D : Nat) (s : Int × Int), GOkS xs ask s → ¬ s.1 = (i : Int) → 4 * ga_far xs.length s.1.toNat i + s.2.toNat ≤ D → ∃ m, m < D ∧ (giter xs ask s (m + 1)).1 = (i : Int)
  | 0, s, h, hne, hD => by
    have h4 := h.1.2.2.1
    have ht := h.1.2.2.2.1
    have ht2 := h.1.2.2.2.2.1
    have := ga_far_zero h4 (show s.1.toNat < xs.length by omega) hi (by omega)
    omega
  | D + 1, s, h, hne, hD => by
    have h4 := h.1.2.2.1
    have ht := h.1.2.2.2.1
    have ht2 := h.1.2.2.2.2.1
    have hg := gok_step h
    obtain ⟨k, hN, hp⟩ := stepP_is h.2.2
    have hf : ga_far xs.length s.1.toNat i ≠ 0 := fun q => by have := ga_far_zero h4 (show s.1.toNat < xs.length by omega) hi q; omega
    by_cases q : ak ask s.1.toNat = true ∧ 0 < s.2
    · have e : gstep xs ask s = (s.1, s.2 - 1) := by unfold gstep; rw [if_pos q]
      refine ga_shift (ga_turn_D hw hi ha D (gstep xs ask s) hg (by rw [e]; exact hne) ?_)
      rw [e]; dsimp only; omega
    · have e : gstep xs ask s = ((((s.1.toNat + k) % xs.length : Nat) : Int), xs.getD ((s.1.toNat + k) % xs.length) 0 - 1) := by unfold gstep; rw [if_neg q, hp]
      have hk : k ≤ ga_far xs.length s.1.toNat i := by
        refine Nat.le_of_not_lt fun hlt => ?_
        have := hN.2.2.2 (ga_far xs.length s.1.toNat i) (by omega) hlt
        rw [ga_far_is h4 (by omega) hi, ha] at this
        cases this
      have hfs := ga_far_step h4 (show s.1.toNat < xs.length by omega) hi hk
      have hlt : (s.1.toNat + k) % xs.length < xs.length := Nat.mod_lt _ (by omega)
      have hy := hw (xs.getD ((s.1.toNat + k) % xs.length) 0) (by rw [List.getD_eq_getElem?_getD, List.getElem?_eq_getElem hlt]; exact List.getElem_mem _)
      by_cases he : (s.1.toNat + k) % xs.length = i
      · exact ⟨0, by omega, by show (gstep xs ask s).1 = _; rw [e]; dsimp only; rw [he]⟩
      · refine ga_shift (ga_turn_D hw hi ha D (gstep xs ask s) hg (by rw [e]; dsimp only; omega) ?_)
        rw [e]; dsimp only; rw [Int.toNat_natCast, hfs]
        have := hN.1
        omega

/-- a port that asks is granted among the first 40 -/
theorem ga_turn {xs : List Int} {ask : List Bool} (hw : ∀ x ∈ xs, x ≤ 4) {i : Nat} (hi : i < xs.length) (ha : ak ask i = true) {s : Int × Int} (h : GOkS xs ask s) : (i : Int) ∈ gports xs ask s 40 := by
  have h4 := h.1.2.2.1
  have h1 := h.1.2.1
  have ht := h.1.2.2.2.1
  have ht2 := h.1.2.2.2.2.1
  have hl2 := h.1.2.2.2.2.2.2
  have hlx := hw (xs.getD s.1.toNat 0) (by rw [List.getD_eq_getElem?_getD, List.getElem?_eq_getElem (by omega)]; exact List.getElem_mem _)
  have key : ∃ m, m < 40 ∧ (giter xs ask s (m + 1)).1 = (i : Int) := by
    have fl : ∀ t, ga_far xs.length t i < xs.length := fun t => ga_far_le h1 h4
    by_cases e : s.1 = (i : Int)
    · obtain ⟨k, hN, hp⟩ := stepP_is h.2.2
      have hg := gok_step h
      by_cases e2 : (gstep xs ask s).1 = (i : Int)
      · exact ⟨0, by omega, e2⟩
      · have hl3 := hg.1.2.2.2.2.2.2
        have ht3 := hg.1.2.2.2.2.1
        have ht4 := hg.1.2.2.2.1
        have hly := hw (xs.getD (gstep xs ask s).1.toNat 0) (by rw [List.getD_eq_getElem?_getD, List.getElem?_eq_getElem (by omega)]; exact List.getElem_mem _)
        have := fl (gstep xs ask s).1.toNat
        exact ga_shift (ga_turn_D hw hi ha 39 (gstep xs ask s) hg e2 (by omega))
    · have := fl s.1.toNat
      obtain ⟨m, a, b⟩ := ga_turn_D hw hi ha 40 s h e (by omega)
      exact ⟨m, a, b⟩
  obtain ⟨m, hm, he⟩ := key
  rw [← he, ← gports_at xs ask s 40 m hm, List.getD_eq_getElem?_getD, List.getElem?_eq_getElem (by rw [gports_len]; exact hm)]
  exact List.getElem_mem _

/-- the ports of one round, from the j-th on: each as often as its weight -/
def ga_blk (xs : List Int) : Nat → List Int
  | 0 => []
  | j + 1 => ga_blk xs j ++ List.replicate (xs.getD j 0).toNat (j : Int)
/-- the sum of the first j weights -/
def ga_wsum (xs : List Int) : Nat → Nat
  | 0 => 0
  | j + 1 => ga_wsum xs j + (xs.getD j 0).toNat

theorem ga_blk_cnt (xs : List Int) (i : Nat) : ∀ j, (ga_blk xs j).count (i : Int) = if i < j then (xs.getD i 0).toNat else 0
  | 0 => by simp [ga_blk]
  | j + 1 => by
    unfold ga_blk
    rw [List.count_append, ga_blk_cnt xs i j, List.count_replicate]
    by_cases e : j = i
    · subst e; simp
    · have e2 : ((j : Int) == (i : Int)) = false := beq_eq_false_iff_ne.2 (by omega)
      rw [e2]
      simp only [Bool.false_eq_true, if_false, Nat.add_zero]
      by_cases q : i < j
      · rw [if_pos q, if_pos (by omega)]
      · rw [if_neg q, if_neg (by omega)]

/-- staying: the port keeps its turn as long as something is left -/
theorem ga_stay {xs : List Int} {ask : List Bool} {t : Nat} (ha : ak ask t = true) : ∀ l : Nat, giter xs ask ((t : Int), (l : Int)) l = ((t : Int), 0) ∧ gports xs ask ((t : Int), (l : Int)) l = List.replicate l (t : Int)
  | 0 => ⟨rfl, rfl⟩
  | l + 1 => by
    have e : gstep xs ask ((t : Int), ((l + 1 : Nat) : Int)) = ((t : Int), (l : Int)) := by
      unfold gstep
      rw [if_pos ⟨by rw [Int.toNat_natCast]; exact ha, by dsimp only; omega⟩]
      dsimp only
      rw [show (((l + 1 : Nat) : Int) - 1) = (l : Int) by omega]
    have e1 : giter xs ask ((t : Int), ((l + 1 : Nat) : Int)) 1 = ((t : Int), (l : Int)) := e
    obtain ⟨h1, h2⟩ := ga_stay (xs := xs) ha l
    rw [show l + 1 = 1 + l by omega] at *
    refine ⟨by rw [giter_add, e1, h1], ?_⟩
    rw [gports_add, e1, h2]
    show ([] ++ [(giter xs ask ((t : Int), ((1 + l : Nat) : Int)) 1).1]) ++ _ = _
    rw [e1, Nat.add_comm, List.replicate_succ]; rfl

theorem ga_next_one {ask : List Bool} {n t : Nat} (hall : ∀ j, j < n → ak ask j = true) (hn : 1 ≤ n) : stepP ask n t = (t + 1) % n := by
  have hm : (t + 1) % n < n := Nat.mod_lt _ (by omega)
  obtain ⟨k, hN, hp⟩ := stepP_is (ask := ask) (n := n) (t := t) ⟨1, by omega, by omega, hall _ hm, fun j h1 h2 => by omega⟩
  have hk : k = 1 := by
    rcases Nat.lt_or_ge 1 k with q | q
    · have := hN.2.2.2 1 (by omega) q
      rw [hall _ hm] at this; cases this
    · have := hN.1; omega
  rw [hp, hk]

/-- moving on: from a port that has nothing left -/
theorem ga_move {xs : List Int} {ask : List Bool} (hall : ∀ j, j < xs.length → ak ask j = true) (hw : ∀ x ∈ xs, 1 ≤ x ∧ x ≤ 9) {t u : Nat} (hu : u < xs.length) (htu : (t + 1) % xs.length = u) : giter xs ask ((t : Int), 0) (xs.getD u 0).toNat = ((u : Int), 0) ∧ gports xs ask ((t : Int), 0) (xs.getD u 0).toNat = List.replicate (xs.getD u 0).toNat (u : Int) := by
  have hy := hw (xs.getD u 0) (by rw [List.getD_eq_getElem?_getD, List.getElem?_eq_getElem hu]; exact List.getElem_mem _)
  obtain ⟨l, hl⟩ : ∃ l : Nat, xs.getD u 0 = ((l + 1 : Nat) : Int) := ⟨(xs.getD u 0).toNat - 1, by omega⟩
  have e : gstep xs ask ((t : Int), 0) = ((u : Int), (l : Int)) := by
    unfold gstep
    rw [if_neg (fun q => absurd q.2 (by dsimp only; omega))]
    dsimp only
    rw [Int.toNat_natCast, ga_next_one hall (by omega), htu, hl]
    rw [show (((l + 1 : Nat) : Int) - 1) = (l : Int) by omega]
  have e1 : giter xs ask ((t : Int), 0) 1 = ((u : Int), (l : Int)) := e
  obtain ⟨h1, h2⟩ := ga_stay (xs := xs) (hall u hu) l
  rw [hl, Int.toNat_natCast, show l + 1 = 1 + l by omega]
  refine ⟨by rw [giter_add, e1, h1], ?_⟩
  rw [gports_add, e1, h2]
  show ([] ++ [(giter xs ask ((t : Int), 0) 1).1]) ++ _ = _
  rw [e1, Nat.add_comm, List.replicate_succ]; rfl

/-- the first j ports of a round -/
theorem ga_part {xs : List Int} {ask : List Bool} (hall : ∀ j, j < xs.length → ak ask j = true) (hw : ∀ x ∈ xs, 1 ≤ x ∧ x ≤ 9) (h1 : 1 ≤ xs.length) : ∀ j, j ≤ xs.length → giter xs ask (((xs.length - 1 : Nat) : Int), 0) (ga_wsum xs j) = (((if j = 0 then xs.length - 1 else j - 1 : Nat) : Int), 0) ∧ gports xs ask (((xs.length - 1 : Nat) : Int), 0) (ga_wsum xs j) = ga_blk xs j
  | 0, _ => ⟨rfl, rfl⟩
  | j + 1, hj => by
    obtain ⟨e1, e2⟩ := ga_part hall hw h1 j (by omega)
    have ht : ((if j = 0 then xs.length - 1 else j - 1) + 1) % xs.length = j := by
      by_cases q : j = 0
      · rw [if_pos q, show xs.length - 1 + 1 = xs.length by omega, Nat.mod_self, q]
      · rw [if_neg q, show j - 1 + 1 = j by omega, Nat.mod_eq_of_lt (by omega)]
    obtain ⟨m1, m2⟩ := ga_move hall hw (show j < xs.length by omega) ht
    unfold ga_wsum ga_blk
    refine ⟨by rw [giter_add, e1, m1]; simp, by rw [gports_add, e1, e2, m2]⟩

/-- n rounds -/
theorem ga_rounds {xs : List Int} {ask : List Bool} (hall : ∀ j, j < xs.length → ak ask j = true) (hw : ∀ x ∈ xs, 1 ≤ x ∧ x ≤ 9) (h1 : 1 ≤ xs.length) (i : Nat) (hi : i < xs.length) : ∀ n, giter xs ask (((xs.length - 1 : Nat) : Int), 0) (n * ga_wsum xs xs.length) = (((xs.length - 1 : Nat) : Int), 0) ∧ (gports xs ask (((xs.length - 1 : Nat) : Int), 0) (n * ga_wsum xs xs.length)).count (i : Int) = n * (xs.getD i 0).toNat
  | 0 => by simp [giter, gports]
  | n + 1 => by
    obtain ⟨e1, e2⟩ := ga_rounds hall hw h1 i hi n
    obtain ⟨p1, p2⟩ := ga_part hall hw h1 xs.length (Nat.le_refl _)
    rw [if_neg (by omega)] at p1
    rw [Nat.succ_mul, Nat.succ_mul]
    exact ⟨by rw [giter_add, e1, p1], by rw [gports_add, e1, p2, List.count_append, e2, ga_blk_cnt, if_pos hi]⟩

/-- a new arbiter grants as one whose last port has just had its turn -/
theorem ga_fresh {xs : List Int} {ask : List Bool} (hall : ∀ j, j < xs.length → ak ask j = true) (hw : ∀ x ∈ xs, 1 ≤ x ∧ x ≤ 9) (h1 : 1 ≤ xs.length) : ∀ m, 1 ≤ m → giter xs ask (0, xs.getD 0 0) m = giter xs ask (((xs.length - 1 : Nat) : Int), 0) m ∧ gports xs ask (0, xs.getD 0 0) m = gports xs ask (((xs.length - 1 : Nat) : Int), 0) m
  | 0, h => by omega
  | 1, _ => by
    have hy := hw (xs.getD 0 0) (by rw [List.getD_eq_getElem?_getD, List.getElem?_eq_getElem (by omega)]; exact List.getElem_mem _)
    have e : gstep xs ask (0, xs.getD 0 0) = gstep xs ask (((xs.length - 1 : Nat) : Int), 0) := by
      unfold gstep
      rw [if_pos ⟨hall 0 (by omega), by dsimp only; omega⟩, if_neg (fun q => absurd q.2 (by dsimp only; omega))]
      dsimp only
      rw [Int.toNat_natCast, ga_next_one hall h1, show xs.length - 1 + 1 = xs.length by omega, Nat.mod_self]; rfl
    exact ⟨e, by show [] ++ [(gstep xs ask (0, xs.getD 0 0)).1] = [] ++ [(gstep xs ask (((xs.length - 1 : Nat) : Int), 0)).1]; rw [e]⟩
  | m + 2, _ => by
    obtain ⟨a, b⟩ := ga_fresh hall hw h1 (m + 1) (by omega)
    have e : giter xs ask (0, xs.getD 0 0) (m + 2) = giter xs ask (((xs.length - 1 : Nat) : Int), 0) (m + 2) := by
      show gstep xs ask (giter xs ask (0, xs.getD 0 0) (m + 1)) = gstep xs ask (giter xs ask (((xs.length - 1 : Nat) : Int), 0) (m + 1))
      rw [a]
    exact ⟨e, by show gports xs ask (0, xs.getD 0 0) (m + 1) ++ [(giter xs ask (0, xs.getD 0 0) (m + 2)).1] = gports xs ask (((xs.length - 1 : Nat) : Int), 0) (m + 1) ++ [(giter xs ask (((xs.length - 1 : Nat) : Int), 0) (m + 2)).1]; rw [b, e]⟩

theorem ga_wsum_pos {xs : List Int} (hw : ∀ x ∈ xs, 1 ≤ x ∧ x ≤ 9) (h1 : 1 ≤ xs.length) : ∀ j, 1 ≤ j → j ≤ xs.length → 1 ≤ ga_wsum xs j ∧ ga_wsum xs j ≤ 9 * j
  | 0, h, _ => by omega
  | j + 1, _, hj => by
    have hy := hw (xs.getD j 0) (by rw [List.getD_eq_getElem?_getD, List.getElem?_eq_getElem (by omega)]; exact List.getElem_mem _)
    unfold ga_wsum
    by_cases e : j = 0
    · subst e; unfold ga_wsum; omega
    · have := ga_wsum_pos hw h1 j (by omega) (by omega)
      omega

/-- each port gets its weight in every round -/
theorem ga_shares {xs : List Int} {ask : List Bool} (hall : ∀ j, j < xs.length → ak ask j = true) (hw : ∀ x ∈ xs, 1 ≤ x ∧ x ≤ 9) (h1 : 1 ≤ xs.length) (i : Nat) (hi : i < xs.length) (n : Nat) (hn : 1 ≤ n) : (gports xs ask (0, xs.getD 0 0) (n * ga_wsum xs xs.length)).count (i : Int) = n * (xs.getD i 0).toNat := by
  have hs := ga_wsum_pos hw h1 xs.length h1 (Nat.le_refl _)
  rw [(ga_fresh hall hw h1 _ (Nat.mul_pos hn hs.1)).2]
  exact (ga_rounds hall hw h1 i hi n).2

end Go.Proofs.Ytgagbhkidponnad
