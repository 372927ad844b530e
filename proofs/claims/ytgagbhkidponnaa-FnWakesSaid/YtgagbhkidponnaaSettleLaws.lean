/-
  Wishes settled: the least of what is wished below; nodes woken.
-/
import Derived.Test.YtgagbhkidponnaaSettleMath
import Derived.Test.YtgagbhkidponnaaBelow
import Derived.Test.YtgagbhkidponnaaDeep
import Derived.Test.YtgagbhkidponnaaWake
namespace Go.Proofs.Ytgagbhkidponnaa
open Go Go.RowKit

theorem below_self {xs : List DNode} (h : TOk xs) {k : Nat} (hk : k < xs.length) : BelowP xs (k : Int) (k : Int) := by
  rw [belowP_at h hk]
  by_cases m0 : k = 0
  · subst m0; rw [pth_zero]; simp
  · rw [pth_succ h (by omega) hk]; simp
theorem below_par {xs : List DNode} (h : TOk xs) {i : Nat} {k : Int} (h1 : 1 ≤ i) (hi : i < xs.length) (hb : BelowP xs (par xs i : Int) k) : BelowP xs (i : Int) k := by
  have hp := par_lt h h1 hi
  rw [belowP_at h hi, pth_succ h h1 hi, List.mem_append]
  exact .inl ((belowP_at h (by omega)).1 hb)
theorem below_mono {xs : List DNode} {s : List Int} (h : TOk xs) (hs : ∀ i, 1 ≤ i → i < xs.length → s.getD (par xs i) 0 ≤ s.getD i 0) (k : Nat) : ∀ i, i < xs.length → BelowP xs (i : Int) (k : Int) → s.getD k 0 ≤ s.getD i 0 :=
  tree_ind h (fun hb => by
    rw [show ((0 : Nat) : Int) = (0 : Int) from rfl] at hb
    have := (belowP_at h (k := 0) (by have := h.1.1; omega) (top := (k : Int))).1 hb
    rw [pth_zero] at this
    obtain rfl : k = 0 := by simpa using this
    exact Int.le_refl _) (fun i h1 h2 ih hb => by
    rw [belowP_at h h2, pth_succ h h1 h2, List.mem_append, List.mem_singleton] at hb
    have hp := par_lt h h1 h2
    rcases hb with hb | hb
    · exact Int.le_trans (ih ((belowP_at h (by omega)).2 hb)) (hs i h1 h2)
    · obtain rfl : k = i := by omega
      exact Int.le_refl _)
/-- l is the least of 3 and what the first n nodes wish that are below k -/
def LeastP (xs : List DNode) (ss : List Int) (k n : Nat) (l : Int) : Prop := l ≤ 3 ∧ (∀ i, i < n → BelowP xs (i : Int) (k : Int) → l ≤ ss.getD i 0) ∧ (l = 3 ∨ ∃ i, i < n ∧ BelowP xs (i : Int) (k : Int) ∧ l = ss.getD i 0)
theorem least_zero (xs : List DNode) (ss : List Int) (k : Nat) : LeastP xs ss k 0 3 := ⟨by omega, fun i hi => by omega, .inl rfl⟩
theorem least_skip {xs : List DNode} {ss : List Int} {k n : Nat} {l : Int} (h : LeastP xs ss k n l) (hb : ¬ BelowP xs (n : Int) (k : Int)) : LeastP xs ss k (n + 1) l := by
  obtain ⟨h1, h2, h3⟩ := h
  refine ⟨h1, fun i hi q => ?_, h3.imp id (fun ⟨i, a, b⟩ => ⟨i, by omega, b⟩)⟩
  by_cases e : i = n
  · subst e; exact absurd q hb
  · exact h2 i (by omega) q
theorem least_take {xs : List DNode} {ss : List Int} {k n : Nat} {l : Int} (h : LeastP xs ss k n l) (hb : BelowP xs (n : Int) (k : Int)) : LeastP xs ss k (n + 1) (min l (ss.getD n 0)) := by
  obtain ⟨h1, h2, h3⟩ := h
  refine ⟨by omega, fun i hi q => ?_, ?_⟩
  · by_cases e : i = n
    · subst e; omega
    · have := h2 i (by omega) q; omega
  · by_cases e : l ≤ ss.getD n 0
    · rw [Int.min_eq_left e]; exact h3.imp id (fun ⟨i, a, b⟩ => ⟨i, by omega, b⟩)
    · rw [Int.min_eq_right (by omega)]; exact .inr ⟨n, by omega, hb, rfl⟩
open Classical in
theorem least_is {xs : List DNode} {ss : List Int} (hw : WishP xs ss) {k : Nat} (hk : k < xs.length) {l : Int} (hl : LeastP xs ss k xs.length l) : (settled xs ss).getD k 0 = l := by
  have h := hw.2.1
  have hx := h.1.1
  have hsl := hw.2.2
  have hok := settled_ok hw
  obtain ⟨l1, l2, l3⟩ := hl
  have hl0 : 0 ≤ l := by
    rcases l3 with rfl | ⟨i, hi, _, rfl⟩
    · omega
    · exact (hw.1 i (by omega)).1
  refine Int.le_antisymm ?_ ?_
  · rcases l3 with rfl | ⟨i, hi, hb, rfl⟩
    · exact (hok.1.1 k (by rw [settled_len]; omega)).2
    · exact Int.le_trans (below_mono h (fun i a b => hok.2 i a b) k i hi hb) (stl_le h _ _ (by omega) hsl i)
  · have := stl_ge h (fun j => if BelowP xs (j : Int) (k : Int) then l else -1) (fun i h1 h2 => by
      by_cases q : BelowP xs (par xs i : Int) (k : Int)
      · rw [if_pos q, if_pos (below_par h h1 h2 q)]; exact Int.le_refl _
      · rw [if_neg q]; split <;> omega) (xs.length - 1) ss (by omega) hsl (fun j hj => by
      split
      · next q => exact l2 j hj q
      · have := (hw.1 j (by omega)).1; omega) k hk
    rw [if_pos (below_self h hk)] at this
    exact this
theorem wakeL_at : ∀ (p : List Int) (ss : List Int), (∀ x ∈ p, 0 ≤ x ∧ x < (ss.length : Int)) → ∀ i : Nat, (wakeL ss p).getD i 0 = if (i : Int) ∈ p then 0 else ss.getD i 0
  | [], ss, _, i => by simp [wakeL]
  | a :: p, ss, hp, i => by
    have ha := hp a (by simp)
    show (wakeL (ss.set a.toNat 0) p).getD i 0 = _
    rw [wakeL_at p (ss.set a.toNat 0) (fun x hx => by rw [List.length_set]; exact hp x (List.mem_cons_of_mem _ hx)) i, getD_set _ _ _ _ (by omega)]
    by_cases e : (i : Int) = a
    · rw [if_pos (show (i : Int) ∈ a :: p from by rw [e]; exact List.mem_cons_self ..)]
      split
      · rfl
      · rw [if_pos (by omega)]
    · by_cases q : (i : Int) ∈ p
      · rw [if_pos q, if_pos (List.mem_cons_of_mem _ q)]
      · rw [if_neg q, if_neg (show ¬ a.toNat = i by omega), if_neg (show ¬ (i : Int) ∈ a :: p by simp [e, q])]
theorem pth_lt {xs : List DNode} (h : TOk xs) {k : Nat} (hk : k < xs.length) : ∀ x ∈ pth xs k, 0 ≤ x ∧ x < (xs.length : Int) := fun x hx => by have := pth_in h k hk x hx; omega
/-- what is above a node of a way is on the way -/
theorem pth_up {xs : List DNode} (h : TOk xs) {i : Nat} (h1 : 1 ≤ i) (hi : i < xs.length) : ∀ k, k < xs.length → (i : Int) ∈ pth xs k → (par xs i : Int) ∈ pth xs k :=
  tree_ind h (fun q => by rw [pth_zero, List.mem_singleton] at q; omega) (fun k k1 k2 ih q => by
    rw [pth_succ h k1 k2, List.mem_append, List.mem_singleton] at q ⊢
    rcases q with q | q
    · exact .inl (ih q)
    · obtain rfl : i = k := by omega
      have hp := par_lt h h1 hi
      exact .inl ((belowP_at h (by omega)).1 (below_self h (by omega))))
theorem wake_ok {xs : List DNode} {ss : List Int} (hs : SleepP xs ss) {k : Nat} (hk : k < xs.length) : SleepP xs (wakeL ss (pth xs k)) := by
  have h := hs.1.2.1
  have hl := hs.1.2.2
  have hin : ∀ x ∈ pth xs k, 0 ≤ x ∧ x < (ss.length : Int) := fun x hx => by rw [hl]; exact pth_lt h hk x hx
  refine ⟨⟨fun i hi => ?_, h, by rw [wakeL_len]; exact hl⟩, fun i i1 i2 => ?_⟩
  · rw [wakeL_len] at hi
    rw [wakeL_at _ _ hin]
    split
    · omega
    · exact hs.1.1 i hi
  · rw [show (nd xs i).f0.toNat = par xs i from rfl, wakeL_at _ _ hin, wakeL_at _ _ hin]
    by_cases q : (i : Int) ∈ pth xs k
    · rw [if_pos q, if_pos (pth_up h i1 i2 k hk q)]; exact Int.le_refl _
    · rw [if_neg q]
      split
      · exact (hs.1.1 i (by omega)).1
      · exact hs.2 i i1 i2
/-- what is the deepest depth of a node -/
theorem deep_facts {xs : List DNode} {ss : List Int} (hs : SleepP xs ss) {k : Nat} (hk : k < xs.length) {d : Int} (hd : DeepP xs ss (k : Int) d) : ss.getD k 0 ≤ d ∧ SetP xs ss (k : Int) d ∧ ¬ SetP xs ss (k : Int) (d + 1) ∧ SleepP xs (ss.set k d) := by
  obtain ⟨d1, d2, d3, d4⟩ := hd
  have hl := hs.1.2.2
  have hr := hs.1.1 k (by omega)
  have hself : SetP xs ss (k : Int) (ss.getD k 0) := by
    refine ⟨hs, k, rfl, hk, ?_⟩
    have e : ss.set k (ss.getD k 0) = ss := by
      refine List.ext_getElem (by simp) (fun i h1 h2 => ?_)
      rw [List.getElem_set]
      split
      · next e => subst e; rw [List.getD_eq_getElem?_getD, List.getElem?_eq_getElem (by omega)]; rfl
      · rfl
    rw [e]; exact hs
  have hge : ss.getD k 0 ≤ d := by
    by_cases q : d < ss.getD k 0
    · exact absurd hself (d4 _ q hr.2)
    · omega
  have hset := d3.resolve_left (by omega)
  refine ⟨hge, hset, fun q => ?_, ?_⟩
  · by_cases e : d + 1 ≤ 3
    · exact d4 _ (by omega) e q
    · obtain ⟨_, n, hn, n1, n2⟩ := q
      obtain rfl : k = n := by omega
      have := (n2.1.1 k (by rw [List.length_set]; omega)).2
      rw [getD_set _ _ _ _ (by omega), if_pos rfl] at this
      omega
  · obtain ⟨_, n, hn, n1, n2⟩ := hset
    obtain rfl : k = n := by omega
    exact n2

end Go.Proofs.Ytgagbhkidponnaa
