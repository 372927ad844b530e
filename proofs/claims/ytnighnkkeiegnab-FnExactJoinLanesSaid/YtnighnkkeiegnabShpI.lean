/-
  Slices of numbers as shapes: the law's functions on them.
-/
import Derived.Test.YtnighnkkeiegnabShp2
import Derived.Test.YtnighnkkeiegnabOwS
namespace Go.Proofs.Ytnighnkkeiegnab
open Go Go.RowKit

theorem heap_trip (W : World) (a b c : Obj) : (((W.alloc a).alloc b).alloc c).heap[W.heap.size + 1 + 1]? = some c := by
  have e : ((W.alloc a).alloc b).heap.size = W.heap.size + 1 + 1 := by simp
  rw [← e]; exact heap_alloc_new _ _
theorem rdI_in {w : World} {v : Value} {xs : List Int} : RdL shI w v xs → RdI w v xs := by
  rintro ⟨a, cap, rfl, hc, _, h⟩
  refine ⟨a, cap, rfl, ⟨rfl, ?_⟩, hc⟩
  rcases h with h0 | ⟨b, off, ha, h⟩
  · exact .inl h0
  · refine .inr ⟨b, off, ha, fun k hk => ?_⟩
    obtain ⟨cs, h1, h2⟩ := h k hk
    obtain rfl : cs = [.int .i64 (xs.getD k 0)] := h2
    have := at_one h1
    rwa [show shI.n = 1 from rfl, Nat.mul_one] at this
theorem rdI_out {w : World} {v : Value} {xs : List Int} (hm : xs.length ≤ 9223372036854775807) : RdI w v xs → RdL shI w v xs := by
  rintro ⟨a, cap, rfl, ⟨_, h⟩, hc⟩
  refine ⟨a, cap, rfl, hc, hm, ?_⟩
  rcases h with h0 | ⟨b, off, ha, h⟩
  · exact .inl h0
  · refine .inr ⟨b, off, ha, fun k hk => ⟨_, fun j hj => ?_, rfl⟩⟩
    simp only [List.length_cons, List.length_nil] at hj
    obtain rfl : j = 0 := by omega
    rw [show shI.n = 1 from rfl, Nat.mul_one]
    exact h k hk
theorem owI_in {w : World} {lo hi : Nat} {v : Value} {xs : List Int} : OwL shI w lo hi v xs → OwI w lo hi v xs := by
  rintro ⟨a, cap, rfl, hc, _, hp, h⟩
  refine ⟨a, cap, rfl, ⟨rfl, ?_⟩, hp, hc⟩
  rcases h with h0 | ⟨b, off, P, Q, C, t, ha, h3, h4, h5⟩
  · exact .inl h0
  · refine .inr ⟨b, off, ha, (hp _ ha).1, C, t, h3, fun k hk => ?_⟩
    obtain ⟨_, _, _, cs, q1, q2⟩ := h4 k hk
    obtain rfl : cs = [.int .i64 (xs.getD k 0)] := q2
    have := q1 0 (by simp)
    rwa [show shI.n = 1 from rfl, Nat.mul_one] at this
theorem owI_out {w : World} {lo hi : Nat} {v : Value} {xs : List Int} (hm : xs.length ≤ 9223372036854775807) : OwI w lo hi v xs → OwL shI w lo hi v xs := by
  rintro ⟨a, cap, rfl, ⟨_, h⟩, h3, hc⟩
  refine ⟨a, cap, rfl, hc, hm, h3, ?_⟩
  rcases h with h0 | ⟨b, off, ha, hl, C, t, hb, hC⟩
  · exact .inl h0
  · have := h3 _ ha
    refine .inr ⟨b, off, fun _ => b, fun _ => b, C, t, ha, hb, fun k hk => ⟨hl, Nat.le_of_lt this.2, .inr (Nat.le_refl _), _, fun j hj => ?_, rfl⟩, fun j k _ _ => .inl (Nat.le_refl _)⟩
    simp only [List.length_cons, List.length_nil] at hj
    obtain rfl : j = 0 := by omega
    rw [show shI.n = 1 from rfl, Nat.mul_one]
    exact hC k hk

theorem szL_I (xs : List Int) : szL shI xs = xs.length := by
  unfold szL
  have : (xs.map shI.size).sum = 0 := by induction xs with | nil => rfl | cons x xs ih => simpa [shI] using ih
  omega
theorem ecL_I (xs : List Int) : ecL shI xs = xs.length := by
  unfold ecL
  induction xs with | nil => rfl | cons x xs ih => simp only [List.map_cons, List.sum_cons, ih, List.length_cons]; show 1 + _ = _; omega
theorem emL_I : ∀ (m : Nat) (xs : List Int), emL shI m xs = marksI m xs.length
  | _, [] => rfl
  | m, x :: xs => by
    rw [emL, show shI.em m x = (m : Int) from rfl, show shI.ec x = 1 from rfl, emL_I (m + 1) xs]
    apply List.ext_getElem
    · simp [marksI_length]
    · intro j h1 h2
      have q := marksI_at m (x :: xs).length j (by simpa [marksI_length] using h2)
      rw [List.getD_eq_getElem?_getD, List.getElem?_eq_getElem h2] at q
      simp only [Option.getD_some] at q
      rw [q]
      cases j with
      | zero => simp
      | succ j =>
        have q2 := marksI_at (m + 1) xs.length j (by simpa [marksI_length] using h1)
        rw [List.getElem_cons_succ]
        have h3 : j < (marksI (m + 1) xs.length).length := by simpa using h1
        rw [List.getD_eq_getElem?_getD, List.getElem?_eq_getElem h3] at q2
        simp only [Option.getD_some] at q2
        rw [q2]; push_cast; omega

theorem toIntS_d (W : World) (v : Value) (xs : List Int) (H : RdL shI W v xs) (hl : szL shI xs ≤ 1048576) :
    Calls Try.prog 35 #[v] W (fun e w' => ∃ v', e = .returned v' ∧ OwL shI w' W.heap.size w'.heap.size v' xs ∧ W.grownBy w' none) := by
  rw [szL_I] at hl
  obtain ⟨a, cap, rfl, hi, _⟩ := rdI_in H
  refine (toI_any W a _ cap xs hi hl).mono ?_
  rintro e w' ⟨v', rfl, ho, g⟩
  exact ⟨v', rfl, owI_out (by first | omega | (rw [marksI_length]; omega)) ho, g⟩

theorem eqIntS_d (W : World) (v1 v2 : Value) (xs : List Int) (H1 : RdL shI W v1 xs) (H2 : RdL shI W v2 xs) (hl : szL shI xs ≤ 1048576) :
    Calls Try.prog 24 #[v1, v2] W (AnsN (.bool true) W) :=
  (eqI_same W v1 v2 xs (rdI_in H1) (rdI_in H2) (by rwa [szL_I] at hl)).mono ansN_of

theorem markIntS_d (w : World) (lo hi m : Nat) (v : Value) (xs : List Int) (h1 : OwL shI w lo hi v xs) (hl : szL shI xs ≤ 1048576) (hm2 : m + ecL shI xs ≤ 900000000) :
    Calls Try.prog 27 #[v, .int .i64 (m : Int)] w (fun e w' => e = .returned (.int .i64 ((m + ecL shI xs : Nat) : Int)) ∧ OwL shI w' lo hi v (emL shI m xs) ∧ Chg w w' lo hi) := by
  rw [szL_I] at hl
  rw [ecL_I] at hm2 ⊢
  rw [emL_I]
  refine (mkI_any w lo hi m v xs (owI_in h1) (by omega) (by omega)).mono ?_
  rintro e w' ⟨rfl, ho, g⟩
  exact ⟨rfl, owI_out (by first | omega | (rw [marksI_length]; omega)) ho, g⟩

theorem heldIntS_d (w : World) (m : Nat) (v : Value) (xs : List Int) (h1 : RdL shI w v (emL shI m xs)) (hl : szL shI xs ≤ 1048576) (hm2 : m + ecL shI xs ≤ 900000000) :
    Calls Try.prog 28 #[v, .int .i64 (m : Int)] w (AnsN (.int .i64 ((m + ecL shI xs : Nat) : Int)) w) := by
  rw [szL_I] at hl
  rw [emL_I] at h1
  rw [ecL_I] at hm2 ⊢
  exact (hdI_any w m xs.length v (rdI_in h1) (by omega) (by omega)).mono ansN_of

set_option maxHeartbeats 1000000 in
theorem szIntS_d (W : World) (n : Int) (v : Value) (xs : List Int) (H : RdL shI W v xs) (hn : n ≤ 1048576) (h0 : 0 ≤ n) :
    Calls Try.prog 45 #[v, .int .i64 n] W (AnsN (.int .i64 (lessN n (szL shI xs))) W) := by
  rw [szL_I]
  have hc := H.max
  obtain ⟨a, cap, rfl, _⟩ := H
  generalize xs.length = len at hc
  by_cases h1 : n - (len : Int) < 0
  · rw [show lessN n len = -1 from if_pos (by omega)]
    go_enter Try.func45, Try.ntmps45
    go_wp2
    go_ret
    exact ⟨rfl, gby_refl _ _⟩
  · rw [show lessN n len = n - (len : Int) from (if_neg (by omega)).trans (by omega)]
    go_enter Try.func45, Try.ntmps45
    go_wp2
    go_ret
    exact ⟨rfl, gby_refl _ _⟩

end Go.Proofs.Ytnighnkkeiegnab
