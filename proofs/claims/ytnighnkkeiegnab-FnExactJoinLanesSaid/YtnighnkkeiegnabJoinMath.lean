/-
  Lanes put together: as data.
-/
import Derived.Test.YtnighnkkeiegnabLinkD
import Derived.Test.YtnighnkkeiegnabBits4Impl
import Derived.Test.YtnighnkkeiegnabPlainRow
import Derived.Test.YtnighnkkeiegnabAppP
import Derived.Test.YtnighnkkeiegnabSetI
import Derived.Test.YtnighnkkeiegnabRJoinLanes
import Derived.Deep.RegionHeld3
namespace Go.Proofs.Ytnighnkkeiegnab
open Go Go.RowKit
set_option linter.unusedVariables false
/-- 1, 2 or 4 -/
def IsW (n : Int) : Prop := n = 1 ∨ n = 2 ∨ n = 4
instance (n : Int) : Decidable (IsW n) := by unfold IsW; infer_instance

theorem specW_any (n : Int) (W : World) : Calls Try.prog 72 #[.int .i64 n] W (Ans (.bool (decide (IsW n))) W) := by
  by_cases h1 : n = 1
  · subst h1
    go_enter Try.func72, Try.ntmps72
    go_wp2
    go_ret
    exact ⟨ret_bool (by decide), Drew.refl _⟩
  · have b1 : (n == 1) = false := by simp [h1]
    by_cases h2 : n = 2
    · subst h2
      go_enter Try.func72, Try.ntmps72
      go_wp2
      go_ret
      exact ⟨ret_bool (by decide), Drew.refl _⟩
    · have b2 : (n == 2) = false := by simp [h2]
      by_cases h3 : n = 4
      · subst h3
        go_enter Try.func72, Try.ntmps72
        go_wp2
        go_ret
        exact ⟨ret_bool (by decide), Drew.refl _⟩
      · have b3 : (n == 4) = false := by simp [h3]
        have hn : ¬ IsW n := by rintro (h | h | h) <;> omega
        clear h1 h2 h3
        go_enter Try.func72, Try.ntmps72
        go_wp2
        go_ret
        exact ⟨ret_bool (by simp [hn]), Drew.refl _⟩

theorem isW_pow (n : Int) (h : 1 ≤ n) (h4 : n ≤ 4) : IsPow n ↔ IsW n := by
  constructor
  · rintro ⟨k, hk, rfl⟩
    rcases k with _ | _ | _ | k
    · exact .inl rfl
    · exact .inr (.inl rfl)
    · exact .inr (.inr rfl)
    · have : 2 ^ 3 ≤ 2 ^ (k + 1 + 1 + 1) := Nat.pow_le_pow_right (by omega) (by omega)
      omega
  · rintro (rfl | rfl | rfl)
    · exact ⟨0, by omega, rfl⟩
    · exact ⟨1, by omega, rfl⟩
    · exact ⟨2, by omega, rfl⟩

theorem implW_any (n : Int) (W : World) : Calls Try.prog 73 #[.int .i64 n] W (Ans (.bool (decide (IsW n))) W) := by
  by_cases h : 1 ≤ n ∧ n ≤ 4
  · obtain ⟨h1, h4⟩ := h
    by_cases hp : IsW n
    · have HP := Lib.hid ((isW_pow n h1 h4).2 hp)
      rw [show decide (IsW n) = true from decide_eq_true hp]
      clear hp
      go_enter Try.func73, Try.ntmps73
      go_wp2_with fail
      go_at_call 79
      refine (rng_yes _ _ _ _ (by omega) (by omega)).mono ?_
      rintro e w' ⟨rfl, rfl⟩
      go_wp2_with fail
      go_at_call 102
      refine (implPower_yes _ _ HP.out).mono ?_
      rintro e w' ⟨rfl, hd⟩
      have HD := Lib.hid hd
      clear hd
      go_wp2
      go_ret
      exact ⟨rfl, HD.out⟩
    · have HP := Lib.hid (fun q => hp ((isW_pow n h1 h4).1 q))
      rw [show decide (IsW n) = false from decide_eq_false hp]
      clear hp
      go_enter Try.func73, Try.ntmps73
      go_wp2_with fail
      go_at_call 79
      refine (rng_yes _ _ _ _ (by omega) (by omega)).mono ?_
      rintro e w' ⟨rfl, rfl⟩
      go_wp2_with fail
      go_at_call 102
      refine (implPower_no _ _ HP.out).mono ?_
      rintro e w' ⟨rfl, hd⟩
      have HD := Lib.hid hd
      clear hd
      go_wp2
      go_ret
      exact ⟨rfl, HD.out⟩
  · have hn : ¬ IsW n := by rintro (e | e | e) <;> omega
    rw [show decide (IsW n) = false from decide_eq_false hn]
    clear hn
    go_enter Try.func73, Try.ntmps73
    go_wp2_with fail
    go_at_call 79
    refine (rng_no _ _ _ _ (by omega)).mono ?_
    rintro e w' ⟨rfl, rfl⟩
    go_wp2
    go_ret
    exact ⟨rfl, Drew.refl _⟩

def FitsJ (L : List (List Int)) (w k : Nat) : Prop := k / w < (L.getD (k % w) []).length
instance (L : List (List Int)) (w k : Nat) : Decidable (FitsJ L w k) := by unfold FitsJ; infer_instance
def valJ (L : List (List Int)) (w k : Nat) : Int := (L.getD (k % w) []).getD (k / w) 0
/-- the first n bytes of the lanes -/
def joinL (L : List (List Int)) (w : Nat) : Nat → List Int
  | 0 => []
  | n + 1 => joinL L w n ++ [valJ L w n]
theorem joinL_len (L : List (List Int)) (w : Nat) : ∀ n, (joinL L w n).length = n
  | 0 => rfl
  | n + 1 => by show (joinL L w n ++ _).length = _; rw [List.length_append, joinL_len L w n]; rfl
theorem joinL_at (L : List (List Int)) (w : Nat) : ∀ n k, k < n → (joinL L w n).getD k 0 = valJ L w k
  | 0, _, h => absurd h (Nat.not_lt_zero _)
  | n + 1, k, h => by
    show (joinL L w n ++ [valJ L w n]).getD k 0 = _
    have hl := joinL_len L w n
    by_cases e : k = n
    · subst e
      rw [List.getD_eq_getElem?_getD, List.getElem?_append_right (by omega), hl]; simp
    · rw [List.getD_eq_getElem?_getD, List.getElem?_append_left (by omega), ← List.getD_eq_getElem?_getD]
      exact joinL_at L w n k (by omega)
def GoodJ (L : List (List Int)) : Prop := IsW (L.length : Int) ∧ (∀ k, k < tot L L.length → FitsJ L L.length k) ∧ AreB (joinL L L.length (tot L L.length))
/-- what the bytes and the word are -/
def JRes (L : List (List Int)) (xs : List Int) (b : Bool) : Prop := (GoodJ L ∧ xs = joinL L L.length (tot L L.length) ∧ b = true) ∨ (¬ GoodJ L ∧ xs = [] ∧ b = false)
def JPost (L : List (List Int)) (W : World) (e : Ending) (w' : World) : Prop := ∃ v xs b, e = .returned (.tuple #[v, .bool b]) ∧ OwU w' W.heap.size w'.heap.size [] [own shI v xs] ∧ W.grownBy w' none ∧ JRes L xs b
theorem tot_max {L : List (List Int)} (h : szL (shL shI) L ≤ 1048576) : tot L L.length ≤ 1048576 := by
  unfold tot
  rw [List.take_length]
  have e : (L.map (shL shI).size) = L.map List.length := List.map_congr_left (fun x _ => szL_I x)
  have q : szL (shL shI) L = L.length + (L.map (shL shI).size).sum := rfl
  rw [e] at q
  omega
theorem good_end {L : List (List Int)} {k : Nat} (hw : IsW (L.length : Int)) (hf : ∀ j, j < k → FitsJ L L.length j) (hk : k = tot L L.length ∨ (k = 41 ∧ k < tot L L.length)) : GoodJ L ↔ AreB (joinL L L.length k) := by
  rcases hk with rfl | ⟨rfl, h2⟩
  · exact ⟨fun q => q.2.2, fun q => ⟨hw, hf, q⟩⟩
  · constructor
    · intro q
      have := q.2.2.2
      rw [joinL_len] at this
      omega
    · intro q
      have := q.2
      rw [joinL_len] at this
      omega
theorem areB_end {L : List (List Int)} {k : Nat} (h : AreB (joinL L L.length k)) (hk : k = tot L L.length ∨ (k = 41 ∧ k < tot L L.length)) : k = tot L L.length := by
  rcases hk with h1 | ⟨rfl, _⟩
  · exact h1
  · have := h.2
    rw [joinL_len] at this
    omega
theorem rdI_len {w : World} {v : Value} {xs : List Int} (h : RdI w v xs) : ∃ p c, v = .slice p xs.length c ∧ RdN1 w p xs := by
  obtain ⟨a, cap, rfl, h, hn⟩ := h
  refine ⟨a, cap, rfl, ?_⟩
  obtain ⟨_, h⟩ := h
  exact h

theorem specWD (n : Int) (b : Bool) (hb : b = decide (IsW n)) (W : World) : Calls Try.prog 72 #[.int .i64 n] W (Ans (.bool b) W) := by
  rw [hb]
  exact specW_any n W

theorem implWD (n : Int) (b : Bool) (hb : b = decide (IsW n)) (W : World) : Calls Try.prog 73 #[.int .i64 n] W (Ans (.bool b) W) := by
  rw [hb]
  exact implW_any n W

end Go.Proofs.Ytnighnkkeiegnab
