/-
  Slices of things that own memory, appended to.
-/
import Derived.Test.YtcenngekjopjpaaAppP
namespace Go.Proofs.Ytcenngekjopjpaa
open Go Go.RowKit
set_option linter.unusedVariables false

def flatN (cs : Nat → List Value) (n : Nat) : List Value := (List.range n).flatMap cs
theorem flatN_zero (cs : Nat → List Value) : flatN cs 0 = [] := rfl
theorem flatN_succ (cs : Nat → List Value) (n : Nat) : flatN cs (n + 1) = flatN cs n ++ cs n := by
  unfold flatN
  rw [List.range_succ, List.flatMap_append]
  simp
theorem flatN_congr {cs ds : Nat → List Value} : ∀ {n : Nat}, (∀ k, k < n → cs k = ds k) → flatN cs n = flatN ds n
  | 0, _ => rfl
  | n + 1, h => by rw [flatN_succ, flatN_succ, flatN_congr (fun k hk => h k (by omega)), h n (by omega)]
theorem flatN_len {cs : Nat → List Value} {m : Nat} : ∀ {n : Nat}, (∀ k, k < n → (cs k).length = m) → (flatN cs n).length = n * m
  | 0, _ => by simp [flatN]
  | n + 1, h => by rw [flatN_succ, List.length_append, flatN_len (fun k hk => h k (by omega)), h n (by omega), Nat.succ_mul]
theorem flatN_at {cs : Nat → List Value} {m : Nat} : ∀ {n k j : Nat}, (∀ k, k < n → (cs k).length = m) → k < n → j < m → (flatN cs n)[k * m + j]? = (cs k)[j]?
  | 0, _, _, _, h, _ => absurd h (Nat.not_lt_zero _)
  | n + 1, k, j, h, hk, hj => by
    have hl := flatN_len (cs := cs) (m := m) (n := n) (fun k hk => h k (by omega))
    rw [flatN_succ]
    by_cases e : k = n
    · subst e
      rw [List.getElem?_append_right (by omega), hl]
      congr 1
      omega
    · have q := Nat.mul_le_mul_right m (show k + 1 ≤ n by omega)
      rw [Nat.succ_mul] at q
      rw [List.getElem?_append_left (by omega)]
      exact flatN_at (fun k hk => h k (by omega)) (by omega) hj

section
variable {α : Type} [Inhabited α]

/-- the elements of a row, each with memory of its own -/
def ElR (s : Shp α) (w : World) (base : Nat) (v : Value) (xs : List α) (cs : Nat → List Value) (P Q : Nat → Nat) : Prop :=
  (∀ k, k < xs.length → base ≤ P k ∧ Q k ≤ w.heap.size ∧ (cs k).length = s.n ∧ s.ow w (P k) (Q k) (cs k) (xs.getD k default) ∧ ∀ g, v.ownBlock = some g → g < P k ∨ Q k ≤ g) ∧ ∀ j k, j < k → k < xs.length → Q j ≤ P k ∨ Q k ≤ P j
/-- a row of the call's own whose elements own memory of the call's own -/
def OwR (s : Shp α) (e : TypeId) (w : World) (base : Nat) (v : Value) (xs : List α) : Prop :=
  ∃ (cs : Nat → List Value) (P Q : Nat → Nat), w.ownsRow base e s.n v xs.length (flatN cs xs.length) ∧ ElR s w base v xs cs P Q

variable {s : Shp α}

theorem owR_of {e : TypeId} {w : World} {base : Nat} {v : Value} (h : w.ownsRow base e s.n v 0 []) : OwR s e w base v [] :=
  ⟨fun _ => [], fun _ => 0, fun _ => 0, h, fun k hk => absurd hk (Nat.not_lt_zero _), fun j k _ hk => absurd hk (Nat.not_lt_zero _)⟩
theorem owR_nil {e : TypeId} {w : World} {base : Nat} : OwR s e w base (.slice none 0 0) [] := owR_of (World.ownsRow_nil _ _ _ _)
theorem ElR.kept {w w' : World} {base : Nat} {v : Value} {xs : List α} {cs : Nat → List Value} {P Q : Nat → Nat} {r : Option Nat} (h : ElR s w base v xs cs P Q) (g : w.grownBy w' r) (hr : ∀ i, r = some i → i < base) : ElR s w' base v xs cs P Q := by
  refine ⟨fun k hk => ?_, h.2⟩
  obtain ⟨h1, h2, h3, h4, h5⟩ := h.1 k hk
  have hg := g.size
  cases r with
  | none => exact ⟨h1, by omega, h3, s.keep h4 (chg_gby g (Q k) (Q k)) (.inl (Nat.le_refl _)), h5⟩
  | some i =>
    have := hr i rfl
    exact ⟨h1, by omega, h3, s.keep h4 (chg_row (lo := i) (hi := i + 1) g (fun j hj => by have := Option.some.inj hj; omega)) (.inr (by omega)), h5⟩
theorem OwR.kept {e : TypeId} {w w' : World} {base : Nat} {v : Value} {xs : List α} {r : Option Nat} (h : OwR s e w base v xs) (g : w.grownBy w' r) (hr : ∀ i, r = some i → i < base) : OwR s e w' base v xs := by
  obtain ⟨cs, P, Q, h1, h2⟩ := h
  refine ⟨cs, P, Q, h1.kept g ?_, h2.kept g hr⟩
  cases hv : v.ownBlock with
  | none => exact .inl rfl
  | some i => exact .inr (fun q => by have := hr i q.symm; have := (h1.lt i hv).1; omega)
theorem OwR.grow {e : TypeId} {w w' : World} {base : Nat} {v : Value} {xs : List α} (h : OwR s e w base v xs) (g : w.grownBy w' none) : OwR s e w' base v xs := h.kept g (fun i hi => by cases hi)
theorem OwR.form {e : TypeId} {w : World} {base : Nat} {v : Value} {xs : List α} (h : OwR s e w base v xs) : ∃ a c, v = .slice a xs.length c := by
  obtain ⟨_, _, _, h, _⟩ := h
  rcases h.2 with ⟨rfl, h0⟩ | ⟨g, cap, cur, rfl, _⟩
  · exact ⟨none, 0, by rw [h0]⟩
  · exact ⟨_, cap, rfl⟩

/-- behind an append of one element: h is of the world w0 ahead of the element's own memory, which is new -/
theorem owR_app {e : TypeId} {w0 w w' : World} {base a b : Nat} {v v' : Value} {xs : List α} {x : α} {c : List Value} {cs : Nat → List Value} {P Q : Nat → Nat} (hv : ∀ i, v.ownBlock = some i → i < w0.heap.size) (h : ElR s w0 base v xs cs P Q) (g0 : w0.grownBy w none) (o : s.ow w a b c x) (ha : w0.heap.size ≤ a) (hbase : base ≤ w0.heap.size) (hb : b ≤ w.heap.size)
    (hr : w'.ownsRow base e s.n v' (xs.length + 1) (flatN cs xs.length ++ c)) (g : w.grownBy w' v.ownBlock) (hat : ∀ i, v'.ownBlock = some i → v.ownBlock = some i ∨ w.heap.size ≤ i) : OwR s e w' base v' (xs ++ [x]) := by
  have hs0 := g0.size
  have hs1 := g.size
  have hlc := s.len (s.read o)
  have hkeep : ∀ {lo hi : Nat} {ds : List Value} {y : α}, s.ow w lo hi ds y → (∀ i, v.ownBlock = some i → i < lo ∨ hi ≤ i) → s.ow w' lo hi ds y := by
    intro lo hi ds y q hq
    cases hv2 : v.ownBlock with
    | none => rw [hv2] at g; exact s.keep q (chg_gby g hi hi) (.inl (Nat.le_refl _))
    | some i =>
      rw [hv2] at g
      have := hq i hv2
      exact s.keep q (chg_row (lo := i) (hi := i + 1) g (fun j hj => by have := Option.some.inj hj; omega)) (by omega)
  have hlen : (xs ++ [x]).length = xs.length + 1 := by simp
  have e1 : ∀ k, k < xs.length → (xs ++ [x]).getD k default = xs.getD k default := fun k hk => by rw [List.getD_eq_getElem?_getD, List.getD_eq_getElem?_getD, List.getElem?_append_left hk]
  have e2 : (xs ++ [x]).getD xs.length default = x := by rw [List.getD_eq_getElem?_getD, List.getElem?_append_right (Nat.le_refl _)]; simp
  refine ⟨fun k => if k = xs.length then c else cs k, fun k => if k = xs.length then a else P k, fun k => if k = xs.length then b else Q k, ?_, fun k hk => ?_, fun j k hj hk => ?_⟩
  · rw [hlen, flatN_succ, if_pos rfl, flatN_congr (ds := cs) (fun k hk => by rw [if_neg (by omega)])]
    exact hr
  · rw [hlen] at hk
    dsimp only
    by_cases ek : k = xs.length
    · subst ek
      rw [if_pos rfl, if_pos rfl, if_pos rfl, e2]
      refine ⟨by omega, by omega, hlc, hkeep o (fun i hi => by have := hv i hi; omega), fun i hi => ?_⟩
      rcases hat i hi with q | q
      · have := hv i q; omega
      · omega
    · have hk2 : k < xs.length := by omega
      rw [if_neg ek, if_neg ek, if_neg ek, e1 k hk2]
      obtain ⟨h1, h2, h3, h4, h5⟩ := h.1 k hk2
      refine ⟨h1, by omega, h3, hkeep (s.keep h4 (chg_gby g0 (Q k) (Q k)) (.inl (Nat.le_refl _))) h5, fun i hi => ?_⟩
      rcases hat i hi with q | q
      · exact h5 i q
      · omega
  · rw [hlen] at hk
    dsimp only
    have ej : ¬ j = xs.length := by omega
    rw [if_neg ej, if_neg ej]
    have hQ := (h.1 j (by omega)).2.1
    by_cases ek : k = xs.length
    · rw [if_pos ek, if_pos ek]; exact .inl (by omega)
    · rw [if_neg ek, if_neg ek]; exact h.2 j k hj (by omega)

/-- in an interval of its own -/
theorem OwR.own {e : TypeId} {w : World} {base : Nat} {v : Value} {xs : List α} (h : OwR s e w base v xs) (hm : xs.length ≤ 9223372036854775807) : OwL s w base w.heap.size v xs := by
  obtain ⟨cs, P, Q, ⟨hl, h2⟩, h3, h4⟩ := h
  rcases h2 with ⟨rfl, h0⟩ | ⟨g, cap, cur, rfl, hb, hg, hcp, _, hs, ht⟩
  · exact ⟨none, 0, by rw [h0], ⟨fun _ => rfl, by omega⟩, hm, (fun p hp => by cases hp), .inl h0⟩
  · have hin := (Array.getElem?_eq_some_iff.1 hg).1
    refine ⟨_, cap, rfl, ⟨(fun e => by cases e), hcp⟩, hm, (fun p hp => by cases hp; exact ⟨hb, hin⟩), .inr ⟨g, 0, P, Q, cur, e, rfl, hg, fun k hk => ?_, h4⟩⟩
    obtain ⟨q1, q2, q3, q4, q5⟩ := h3 k hk
    refine ⟨q1, q2, q5 g rfl, cs k, fun j hj => ?_, q4⟩
    rw [q3] at hj
    have q := flatN_at (cs := cs) (m := s.n) (n := xs.length) (k := k) (j := j) (fun k hk => (h3 k hk).2.2.1) hk hj
    have hlt : k * s.n + j < xs.length * s.n := by
      have := Nat.mul_le_mul_right s.n (show k + 1 ≤ xs.length from hk)
      rw [Nat.succ_mul] at this; omega
    rw [← ht, List.getElem?_take, if_pos hlt, Array.getElem?_toList] at q
    rw [Nat.zero_add]; exact q
theorem OwR.rd {e : TypeId} {w : World} {base : Nat} {v : Value} {xs : List α} (h : OwR s e w base v xs) (hm : xs.length ≤ 9223372036854775807) : RdL s w v xs := (h.own hm).rd

end

end Go.Proofs.Ytcenngekjopjpaa
