/-
  Orders in which packets may leave: as data.
-/
import Derived.Test.YtnighnkkeiegnaaQSBool
import Derived.Test.YtnighnkkeiegnaaPassMath
import Derived.Test.YtnighnkkeiegnaaPlainRow
import Derived.Test.YtnighnkkeiegnaaAppP
namespace Go.Proofs.Ytnighnkkeiegnaa
open Go Go.RowKit
set_option linter.unusedVariables false

/-- what can be done at one place of a slice in new memory -/
def SetB (w : World) (lo hi : Nat) (v : Value) (xs : List Bool) (b k off : Nat) : Prop :=
  lo ≤ b ∧ b < hi ∧ w.cell? ⟨b, off + k, none⟩ = some (.bool (xs.getD k false)) ∧ w.frozen? ⟨b, off + k, none⟩ = false ∧ ∀ x, OwL shB (w.setCell ⟨b, off + k, none⟩ (.bool x)) lo hi v (xs.set k x) ∧ Chg w (w.setCell ⟨b, off + k, none⟩ (.bool x)) lo hi

theorem owB_at {w : World} {lo hi : Nat} {v : Value} {xs : List Bool} (h : OwL shB w lo hi v xs) (k : Nat) (hk : k < xs.length) :
    ∃ b off c, v = .slice (some ⟨b, off, none⟩) xs.length c ∧ SetB w lo hi v xs b k off := by
  have hmx := h.rd.max
  obtain ⟨a, cap, rfl, hc, hp, h1⟩ := owB_in h
  obtain ⟨b, off, C, t, rfl, hb, hC⟩ := h1.resolve_left (by omega)
  have hpb := hp _ rfl
  refine ⟨b, off, cap, rfl, hpb.1, hpb.2, ?_, frozen_of_row w b (off + k) C t hb, fun x => ⟨?_, chg_setp (chg_gby (gby_refl _ _) _ _) ⟨b, off + k, none⟩ hpb.1 hpb.2 _⟩⟩
  · rw [cell_of_row w b (off + k) C t _ hb]; exact hC k hk
  · refine owB_out (by rw [List.length_set]) (by rw [List.length_set]; exact hmx) (by rw [List.length_set]; exact hc) hp (.inr ⟨b, off, C.setIfInBounds (off + k) (.bool x), t, rfl, heap_setCell_same w b (off + k) C t _ hb, fun j hj => ?_⟩)
    rw [List.length_set] at hj
    have hsz : off + k < C.size := (Array.getElem?_eq_some_iff.1 (hC k hk)).1
    rw [Array.getElem?_setIfInBounds, List.getD_eq_getElem?_getD, List.getElem?_set]
    by_cases e : k = j
    · subst e
      rw [if_pos rfl, if_pos hsz, if_pos rfl, if_pos hk]; rfl
    · rw [if_neg (by omega), if_neg e, ← List.getD_eq_getElem?_getD]
      exact hC j hj

end Go.Proofs.Ytnighnkkeiegnaa

namespace Go.Proofs.Ytnighnkkeiegnaa
open Go Go.RowKit
set_option linter.unusedVariables false

/-- the first m are numbers below n, no two the same -/
def GoodTo (os : List Int) (n m : Nat) : Prop := (∀ k, k < m → 0 ≤ os.getD k 0 ∧ os.getD k 0 < (n : Int)) ∧ ∀ i k, i < k → k < m → ¬ os.getD i 0 = os.getD k 0
def SeenIs (os : List Int) (m : Nat) (bs : List Bool) : Prop := ∀ j, j < bs.length → (bs.getD j false = true ↔ ∃ i, i < m ∧ os.getD i 0 = (j : Int))
def PermP (os : List Int) (n : Nat) : Prop := os.length = n ∧ GoodTo os n os.length
/-- the pair at i, k keeps the rules -/
def PairOk (xs : List DPacket) (os : List Int) (i k : Nat) : Prop := os.getD k 0 < os.getD i 0 → mayD (xs.getD (os.getD i 0).toNat default) (xs.getD (os.getD k 0).toNat default) = true
def LegalP (xs : List DPacket) (os : List Int) : Prop := os.length = xs.length ∧ GoodTo os xs.length os.length ∧ ∀ i k, i < k → k < os.length → PairOk xs os i k
theorem iff_noL {p : Prop} (h : ¬ p) : false = true ↔ p := ⟨fun q => (by cases q), fun q => absurd q h⟩
theorem iff_yesL {p : Prop} (h : p) : true = true ↔ p := ⟨fun _ => h, fun _ => rfl⟩
theorem good_zero (os : List Int) (n : Nat) : GoodTo os n 0 := ⟨fun k hk => absurd hk (Nat.not_lt_zero _), fun i k _ hk => absurd hk (Nat.not_lt_zero _)⟩
theorem seen_zero (os : List Int) (n : Nat) : SeenIs os 0 (List.replicate n false) := by
  intro j hj
  rw [List.length_replicate] at hj
  constructor
  · intro h
    rw [List.getD_eq_getElem?_getD, List.getElem?_replicate, if_pos hj] at h
    cases h
  · rintro ⟨i, hi, _⟩; omega
theorem seen_next {os : List Int} {m j : Nat} {bs : List Bool} (h : SeenIs os m bs) (hj : j < bs.length) (e : os.getD m 0 = (j : Int)) : SeenIs os (m + 1) (bs.set j true) := by
  intro i hi
  rw [List.length_set] at hi
  rw [List.getD_eq_getElem?_getD, List.getElem?_set]
  by_cases c : j = i
  · subst c
    rw [if_pos rfl, if_pos hj]
    exact iff_yesL ⟨m, by omega, e⟩
  · rw [if_neg c, ← List.getD_eq_getElem?_getD, h i hi]
    constructor
    · rintro ⟨k, h1, h2⟩; exact ⟨k, by omega, h2⟩
    · rintro ⟨k, h1, h2⟩
      by_cases d : k = m
      · subst d; exfalso; apply c; omega
      · exact ⟨k, by omega, h2⟩
theorem good_next {os : List Int} {n m j : Nat} {bs : List Bool} (h : GoodTo os n m) (hs : SeenIs os m bs) (hb : bs.length = n) (hj : j < n) (e : os.getD m 0 = (j : Int)) (hf : bs.getD j false = false) : GoodTo os n (m + 1) := by
  refine ⟨fun k hk => ?_, fun i k hi hk => ?_⟩
  · by_cases c : k = m
    · subst c; omega
    · exact h.1 k (by omega)
  · by_cases c : k = m
    · subst c
      intro q
      have := (hs j (by omega)).2 ⟨i, hi, by rw [q, e]⟩
      rw [hf] at this; cases this
    · exact h.2 i k hi (by omega)
theorem good_out {os : List Int} {n m k : Nat} (hk : m < k) (h : os.getD m 0 < 0 ∨ (n : Int) - 1 < os.getD m 0) : ¬ GoodTo os n k := fun q => by
  have := q.1 m hk
  omega
theorem good_twice {os : List Int} {n m k j : Nat} {bs : List Bool} (hk : m < k) (hs : SeenIs os m bs) (hj : j < bs.length) (e : os.getD m 0 = (j : Int)) (hf : bs.getD j false = true) : ¬ GoodTo os n k := fun q => by
  obtain ⟨i, hi, h2⟩ := (hs j hj).1 hf
  exact q.2 i m hi hk (by rw [h2, e])
theorem good_less {os : List Int} {n m k : Nat} (h : m ≤ k) (q : GoodTo os n k) : GoodTo os n m := ⟨fun i hi => q.1 i (by omega), fun i j hi hj => q.2 i j hi (by omega)⟩
/-- truth values made at once -/
theorem ownB_made {w : World} {base n : Nat} {v : Value} (hn : n ≤ 9223372036854775807) (h : w.ownsRow base 4 1 v n (madeCells (Value.bool false).cells (n * 1)).toList) : OwL shB w base w.heap.size v (List.replicate n false) := by
  rw [show (Value.bool false).cells = #[Value.bool false] from rfl, Nat.mul_one, toList_madeCells_one] at h
  refine owP_row (s := shB) (e := 4) _ plainB.len plainB.ow (by simpa using hn) ?_
  rw [List.length_replicate]
  clear hn
  have e : ∀ n : Nat, (List.replicate n false).flatMap (fun x => [Value.bool x]) = List.replicate n (Value.bool false) := by
    intro n
    induction n with
    | zero => rfl
    | succ n ih => rw [List.replicate_succ, List.flatMap_cons, ih]; rfl
  rw [e]; exact h

end Go.Proofs.Ytnighnkkeiegnaa
