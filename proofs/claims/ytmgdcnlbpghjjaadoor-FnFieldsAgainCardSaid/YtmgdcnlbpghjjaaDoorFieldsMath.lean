/-
  Plain facts on splitting a line: the fields that are there when the first k places are read, and where the next one begins.
-/
import Derived.Test.YtmgdcnlbpghjjaaDoorHexMath
import Derived.PlainAid
namespace Go.Proofs.YtmgdcnlbpghjjaaDoor
open Go Go.RowKit Go.PlainAid

/-- one place more: a space or the end closes a field -/
def fstep (s : ByteArray) (st : List ByteArray × Nat) (i : Nat) : List ByteArray × Nat :=
  if i < s.size ∧ bt s i ≠ 32 then st else (if st.2 < i then st.1 ++ [s.extract st.2 i] else st.1, i + 1)
def fst (s : ByteArray) : Nat → List ByteArray × Nat
  | 0 => ([], 0)
  | k + 1 => fstep s (fst s k) k
/-- the state behind k places -/
def St (s : ByteArray) (k : Nat) (xs : List ByteArray) (bg : Nat) : Prop := fst s k = (xs, bg)

theorem St.zero (s : ByteArray) : St s 0 [] 0 := rfl
theorem St.word {s : ByteArray} {k bg : Nat} {xs : List ByteArray} (h : St s k xs bg) (hk : k < s.size) (hb : bt s k ≠ 32) : St s (k + 1) xs bg := by
  unfold St at h ⊢; unfold fst fstep; rw [if_pos ⟨hk, hb⟩]; exact h
theorem St.close {s : ByteArray} {k bg : Nat} {xs : List ByteArray} (h : St s k xs bg) (hb : k < s.size → bt s k = 32) (hlt : bg < k) : St s (k + 1) (xs ++ [s.extract bg k]) (k + 1) := by
  unfold St at h ⊢; unfold fst fstep; rw [if_neg (fun g => g.2 (hb g.1)), h]; simp only []; rw [if_pos hlt]
theorem St.none {s : ByteArray} {k bg : Nat} {xs : List ByteArray} (h : St s k xs bg) (hb : k < s.size → bt s k = 32) (hlt : ¬ bg < k) : St s (k + 1) xs (k + 1) := by
  unfold St at h ⊢; unfold fst fstep; rw [if_neg (fun g => g.2 (hb g.1)), h]; simp only []; rw [if_neg hlt]

theorem fst_bounds (s : ByteArray) : ∀ k, (fst s k).2 ≤ k ∧ (fst s k).1.length ≤ k := by
  intro k
  induction k with
  | zero => exact ⟨Nat.le_refl _, Nat.le_refl _⟩
  | succ k ih =>
    unfold fst fstep
    split
    · omega
    · constructor
      · exact Nat.le_refl _
      · simp only []
        split
        · rw [List.length_append, List.length_singleton]; omega
        · omega
theorem St.le {s : ByteArray} {k bg : Nat} {xs : List ByteArray} (h : St s k xs bg) : bg ≤ k ∧ xs.length ≤ k := by
  have := fst_bounds s k; unfold St at h; rw [h] at this; exact this

/-- no byte of the first k is outside the range -/
def Clean (s : ByteArray) (k : Nat) : Prop := ∀ i, i < k → i < s.size → 32 ≤ bt s i ∧ bt s i ≤ 126
theorem Clean.zero (s : ByteArray) : Clean s 0 := fun _ h => absurd h (Nat.not_lt_zero _)
theorem Clean.succ {s : ByteArray} {k : Nat} (h : Clean s k) (g : k < s.size → 32 ≤ bt s k ∧ bt s k ≤ 126) : Clean s (k + 1) := by
  intro i hi hs
  by_cases e : i = k
  · subst e; exact g hs
  · exact h i (by omega) hs

/-- the fields of a line -/
def fields (s : ByteArray) : List ByteArray := (fst s (s.size + 1)).1
/-- the line is one that has fields: not too long, no byte outside the range, not too many fields -/
def SplitOk (s : ByteArray) : Prop := s.size ≤ 600 ∧ Clean s s.size ∧ (fields s).length ≤ 24
theorem fields_of {s : ByteArray} {k bg : Nat} {xs : List ByteArray} (h : St s k xs bg) (hk : k = s.size + 1) : fields s = xs := by
  unfold St at h; unfold fields; rw [← hk, h]
theorem not_clean {s : ByteArray} {k : Nat} (hk : k < s.size) (h : bt s k < 32 ∨ 126 < bt s k) : ¬ SplitOk s := fun g => by have := g.2.1 k hk hk; omega
theorem clean_all {s : ByteArray} {k : Nat} (h : Clean s k) (hk : s.size ≤ k) : Clean s s.size := fun i hi hs => h i (by omega) hs

/-- the cells of a row of texts -/
def strs (xs : List ByteArray) : List Value := xs.map Value.string
theorem strs_append (a b : List ByteArray) : strs (a ++ b) = strs a ++ strs b := by simp [strs]
theorem strs_length (a : List ByteArray) : (strs a).length = a.length := by simp [strs]

theorem extract_size (s : ByteArray) (a b : Nat) (h : a ≤ b) (hb : b ≤ s.size) : (s.extract a b).size = b - a := by
  rw [ByteArray.size_extract]; omega

end Go.Proofs.YtmgdcnlbpghjjaaDoor
