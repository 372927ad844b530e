/-
  Plain facts on the texts of ids.
-/
import Derived.Test.YteaaobklfhlgiaaDoorParseMath
import Derived.Lib.IndexLaws
namespace Go.Proofs.YteaaobklfhlgiaaDoor
open Go Go.RowKit Go.Lib

/-- the text of an id: the bus, the device and the function -/
def idL (k : Nat) : List UInt8 := decDigits (k / 16) ++ 58 :: (decDigits (k / 4 % 4) ++ 46 :: decDigits (k % 4))

/-- a text cut at the first c, or whole if there is none -/
def Cutted (l : List UInt8) (c : UInt8) (a b : List UInt8) : Prop := (c ∉ a ∧ l = a ++ c :: b) ∨ (c ∉ l ∧ a = l ∧ b = [])

theorem cut_some {l : List UInt8} {c : UInt8} {o : Nat} (h : indexByte l c = o) : Cutted l c (l.take o) (l.drop (o + 1)) := by
  obtain ⟨h1, h2⟩ := indexByte_some h
  have hlt : o < l.length := by
    rcases Nat.lt_or_ge o l.length with h' | h'
    · exact h'
    · rw [List.getElem?_eq_none h'] at h1; cases h1
  refine .inl ⟨?_, ?_⟩
  · intro hm
    obtain ⟨k, hk, he⟩ := List.mem_iff_getElem.1 hm
    have hk' : k < o := by rw [List.length_take] at hk; omega
    refine h2 k hk' ?_
    rw [List.getElem?_eq_getElem (by omega)]
    rw [List.getElem_take] at he
    rw [he]
  · have : l[o] = c := by rw [List.getElem?_eq_getElem hlt] at h1; exact Option.some.inj h1
    rw [← this, ← List.drop_eq_getElem_cons hlt, List.take_append_drop]

theorem cut_none {l : List UInt8} {c : UInt8} (h : indexByte l c = -1) : Cutted l c l [] := by
  refine .inr ⟨?_, rfl, rfl⟩
  intro hm
  obtain ⟨k, hk, he⟩ := List.mem_iff_getElem.1 hm
  exact indexByte_none h k (by rw [List.getElem?_eq_getElem hk, he])

theorem split_one : ∀ {a a' b b' : List UInt8} {c : UInt8}, c ∉ a → c ∉ a' → a ++ c :: b = a' ++ c :: b' → a = a' ∧ b = b' := by
  intro a
  induction a with
  | nil =>
    intro a' b b' c _ h2 h
    cases a' with
    | nil => simp at h; exact ⟨rfl, h⟩
    | cons x r => simp at h; exact absurd (h.1 ▸ List.mem_cons_self ..) h2
  | cons x a ih =>
    intro a' b b' c h1 h2 h
    cases a' with
    | nil => simp at h; exact absurd (h.1 ▸ List.mem_cons_self ..) h1
    | cons y r =>
      simp at h h1 h2
      obtain ⟨e1, e2⟩ := ih h1.2 h2.2 h.2
      exact ⟨by rw [h.1, e1], e2⟩

theorem cut_own {l a b t r : List UInt8} {c : UInt8} (h : Cutted l c t r) (ha : c ∉ a) (hl : l = a ++ c :: b) : t = a ∧ r = b := by
  rcases h with ⟨h1, h2⟩ | ⟨h1, _, _⟩
  · exact split_one h1 ha (by rw [← h2, hl])
  · exact absurd (by rw [hl]; simp) h1

theorem colon_not (u : Nat) : (58 : UInt8) ∉ decDigits u := fun h => by have := decDigits_dig u _ h; unfold IsDig at this; simp at this

theorem point_not (u : Nat) : (46 : UInt8) ∉ decDigits u := fun h => by have := decDigits_dig u _ h; unfold IsDig at this; simp at this

/-- the parts of an id's text -/
theorem parts_of_id {l t1 r t2 t3 : List UInt8} {k : Nat} (h1 : Cutted l 58 t1 r) (h2 : Cutted r 46 t2 t3) (hl : l = idL k) : t1 = decDigits (k / 16) ∧ t2 = decDigits (k / 4 % 4) ∧ t3 = decDigits (k % 4) := by
  obtain ⟨e1, e2⟩ := cut_own h1 (colon_not _) hl
  obtain ⟨e3, e4⟩ := cut_own h2 (point_not _) e2
  exact ⟨e1, e3, e4⟩

/-- texts of numbers, cut out of a text, make it the text of an id -/
theorem id_of_parts {l t1 r t2 t3 : List UInt8} {b d f : Nat} (h1 : Cutted l 58 t1 r) (h2 : Cutted r 46 t2 t3) (c1 : Canon t1 b) (c2 : Canon t2 d) (c3 : Canon t3 f) (hd : d ≤ 3) (hf : f ≤ 3) : l = idL (b * 16 + d * 4 + f) := by
  have hf0 : t3 ≠ [] := by rw [← c3.2]; exact decDigits_ne f
  have hd0 : t2 ≠ [] := by rw [← c2.2]; exact decDigits_ne d
  unfold idL
  rw [show (b * 16 + d * 4 + f) / 16 = b by omega, show (b * 16 + d * 4 + f) / 4 % 4 = d by omega, show (b * 16 + d * 4 + f) % 4 = f by omega, c1.2, c2.2, c3.2]
  rcases h2 with ⟨_, e2⟩ | ⟨_, _, e⟩
  · rcases h1 with ⟨_, e1⟩ | ⟨_, _, e⟩
    · rw [e1, e2]
    · rw [e] at e2; simp at e2
  · exact absurd e hf0

theorem idL_one {a b : Nat} (h : idL a = idL b) : a = b := by
  obtain ⟨e1, e2⟩ := split_one (colon_not _) (colon_not _) h
  obtain ⟨e3, e4⟩ := split_one (point_not _) (point_not _) e2
  have f1 := congrArg (valD 0) e1
  have f2 := congrArg (valD 0) e3
  have f3 := congrArg (valD 0) e4
  simp only [decDigits_val] at f1 f2 f3
  omega

theorem idL_canon (k : Nat) (hk : k ≤ 255) : Canon (decDigits (k / 16)) (k / 16) ∧ Canon (decDigits (k / 4 % 4)) (k / 4 % 4) ∧ Canon (decDigits (k % 4)) (k % 4) := ⟨⟨by omega, rfl⟩, ⟨by omega, rfl⟩, ⟨by omega, rfl⟩⟩

theorem short_dig (u : Nat) (h : u ≤ 15) : (decDigits u).length ≤ 2 := by
  rw [decDigits]
  by_cases h1 : u < 10
  · rw [dif_pos h1]; simp
  · rw [dif_neg h1, decDigits, dif_pos (by omega)]; simp

theorem idL_len (k : Nat) (hk : k ≤ 255) : (idL k).length ≤ 8 := by
  have h1 := short_dig (k / 16) (by omega)
  have h2 := short_dig (k / 4 % 4) (by omega)
  have h3 := short_dig (k % 4) (by omega)
  unfold idL
  simp only [List.length_append, List.length_cons]
  omega

end Go.Proofs.YteaaobklfhlgiaaDoor
