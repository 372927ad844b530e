/-
  Plain facts on a packet's bytes: when the bytes of the packet that was read are those that were given.
-/
import Derived.Test.YtokpmbagidokkaaWireDec
namespace Go.Proofs.Ytokpmbagidokkaa
open Go Go.RowKit

theorem halves_words (bs : List Int) (hb : ∀ x ∈ bs, 0 ≤ x ∧ x ≤ 255) : ∀ n, 8 + 2 * n ≤ bs.length → bs.take 8 ++ halves (wordsAt bs n) = bs.take (8 + 2 * n) := by
  intro n
  induction n with
  | zero => intro _; simp [wordsAt, halves]
  | succ n ih =>
    intro h
    have h1 : 8 + 2 * n < bs.length := by omega
    have h2 : 9 + 2 * n < bs.length := by omega
    have q1 := hb _ (List.getElem_mem h1)
    have q2 := hb _ (List.getElem_mem h2)
    have g1 : bs.getD (8 + 2 * n) 0 = bs[8 + 2 * n] := by rw [List.getD_eq_getElem?_getD, List.getElem?_eq_getElem h1]; rfl
    have g2 : bs.getD (9 + 2 * n) 0 = bs[9 + 2 * n] := by rw [List.getD_eq_getElem?_getD, List.getElem?_eq_getElem h2]; rfl
    rw [wordsAt_snoc, halves_snoc, ← List.append_assoc, ih (by omega), g1, g2]
    rw [show 8 + 2 * (n + 1) = (8 + 2 * n + 1) + 1 by omega, List.take_succ_eq_append_getElem (show 8 + 2 * n + 1 < bs.length by omega), List.take_succ_eq_append_getElem h1, List.append_assoc]
    congr 1
    have e1 : (bs[8 + 2 * n] * 256 + bs[9 + 2 * n]) / 256 = bs[8 + 2 * n] := by omega
    have e2 : (bs[8 + 2 * n] * 256 + bs[9 + 2 * n]) % 256 = bs[9 + 2 * n] := by omega
    rw [e1, e2]
    have e3 : bs[8 + 2 * n + 1] = bs[9 + 2 * n] := by congr 1; omega
    simp [e3]

theorem eight {bs : List Int} (h : 8 ≤ bs.length) : bs.take 8 = [bs.getD 0 0, bs.getD 1 0, bs.getD 2 0, bs.getD 3 0, bs.getD 4 0, bs.getD 5 0, bs.getD 6 0, bs.getD 7 0] := by
  match bs, h with
  | b0 :: b1 :: b2 :: b3 :: b4 :: b5 :: b6 :: b7 :: rest, _ => rfl

/-- the bytes of the packet that a row of bytes shows -/
def encOf (bs : List Int) (n : Nat) : List Int := encL (bs.getD 0 0) (bs.getD 1 0) (bs.getD 2 0) (bs.getD 3 0 * 256 + bs.getD 4 0) (bs.getD 5 0) (bs.getD 6 0 / 16) (bs.getD 6 0 % 16) (wordsAt bs n)

theorem enc_back {bs : List Int} (h : AreB bs) {n : Nat} (hn : bs.length = 8 + 2 * n) (h7 : bs.getD 7 0 = (n : Int)) : encOf bs n = bs := by
  have h8 : 8 ≤ bs.length := by omega
  have hw := halves_words bs h.1 n (by omega)
  rw [← hn, List.take_length] at hw
  have b4 := areB_at h (k := 4) (by omega)
  have b6 := areB_at h (k := 6) (by omega)
  have e1 : (bs.getD 3 0 * 256 + bs.getD 4 0) / 256 = bs.getD 3 0 := by omega
  have e2 : (bs.getD 3 0 * 256 + bs.getD 4 0) % 256 = bs.getD 4 0 := by omega
  have e3 : bs.getD 6 0 / 16 * 16 + bs.getD 6 0 % 16 = bs.getD 6 0 := by omega
  have e := eight h8
  rw [h7] at e
  unfold encOf encL
  rw [wordsAt_length, e1, e2, e3, ← e]
  exact hw

theorem enc_parts {bs : List Int} {n : Nat} (h : encOf bs n = bs) : bs.length = 8 + 2 * n ∧ bs.getD 7 0 = (n : Int) := by
  have hl := congrArg List.length h
  unfold encOf at hl
  rw [encL_length, wordsAt_length] at hl
  refine ⟨hl.symm, ?_⟩
  have h7 : (encOf bs n).getD 7 0 = bs.getD 7 0 := by rw [h]
  rw [← h7]
  unfold encOf encL
  rw [wordsAt_length]
  rfl

/-- a row of bytes that shows a packet -/
def DecOk (bs : List Int) (n : Nat) : Prop := AreB bs ∧ bs.length = 8 + 2 * n ∧ bs.getD 7 0 = (n : Int) ∧ PkOk (bs.getD 0 0) (bs.getD 1 0) (bs.getD 2 0) (bs.getD 3 0 * 256 + bs.getD 4 0) (bs.getD 5 0) (bs.getD 6 0 / 16) (bs.getD 6 0 % 16) (wordsAt bs n)

/-- a valid packet's bytes are bytes -/
theorem halves_byte {xs : List Int} (h : AreW xs) : ∀ x ∈ halves xs, 0 ≤ x ∧ x ≤ 255 := by
  intro x hx
  obtain ⟨y, hy, hm⟩ := List.mem_flatMap.1 hx
  have := h y hy
  simp at hm
  omega

theorem encL_byte {k f t a l g s : Int} {xs : List Int} (h : PkOk k f t a l g s xs) : AreB (encL k f t a l g s xs) := by
  obtain ⟨hk, hf, ht, ha, hl, hg, hs, hxs⟩ := pk_bounds h
  refine ⟨?_, by rw [encL_length]; omega⟩
  intro x hx
  unfold encL at hx
  rcases List.mem_append.1 hx with hx | hx
  · simp at hx
    omega
  · exact halves_byte h.2.1 x hx

theorem wordsAt_encL (k f t a l g s : Int) (xs : List Int) : wordsAt (encL k f t a l g s xs) xs.length = xs := by
  apply List.ext_getElem
  · rw [wordsAt_length]
  · intro j h1 h2
    have hp : ∀ (ys : List Int) (j : Nat) (hj : j < ys.length), (halves ys)[2 * j]? = some (ys[j] / 256) ∧ (halves ys)[2 * j + 1]? = some (ys[j] % 256) := by
      intro ys
      induction ys with
      | nil => intro j hj; simp at hj
      | cons y ys ih =>
        intro j hj
        have e : halves (y :: ys) = (y / 256) :: (y % 256) :: halves ys := by simp [halves]
        rw [e]
        cases j with
        | zero => exact ⟨rfl, rfl⟩
        | succ j =>
          have := ih j (by simpa using hj)
          rw [show 2 * (j + 1) = 2 * j + 1 + 1 by omega]
          simpa using this
    obtain ⟨p1, p2⟩ := hp xs j h2
    have e1 : (encL k f t a l g s xs).getD (8 + 2 * j) 0 = xs[j] / 256 := by
      rw [List.getD_eq_getElem?_getD]; unfold encL
      rw [List.getElem?_append_right (by simp only [List.length_cons, List.length_nil]; omega)]
      simp only [List.length_cons, List.length_nil]
      rw [show 8 + 2 * j - (0 + 1 + 1 + 1 + 1 + 1 + 1 + 1 + 1) = 2 * j by omega, p1]; rfl
    have e2 : (encL k f t a l g s xs).getD (9 + 2 * j) 0 = xs[j] % 256 := by
      rw [List.getD_eq_getElem?_getD]; unfold encL
      rw [List.getElem?_append_right (by simp only [List.length_cons, List.length_nil]; omega)]
      simp only [List.length_cons, List.length_nil]
      rw [show 9 + 2 * j - (0 + 1 + 1 + 1 + 1 + 1 + 1 + 1 + 1) = 2 * j + 1 by omega, p2]; rfl
    simp only [wordsAt, List.getElem_map, List.getElem_range]
    rw [e1, e2]
    omega

/-- the bytes of a valid packet show it -/
theorem decOk_enc {k f t a l g s : Int} {xs : List Int} (h : PkOk k f t a l g s xs) : DecOk (encL k f t a l g s xs) xs.length := by
  obtain ⟨hk, hf, ht, ha, hl, hg, hs, hxs⟩ := pk_bounds h
  have hw := wordsAt_encL k f t a l g s xs
  refine ⟨encL_byte h, encL_length .., rfl, ?_⟩
  rw [hw]
  have e0 : (encL k f t a l g s xs).getD 3 0 * 256 + (encL k f t a l g s xs).getD 4 0 = a := by
    show a / 256 * 256 + a % 256 = a
    omega
  have e1 : (encL k f t a l g s xs).getD 6 0 / 16 = g := by
    show (g * 16 + s) / 16 = g
    omega
  have e2 : (encL k f t a l g s xs).getD 6 0 % 16 = s := by
    show (g * 16 + s) % 16 = s
    omega
  rw [e0, e1, e2]
  exact h

end Go.Proofs.Ytokpmbagidokkaa
