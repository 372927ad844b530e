/-
  Rows of several cells: written cell by cell; a slice that is being copied, or marked.
-/
import Derived.Test.YtnighnkkeiegnabShp
namespace Go.Proofs.Ytnighnkkeiegnab
open Go Go.RowKit
set_option linter.unusedVariables false

/-- the cells cs put into an array from o on -/
def putC (C : Array Value) (o : Nat) : List Value → Array Value
  | [] => C
  | c :: cs => putC (C.setIfInBounds o c) (o + 1) cs
/-- .. into a block -/
def putW (w : World) (b o : Nat) : List Value → World
  | [] => w
  | c :: cs => putW (w.setCell ⟨b, o, none⟩ c) b (o + 1) cs

theorem putC_size : ∀ (cs : List Value) (C : Array Value) (o : Nat), (putC C o cs).size = C.size
  | [], _, _ => rfl
  | c :: cs, C, o => by rw [putC, putC_size cs]; simp
theorem putC_out : ∀ (cs : List Value) (C : Array Value) (o p : Nat), (p < o ∨ o + cs.length ≤ p) → (putC C o cs)[p]? = C[p]?
  | [], _, _, _, _ => rfl
  | c :: cs, C, o, p, h => by
    simp only [List.length_cons] at h
    rw [putC, putC_out cs _ _ _ (by omega), Array.getElem?_setIfInBounds, if_neg (by omega)]
theorem putC_in : ∀ (cs : List Value) (C : Array Value) (o i : Nat), i < cs.length → o + cs.length ≤ C.size → (putC C o cs)[o + i]? = cs[i]?
  | [], _, _, _, h, _ => absurd h (Nat.not_lt_zero _)
  | c :: cs, C, o, 0, _, hs => by
    simp only [List.length_cons] at hs
    rw [putC, putC_out _ _ _ _ (by omega), Array.getElem?_setIfInBounds, if_pos (by omega), if_pos (by omega)]; rfl
  | c :: cs, C, o, i + 1, h, hs => by
    simp only [List.length_cons] at hs h
    have := putC_in cs (C.setIfInBounds o c) (o + 1) i (by omega) (by simp; omega)
    rw [putC, show o + (i + 1) = o + 1 + i by omega, this]; rfl
theorem putW_heap : ∀ (cs : List Value) {w : World} {b o : Nat} {C : Array Value} {t : TypeId}, w.heap[b]? = some (.cells C t (0, 0)) → (putW w b o cs).heap[b]? = some (.cells (putC C o cs) t (0, 0))
  | [], _, _, _, _, _, h => h
  | c :: cs, w, b, o, C, t, h => putW_heap cs (heap_setCell_same w b o C t c h)
theorem putW_size : ∀ (cs : List Value) (w : World) (b o : Nat), (putW w b o cs).heap.size = w.heap.size
  | [], _, _, _ => rfl
  | c :: cs, w, b, o => by rw [putW, putW_size cs]; simp
theorem chg_one (w : World) (b k : Nat) (v : Value) : Chg w (w.setCell ⟨b, k, none⟩ v) b (b + 1) :=
  ⟨rfl, rfl, rfl, by simp, fun j hj hn => Below.heap_setCell _ _ _ _ (by dsimp only; omega)⟩
theorem putW_chg : ∀ (cs : List Value) (w : World) (b o : Nat), Chg w (putW w b o cs) b (b + 1)
  | [], _, b, _ => chg_gby (gby_refl _ _) b (b + 1)
  | c :: cs, w, b, o => chg_trans (chg_one w b o c) (putW_chg cs _ b (o + 1))

section
variable {α : Type} [Inhabited α] {s : Shp α}

/-- the first k of xs are copied into the block g, each with blocks of its own -/
structure Copd (s : Shp α) (g : Nat) (wr : World) (xs : List α) (C : Array Value) (P : Nat → Nat) (k : Nat) : Prop where
  start : g < P 0
  last : P k = wr.heap.size
  step : ∀ j, j < k → P j ≤ P (j + 1)
  own : ∀ j, j < k → ∃ cs, cs.length = s.n ∧ (∀ i, i < cs.length → C[j * s.n + i]? = cs[i]?) ∧ s.ow wr (P j) (P (j + 1)) cs (xs.getD j default)
theorem Copd.mono {g : Nat} {wr : World} {xs : List α} {C : Array Value} {P : Nat → Nat} {k : Nat} (h : Copd s g wr xs C P k) : ∀ i j, i ≤ j → j ≤ k → P i ≤ P j := by
  intro i j hij
  induction j with
  | zero => intro _; rw [show i = 0 by omega]; exact Nat.le_refl _
  | succ j ih =>
    intro hj
    by_cases e : i = j + 1
    · subst e; exact Nat.le_refl _
    · exact Nat.le_trans (ih (by omega) (by omega)) (h.step j (by omega))
theorem copd_next {g : Nat} {wr w1 : World} {xs : List α} {C : Array Value} {P : Nat → Nat} {k m : Nat} {cs : List Value} (h : Copd s g wr xs C P k) (hk : k < m) (hC : C.size = m * s.n) (gr : wr.grownBy w1 none) (o : s.ow w1 wr.heap.size w1.heap.size cs (xs.getD k default)) :
    Copd s g (putW w1 g (k * s.n) cs) xs (putC C (k * s.n) cs) (fun j => if j = k + 1 then w1.heap.size else P j) (k + 1) := by
  have hs := h.start
  have hl := h.last
  have hgs := gr.size
  have hm := h.mono
  have hlen := s.len (s.read o)
  have hfit : k * s.n + cs.length ≤ C.size := by
    rw [hC, hlen]
    have := Nat.mul_le_mul_right s.n (show k + 1 ≤ m from hk)
    rw [Nat.succ_mul] at this; omega
  refine ⟨by simpa using hs, by simp [putW_size], fun j hj => ?_, fun j hj => ?_⟩
  · by_cases e : j = k
    · subst e; simp; omega
    · have := h.step j (by omega)
      rw [if_neg (by omega), if_neg (by omega)]; exact this
  · by_cases e : j = k
    · subst e
      rw [if_neg (by omega), if_pos rfl, hl]
      have := hm 0 j (by omega) (Nat.le_refl _)
      exact ⟨cs, hlen, fun i hi => putC_in cs C _ i hi hfit, s.keep o (putW_chg _ _ _ _) (.inr (by omega))⟩
    · rw [if_neg (by omega), if_neg (by omega)]
      have := hm 0 j (by omega) (by omega)
      obtain ⟨ds, q1, q2, q3⟩ := h.own j (by omega)
      refine ⟨ds, q1, fun i hi => ?_, s.keep (s.keep q3 (chg_gby gr (P (j + 1)) (P (j + 1))) (.inl (Nat.le_refl _))) (putW_chg _ _ _ _) (.inr (by omega))⟩
      have hjk : (j + 1) * s.n ≤ k * s.n := Nat.mul_le_mul_right s.n (show j + 1 ≤ k by omega)
      rw [Nat.succ_mul] at hjk
      rw [putC_out _ _ _ _ (.inl (by omega))]
      exact q2 i hi
theorem copd_all {w : World} {g lo c : Nat} {xs : List α} {C : Array Value} {t : TypeId} {P : Nat → Nat} (h : Copd s g w xs C P xs.length) (hg : lo ≤ g) (hc : xs.length ≤ c) (hm2 : xs.length ≤ 9223372036854775807) (hh : w.heap[g]? = some (.cells C t (0, 0))) :
    OwL s w lo w.heap.size (.slice (some ⟨g, 0, none⟩) xs.length c) xs := by
  have hs := h.start
  have hl := h.last
  have hm := h.mono
  refine ⟨_, _, rfl, ⟨(fun e => by cases e), hc⟩, hm2, (fun p e => by cases e; exact ⟨hg, block_in hh⟩), .inr ⟨g, 0, P, fun k => P (k + 1), C, t, rfl, hh, fun k hk => ?_, fun j k hj hk => .inl (hm (j + 1) k (by omega) (by omega))⟩⟩
  have := hm 0 k (by omega) (by omega)
  have := hm (k + 1) xs.length (by omega) (Nat.le_refl _)
  obtain ⟨cs, q1, q2, q3⟩ := h.own k hk
  exact ⟨by omega, by dsimp only; omega, .inl (by omega), cs, fun j hj => by rw [Nat.zero_add]; exact q2 j hj, q3⟩

/-- the first k of xs are marked -/
def Mkd (s : Shp α) (w : World) (b off : Nat) (C : Array Value) (P Q : Nat → Nat) (xs : List α) (m k : Nat) : Prop :=
  ∀ j, j < xs.length → ∃ cs, cs.length = s.n ∧ (∀ i, i < cs.length → C[off + j * s.n + i]? = cs[i]?) ∧ s.ow w (P j) (Q j) cs (if j < k then s.em (m + ecL s (xs.take j)) (xs.getD j default) else xs.getD j default)
theorem mkd_next {w w2 : World} {b off : Nat} {C C' : Array Value} {P Q : Nat → Nat} {xs : List α} {m k : Nat} {cs : List Value} (h : Mkd s w b off C P Q xs m k)
    (hkp : ∀ j, j < xs.length → j ≠ k → ∀ ds y, s.ow w (P j) (Q j) ds y → s.ow w2 (P j) (Q j) ds y)
    (hin : ∀ i, i < s.n → C'[off + k * s.n + i]? = cs[i]?) (hout : ∀ p, p < off + k * s.n ∨ off + (k + 1) * s.n ≤ p → C'[p]? = C[p]?) (o : s.ow w2 (P k) (Q k) cs (s.em (m + ecL s (xs.take k)) (xs.getD k default))) :
    Mkd s w2 b off C' P Q xs m (k + 1) := by
  have hlen := s.len (s.read o)
  intro j hj
  by_cases e : j = k
  · subst e
    rw [if_pos (by omega)]
    exact ⟨cs, hlen, fun i hi => hin i (by omega), o⟩
  · obtain ⟨ds, q1, q2, q3⟩ := h j hj
    refine ⟨ds, q1, fun i hi => ?_, ?_⟩
    · rw [hout _ ?_]
      · exact q2 i hi
      · rcases Nat.lt_or_gt_of_ne e with e | e
        · have := Nat.mul_le_mul_right s.n (show j + 1 ≤ k from e)
          rw [Nat.succ_mul] at this; omega
        · have := Nat.mul_le_mul_right s.n (show k + 1 ≤ j from e)
          omega
    · have q4 := hkp j hj e ds _ q3
      by_cases hjk : j < k
      · rw [if_pos (by omega)]; rwa [if_pos hjk] at q4
      · rw [if_neg (by omega)]; rwa [if_neg hjk] at q4
theorem mkd_all {w : World} {lo hi b off c : Nat} {C : Array Value} {t : TypeId} {P Q : Nat → Nat} {xs : List α} {m : Nat} (h : Mkd s w b off C P Q xs m xs.length) (hl : lo ≤ b) (hh : b < hi) (hw : w.heap[b]? = some (.cells C t (0, 0))) (hc : xs.length ≤ c) (hm2 : xs.length ≤ 9223372036854775807)
    (hP : ∀ j, j < xs.length → lo ≤ P j ∧ Q j ≤ hi ∧ (b < P j ∨ Q j ≤ b)) (hd : ∀ i j, i < j → j < xs.length → Q i ≤ P j ∨ Q j ≤ P i) :
    OwL s w lo hi (.slice (some ⟨b, off, none⟩) xs.length c) (emL s m xs) := by
  refine ⟨_, c, by rw [emL_length], ⟨(fun e => by cases e), by rw [emL_length]; exact hc⟩, by rw [emL_length]; exact hm2, (fun p e => by cases e; exact ⟨hl, hh⟩), .inr ⟨b, off, P, Q, C, t, rfl, hw, fun k hk => ?_, fun i j hij hj => hd i j hij (by rwa [emL_length] at hj)⟩⟩
  rw [emL_length] at hk
  obtain ⟨p1, p2, p3⟩ := hP k hk
  obtain ⟨cs, q1, q2, q3⟩ := h k hk
  rw [if_pos hk] at q3
  exact ⟨p1, p2, p3, cs, q2, by rw [emL_getD s m xs k hk]; exact q3⟩

end

/-- a change of the block, and of what belongs to the element k -/
theorem mkd_kept {α : Type} {s : Shp α} {w w1 w2 : World} {b lo hi k : Nat} {P Q : Nat → Nat} {n : Nat} (hb : ∀ j, j < n → b < P j ∨ Q j ≤ b) (hd : ∀ i j, i < j → j < n → Q i ≤ P j ∨ Q j ≤ P i) (hk : k < n)
    (c1 : Chg w w1 b (b + 1)) (c2 : Chg w1 w2 lo hi) (hl : P k ≤ lo) (hh : hi ≤ Q k) :
    ∀ j, j < n → j ≠ k → ∀ ds (y : α), s.ow w (P j) (Q j) ds y → s.ow w2 (P j) (Q j) ds y := by
  intro j hj e ds y o
  refine s.keep (s.keep o c1 (by have := hb j hj; omega)) c2 ?_
  rcases Nat.lt_or_gt_of_ne e with e | e
  · have := hd j k e hk; omega
  · have := hd k j e hj; omega
theorem row_of_own {w : World} {base g size n cap : Nat} {e : TypeId} {xs : List Value} (h : w.ownsRow base e size (.slice (some ⟨g, 0, none⟩) n cap) n xs) : ∃ C, w.heap[g]? = some (.cells C e (0, 0)) ∧ C.size = cap * size := by
  rcases h.2 with ⟨h', _⟩ | ⟨g', cap', cur, h', _, hg, _, _, hs, _⟩
  · simp at h'
  · simp only [Value.slice.injEq, Option.some.injEq, Addr.mk.injEq, and_true, true_and] at h'
    obtain ⟨rfl, rfl⟩ := h'
    exact ⟨cur, hg, hs⟩
theorem at_cell {w : World} {b off j : Nat} {cs : List Value} {c : Value} (h : At w b off cs) (hc : cs[j]? = some c) : w.cell? ⟨b, off + j, none⟩ = some c := by
  rw [h j (List.getElem?_eq_some_iff.1 hc).1, hc]

end Go.Proofs.Ytnighnkkeiegnab
