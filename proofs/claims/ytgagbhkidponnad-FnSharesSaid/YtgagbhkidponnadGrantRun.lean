/-
  Grants one behind the other: the numbers; one grant on both sides.
-/
import Derived.Test.YtgagbhkidponnadGrantJ
namespace Go.Proofs.Ytgagbhkidponnad
open Go Go.RowKit
set_option linter.unusedVariables false

/-- the next port that asks -/
noncomputable def stepP (ask : List Bool) (n t : Nat) : Nat := open Classical in (t + (if h : ∃ k, NextAt ask t n k then h.choose else 0)) % n

/-- one grant: the port that is At now, and what is Left to it -/
noncomputable def gstep (xs : List Int) (ask : List Bool) (s : Int × Int) : Int × Int :=
  if ak ask s.1.toNat = true ∧ 0 < s.2 then (s.1, s.2 - 1) else ((stepP ask xs.length s.1.toNat : Nat), xs.getD (stepP ask xs.length s.1.toNat) 0 - 1)

noncomputable def giter (xs : List Int) (ask : List Bool) (s : Int × Int) : Nat → Int × Int
  | 0 => s
  | m + 1 => gstep xs ask (giter xs ask s m)

noncomputable def gports (xs : List Int) (ask : List Bool) (s : Int × Int) : Nat → List Int
  | 0 => []
  | m + 1 => gports xs ask s m ++ [(giter xs ask s (m + 1)).1]

/-- a grant can be made -/
def GOkS (xs : List Int) (ask : List Bool) (s : Int × Int) : Prop := ArbOk xs s.1 s.2 ∧ ask.length = xs.length ∧ ∃ k, NextAt ask s.1.toNat xs.length k

theorem gports_len (xs : List Int) (ask : List Bool) (s : Int × Int) : ∀ m, (gports xs ask s m).length = m
  | 0 => rfl
  | m + 1 => by unfold gports; rw [List.length_append, gports_len xs ask s m]; rfl

theorem next_all {ask : List Bool} {n i : Nat} (hi : i < n) (h : ak ask i = true) (t : Nat) (ht : t < n) : ∃ k, NextAt ask t n k := by
  rcases next_or ask t n with q | q
  · exact q
  · by_cases e : t < i
    · have := q (i - t) (by omega) (by omega)
      rw [show t + (i - t) = i by omega, Nat.mod_eq_of_lt hi, h] at this
      cases this
    · have := q (i + n - t) (by omega) (by omega)
      rw [show t + (i + n - t) = i + n by omega, Nat.add_mod_right, Nat.mod_eq_of_lt hi, h] at this
      cases this

theorem stepP_is {ask : List Bool} {n t : Nat} (h : ∃ k, NextAt ask t n k) : ∃ k, NextAt ask t n k ∧ stepP ask n t = (t + k) % n :=
  ⟨h.choose, h.choose_spec, by unfold stepP; rw [dif_pos h]⟩

theorem gok_step {xs : List Int} {ask : List Bool} {s : Int × Int} (h : GOkS xs ask s) : GOkS xs ask (gstep xs ask s) := by
  obtain ⟨⟨h1, h2, h3, h4, h5, h6, h7⟩, hq, hk⟩ := h
  obtain ⟨k, hN, hp⟩ := stepP_is hk
  have hlt : stepP ask xs.length s.1.toNat < xs.length := by rw [hp]; exact Nat.mod_lt _ (by omega)
  have hask : ak ask (stepP ask xs.length s.1.toNat) = true := by rw [hp]; exact hN.2.2.1
  unfold gstep
  split
  · exact ⟨⟨h1, h2, h3, h4, h5, by dsimp only; omega, by dsimp only; omega⟩, hq, hk⟩
  · have hy := h1 (xs.getD (stepP ask xs.length s.1.toNat) 0) (by rw [List.getD_eq_getElem?_getD, List.getElem?_eq_getElem hlt]; exact List.getElem_mem _)
    refine ⟨⟨h1, h2, h3, by dsimp only; omega, by dsimp only; omega, by dsimp only; omega, ?_⟩, hq, ?_⟩
    · dsimp only; rw [Int.toNat_natCast]; omega
    · dsimp only; rw [Int.toNat_natCast]; exact next_all hlt hask _ hlt

theorem gok_iter {xs : List Int} {ask : List Bool} {s : Int × Int} (h : GOkS xs ask s) : ∀ m, GOkS xs ask (giter xs ask s m)
  | 0 => h
  | m + 1 => gok_step (gok_iter h m)

theorem gok_y {xs : List Int} {ask : List Bool} {s : Int × Int} (h : GOkS xs ask s) : ∃ k, NextAt ask s.1.toNat xs.length k ∧ stepP ask xs.length s.1.toNat = (s.1.toNat + k) % xs.length ∧ 1 ≤ xs.getD ((s.1.toNat + k) % xs.length) 0 ∧ xs.getD ((s.1.toNat + k) % xs.length) 0 ≤ 9 := by
  obtain ⟨k, hN, hp⟩ := stepP_is h.2.2
  have hlt : (s.1.toNat + k) % xs.length < xs.length := Nat.mod_lt _ (by have := h.1.2.1; omega)
  have hy := h.1.1 (xs.getD ((s.1.toNat + k) % xs.length) 0) (by rw [List.getD_eq_getElem?_getD, List.getElem?_eq_getElem hlt]; exact List.getElem_mem _)
  exact ⟨k, hN, hp, hy.1, hy.2⟩

theorem specGrant_step (W : World) (t l : Int) (v u : Value) (xs : List Int) (ask : List Bool) (H : RdL shI W v xs) (Hu : RdL shB W u ask) (hl : szL shI xs ≤ 1048576) (hlu : szL shB ask ≤ 1048576) (h : GOkS xs ask (t, l)) : Calls Try.prog 26 #[vArbiter v t l, u] W (ResIGrant xs (gstep xs ask (t, l)).1 (gstep xs ask (t, l)).2 (gstep xs ask (t, l)).1 W) := by
  obtain ⟨k, hN, hp, _, _⟩ := gok_y h
  unfold gstep
  split
  · next q => exact specGrant_direct W t l v u xs ask H Hu hl hlu h.1 h.2.1 q.1 q.2
  · next q =>
    have hd : ak ask t.toNat = false ∨ ¬ 0 < l := by
      cases e : ak ask t.toNat with
      | false => exact .inl rfl
      | true => exact .inr (fun z => q ⟨e, z⟩)
    exact specGrant_found W t l v u xs ask H Hu hl hlu h.1 h.2.1 hd k _ _ hN ⟨hp.symm, by rw [hp]⟩

theorem grant_step (W : World) (g : Nat) (b3 o3 k3 b2 o2 k2 n : Nat) (t l : Int) (xs : List Int) (ask : List Bool) (hg : W.heap[g]? = some (.cells #[.slice (some ⟨b3, o3, none⟩) n k3, .int .i64 t, .int .i64 l] 44 (0, 0))) (hW : ∀ k, k < n → W.cell? ⟨b3, o3 + k, none⟩ = some (.int .i64 (xs.getD k 0))) (hA : ∀ k, k < n → W.cell? ⟨b2, o2 + k, none⟩ = some (.bool (ak ask k))) (n1 : ¬ g = b3) (n2 : ¬ g = b2) (hn : n = xs.length) (h : GOkS xs ask (t, l)) : Calls Try.prog 61 #[.pointer (some ⟨g, 0, none⟩), .slice (some ⟨b2, o2, none⟩) n k2] W (GrPost g (.slice (some ⟨b3, o3, none⟩) n k3) (gstep xs ask (t, l)).1 (gstep xs ask (t, l)).2 W) := by
  obtain ⟨k, hN, hp, hy1, hy9⟩ := gok_y h
  obtain ⟨⟨a1, a2, a3, a4, a5, a6, a7⟩, hq, _⟩ := h
  obtain ⟨tn, htn⟩ : ∃ x : Nat, t = (x : Int) := ⟨t.toNat, by dsimp only at a4; omega⟩
  subst htn
  dsimp only at a4 a5 a6 a7 hN hp
  rw [Int.toNat_natCast] at a7 hN hp
  have hl9 : l ≤ 9 := by
    have h2 := (a1 (xs.getD tn 0) (by rw [List.getD_eq_getElem?_getD, List.getElem?_eq_getElem (by omega)]; exact List.getElem_mem _)).2
    omega
  subst hn
  unfold gstep
  dsimp only
  rw [Int.toNat_natCast]
  split
  · next q => exact grant_direct W g b3 o3 k3 b2 o2 k2 _ tn l xs ask hg hW hA n1 n2 a2 a3 (by omega) a6 hl9 q.1 q.2
  · next q =>
    have hd : ak ask tn = false ∨ l = 0 := by
      cases e : ak ask tn with
      | false => exact .inl rfl
      | true => exact .inr (by have : ¬ 0 < l := fun z => q ⟨e, z⟩; omega)
    dsimp only at hy1 hy9
    rw [Int.toNat_natCast, ← hp] at hy1 hy9
    exact grant_found W g b3 o3 k3 b2 o2 k2 _ tn l xs ask hg hW hA n1 n2 a2 a3 (by omega) a6 hl9 hd k _ _ hN ⟨hp.symm, by rw [hp]⟩ hy1 hy9

end Go.Proofs.Ytgagbhkidponnad
