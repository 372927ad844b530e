/-
  Several slices of numbers, one behind the other in intervals of their own.
-/
import Derived.Test.YtnighnkkeiegnabChg
namespace Go.Proofs.Ytnighnkkeiegnab
open Go Go.RowKit

/-- what is left of n, or -1 -/
def lessN (n : Int) (t : Nat) : Int := if n < (t : Int) then -1 else n - t

theorem heap_pair (W : World) (a b : Obj) : ((W.alloc a).alloc b).heap[W.heap.size + 1]? = some b := by
  have e : (W.alloc a).heap.size = W.heap.size + 1 := by simp
  rw [← e]; exact heap_alloc_new _ _
theorem row_held {W w : World} {b : Nat} {o : Obj} (g : W.grownBy w none) (h : W.heap[b]? = some o) : w.heap[b]? = some o := by
  rw [g.block b (block_in h) (by simp)]; exact h
theorem chg_setp {w a : World} {lo hi : Nat} (h : Chg w a lo hi) (p : Addr) (h1 : lo ≤ p.block) (h2 : p.block < hi) (v : Value) : Chg w (a.setCell p v) lo hi :=
  ⟨h.os, h.tape, h.output, by simpa using h.size, fun k hk hn => (Below.heap_setCell _ _ _ _ (by omega)).trans (h.block k hk hn)⟩

theorem OwI.isl' {w : World} {lo hi : Nat} {a : Option Addr} {n cap : Nat} {xs : List Int} (h : OwI w lo hi (.slice a n cap) xs) : ISl w a n xs := by
  obtain ⟨a', cap', hv, h, _⟩ := h
  injection hv with h1 h2 h3
  subst h1 h2
  exact h.isl
theorem RdI.isl' {w : World} {a : Option Addr} {n cap : Nat} {xs : List Int} (h : RdI w (.slice a n cap) xs) : ISl w a n xs := by
  obtain ⟨a', cap', hv, h, _⟩ := h
  injection hv with h1 h2 h3
  subst h1 h2
  exact h

/-- slices of numbers, each in an interval of its own, one interval behind the other -/
def OwS (w : World) : Nat → Nat → List (Value × List Int) → Prop
  | lo, hi, [] => lo ≤ hi
  | lo, hi, (v, xs) :: r => ∃ mid, lo ≤ mid ∧ mid ≤ hi ∧ OwI w lo mid v xs ∧ OwS w mid hi r

theorem OwS.le {w : World} : ∀ {r : List (Value × List Int)} {lo hi : Nat}, OwS w lo hi r → lo ≤ hi
  | [], _, _, h => h
  | (_, _) :: _, _, _, ⟨_, h1, h2, _, _⟩ => Nat.le_trans h1 h2
theorem OwS.kept {w w' : World} {lo' hi' : Nat} (g : Chg w w' lo' hi') : ∀ {r : List (Value × List Int)} {lo hi : Nat}, OwS w lo hi r → (hi ≤ lo' ∨ hi' ≤ lo) → OwS w' lo hi r
  | [], _, _, h, _ => h
  | (_, _) :: _, _, _, ⟨mid, h1, h2, h3, h4⟩, hd => ⟨mid, h1, h2, h3.kept g (by omega), OwS.kept g h4 (by omega)⟩
theorem OwS.grow {w w' : World} (g : w.grownBy w' none) {r : List (Value × List Int)} {lo hi : Nat} (h : OwS w lo hi r) : OwS w' lo hi r := h.kept (chg_gby g hi hi) (.inl (Nat.le_refl _))
theorem OwS.up {w : World} : ∀ {r : List (Value × List Int)} {lo hi hi' : Nat}, OwS w lo hi r → hi ≤ hi' → OwS w lo hi' r
  | [], _, _, _, h, q => Nat.le_trans h q
  | (_, _) :: _, _, _, _, ⟨mid, h1, h2, h3, h4⟩, q => ⟨mid, h1, by omega, h3, OwS.up h4 q⟩
theorem OwS.down {w : World} : ∀ {r : List (Value × List Int)} {lo lo' hi : Nat}, OwS w lo hi r → lo' ≤ lo → OwS w lo' hi r
  | [], _, _, _, h, q => Nat.le_trans q h
  | (_, _) :: _, _, _, _, ⟨mid, h1, h2, h3, h4⟩, q => ⟨mid, by omega, h2, h3.wide q (Nat.le_refl _), h4⟩
theorem owS_one {w : World} {lo hi : Nat} {v : Value} {xs : List Int} (h : OwI w lo hi v xs) (hle : lo ≤ hi) : OwS w lo hi [(v, xs)] := ⟨hi, hle, Nat.le_refl _, h, Nat.le_refl hi⟩
theorem owS_cons {w : World} {lo mid hi : Nat} {v : Value} {xs : List Int} {r : List (Value × List Int)} (h : OwI w lo mid v xs) (hle : lo ≤ mid) (h2 : OwS w mid hi r) : OwS w lo hi ((v, xs) :: r) := ⟨mid, hle, h2.le, h, h2⟩
theorem OwS.rd1 {w : World} {lo hi : Nat} {v : Value} {xs : List Int} {r : List (Value × List Int)} (h : OwS w lo hi ((v, xs) :: r)) : RdI w v xs := by
  obtain ⟨_, _, _, h, _⟩ := h
  exact h.rd
theorem OwS.tl {w : World} {lo hi : Nat} {v : Value} {xs : List Int} {r : List (Value × List Int)} (h : OwS w lo hi ((v, xs) :: r)) : ∃ mid, lo ≤ mid ∧ mid ≤ hi ∧ OwS w mid hi r := by
  obtain ⟨mid, h1, h2, _, h3⟩ := h
  exact ⟨mid, h1, h2, h3⟩
theorem OwS.rd2 {w : World} {lo hi : Nat} {a b : Value × List Int} {r : List (Value × List Int)} (h : OwS w lo hi (a :: b :: r)) : RdI w b.1 b.2 := by
  obtain ⟨_, _, _, h⟩ := h.tl
  exact h.rd1
theorem OwS.rd3 {w : World} {lo hi : Nat} {a b c : Value × List Int} {r : List (Value × List Int)} (h : OwS w lo hi (a :: b :: c :: r)) : RdI w c.1 c.2 := by
  obtain ⟨_, _, _, h⟩ := h.tl
  exact h.rd2

/-- a set in another block -/
theorem set_far {w : World} {b : Nat} {o : Obj} {p : Addr} {v : Value} (h : w.heap[b]? = some o) (hne : b ≠ p.block) : (w.setCell p v).heap[b]? = some o :=
  (Below.heap_setCell _ _ _ _ hne).trans h

end Go.Proofs.Ytnighnkkeiegnab
