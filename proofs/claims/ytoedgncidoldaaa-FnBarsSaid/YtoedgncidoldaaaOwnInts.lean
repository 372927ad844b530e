/-
  Slices of numbers that can be written: marked by the law, and held.
-/
import Derived.Test.YtoedgncidoldaaaInts
namespace Go.Proofs.Ytoedgncidoldaaa
open Go Go.RowKit

/-- a slice of the numbers xs in a block from lo on, that can be written -/
def OSl (w : World) (lo : Nat) (a : Option Addr) (len : Nat) (xs : List Int) : Prop :=
  len = xs.length ∧ (len = 0 ∨ ∃ b off, a = some ⟨b, off, none⟩ ∧ lo ≤ b ∧ ∃ C t, w.heap[b]? = some (.cells C t (0, 0)) ∧ ∀ k, k < len → C[off + k]? = some (.int .i64 (xs.getD k 0)))

/-- the block of a slice -/
def blk (a : Option Addr) : Option Nat := a.map (·.block)

theorem OSl.isl {w : World} {lo : Nat} {a : Option Addr} {len : Nat} {xs : List Int} (h : OSl w lo a len xs) : ISl w a len xs := by
  obtain ⟨h1, h2⟩ := h
  refine ⟨h1, h2.imp id ?_⟩
  rintro ⟨b, off, ha, _, C, t, hb, hC⟩
  exact ⟨b, off, ha, fun k hk => by rw [cell_of_row w b _ C t _ hb]; exact hC k hk⟩

theorem block_in {w : World} {b : Nat} {o : Obj} (h : w.heap[b]? = some o) : b < w.heap.size := by
  rcases Nat.lt_or_ge b w.heap.size with h' | h'
  · exact h'
  · rw [Array.getElem?_eq_none h'] at h; cases h

/-- it stays where another block is written -/
theorem OSl.kept {w w' : World} {lo : Nat} {a : Option Addr} {len : Nat} {xs : List Int} {r : Option Nat} (h : OSl w lo a len xs) (g : w.grownBy w' r) (hne : len = 0 ∨ ∀ p, a = some p → r ≠ some p.block) : OSl w' lo a len xs := by
  obtain ⟨h1, h2⟩ := h
  refine ⟨h1, ?_⟩
  rcases h2 with h0 | ⟨b, off, ha, hl, C, t, hb, hC⟩
  · exact .inl h0
  · rcases hne with h0 | hne
    · exact .inl h0
    · exact .inr ⟨b, off, ha, hl, C, t, (g.block b (block_in hb) (fun e => hne _ ha e.symm)).trans hb, hC⟩

theorem OSl.grow {w w' : World} {lo : Nat} {a : Option Addr} {len : Nat} {xs : List Int} (h : OSl w lo a len xs) (g : w.grownBy w' none) : OSl w' lo a len xs := h.kept g (.inr (fun _ _ e => by cases e))

/-- .. where only earlier blocks are written -/
theorem OSl.far {w w' : World} {lo : Nat} {a : Option Addr} {len : Nat} {xs : List Int} {r : Option Nat} (h : OSl w lo a len xs) (g : w.grownBy w' r) (hr : ∀ i, r = some i → i < lo) : OSl w' lo a len xs := by
  rcases Nat.eq_zero_or_pos len with h0 | hp
  · exact h.kept g (.inl h0)
  · refine h.kept g (.inr fun p hp' e => ?_)
    obtain ⟨_, h2⟩ := h
    rcases h2 with h0 | ⟨b, off, ha, hl, _⟩
    · omega
    · have := hr _ e
      rw [ha] at hp'
      obtain rfl := Option.some.inj hp'
      simp at this; omega

theorem OSl.low {w : World} {lo lo' : Nat} {a : Option Addr} {len : Nat} {xs : List Int} (h : OSl w lo a len xs) (hl : lo' ≤ lo) : OSl w lo' a len xs := by
  obtain ⟨h1, h2⟩ := h
  exact ⟨h1, h2.imp id (fun ⟨b, off, ha, hb, r⟩ => ⟨b, off, ha, Nat.le_trans hl hb, r⟩)⟩

/-- the numbers of a slice stay where another block is written -/
theorem ISl.off {w w' : World} {a : Option Addr} {len : Nat} {xs : List Int} {r : Option Nat} (h : ISl w a len xs) (g : w.grownBy w' r) (hne : ∀ p, a = some p → r ≠ some p.block) : ISl w' a len xs := by
  obtain ⟨h1, h2⟩ := h
  refine ⟨h1, ?_⟩
  rcases h2 with h0 | ⟨b, off, ha, hc⟩
  · exact .inl h0
  · exact .inr ⟨b, off, ha, fun k hk => g.cell (hc k hk) (by have := hne _ ha; simpa [eq_comm] using this)⟩

/-- the marks from m on -/
def marksI (m n : Nat) : List Int := (List.range n).map fun j => ((m + j : Nat) : Int)
theorem marksI_length (m n : Nat) : (marksI m n).length = n := by simp [marksI]
theorem marksI_at (m n k : Nat) (hk : k < n) : (marksI m n).getD k 0 = ((m + k : Nat) : Int) := by
  rw [List.getD_eq_getElem?_getD]; simp [marksI, hk]

end Go.Proofs.Ytoedgncidoldaaa
