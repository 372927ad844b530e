/-
  Slices of numbers that can be written: marked by the law, and held.
-/
import Derived.Test.YtnighnkkeiegnabInts
namespace Go.Proofs.Ytnighnkkeiegnab
open Go Go.RowKit

/-- a slice of the numbers xs in a block from lo on, that can be written -/
def OSl (w : World) (lo : Nat) (a : Option Addr) (len : Nat) (xs : List Int) : Prop :=
  len = xs.length ∧ (len = 0 ∨ ∃ b off, a = some ⟨b, off, none⟩ ∧ lo ≤ b ∧ ∃ C t, w.heap[b]? = some (.cells C t (0, 0)) ∧ ∀ k, k < len → C[off + k]? = some (.int .i64 (xs.getD k 0)))

/-- the block of a slice -/
def blk (a : Option Addr) : Option Nat := a.map (·.block)

theorem OSl.isl {w : World} {lo : Nat} {a : Option Addr} {len : Nat} {xs : List Int} (h : OSl w lo a len xs) : ISl w a len xs := by
  obtain ⟨h1, h2⟩ := h
  refine ⟨h1, h2.imp id ?_⟩
  rintro ⟨b, off, ha, _, C, t, hb, hC⟩
  exact ⟨b, off, ha, fun k hk => by rw [cell_of_row w b _ C t _ hb]; exact hC k hk⟩

theorem block_in {w : World} {b : Nat} {o : Obj} (h : w.heap[b]? = some o) : b < w.heap.size := by
  rcases Nat.lt_or_ge b w.heap.size with h' | h'
  · exact h'
  · rw [Array.getElem?_eq_none h'] at h; cases h

/-- it stays where another block is written -/
theorem OSl.kept {w w' : World} {lo : Nat} {a : Option Addr} {len : Nat} {xs : List Int} {r : Option Nat} (h : OSl w lo a len xs) (g : w.grownBy w' r) (hne : len = 0 ∨ ∀ p, a = some p → r ≠ some p.block) : OSl w' lo a len xs := by
  obtain ⟨h1, h2⟩ := h
  refine ⟨h1, ?_⟩
  rcases h2 with h0 | ⟨b, off, ha, hl, C, t, hb, hC⟩
  · exact .inl h0
  · rcases hne with h0 | hne
    · exact .inl h0
    · exact .inr ⟨b, off, ha, hl, C, t, (g.block b (block_in hb) (fun e => hne _ ha e.symm)).trans hb, hC⟩

theorem OSl.grow {w w' : World} {lo : Nat} {a : Option Addr} {len : Nat} {xs : List Int} (h : OSl w lo a len xs) (g : w.grownBy w' none) : OSl w' lo a len xs := h.kept g (.inr (fun _ _ e => by cases e))

/-- .. where only earlier blocks are written -/
theorem OSl.far {w w' : World} {lo : Nat} {a : Option Addr} {len : Nat} {xs : List Int} {r : Option Nat} (h : OSl w lo a len xs) (g : w.grownBy w' r) (hr : ∀ i, r = some i → i < lo) : OSl w' lo a len xs := by
  rcases Nat.eq_zero_or_pos len with h0 | hp
  · exact h.kept g (.inl h0)
  · refine h.kept g (.inr fun p hp' e => ?_)
    obtain ⟨_, h2⟩ := h
    rcases h2 with h0 | ⟨b, off, ha, hl, _⟩
    · omega
    · have := hr _ e
      rw [ha] at hp'
      obtain rfl := Option.some.inj hp'
      simp at this; omega

theorem OSl.low {w : World} {lo lo' : Nat} {a : Option Addr} {len : Nat} {xs : List Int} (h : OSl w lo a len xs) (hl : lo' ≤ lo) : OSl w lo' a len xs := by
  obtain ⟨h1, h2⟩ := h
  exact ⟨h1, h2.imp id (fun ⟨b, off, ha, hb, r⟩ => ⟨b, off, ha, Nat.le_trans hl hb, r⟩)⟩

/-- the numbers of a slice stay where another block is written -/
theorem ISl.off {w w' : World} {a : Option Addr} {len : Nat} {xs : List Int} {r : Option Nat} (h : ISl w a len xs) (g : w.grownBy w' r) (hne : ∀ p, a = some p → r ≠ some p.block) : ISl w' a len xs := by
  obtain ⟨h1, h2⟩ := h
  refine ⟨h1, ?_⟩
  rcases h2 with h0 | ⟨b, off, ha, hc⟩
  · exact .inl h0
  · exact .inr ⟨b, off, ha, fun k hk => g.cell (hc k hk) (by have := hne _ ha; simpa [eq_comm] using this)⟩

/-- the marks from m on -/
def marksI (m n : Nat) : List Int := (List.range n).map fun j => ((m + j : Nat) : Int)
theorem marksI_length (m n : Nat) : (marksI m n).length = n := by simp [marksI]
theorem marksI_at (m n k : Nat) (hk : k < n) : (marksI m n).getD k 0 = ((m + k : Nat) : Int) := by
  rw [List.getD_eq_getElem?_getD]; simp [marksI, hk]

set_option maxHeartbeats 1000000 in
theorem markI_any (w : World) (lo m : Nat) (a : Option Addr) (len cap : Nat) (xs : List Int) (h1 : OSl w lo a len xs) (hl : len ≤ 2000000) (hm2 : m ≤ 1000000000) :
    Calls Try.prog 27 #[.slice a len cap, .int .i64 (m : Int)] w (fun e w' => e = .returned (.int .i64 ((m + len : Nat) : Int)) ∧ OSl w' lo a len (marksI m len) ∧ w.grownBy w' (blk a)) := by
  have O1 := Lib.hid h1
  clear h1
  go_enter Try.func27, Try.ntmps27
  go_wp2
  go_loopw [1, 5] (fun q i wr => ∃ (k : Nat) (ys : List Int), k ≤ len ∧ i = .int .i64 (k : Int) ∧ q = .int .i64 ((m + k : Nat) : Int) ∧ (∀ j, j < k → ys.getD j 0 = ((m + j : Nat) : Int)) ∧ OSl wr lo a len ys ∧ w.grownBy wr (blk a)) (fun _ i _ => len - (intOf i).toNat)
  case atStart => exact ⟨0, xs, Nat.zero_le _, rfl, rfl, fun j hj => absurd hj (Nat.not_lt_zero _), O1.out, gby_refl _ _⟩
  case round =>
    obtain ⟨k, ys, hk, rfl, rfl, hys, hown, hg⟩ := hrel
    have HG := Lib.hid hg
    have HY := Lib.hid hys
    have HL := Lib.hid hown.1
    have H2 := Lib.hid hown.2
    clear hg hown hys
    by_cases hlt : k < len
    · obtain ⟨b, off, rfl, hb1, C, t, hb, hC⟩ := H2.out.resolve_left (by omega)
      have hc1 := cell_of_row wr b (off + k) C t _ hb
      rw [hC k hlt] at hc1
      have hf1 := frozen_of_row wr b (off + k) C t hb
      have HB := Lib.hid hb
      have HC := Lib.hid hC
      have hsz : off + k < C.size := by
        have := hC k hlt
        rcases Nat.lt_or_ge (off + k) C.size with q | q
        · exact q
        · rw [Array.getElem?_eq_none q] at this; cases this
      have HSZ := Lib.hid hsz
      generalize ys.getD k 0 = y at hc1
      clear hb hC hsz
      have hi0 : (0 : Int) ≤ (k : Int) := by omega
      have hi1 : (k : Int) < (len : Int) := by omega
      have htn : ((k : Int)).toNat = k := by omega
      go_wp2
      refine ⟨⟨k + 1, ys.set k ((m + k : Nat) : Int), by omega, by go_num, by go_num, ?_, ⟨by have := HL.out; simpa using this, .inr ⟨b, off, rfl, hb1, C.setIfInBounds (off + k) (.int .i64 ((m + k : Nat) : Int)), t, ?_, ?_⟩⟩, ?_⟩, by simp [intOf]; omega⟩
      · intro j hj
        have hlen := HL.out
        rw [List.getD_eq_getElem?_getD, List.getElem?_set]
        by_cases e : k = j
        · subst e
          rw [if_pos rfl, if_pos (by omega)]; rfl
        · rw [if_neg e, ← List.getD_eq_getElem?_getD]
          exact HY.out j (by omega)
      · exact heap_setCell_same wr b (off + k) C t _ HB.out
      · intro j hj
        have hlen := HL.out
        rw [Array.getElem?_setIfInBounds, List.getD_eq_getElem?_getD, List.getElem?_set]
        by_cases e : k = j
        · subst e
          rw [if_pos rfl, if_pos HSZ.out, if_pos rfl, if_pos (by omega)]; rfl
        · rw [if_neg (by omega), if_neg e, ← List.getD_eq_getElem?_getD]
          exact HC.out j hj
      · exact gby_set HG.out (off + k) _
    · have hi1 : ¬ (k : Int) < (len : Int) := by omega
      obtain rfl : k = len := by omega
      go_wp2
      go_ret
      have ey : ys = marksI m k := by
        apply List.ext_getElem
        · rw [marksI_length]; exact HL.out.symm
        · intro j h1 h2
          have q1 := HY.out j (by have := HL.out; omega)
          have q2 := marksI_at m k j (by have := HL.out; omega)
          rw [← q2] at q1
          rw [List.getD_eq_getElem?_getD, List.getD_eq_getElem?_getD, List.getElem?_eq_getElem h1, List.getElem?_eq_getElem h2] at q1
          simpa using q1
      exact ⟨rfl, by rw [← ey]; exact ⟨HL.out, H2.out⟩, HG.out⟩

set_option maxHeartbeats 1000000 in
theorem heldI_any (w : World) (m : Nat) (a : Option Addr) (len cap : Nat) (h1 : ISl w a len (marksI m len)) (hl : len ≤ 2000000) (hm2 : m ≤ 1000000000) :
    Calls Try.prog 28 #[.slice a len cap, .int .i64 (m : Int)] w (Ans (.int .i64 ((m + len : Nat) : Int)) w) := by
  have O1 := Lib.hid h1
  clear h1
  go_enter Try.func28, Try.ntmps28
  go_wp2
  go_loopw [1, 5] (fun q i wr => ∃ k : Nat, k ≤ len ∧ i = .int .i64 (k : Int) ∧ q = .int .i64 ((m + k : Nat) : Int) ∧ Drew w wr) (fun _ i _ => len - (intOf i).toNat)
  case atStart => exact ⟨0, Nat.zero_le _, rfl, rfl, Drew.refl _⟩
  case round =>
    obtain ⟨k, hk, rfl, rfl, hd⟩ := hrel
    have HD := Lib.hid hd
    clear hd
    by_cases hlt : k < len
    · obtain ⟨b, off, rfl, hcell⟩ := O1.out.2.resolve_left (by omega)
      have hc := (HD.out.gby none).cell (hcell k hlt) (by simp)
      rw [marksI_at m len k hlt] at hc
      clear hcell
      have hi0 : (0 : Int) ≤ (k : Int) := by omega
      have hi1 : (k : Int) < (len : Int) := by omega
      have htn : ((k : Int)).toNat = k := by omega
      have hb : (((m + k : Nat) : Int) != ((m + k : Nat) : Int)) = false := by simp
      go_wp2
      try go_quiet (fail)
      go_wp2
      exact ⟨⟨k + 1, by omega, by go_num, by go_num, by repeat (first | exact HD.out | apply Drew.drewN)⟩, by simp [intOf]; omega⟩
    · have hi1 : ¬ (k : Int) < (len : Int) := by omega
      obtain rfl : k = len := by omega
      go_wp2
      go_ret
      exact ⟨rfl, HD.out⟩

end Go.Proofs.Ytnighnkkeiegnab
