/-
  Slices of numbers that are read and copied.
-/
import Derived.Test.YtnighnkkeiegnabBits2Impl
import Derived.Test.YtnighnkkeiegnabHexMath
import Derived.LoopTactic
import Derived.Deep.AppendLies
import Derived.WalkSpells
import Derived.OwnWalk
import Derived.KernelRfl
import Derived.Test.YtnighnkkeiegnabIntInfo
namespace Go.Proofs.Ytnighnkkeiegnab
open Go Go.RowKit

/-- a slice of the numbers xs -/
def ISl (w : World) (a : Option Addr) (len : Nat) (xs : List Int) : Prop :=
  len = xs.length ∧ (len = 0 ∨ ∃ b off, a = some ⟨b, off, none⟩ ∧ ∀ k, k < len → w.cell? ⟨b, off + k, none⟩ = some (.int .i64 (xs.getD k 0)))

theorem ISl.kept {w w' : World} {a : Option Addr} {len : Nat} {xs : List Int} (h : ISl w a len xs) (g : w.grownBy w' none) : ISl w' a len xs := by
  obtain ⟨h1, h2⟩ := h
  refine ⟨h1, ?_⟩
  rcases h2 with h0 | ⟨b, off, ha, hc⟩
  · exact .inl h0
  · exact .inr ⟨b, off, ha, fun k hk => g.cell (hc k hk) (by simp)⟩

/-- the numbers are words -/
def AreW (xs : List Int) : Prop := ∀ x ∈ xs, 0 ≤ x ∧ x ≤ 65535
instance (xs : List Int) : Decidable (AreW xs) := inferInstanceAs (Decidable (∀ x ∈ xs, _))

theorem ret_dec {p q : Prop} [Decidable p] [Decidable q] (h : p ↔ q) : Ending.returned (.bool (decide p)) = .returned (.bool (decide q)) := by rw [decide_eq_decide.2 h]

theorem areW_bad {xs : List Int} {k : Nat} (hk : k < xs.length) (h : xs.getD k 0 < 0 ∨ 65535 < xs.getD k 0) : ¬ AreW xs := by
  intro ha
  rw [List.getD_eq_getElem?_getD, List.getElem?_eq_getElem hk] at h
  have := ha _ (List.getElem_mem hk)
  simp at h; omega

theorem areW_all {xs : List Int} (h : ∀ k, k < xs.length → 0 ≤ xs.getD k 0 ∧ xs.getD k 0 ≤ 65535) : AreW xs := by
  intro x hx
  obtain ⟨k, hk, rfl⟩ := List.mem_iff_getElem.1 hx
  have := h k hk
  rw [List.getD_eq_getElem?_getD, List.getElem?_eq_getElem hk] at this
  simpa using this

set_option maxHeartbeats 1000000 in
/-- the law's copy of a slice of numbers -/
theorem toInts_any (W : World) (a : Option Addr) (len cap : Nat) (xs : List Int) (H : ISl W a len xs) (hl : len ≤ 1048576) :
    Calls Try.prog 35 #[.slice a len cap] W (fun e w' => ∃ c, e = .returned (.slice (some ⟨c, 0, none⟩) len len) ∧ W.heap.size ≤ c ∧ ISl w' (some ⟨c, 0, none⟩) len xs ∧ W.grownBy w' none) := by
  obtain ⟨e, H2⟩ := H
  have HC := Lib.hid H2
  have HE := Lib.hid e
  clear H2 e
  obtain ⟨i0, hi0, hz0, hz1, hz2⟩ := info_parts infoInt
  go_enter Try.func35, Try.ntmps35
  go_wp2_with (at_make; refine wpList_make_full _ rfl _ _ 23 rfl W.heap.size 3 i0 (.int .i64 0) 1 Try.underlying23 hi0 hz0 hz1 .i64 .i64 _ _ len rfl rfl rfl rfl (by rw [hz2]; omega) (by unfold maxLen; omega) (Nat.le_refl _) ?_; intro w0 hown0 hgrow0; have HO0 := Lib.hid hown0; have HG0 := Lib.hid hgrow0; clear hown0 hgrow0)
  go_loopw [4] (fun i wr => ∃ (k : Nat) (ys : List Int), k ≤ len ∧ i = .int .i64 (k : Int) ∧ ys.length = len ∧ (∀ j, j < k → ys.getD j 0 = xs.getD j 0) ∧ wr.ownsRow W.heap.size 3 1 (.slice (some ⟨W.heap.size, 0, none⟩) len len) len (i64s ys) ∧ W.grownBy wr none) (fun i _ => len - (intOf i).toNat)
  case atStart =>
    refine ⟨0, List.replicate len 0, Nat.zero_le _, rfl, by simp, fun j hj => absurd hj (Nat.not_lt_zero _), ?_, HG0.out⟩
    have := HO0.out
    rw [show (Value.int .i64 0).cells = #[Value.int .i64 0] from rfl, Nat.mul_one, toList_madeCells_one] at this
    simpa [i64s] using this
  case round =>
    obtain ⟨k, ys, hk, rfl, hlen, heq, hown, hg⟩ := hrel
    have HO := Lib.hid hown
    have HG := Lib.hid hg
    have HQ := Lib.hid heq
    have HL := Lib.hid hlen
    by_cases hlt : k < len
    · have hf := hown.frozenAt k
      have hc0 := hown.cellAt k (by omega)
      rw [i64s, List.getElem?_map, List.getElem?_eq_getElem (by omega)] at hc0
      generalize ys[k] = y at hc0
      obtain ⟨b, off, rfl, hcell⟩ := HC.out.resolve_left (by omega)
      have hc := hg.cell (hcell k hlt) (by simp)
      generalize hx : xs.getD k 0 = x at hc
      have HX := Lib.hid hx
      clear hown hg heq hlen hcell hx
      have hi0' : (0 : Int) ≤ (k : Int) := by omega
      have hi1 : (k : Int) < (len : Int) := by omega
      have htn : ((k : Int)).toNat = k := by omega
      go_wp2
      refine ⟨⟨k + 1, ys.set k x, by omega, by go_num, by simp [HL.out], ?_, ?_, ?_⟩, by simp [intOf]; omega⟩
      · intro j hj
        rw [List.getD_eq_getElem?_getD, List.getElem?_set]
        by_cases e : k = j
        · subst e
          have := HL.out
          rw [if_pos rfl, if_pos (by omega), HX.out]; rfl
        · rw [if_neg e, ← List.getD_eq_getElem?_getD]
          exact HQ.out j (by omega)
      · have := HO.out.stored k (.int .i64 x)
        rw [i64s, ← List.map_set] at this
        exact this.1
      · exact gby_setnew HG.out _ (Nat.le_refl _) _
    · clear hown hg heq hlen
      have hi1 : ¬ (k : Int) < (len : Int) := by omega
      go_wp2
      go_ret
      refine ⟨W.heap.size, rfl, Nat.le_refl _, ⟨HE.out, ?_⟩, HG.out⟩
      by_cases h0 : len = 0
      · exact .inl h0
      · refine .inr ⟨W.heap.size, 0, rfl, fun j hj => ?_⟩
        have hc := HO.out.cellAt j (by omega)
        have hlen := HL.out
        rw [i64s, List.getElem?_map, List.getElem?_eq_getElem (by omega)] at hc
        have e := HQ.out j (by omega)
        rw [List.getD_eq_getElem?_getD, List.getElem?_eq_getElem (show j < ys.length by omega)] at e
        rw [← e]
        simpa using hc

end Go.Proofs.Ytnighnkkeiegnab
