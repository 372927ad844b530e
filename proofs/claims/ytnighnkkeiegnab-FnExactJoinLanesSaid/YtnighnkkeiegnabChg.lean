/-
  What a call may change: blocks of an interval. Slices of numbers that lie in an interval.
-/
import Derived.Test.YtnighnkkeiegnabOwnInts
import Derived.Test.YtnighnkkeiegnabIntsEq
namespace Go.Proofs.Ytnighnkkeiegnab
open Go Go.RowKit

/-- only blocks from lo up to hi are changed, and blocks are added -/
structure Chg (w w' : World) (lo hi : Nat) : Prop where
  os : w'.os = w.os
  tape : w'.tape = w.tape
  output : w'.output = w.output
  size : w.heap.size ≤ w'.heap.size
  block : ∀ k, k < w.heap.size → (k < lo ∨ hi ≤ k) → w'.heap[k]? = w.heap[k]?

theorem chg_gby {w w' : World} (g : w.grownBy w' none) (lo hi : Nat) : Chg w w' lo hi := ⟨g.os, g.tape, g.output, g.size, fun k hk _ => g.block k hk (by simp)⟩
theorem chg_row {w w' : World} {r : Option Nat} (g : w.grownBy w' r) {lo hi : Nat} (h : ∀ i, r = some i → lo ≤ i ∧ i < hi) : Chg w w' lo hi :=
  ⟨g.os, g.tape, g.output, g.size, fun k hk hn => g.block k hk (fun e => by have := h k e.symm; omega)⟩
theorem chg_trans {w a b : World} {lo hi : Nat} (h : Chg w a lo hi) (k : Chg a b lo hi) : Chg w b lo hi :=
  ⟨k.os.trans h.os, k.tape.trans h.tape, k.output.trans h.output, Nat.le_trans h.size k.size, fun i hi' hn => (k.block i (Nat.lt_of_lt_of_le hi' h.size) hn).trans (h.block i hi' hn)⟩
theorem chg_wide {w w' : World} {lo hi lo' hi' : Nat} (h : Chg w w' lo hi) (h1 : lo' ≤ lo) (h2 : hi ≤ hi') : Chg w w' lo' hi' :=
  ⟨h.os, h.tape, h.output, h.size, fun k hk hn => h.block k hk (by omega)⟩
/-- what was changed is new -/
theorem gby_chg {w a b : World} {lo hi : Nat} (h : w.grownBy a none) (k : Chg a b lo hi) (hlo : w.heap.size ≤ lo) : w.grownBy b none :=
  ⟨k.os.trans h.os, k.tape.trans h.tape, k.output.trans h.output, Nat.le_trans h.size k.size, fun i hi' _ => (k.block i (Nat.lt_of_lt_of_le hi' h.size) (by omega)).trans (h.block i hi' (by simp))⟩
/-- a block outside stays -/
theorem Chg.keep {w w' : World} {lo hi b : Nat} {o : Obj} (g : Chg w w' lo hi) (h : w.heap[b]? = some o) (hb : b < lo ∨ hi ≤ b) : w'.heap[b]? = some o := by
  rw [g.block b (block_in h) hb]; exact h

/-- nil has no room, and the length is within the capacity -/
def CapOk (a : Option Addr) (len cap : Nat) : Prop := (a = none → cap = 0) ∧ len ≤ cap

/-- a slice of the numbers xs, read -/
def RdI (w : World) (v : Value) (xs : List Int) : Prop := ∃ a cap, v = .slice a xs.length cap ∧ ISl w a xs.length xs ∧ CapOk a xs.length cap
theorem RdI.kept {w w' : World} {v : Value} {xs : List Int} (h : RdI w v xs) (g : w.grownBy w' none) : RdI w' v xs := by
  obtain ⟨a, cap, rfl, h, hn⟩ := h
  exact ⟨a, cap, rfl, h.kept g, hn⟩
theorem rdI_of {w : World} {a : Option Addr} {len cap : Nat} {xs : List Int} (h : ISl w a len xs) (hn : CapOk a len cap) : RdI w (.slice a len cap) xs := by
  obtain rfl := h.1
  exact ⟨a, cap, rfl, h, hn⟩

/-- a slice of the numbers xs, in the interval, that can be written -/
def OwI (w : World) (lo hi : Nat) (v : Value) (xs : List Int) : Prop := ∃ a cap, v = .slice a xs.length cap ∧ OSl w lo a xs.length xs ∧ (∀ p, a = some p → lo ≤ p.block ∧ p.block < hi) ∧ CapOk a xs.length cap

theorem OwI.rd {w : World} {lo hi : Nat} {v : Value} {xs : List Int} (h : OwI w lo hi v xs) : RdI w v xs := by
  obtain ⟨a, cap, rfl, h, _, hn⟩ := h
  exact ⟨a, cap, rfl, h.isl, hn⟩

theorem OwI.kept {w w' : World} {lo hi lo' hi' : Nat} {v : Value} {xs : List Int} (h : OwI w lo hi v xs) (g : Chg w w' lo' hi') (hd : hi ≤ lo' ∨ hi' ≤ lo) : OwI w' lo hi v xs := by
  obtain ⟨a, cap, rfl, ⟨h1, h2⟩, h3, h4⟩ := h
  refine ⟨a, cap, rfl, ⟨h1, ?_⟩, h3, h4⟩
  rcases h2 with h0 | ⟨b, off, ha, hl, C, t, hb, hC⟩
  · exact .inl h0
  · by_cases h0 : xs.length = 0
    · exact .inl h0
    · have := h3 _ ha
      exact .inr ⟨b, off, ha, hl, C, t, g.keep hb (by dsimp only at this; omega), hC⟩

theorem OwI.grow {w w' : World} {lo hi : Nat} {v : Value} {xs : List Int} (h : OwI w lo hi v xs) (g : w.grownBy w' none) : OwI w' lo hi v xs := h.kept (chg_gby g hi hi) (.inl (Nat.le_refl _))

theorem OwI.wide {w : World} {lo hi lo' hi' : Nat} {v : Value} {xs : List Int} (h : OwI w lo hi v xs) (h1 : lo' ≤ lo) (h2 : hi ≤ hi') : OwI w lo' hi' v xs := by
  obtain ⟨a, cap, rfl, h, h3, h4⟩ := h
  exact ⟨a, cap, rfl, h.low h1, fun p hp => ⟨Nat.le_trans h1 (h3 p hp).1, Nat.lt_of_lt_of_le (h3 p hp).2 h2⟩, h4⟩

theorem owI_row {w : World} {base n : Nat} {v : Value} {xs : List Int} (h : w.ownsRow base 3 1 v n (i64s xs)) : OwI w base w.heap.size v xs := by
  have hl := h.1
  have hn : n = xs.length := by simpa [i64s] using hl.symm
  subst hn
  obtain ⟨_, h2⟩ := h
  rcases h2 with ⟨rfl, h0⟩ | ⟨g, cap, cur, rfl, hb, hg, hc, _, hs, ht⟩
  · exact ⟨none, 0, by rw [h0], ⟨rfl, .inl h0⟩, (fun p hp => by cases hp), fun _ => rfl, by omega⟩
  · refine ⟨_, cap, rfl, ⟨rfl, .inr ⟨g, 0, rfl, hb, cur, _, hg, fun k hk => ?_⟩⟩, (fun p hp => by cases hp; exact ⟨hb, block_in hg⟩), (fun e => by cases e), hc⟩
    have e : (cur.toList.take (xs.length * 1))[k]? = (i64s xs)[k]? := by rw [ht]
    rw [Nat.mul_one, List.getElem?_take, if_pos hk, i64s, List.getElem?_map, List.getElem?_eq_getElem hk] at e
    rw [Nat.zero_add, ← Array.getElem?_toList, e, List.getD_eq_getElem?_getD, List.getElem?_eq_getElem hk]
    rfl

theorem eqI_same (W : World) (v1 v2 : Value) (xs : List Int) (H1 : RdI W v1 xs) (H2 : RdI W v2 xs) (hl : xs.length ≤ 1048576) :
    Calls Try.prog 24 #[v1, v2] W (Ans (.bool true) W) := by
  obtain ⟨a1, c1, rfl, h1, _⟩ := H1
  obtain ⟨a2, c2, rfl, h2, _⟩ := H2
  refine (eqInts_any W a1 a2 _ _ c1 c2 xs xs h1 h2 hl (by omega)).mono ?_
  rintro e w ⟨rfl, hd⟩
  exact ⟨ret_bool (by simp), hd⟩

theorem mkI_any (w : World) (lo hi m : Nat) (v : Value) (xs : List Int) (h1 : OwI w lo hi v xs) (hl : xs.length ≤ 2000000) (hm2 : m ≤ 1000000000) :
    Calls Try.prog 27 #[v, .int .i64 (m : Int)] w (fun e w' => e = .returned (.int .i64 ((m + xs.length : Nat) : Int)) ∧ OwI w' lo hi v (marksI m xs.length) ∧ Chg w w' lo hi) := by
  obtain ⟨a, cap, rfl, h1, h3, h4⟩ := h1
  refine (markI_any w lo m a _ cap xs h1 hl hm2).mono ?_
  rintro e w' ⟨rfl, ho, hg⟩
  refine ⟨rfl, ⟨a, cap, by rw [marksI_length], by rw [marksI_length]; exact ho, h3, by rw [marksI_length]; exact h4⟩, chg_row hg (fun i hi => ?_)⟩
  cases a with
  | none => cases hi
  | some p => exact Option.some.inj hi ▸ h3 p rfl

theorem hdI_any (w : World) (m n : Nat) (v : Value) (h1 : RdI w v (marksI m n)) (hl : n ≤ 2000000) (hm2 : m ≤ 1000000000) :
    Calls Try.prog 28 #[v, .int .i64 (m : Int)] w (Ans (.int .i64 ((m + n : Nat) : Int)) w) := by
  obtain ⟨a, cap, rfl, h1, _⟩ := h1
  rw [marksI_length] at h1 ⊢
  exact heldI_any w m a n cap h1 hl hm2

/-- a beginning of a slice -/
theorem ISl.take {w : World} {a : Option Addr} {len : Nat} {xs : List Int} (h : ISl w a len xs) (n : Nat) (hn : n ≤ len) : ISl w a n (xs.take n) := by
  obtain ⟨h1, h2⟩ := h
  refine ⟨by rw [List.length_take]; omega, ?_⟩
  rcases h2 with h0 | ⟨b, off, ha, hc⟩
  · exact .inl (by omega)
  · refine .inr ⟨b, off, ha, fun k hk => ?_⟩
    rw [hc k (by omega), List.getD_eq_getElem?_getD, List.getD_eq_getElem?_getD, List.getElem?_take, if_pos hk]

set_option maxHeartbeats 1000000 in
/-- the law's copy of a slice of numbers, as a row of the call's own -/
theorem toI_any (W : World) (a : Option Addr) (len cap : Nat) (xs : List Int) (H : ISl W a len xs) (hl : len ≤ 1048576) :
    Calls Try.prog 35 #[.slice a len cap] W (fun e w' => ∃ v, e = .returned v ∧ OwI w' W.heap.size w'.heap.size v xs ∧ W.grownBy w' none) := by
  obtain ⟨e, H2⟩ := H
  have HC := Lib.hid H2
  have HE := Lib.hid e
  clear H2 e
  obtain ⟨i0, hi0, hz0, hz1, hz2⟩ := info_parts infoInt
  go_enter Try.func35, Try.ntmps35
  go_wp2_with (at_make; refine wpList_make_full _ rfl _ _ 23 rfl W.heap.size 3 i0 (.int .i64 0) 1 Try.underlying23 hi0 hz0 hz1 .i64 .i64 _ _ len rfl rfl rfl rfl (by rw [hz2]; omega) (by unfold maxLen; omega) (Nat.le_refl _) ?_; intro w0 hown0 hgrow0; have HO0 := Lib.hid hown0; have HG0 := Lib.hid hgrow0; clear hown0 hgrow0)
  go_loopw [4] (fun i wr => ∃ (k : Nat) (ys : List Int), k ≤ len ∧ i = .int .i64 (k : Int) ∧ ys.length = len ∧ (∀ j, j < k → ys.getD j 0 = xs.getD j 0) ∧ wr.ownsRow W.heap.size 3 1 (.slice (some ⟨W.heap.size, 0, none⟩) len len) len (i64s ys) ∧ W.grownBy wr none) (fun i _ => len - (intOf i).toNat)
  case atStart =>
    refine ⟨0, List.replicate len 0, Nat.zero_le _, rfl, by simp, fun j hj => absurd hj (Nat.not_lt_zero _), ?_, HG0.out⟩
    have := HO0.out
    rw [show (Value.int .i64 0).cells = #[Value.int .i64 0] from rfl, Nat.mul_one, toList_madeCells_one] at this
    simpa [i64s] using this
  case round =>
    obtain ⟨k, ys, hk, rfl, hlen, heq, hown, hg⟩ := hrel
    have HO := Lib.hid hown
    have HG := Lib.hid hg
    have HQ := Lib.hid heq
    have HL := Lib.hid hlen
    by_cases hlt : k < len
    · have hf := hown.frozenAt k
      have hc0 := hown.cellAt k (by omega)
      rw [i64s, List.getElem?_map, List.getElem?_eq_getElem (by omega)] at hc0
      generalize ys[k] = y at hc0
      obtain ⟨b, off, rfl, hcell⟩ := HC.out.resolve_left (by omega)
      have hc := hg.cell (hcell k hlt) (by simp)
      generalize hx : xs.getD k 0 = x at hc
      have HX := Lib.hid hx
      clear hown hg heq hlen hcell hx
      have hi0' : (0 : Int) ≤ (k : Int) := by omega
      have hi1 : (k : Int) < (len : Int) := by omega
      have htn : ((k : Int)).toNat = k := by omega
      go_wp2
      refine ⟨⟨k + 1, ys.set k x, by omega, by go_num, by simp [HL.out], ?_, ?_, ?_⟩, by simp [intOf]; omega⟩
      · intro j hj
        rw [List.getD_eq_getElem?_getD, List.getElem?_set]
        by_cases e : k = j
        · subst e
          have := HL.out
          rw [if_pos rfl, if_pos (by omega), HX.out]; rfl
        · rw [if_neg e, ← List.getD_eq_getElem?_getD]
          exact HQ.out j (by omega)
      · have := HO.out.stored k (.int .i64 x)
        rw [i64s, ← List.map_set] at this
        exact this.1
      · exact gby_setnew HG.out _ (Nat.le_refl _) _
    · clear hown hg heq hlen
      have hi1 : ¬ (k : Int) < (len : Int) := by omega
      go_wp2
      go_ret
      have ey : ys = xs := by
        apply lists_eq
        · have := HE.out; have := HL.out; omega
        · intro j hj; exact HQ.out j (by have := HL.out; omega)
      have q := HO.out
      rw [ey] at q
      exact ⟨_, rfl, owI_row q, HG.out⟩

/-- what is owned stays owned -/
theorem _root_.Go.World.ownsRow.grown {w w' : World} {base : Nat} {e : TypeId} {size : Nat} {v : Value} {n : Nat} {xs : List Value} (h : w.ownsRow base e size v n xs) (g : w.grownBy w' none) : w'.ownsRow base e size v n xs :=
  h.kept g (by cases v.ownBlock with | none => exact .inl rfl | some b => exact .inr (by simp))

/-- a row of the call's own, returned -/
def RowI (L : List Int) (w : World) (e : Ending) (w' : World) : Prop := ∃ v, e = .returned v ∧ OwI w' w.heap.size w'.heap.size v L ∧ w.grownBy w' none

/-- .. as a row -/
def RowO (L : List Int) (w : World) (e : Ending) (w' : World) : Prop := ∃ v, e = .returned v ∧ w'.ownsRow w.heap.size 3 1 v L.length (i64s L) ∧ w.grownBy w' none
theorem rowO_rowI {L : List Int} {w : World} (e : Ending) (w' : World) (h : RowO L w e w') : RowI L w e w' := by
  obtain ⟨v, rfl, h, g⟩ := h
  exact ⟨v, rfl, owI_row h, g⟩

/-- an answer; blocks may be made -/
def AnsN (v : Value) (w : World) (e : Ending) (w' : World) : Prop := e = .returned v ∧ w.grownBy w' none
theorem ansN_of {v : Value} {w : World} (e : Ending) (w' : World) (h : Ans v w e w') : AnsN v w e w' := ⟨h.1, h.2.gby none⟩

/-- .. and a bool -/
def RowIB (L : List Int) (b : Bool) (w : World) (e : Ending) (w' : World) : Prop := ∃ v, e = .returned (.tuple #[v, .bool b]) ∧ OwI w' w.heap.size w'.heap.size v L ∧ w.grownBy w' none

end Go.Proofs.Ytnighnkkeiegnab
