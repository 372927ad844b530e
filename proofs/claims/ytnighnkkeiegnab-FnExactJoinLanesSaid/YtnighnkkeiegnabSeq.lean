/-
  Sequence numbers: the model's and the program's IsSeq, NextSeq, SeqDistance, IsOld.
-/
import Derived.Test.YtnighnkkeiegnabBits2Impl
import Derived.LoopTactic
namespace Go.Proofs.Ytnighnkkeiegnab
open Go Go.RowKit

def IsQ (n : Int) : Prop := 0 ≤ n ∧ n ≤ 15
instance (n : Int) : Decidable (IsQ n) := inferInstanceAs (Decidable (_ ∧ _))

theorem specSeq_any (n : Int) (W : World) : Calls Try.prog 65 #[.int .i64 n] W (Ans (.bool (decide (IsQ n))) W) := by
  go_enter Try.func65, Try.ntmps65
  go_wp2_with fail
  go_at_call 81
  refine (in_any n 0 15 W).mono ?_
  rintro e w' ⟨rfl, rfl⟩
  go_wp2
  go_ret
  exact ⟨ret_bool (by rw [Bool.eq_iff_iff, decide_eq_true_iff]; simp [IsQ]), Drew.refl _⟩

theorem implSeq_any (n : Int) (W : World) : Calls Try.prog 99 #[.int .i64 n] W (Ans (.bool (decide (IsQ n))) W) := by
  go_enter Try.func99, Try.ntmps99
  go_wp2_with fail
  go_at_call 79
  refine (rng_any n 0 15 W).mono ?_
  rintro e w' ⟨rfl, rfl⟩
  go_wp2
  go_ret
  exact ⟨ret_bool (by rw [Bool.eq_iff_iff, decide_eq_true_iff]; simp [IsQ]), Drew.refl _⟩

/-- the number after n -/
def nextQ (n : Int) : Int := if IsQ n then (n + 1) % 16 else -1
/-- how often the next number is taken from a to b -/
def distQ (a b : Int) : Int := if IsQ a ∧ IsQ b then (b - a + 16) % 16 else -1

theorem specNext_any (n : Int) (W : World) : Calls Try.prog 85 #[.int .i64 n] W (Ans (.int .i64 (nextQ n)) W) := by
  by_cases h : IsQ n
  · have hd : decide (IsQ n) = true := decide_eq_true h
    have h0 := h.1
    have h1 := h.2
    have e : nextQ n = (n + 1) % 16 := if_pos h
    rw [e]
    clear e h
    go_enter Try.func85, Try.ntmps85
    go_wp2_with fail
    go_at_call 65
    refine (specSeq_any n W).mono ?_
    rw [hd]
    rintro e w' ⟨rfl, d⟩
    have D := Lib.hid d
    clear d
    go_wp2
    go_ret
    exact ⟨rfl, D.out⟩
  · have hd : decide (IsQ n) = false := decide_eq_false h
    have e : nextQ n = -1 := if_neg h
    rw [e]
    clear e h
    go_enter Try.func85, Try.ntmps85
    go_wp2_with fail
    go_at_call 65
    refine (specSeq_any n W).mono ?_
    rw [hd]
    rintro e w' ⟨rfl, d⟩
    have D := Lib.hid d
    clear d
    go_wp2
    go_ret
    exact ⟨rfl, D.out⟩

/-- a variable of one number, in a block -/
def NumAt (w : World) (b : Nat) (n : Int) : Prop := w.heap[b]? = some (.cells #[.int .i64 n] 3 (0, 0))

/-- the function that gives the numbers behind n, with its variable in block b -/
def seqFn (b : Nat) : Value := .func (.func 116) #[] #[.pointer (some ⟨b, 0, none⟩)]

def MadeFn (n : Int) (W : World) (e : Ending) (w' : World) : Prop := e = .returned (.func (.func 116) #[] #[.pointer (some ⟨W.heap.size, 0, none⟩)]) ∧ NumAt w' W.heap.size n ∧ W.grownBy w' none

theorem after_any (n : Int) (W : World) : Calls Try.prog 110 #[.int .i64 n] W (MadeFn n W) := by
  go_enter Try.func110, Try.ntmps110
  go_wp2
  go_ret
  exact ⟨rfl, heap_alloc_new _ _, gby_alloc (gby_refl _ _) _⟩

def Stepped (n : Int) (b : Nat) (W : World) (e : Ending) (w' : World) : Prop := e = .returned (.int .i64 ((n + 1) % 16)) ∧ NumAt w' b ((n + 1) % 16) ∧ W.grownBy w' (some b)

theorem closure_any (n : Int) (b : Nat) (W : World) (h : NumAt W b n) (h0 : 0 ≤ n) (h1 : n ≤ 15) : Calls Try.prog 116 #[.pointer (some ⟨b, 0, none⟩)] W (Stepped n b W) := by
  have c0 := cell_of_row W b 0 _ _ _ h
  have f0 := frozen_of_row W b 0 _ _ h
  have c0' : W.cell? ⟨b, 0, none⟩ = some (.int .i64 n) := c0
  have H := Lib.hid h
  clear h c0
  go_enter Try.func116, Try.ntmps116
  go_wp2
  go_ret
  exact ⟨rfl, heap_setCell_same _ _ _ _ _ _ H.out, gby_set (gby_refl _ _) _ _⟩

theorem implNext_any (n : Int) (W : World) : Calls Try.prog 115 #[.int .i64 n] W (fun e w' => e = .returned (.int .i64 (nextQ n)) ∧ W.grownBy w' none) := by
  by_cases h : IsQ n
  · have hd : decide (IsQ n) = true := decide_eq_true h
    have h0 := h.1
    have h1 := h.2
    have e : nextQ n = (n + 1) % 16 := if_pos h
    rw [e]
    clear e h
    go_enter Try.func115, Try.ntmps115
    go_wp2_with fail
    go_at_call 99
    refine (implSeq_any n W).mono ?_
    rw [hd]
    rintro e w' ⟨rfl, d⟩
    have D := Lib.hid d
    clear d
    go_wp2_with fail
    go_at_call 110
    refine (after_any n _).mono ?_
    rintro e w2 ⟨rfl, hn, g2⟩
    have HN := Lib.hid hn
    have G2 := Lib.hid (gby_trans (D.out.gby none) g2)
    have s2 := D.out.gby none |>.size
    clear hn g2
    go_wp2_with fail
    go_at_call 116
    refine (closure_any n _ _ HN.out h0 h1).mono ?_
    rintro e w3 ⟨rfl, hn, g3⟩
    have G3 := Lib.hid (gby_own G2.out g3 s2)
    clear hn g3
    go_wp2
    go_ret
    exact ⟨rfl, G3.out⟩
  · have hd : decide (IsQ n) = false := decide_eq_false h
    have e : nextQ n = -1 := if_neg h
    rw [e]
    clear e h
    go_enter Try.func115, Try.ntmps115
    go_wp2_with fail
    go_at_call 99
    refine (implSeq_any n W).mono ?_
    rw [hd]
    rintro e w' ⟨rfl, d⟩
    have D := Lib.hid d
    clear d
    go_wp2
    go_ret
    exact ⟨rfl, D.out.gby none⟩

theorem specDist_any (a b : Int) (W : World) : Calls Try.prog 97 #[.int .i64 a, .int .i64 b] W (Ans (.int .i64 (distQ a b)) W) := by
  by_cases ha : IsQ a
  case pos =>
    have hda : decide (IsQ a) = true := decide_eq_true ha
    by_cases hb : IsQ b
    case pos =>
      have hdb : decide (IsQ b) = true := decide_eq_true hb
      have e : distQ a b = (b - a + 16) % 16 := if_pos ⟨ha, hb⟩
      have a0 := ha.1
      have a1 := ha.2
      have b0 := hb.1
      have b1 := hb.2
      rw [e]
      clear e ha hb
      go_enter Try.func97, Try.ntmps97
      go_wp2_with fail
      go_at_call 65
      refine (specSeq_any a W).mono ?_
      rw [hda]
      rintro e w1 ⟨rfl, d⟩
      have D := Lib.hid d
      clear d
      go_wp2_with fail
      go_at_call 65
      refine (specSeq_any b _).mono ?_
      rw [hdb]
      rintro e w2 ⟨rfl, d⟩
      have D2 := Lib.hid d
      clear d
      have hm : (b - a + 16).tmod 16 = (b - a + 16) % 16 := Int.tmod_eq_emod_of_nonneg (by omega)
      go_wp2
      go_ret
      exact ⟨ret_i64 (by omega), D.out.trans D2.out⟩
    case neg =>
      have hdb : decide (IsQ b) = false := decide_eq_false hb
      have e : distQ a b = -1 := if_neg (fun h => hb h.2)
      rw [e]
      clear e ha hb
      go_enter Try.func97, Try.ntmps97
      go_wp2_with fail
      go_at_call 65
      refine (specSeq_any a W).mono ?_
      rw [hda]
      rintro e w1 ⟨rfl, d⟩
      have D := Lib.hid d
      clear d
      go_wp2_with fail
      go_at_call 65
      refine (specSeq_any b _).mono ?_
      rw [hdb]
      rintro e w2 ⟨rfl, d⟩
      have D2 := Lib.hid d
      clear d
      go_wp2
      go_ret
      exact ⟨rfl, D.out.trans D2.out⟩
  case neg =>
    have hda : decide (IsQ a) = false := decide_eq_false ha
    have e : distQ a b = -1 := if_neg (fun h => ha h.1)
    rw [e]
    clear e ha
    go_enter Try.func97, Try.ntmps97
    go_wp2_with fail
    go_at_call 65
    refine (specSeq_any a W).mono ?_
    rw [hda]
    rintro e w1 ⟨rfl, d⟩
    have D := Lib.hid d
    clear d
    go_wp2
    go_ret
    exact ⟨rfl, D.out⟩

theorem implDist_any (a b : Int) (W : World) : Calls Try.prog 100 #[.int .i64 a, .int .i64 b] W (fun e w' => e = .returned (.int .i64 (distQ a b)) ∧ W.grownBy w' none) := by
  by_cases ha : IsQ a
  case pos =>
    have hda : decide (IsQ a) = true := decide_eq_true ha
    by_cases hb : IsQ b
    case pos =>
      have hdb : decide (IsQ b) = true := decide_eq_true hb
      have e : distQ a b = (b - a + 16) % 16 := if_pos ⟨ha, hb⟩
      have a0 := ha.1
      have a1 := ha.2
      have b0 := hb.1
      have b1 := hb.2
      rw [e]
      clear e ha hb
      go_enter Try.func100, Try.ntmps100
      go_wp2_with fail
      go_at_call 99
      refine (implSeq_any a W).mono ?_
      rw [hda]
      rintro e w1 ⟨rfl, d⟩
      have D := Lib.hid d
      clear d
      go_wp2_with fail
      go_at_call 99
      refine (implSeq_any b _).mono ?_
      rw [hdb]
      rintro e w2 ⟨rfl, d⟩
      have D2 := Lib.hid (D.out.trans d)
      clear d D
      go_wp2_with fail
      go_at_call 110
      refine (after_any a _).mono ?_
      rintro e w3 ⟨rfl, hn, g3⟩
      have HN := Lib.hid hn
      have G3 := Lib.hid (gby_trans (D2.out.gby none) g3)
      have s2 := (D2.out.gby none).size
      clear hn g3
      go_wp2_with fail
      go_loopw [0, 6] (fun x d wr => ∃ (k : Nat) (y : Int), k ≤ 16 ∧ d = .int .i64 (k : Int) ∧ x = .int .i64 y ∧ 0 ≤ y ∧ y ≤ 15 ∧ y = (a + k) % 16 ∧ (k : Int) ≤ (b - a + 16) % 16 ∧ NumAt wr w2.heap.size y ∧ W.grownBy wr none) (fun _ d _ => 16 - (intOf d).toNat)
      case atStart => exact ⟨0, a, Nat.zero_le _, rfl, rfl, a0, a1, by omega, by omega, HN.out, G3.out⟩
      case round =>
        obtain ⟨k, y, hk, rfl, rfl, y0, y1, hy, hkd, hn, hg⟩ := hrel
        have HN2 := Lib.hid hn
        have HG := Lib.hid hg
        have HY := Lib.hid hy
        have HK := Lib.hid hkd
        clear hn hg hy hkd
        by_cases hab : y = b
        · subst hab
          have hne : (y != y) = false := by simp
          go_wp2
          go_ret
          exact ⟨ret_i64 (by have := HY.out; have := HK.out; omega), HG.out⟩
        · have hne : (y != b) = true := by simpa using hab
          have HAB := Lib.hid hab
          clear hab
          go_wp2_with fail
          go_at_call 116
          refine (closure_any y _ _ HN2.out y0 y1).mono ?_
          rintro e w5 ⟨rfl, hn, g5⟩
          have HN5 := Lib.hid hn
          have G5 := Lib.hid (gby_own HG.out g5 s2)
          clear hn g5
          go_wp2
          have hk' : (k : Int) + 1 ≤ (b - a + 16) % 16 := by have := HY.out; have := HK.out; have := HAB.out; omega
          exact ⟨⟨k + 1, (y + 1) % 16, by omega, by go_num, rfl, by omega, by omega, by have := HY.out; omega, by omega, HN5.out, G5.out⟩, by simp [intOf]; omega⟩
    case neg =>
      have hdb : decide (IsQ b) = false := decide_eq_false hb
      have e : distQ a b = -1 := if_neg (fun h => hb h.2)
      rw [e]
      clear e ha hb
      go_enter Try.func100, Try.ntmps100
      go_wp2_with fail
      go_at_call 99
      refine (implSeq_any a W).mono ?_
      rw [hda]
      rintro e w1 ⟨rfl, d⟩
      have D := Lib.hid d
      clear d
      go_wp2_with fail
      go_at_call 99
      refine (implSeq_any b _).mono ?_
      rw [hdb]
      rintro e w2 ⟨rfl, d⟩
      have D2 := Lib.hid d
      clear d
      go_wp2
      go_ret
      exact ⟨rfl, (D.out.trans D2.out).gby none⟩
  case neg =>
    have hda : decide (IsQ a) = false := decide_eq_false ha
    have e : distQ a b = -1 := if_neg (fun h => ha h.1)
    rw [e]
    clear e ha
    go_enter Try.func100, Try.ntmps100
    go_wp2_with fail
    go_at_call 99
    refine (implSeq_any a W).mono ?_
    rw [hda]
    rintro e w1 ⟨rfl, d⟩
    have D := Lib.hid d
    clear d
    go_wp2
    go_ret
    exact ⟨rfl, D.out.gby none⟩

/-- n is old to e -/
def OldQ (n e : Int) : Prop := 1 ≤ distQ n e ∧ distQ n e ≤ 7
instance (n e : Int) : Decidable (OldQ n e) := inferInstanceAs (Decidable (_ ∧ _))

theorem specOld_any (n x : Int) (W : World) : Calls Try.prog 104 #[.int .i64 n, .int .i64 x] W (Ans (.bool (decide (OldQ n x))) W) := by
  go_enter Try.func104, Try.ntmps104
  go_wp2_with fail
  go_at_call 97
  refine (specDist_any n x W).mono ?_
  rintro e w1 ⟨rfl, d⟩
  have D := Lib.hid d
  clear d
  go_wp2_with fail
  go_at_call 81
  refine (in_any _ 1 7 _).mono ?_
  rintro e w' ⟨rfl, rfl⟩
  go_wp2
  go_ret
  exact ⟨ret_bool (by rw [Bool.eq_iff_iff, decide_eq_true_iff]; simp [OldQ]), D.out⟩

theorem implOld_any (n x : Int) (W : World) : Calls Try.prog 114 #[.int .i64 n, .int .i64 x] W (fun e w' => e = .returned (.bool (decide (OldQ n x))) ∧ W.grownBy w' none) := by
  go_enter Try.func114, Try.ntmps114
  go_wp2_with fail
  go_at_call 100
  refine (implDist_any n x W).mono ?_
  rintro e w1 ⟨rfl, g⟩
  have G := Lib.hid g
  clear g
  go_wp2_with fail
  go_at_call 79
  refine (rng_any _ 1 7 _).mono ?_
  rintro e w' ⟨rfl, rfl⟩
  go_wp2
  go_ret
  exact ⟨ret_bool (by rw [Bool.eq_iff_iff, decide_eq_true_iff]; simp [OldQ]), G.out⟩

end Go.Proofs.Ytnighnkkeiegnab
