/-
  Contracts of ids: texts that are parsed.
-/
import Derived.Test.YteaaobklfhlgiaaDoorIdText
namespace Go.Proofs.YteaaobklfhlgiaaDoor
open Go Go.RowKit Go.Lib

theorem index_lt {l : List UInt8} {c : UInt8} {o : Nat} (h : indexByte l c = o) : o < l.length := by
  obtain ⟨h1, _⟩ := indexByte_some h
  rcases Nat.lt_or_ge o l.length with h' | h'
  · exact h'
  · rw [List.getElem?_eq_none h'] at h1; cases h1

theorem index_or (l : List UInt8) (c : UInt8) : indexByte l c = -1 ∨ ∃ o : Nat, indexByte l c = o := by
  have := indexByte_ge l c
  by_cases h : indexByte l c = -1
  · exact .inl h
  · exact .inr ⟨(indexByte l c).toNat, by omega⟩

theorem drop_list (s : ByteArray) (o : Nat) : (s.extract (o + 1) s.size).data.toList = s.data.toList.drop (o + 1) := by
  simp
  apply List.take_of_length_le
  simp

/-- a text cut in two at a byte -/
def CutAns (s : ByteArray) (c : UInt8) (w : World) (e : Ending) (w' : World) : Prop := ∃ (a b : ByteArray) (f : Bool), Cutted s.data.toList c a.data.toList b.data.toList ∧ a.size ≤ s.size ∧ b.size ≤ s.size ∧ e = .returned (.tuple #[.string a, .string b, .bool f]) ∧ Drew w w'

theorem ret_ssb {a b x y : ByteArray} (h1 : a = x) (h2 : b = y) (f : Bool) : Ending.returned (.tuple #[.string a, .string b, .bool f]) = .returned (.tuple #[.string x, .string y, .bool f]) := by rw [h1, h2]

set_option maxHeartbeats 400000 in
theorem slCut_any (s : ByteArray) (c : UInt8) (w : World) (hs : s.size ≤ 1048576) : Calls Tryd.prog 30 #[.string s, .string ⟨#[c]⟩] w (CutAns s c w) := by
  have hl : s.data.toList.length = s.size := by simp
  rcases index_or s.data.toList c with hi | ⟨o, hi⟩
  · have HI := Lib.hid hi
    clear hi
    go_enter Tryd.func30, Tryd.ntmps30
    go_wp2_with fail
    go_at_call 36
    refine (Tryd.stringslite_Index_one _ _ _).mono ?_
    rintro e w' ⟨rfl, rfl⟩
    rw [HI.out]
    go_wp2
    go_ret3
    exact ⟨s, ⟨#[]⟩, false, cut_none HI.out, Nat.le_refl _, Nat.zero_le _, rfl, Drew.refl _⟩
  · have ho := index_lt hi
    have HI := Lib.hid hi
    have hsz : ({ data := #[c] } : ByteArray).size = 1 := rfl
    have i0 : (0 : Int) ≤ (o : Int) := by omega
    have c2 : (o : Int) ≤ (s.size : Int) := by omega
    have c3 : (0 : Int) ≤ (o : Int) + 1 := by omega
    have c4 : (o : Int) + 1 ≤ (s.size : Int) := by omega
    clear hi
    go_enter Tryd.func30, Tryd.ntmps30
    go_wp2_with fail
    go_at_call 36
    refine (Tryd.stringslite_Index_one _ _ _).mono ?_
    rintro e w' ⟨rfl, rfl⟩
    rw [HI.out]
    go_wp2
    go_quiet (fail)
    go_wp2
    go_ret3
    exact ⟨s.extract 0 o, s.extract (o + 1) s.size, true, by have := cut_some HI.out; rw [drop_list]; simpa using this, by simp; omega, by simp, ret_ssb (by simp) (by simp) _, ⟨_, rfl⟩⟩

theorem cut_any (s : ByteArray) (c : UInt8) (w : World) (hs : s.size ≤ 1048576) : Calls Tryd.prog 19 #[.string s, .string ⟨#[c]⟩] w (CutAns s c w) := by
  go_enter Tryd.func19, Tryd.ntmps19
  go_wp2_with fail
  go_at_call 30
  refine (slCut_any _ _ _ hs).mono ?_
  rintro e w1 ⟨a, b, f, hc, h1, h2, rfl, d1⟩
  have D1 := Lib.hid d1
  have HC := Lib.hid hc
  clear d1 hc
  go_wp2
  go_ret3
  exact ⟨a, b, f, HC.out, h1, h2, rfl, D1.out⟩

/-- the id that a text is, or none -/
def IdOf (s : ByteArray) (w : World) (e : Ending) (w' : World) : Prop :=
  ((∃ k : Nat, k ≤ 255 ∧ s.data.toList = idL k ∧ e = .returned (.tuple #[.int .i64 (k : Int), .bool true])) ∨ ((∀ k : Nat, k ≤ 255 → s.data.toList ≠ idL k) ∧ e = .returned (.tuple #[.int .i64 0, .bool false]))) ∧ Below w.heap.size w w'

theorem ret_id {a b : Int} (h : a = b) : Ending.returned (.tuple #[.int .i64 a, .bool true]) = .returned (.tuple #[.int .i64 b, .bool true]) := by rw [h]

/-- no id has a part that is no number -/
theorem id_none {s a b c d : ByteArray} (h1 : Cutted s.data.toList 58 a.data.toList b.data.toList) (h2 : Cutted b.data.toList 46 c.data.toList d.data.toList) (h : (∀ n, ¬ Canon a.data.toList n) ∨ (∀ n, ¬ Canon c.data.toList n) ∨ (∀ n, ¬ Canon d.data.toList n)) : ∀ k : Nat, k ≤ 255 → s.data.toList ≠ idL k := by
  intro k hk e
  obtain ⟨p1, p2, p3⟩ := parts_of_id h1 h2 e
  obtain ⟨c1, c2, c3⟩ := idL_canon k hk
  rcases h with h | h | h
  · exact h _ (by rw [p1]; exact c1)
  · exact h _ (by rw [p2]; exact c2)
  · exact h _ (by rw [p3]; exact c3)

/-- an id's parts are in their ranges -/
theorem id_far {s a b c d : ByteArray} {n1 n2 n3 : Nat} (h1 : Cutted s.data.toList 58 a.data.toList b.data.toList) (h2 : Cutted b.data.toList 46 c.data.toList d.data.toList) (c1 : Canon a.data.toList n1) (c2 : Canon c.data.toList n2) (c3 : Canon d.data.toList n3) (h : ¬ (n1 ≤ 15 ∧ n2 ≤ 3 ∧ n3 ≤ 3)) : ∀ k : Nat, k ≤ 255 → s.data.toList ≠ idL k := by
  intro k hk e
  obtain ⟨p1, p2, p3⟩ := parts_of_id h1 h2 e
  obtain ⟨q1, q2, q3⟩ := idL_canon k hk
  have e1 := canon_one c1 (by rw [p1]; exact q1)
  have e2 := canon_one c2 (by rw [p2]; exact q2)
  have e3 := canon_one c3 (by rw [p3]; exact q3)
  omega

/-- what a text of a number is read as -/
def Num (l : List UInt8) (n : Nat) (b : Bool) : Prop := (b = true ∧ Canon l n) ∨ (b = false ∧ n = 0 ∧ ∀ m, ¬ Canon l m)

theorem parsed_num {s : ByteArray} {w w' : World} {e : Ending} (h : Parsed s w e w') : ∃ n b, Num s.data.toList n b ∧ e = .returned (.tuple #[.int .i64 (n : Int), .bool b]) ∧ Below w.heap.size w w' := by
  obtain ⟨⟨n, hc, he⟩ | ⟨hn, he⟩, hb⟩ := h
  · exact ⟨n, true, .inl ⟨rfl, hc⟩, he, hb⟩
  · exact ⟨0, false, .inr ⟨rfl, rfl, hn⟩, he, hb⟩

theorem num_le {l : List UInt8} {n : Nat} {b : Bool} (h : Num l n b) : n ≤ 1000000000 := by
  rcases h with ⟨_, h⟩ | ⟨_, h, _⟩
  · exact h.1
  · omega

theorem num_true {l : List UInt8} {n : Nat} (h : Num l n true) : Canon l n := by
  rcases h with ⟨_, h⟩ | ⟨h, _⟩
  · exact h
  · cases h

theorem num_false {l : List UInt8} {n : Nat} (h : Num l n false) : ∀ m, ¬ Canon l m := by
  rcases h with ⟨h, _⟩ | ⟨_, _, h⟩
  · cases h
  · exact h

set_option maxHeartbeats 1000000 in
theorem implParseId_any (s : ByteArray) (w : World) (hs : s.size ≤ 1048576) (hv : ErrVars w) (htab : TabIs Tryd.prog w "internal/strconv.uint64pow10" .u64 pow10Tab) :
    Calls Tryd.prog 8 #[.string s] w (IdOf s w) := by
  have HV := Lib.hid hv
  have HT := Lib.hid htab
  clear hv htab
  go_enter Tryd.func8, Tryd.ntmps8
  go_wp2_with fail
  go_at_call 19
  refine (cut_any _ _ _ hs).mono ?_
  rintro e w1 ⟨a, b, f1, hc1, la, lb, rfl, d1⟩
  have B1 := Lib.hid (drew_below d1)
  have C1 := Lib.hid hc1
  clear d1 hc1
  go_wp2_with fail
  go_at_call 19
  refine (cut_any _ _ _ (by omega)).mono ?_
  rintro e w2 ⟨c, d, f2, hc2, lc, ld, rfl, d2⟩
  have B2 := Lib.hid (below_then B1.out (drew_below d2))
  have C2 := Lib.hid hc2
  clear d2 hc2
  go_wp2_with fail
  go_at_call 20
  refine (implParse_any _ _ (by omega) (errs_below B2.out HV.out) (tab_below B2.out HT.out)).mono ?_
  intro e w3 hp
  obtain ⟨n1, b1, hn1, rfl, bel⟩ := parsed_num hp
  have B3 := Lib.hid (below_then B2.out bel)
  have N1 := Lib.hid hn1
  have m1 := num_le hn1
  clear hp bel hn1
  go_wp2_with fail
  go_at_call 20
  refine (implParse_any _ _ (by omega) (errs_below B3.out HV.out) (tab_below B3.out HT.out)).mono ?_
  intro e w4 hp
  obtain ⟨n2, b2, hn2, rfl, bel⟩ := parsed_num hp
  have B4 := Lib.hid (below_then B3.out bel)
  have N2 := Lib.hid hn2
  have m2 := num_le hn2
  clear hp bel hn2
  go_wp2_with fail
  go_at_call 20
  refine (implParse_any _ _ (by omega) (errs_below B4.out HV.out) (tab_below B4.out HT.out)).mono ?_
  intro e w5 hp
  obtain ⟨n3, b3, hn3, rfl, bel⟩ := parsed_num hp
  have B5 := Lib.hid (below_then B4.out bel)
  have N3 := Lib.hid hn3
  have m3 := num_le hn3
  clear hp bel hn3
  by_cases hf : FitsI n1 n2 n3
  · have HF := Lib.hid hf
    have hq : 0 ≤ (n1 : Int) * 16 + (n2 : Int) * 4 + (n3 : Int) := by omega
    clear hf
    go_wp2_with fail
    go_at_call 11
    refine (implMake_in _ _ _ _ HF.out).mono ?_
    rintro e w6 ⟨rfl, d6⟩
    have B6 := Lib.hid (below_then B5.out (drew_below d6))
    clear d6
    cases b1
    case' true =>
      cases b2
      case' true => cases b3
    all_goals
      go_wp2
      go_ret2
    all_goals first
      | exact ⟨.inr ⟨id_none C1.out C2.out (.inl (num_false N1.out)), rfl⟩, B6.out⟩
      | exact ⟨.inr ⟨id_none C1.out C2.out (.inr (.inl (num_false N2.out))), rfl⟩, B6.out⟩
      | exact ⟨.inr ⟨id_none C1.out C2.out (.inr (.inr (num_false N3.out))), rfl⟩, B6.out⟩
      | exact ⟨.inl ⟨n1 * 16 + n2 * 4 + n3, by have h := HF.out; unfold FitsI at h; omega, id_of_parts C1.out C2.out (num_true N1.out) (num_true N2.out) (num_true N3.out) (by have h := HF.out; unfold FitsI at h; omega) (by have h := HF.out; unfold FitsI at h; omega), ret_id (by omega)⟩, B6.out⟩
  · have HF := Lib.hid hf
    clear hf
    go_wp2_with fail
    go_at_call 11
    refine (implMake_out _ _ _ _ HF.out).mono ?_
    rintro e w6 ⟨rfl, d6⟩
    have B6 := Lib.hid (below_then B5.out (drew_below d6))
    clear d6
    cases b1
    case' true =>
      cases b2
      case' true => cases b3
    all_goals
      go_wp2
      go_ret2
    all_goals first
      | exact ⟨.inr ⟨id_none C1.out C2.out (.inl (num_false N1.out)), rfl⟩, B6.out⟩
      | exact ⟨.inr ⟨id_none C1.out C2.out (.inr (.inl (num_false N2.out))), rfl⟩, B6.out⟩
      | exact ⟨.inr ⟨id_none C1.out C2.out (.inr (.inr (num_false N3.out))), rfl⟩, B6.out⟩
      | exact ⟨.inr ⟨id_far C1.out C2.out (num_true N1.out) (num_true N2.out) (num_true N3.out) (by have h := HF.out; unfold FitsI at h; omega), rfl⟩, B6.out⟩

end Go.Proofs.YteaaobklfhlgiaaDoor
