/-
  Contract of the program's SplitFields and of its appendField.
-/
import Derived.Test.YtmgdcnlbpghjjaaDoorFieldsSpec
import Derived.Test.YtmgdcnlbpghjjaaDoorShelfClone
namespace Go.Proofs.YtmgdcnlbpghjjaaDoor
open Go Go.RowKit Go.PlainAid

theorem clone_any (s : ByteArray) (w : World) (hlim : s.size ≤ 281474976710656) :
    Calls Tryd.prog 33 #[.string s] w (fun e w' => e = .returned (.string s) ∧ Below w.heap.size w w') := by
  go_enter Tryd.func33, Tryd.ntmps33
  go_wp2_with fail
  go_at_call 38
  refine (Tryd.stringslite_Clone s _ hlim).mono ?_
  rintro e w1 ⟨rfl, B1⟩
  have HB1 := Lib.hid B1
  clear B1
  go_wp2
  go_ret
  exact ⟨rfl, HB1.out⟩

/-- a field that is empty is left out -/
def withField (xs : List ByteArray) (x : ByteArray) : List ByteArray := if x.size = 0 then xs else xs ++ [x]

def Appended (B : Nat) (xs : List ByteArray) (w : World) (e : Ending) (w' : World) : Prop := ∃ v : Value, e = .returned v ∧ w'.ownsRow B 9 1 v xs.length (strs xs) ∧ Below B w w'

set_option maxHeartbeats 1000000 in
theorem appendField_any (B : Nat) (v : Value) (xs : List ByteArray) (x : ByteArray) (w : World) (hB : B ≤ w.heap.size) (hown : w.ownsRow B 9 1 v xs.length (strs xs)) (hx : x.size ≤ 1000000) (hl : xs.length ≤ 1000000) :
    Calls Tryd.prog 27 #[v, .string x] w (Appended B (withField xs x) w) := by
  obtain ⟨i0, hi0, hz0, hz1, hz2⟩ := info_parts infoStr
  have HO := Lib.hid hown
  clear hown
  by_cases h0 : x.size = 0
  · obtain rfl : x = ByteArray.empty := ByteArray.ext (Array.eq_empty_of_size_eq_zero h0)
    have e : withField xs ByteArray.empty = xs := by unfold withField; rw [if_pos h0]
    rw [e]
    go_enter Tryd.func27, Tryd.ntmps27
    go_wp2
    go_ret
    exact ⟨_, rfl, HO.out, Below.refl _ _⟩
  · have e : withField xs x = xs ++ [x] := by unfold withField; rw [if_neg h0]
    have hne : x.toList.isEmpty = false := by
      rw [ByteArray.toList_eq]
      cases hl : x.data.toList with
      | nil => exact absurd (by have := congrArg List.length hl; rw [Array.length_toList] at this; exact this) h0
      | cons a l => rfl
    rw [e]
    clear e h0
    go_enter Tryd.func27, Tryd.ntmps27
    go_wp2_with fail
    go_at_call 33
    refine (clone_any x _ (by omega)).mono ?_
    rintro e w1 ⟨rfl, B1⟩
    have hs1 := B1.size
    have HO1 := Lib.hid (HO.out.kept (row := none) ⟨B1.os, B1.tape, B1.output, B1.size, fun i hi _ => B1.block i hi⟩ (by
      rcases hv : v.ownBlock with _ | g
      · exact .inl rfl
      · exact .inr (by simp)))
    have HB1 := Lib.hid (B1.mono hB)
    clear B1
    go_wp2_with (at_builtin; refine wpList_append_lies _ (by rfl) _ _ _ (by rfl) B 9 i0 _ 1 16 Tryd.underlying28 hi0 hz0 hz1 hz2 rfl (by omega) _ xs.length (strs xs) (by rfl) (HO1.out.alloc _) ⟨w1.heap.size, 0, none⟩ 1 1 _ (by rfl) (by rfl) (World.news_of_block (t := 9) (fr := (0, 0)) (heap_alloc_new w1 _)) (by simp [Value.oneCell']) (by omega) (by unfold maxLen; omega) (by omega) (by simp; omega) (w1.heap.size + 1) (by simp) ?_; intro gg cap w2 hown2 hgrow hat hlt1; have HH := Lib.hid hown2; have HG := Lib.hid hgrow; clear hown2 hgrow hat hlt1)
    go_ret
    refine ⟨_, rfl, ?_, ?_⟩
    · rw [List.length_append, strs_append]; exact HH.out
    · exact (HB1.out.alloc (Nat.le_trans hB hs1) _).grown HG.out (by simp; omega) (own_from HO1.out)

/-- closing a field at place k, empty or not -/
theorem St.closeAny {s : ByteArray} {k bg : Nat} {xs : List ByteArray} (h : St s k xs bg) (hk : k ≤ s.size) (hb : k < s.size → bt s k = 32) : St s (k + 1) (withField xs (s.extract bg k)) (k + 1) := by
  have hbg := h.le.1
  have hz := extract_size s bg k hbg hk
  unfold withField
  by_cases hlt : bg < k
  · rw [if_neg (by omega)]; exact h.close hb hlt
  · rw [if_pos (by omega)]; exact h.none hb hlt

set_option maxHeartbeats 400000 in
theorem implSplit_long (s : ByteArray) (w : World) (h : 600 < s.size) (hs : s.size ≤ maxLen) :
    Calls Tryd.prog 13 #[.string s] w (SplitRes s w) := by
  unfold maxLen at hs
  have hi : (600 : Int) < (s.size : Int) := by omega
  have HN := Lib.hid (show ¬ SplitOk s from fun g => by have := g.1; omega)
  go_enter Tryd.func13, Tryd.ntmps13
  go_wp2
  go_step3
  go_wp2
  (try rw [Exit.noGoto_ret])
  go_ret2
  exact ⟨_, [], false, rfl, World.ownsRow_nil _ _ _ _, Below.refl _ _, .inr ⟨HN.out, rfl, rfl⟩⟩

set_option maxRecDepth 4000 in
set_option maxHeartbeats 2000000 in
theorem implSplit_short (s : ByteArray) (w : World) (h : s.size ≤ 600) :
    Calls Tryd.prog 13 #[.string s] w (SplitRes s w) := by
  go_enter Tryd.func13, Tryd.ntmps13
  go_wp2
  go_step3
  go_wp2
  go_step3
  go_wp2
  go_loopw [4, 5, 6] (fun v b i wr => ∃ (k bg : Nat) (xs : List ByteArray), k ≤ s.size ∧ i = .int .i64 (k : Int) ∧ b = .int .i64 (bg : Int) ∧ St s k xs bg ∧ Clean s k ∧ wr.ownsRow w.heap.size 9 1 v xs.length (strs xs) ∧ Below w.heap.size w wr) (fun _ _ i _ => s.size - (intOf i).toNat)
  case atStart => exact ⟨0, 0, [], Nat.zero_le _, rfl, rfl, St.zero s, Clean.zero s, World.ownsRow_nil _ _ _ _, Below.refl _ _⟩
  case round =>
    obtain ⟨k, bg, xs, hk, rfl, rfl, hst, hcl, hown, hbel⟩ := hrel
    have hsz := hbel.size
    have hbg := hst.le.1
    have hxl := hst.le.2
    have HO := Lib.hid hown
    have HB := Lib.hid hbel
    have HS := Lib.hid hst
    have HC := Lib.hid hcl
    clear hown hbel hst hcl
    have hk0 : (0 : Int) ≤ (k : Int) := by omega
    have hb0 : (0 : Int) ≤ (bg : Int) := by omega
    have hbk : (bg : Int) ≤ (k : Int) := by omega
    have hez := extract_size s bg k hbg hk
    by_cases hlt : k < s.size
    · have hb := get_bt s
      have hki : (k : Int) < (s.size : Int) := by omega
      have hks : (k : Int) ≤ (s.size : Int) := by omega
      by_cases c1 : bt s k < 32
      · have HN := Lib.hid (not_clean hlt (.inl c1))
        go_wp2
        (try rw [Exit.noGoto_ret])
        go_ret2
        exact ⟨_, [], false, rfl, World.ownsRow_nil _ _ _ _, HB.out, .inr ⟨HN.out, rfl, rfl⟩⟩
      · by_cases c2 : 126 < bt s k
        · have HN := Lib.hid (not_clean hlt (.inr c2))
          go_wp2
          (try rw [Exit.noGoto_ret])
          go_ret2
          exact ⟨_, [], false, rfl, World.ownsRow_nil _ _ _ _, HB.out, .inr ⟨HN.out, rfl, rfl⟩⟩
        · have HC1 := Lib.hid (HC.out.succ (fun _ => ⟨by omega, by omega⟩))
          by_cases c3 : bt s k = 32
          · have HS1 := Lib.hid (HS.out.closeAny hk (fun _ => c3))
            have HEZ := Lib.hid hez
            clear hez
            go_wp2_with fail
            go_at_call 27
            refine (appendField_any w.heap.size _ xs _ _ hsz HO.out (by have := HEZ.out; omega) (by omega)).mono ?_
            rintro e w1 ⟨v', rfl, hown1, hbel1⟩
            have HO1 := Lib.hid hown1
            have HB1 := Lib.hid (HB.out.trans hbel1)
            clear hown1 hbel1
            go_wp2
            exact ⟨⟨k + 1, k + 1, _, by omega, by go_num, by go_num, HS1.out, HC1.out, HO1.out, HB1.out⟩, by simp [intOf]; omega⟩
          · have HS1 := Lib.hid (HS.out.word hlt c3)
            have hc3 : (bt s k == 32) = false := by simpa using c3
            have hc4 : (bt s k != 32) = true := by simpa using c3
            clear c3
            go_wp2
            exact ⟨⟨k + 1, bg, xs, by omega, by go_num, rfl, HS1.out, HC1.out, HO.out, HB.out⟩, by simp [intOf]; omega⟩
    · have hke : k = s.size := by omega
      have hki : ¬ (k : Int) < (s.size : Int) := by omega
      have hbs : (bg : Int) ≤ (s.size : Int) := by omega
      have HS1 := Lib.hid (HS.out.closeAny hk (fun g => absurd g hlt))
      have HEZ := Lib.hid hez
      have HF := Lib.hid (fields_of HS1.out (by omega))
      have HCA := Lib.hid (clean_all HC.out (show s.size ≤ k from by omega))
      have HK := Lib.hid hke
      clear hez hke hlt
      go_wp2_with fail
      go_at_call 27
      refine (appendField_any w.heap.size _ xs _ _ hsz HO.out (by rw [extract_size s bg s.size (by omega) (Nat.le_refl _)]; omega) (by omega)).mono ?_
      rintro e w1 ⟨v', rfl, hown1, hbel1⟩
      rw [← HK.out] at hown1
      obtain ⟨a, cap, rfl⟩ := own_slice hown1
      have HO1 := Lib.hid hown1
      have HB1 := Lib.hid (HB.out.trans hbel1)
      clear hown1 hbel1
      generalize withField xs (s.extract bg k) = ys at HO1 HS1 HF ⊢
      by_cases hmany : (24 : Int) < (ys.length : Int)
      · have HN := Lib.hid (show ¬ SplitOk s from fun g => by have := g.2.2; rw [HF.out] at this; omega)
        go_wp2
        (try rw [Exit.noGoto_ret])
        go_ret2
        exact ⟨_, [], false, rfl, World.ownsRow_nil _ _ _ _, HB1.out, .inr ⟨HN.out, rfl, rfl⟩⟩
      · have HY := Lib.hid (show SplitOk s from ⟨h, HCA.out, by rw [HF.out]; omega⟩)
        go_wp2
        (try rw [Exit.noGoto_ret])
        go_ret2
        exact ⟨_, ys, true, rfl, HO1.out, HB1.out, .inl ⟨HY.out, HF.out.symm, rfl⟩⟩

theorem implSplit_any (s : ByteArray) (w : World) (hs : s.size ≤ maxLen) :
    Calls Tryd.prog 13 #[.string s] w (SplitRes s w) := by
  by_cases h : s.size ≤ 600
  · exact implSplit_short s w h
  · exact implSplit_long s w (by omega) hs

end Go.Proofs.YtmgdcnlbpghjjaaDoor
