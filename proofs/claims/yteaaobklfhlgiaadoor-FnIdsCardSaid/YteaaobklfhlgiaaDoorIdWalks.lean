/-
  The walks of FnExactParseId and FnIds.
-/
import Derived.Test.YteaaobklfhlgiaaDoorIdParse
import Derived.Test.YteaaobklfhlgiaaDoorDraw
import Derived.Test.YteaaobklfhlgiaaDoorBig
namespace Go.Proofs.YteaaobklfhlgiaaDoor
open Go Go.RowKit Go.Lib

theorem text_of {s : ByteArray} {l : List UInt8} (h : s = ⟨l.toArray⟩) : s.data.toList = l := by rw [h]

set_option maxHeartbeats 1000000 in
theorem specParseId_any (s : ByteArray) (w : World) :
    Calls Tryd.prog 16 #[.string s] w (IdOf s w) := by
  go_enter Tryd.func16, Tryd.ntmps16
  go_wp2
  go_loopw [4] (fun i wr => ∃ k : Nat, k ≤ 256 ∧ i = .int .i64 (k : Int) ∧ (∀ j, j < k → s.data.toList ≠ idL j) ∧ Below w.heap.size w wr) (fun i _ => 256 - (RowKit.intOf i).toNat)
  case atStart => exact ⟨0, Nat.zero_le _, rfl, fun j hj => absurd hj (Nat.not_lt_zero _), Below.refl _ _⟩
  case round =>
    obtain ⟨k, hk, rfl, hn, hb⟩ := hrel
    have HB := Lib.hid hb
    have HN := Lib.hid hn
    clear hb hn
    by_cases hlt : k ≤ 255
    · have i1 : (k : Int) ≤ 255 := by omega
      obtain ⟨t, ht⟩ : ∃ t : ByteArray, t = ⟨(idL k).toArray⟩ := ⟨_, rfl⟩
      have HF := Lib.hid (fun W : World => show Calls Tryd.prog 15 #[.int .i64 (k : Int)] W (TextIs t W) from by rw [ht]; exact specFormatId_in k W hlt)
      by_cases he : t = s
      · have HE := Lib.hid (show s.data.toList = idL k from by rw [← he]; exact text_of ht)
        clear ht
        subst he
        go_wp2_with fail
        go_at_call 15
        refine (HF.out _).mono ?_
        rintro e w1 ⟨rfl, b1⟩
        have B1 := Lib.hid (below_then HB.out b1)
        clear b1
        go_wp2
        go_ret2
        exact ⟨.inl ⟨k, hlt, HE.out, rfl⟩, B1.out⟩
      · have hb := neq_bytes he
        have HE := Lib.hid (show s.data.toList ≠ idL k from fun q => he (by rw [ht]; exact ByteArray.ext (by rw [← q])))
        clear ht he
        go_wp2_with fail
        go_at_call 15
        refine (HF.out _).mono ?_
        rintro e w1 ⟨rfl, b1⟩
        have B1 := Lib.hid (below_then HB.out b1)
        clear b1
        go_wp2
        refine ⟨⟨k + 1, by omega, by go_num, ?_, B1.out⟩, by simp [RowKit.intOf]; omega⟩
        intro j hj
        by_cases e : j = k
        · subst e; exact HE.out
        · exact HN.out j (by omega)
    · have i1 : (255 : Int) < (k : Int) := by omega
      go_wp2
      go_ret2
      exact ⟨.inr ⟨fun j hj => HN.out j (by omega), rfl⟩, HB.out⟩

set_option maxHeartbeats 1000000 in
theorem walk_exactParseId (s : ByteArray) (hs : s.size ≤ maxLen) (w : World) (hv : ErrVars w) (htab : TabIs Tryd.prog w "internal/strconv.uint64pow10" .u64 pow10Tab) :
    Calls Tryd.prog 5 #[.string s] w fun e w' => e = .returned (.bool true) ∧ Below w.heap.size w w' := by
  have HV := Lib.hid hv
  have HT := Lib.hid htab
  clear hv htab
  unfold maxLen at hs
  by_cases hbig : (1048576 : Int) < (s.size : Int)
  · go_enter Tryd.func5, Tryd.ntmps5
    go_wp2
    go_ret
    exact ⟨rfl, Below.refl _ _⟩
  · go_enter Tryd.func5, Tryd.ntmps5
    go_wp2_with fail
    go_at_call 16
    refine (specParseId_any _ _).mono ?_
    rintro e w1 ⟨⟨k, hk, hc, rfl⟩ | ⟨hno, rfl⟩, b1⟩
    · have B1 := Lib.hid b1
      have HC := Lib.hid hc
      clear b1 hc
      go_wp2_with fail
      go_at_call 8
      refine (implParseId_any _ _ (by omega) (errs_below B1.out HV.out) (tab_below B1.out HT.out)).mono ?_
      rintro e w2 ⟨⟨m, hm, hc2, rfl⟩ | ⟨hno, rfl⟩, b2⟩
      · obtain rfl := idL_one (HC.out.symm.trans hc2)
        have B2 := Lib.hid (below_then B1.out b2)
        clear b2 hc2
        go_wp2
        go_ret
        exact ⟨rfl, B2.out⟩
      · exact absurd HC.out (hno k hk)
    · have B1 := Lib.hid b1
      have HN := Lib.hid hno
      clear b1 hno
      go_wp2_with fail
      go_at_call 8
      refine (implParseId_any _ _ (by omega) (errs_below B1.out HV.out) (tab_below B1.out HT.out)).mono ?_
      rintro e w2 ⟨⟨m, hm, hc2, rfl⟩ | ⟨hno, rfl⟩, b2⟩
      · exact absurd hc2 (HN.out m hm)
      · have B2 := Lib.hid (below_then B1.out b2)
        clear b2 hno
        go_wp2
        go_ret
        exact ⟨rfl, B2.out⟩

theorem drawId_any (w : World) (a : Option Addr) (len cap : Nat) (zs : List Int) (hB : Bytes w a len zs) (hl : len ≤ 1048576) :
    Calls Tryd.prog 7 #[.slice a len cap] w fun e w' => ∃ k : Nat, k ≤ 255 ∧ e = .returned (.int .i64 (k : Int)) ∧ w.grownBy w' none := by
  have HB := Lib.hid hB
  clear hB
  go_enter Tryd.func7, Tryd.ntmps7
  go_wp2_with fail
  go_at_call 18
  refine (new_any _ _ _ _ _ HB.out hl).mono ?_
  rintro e w1 ⟨c, rfl, hc, H1, G1⟩
  have HG1 := Lib.hid G1
  clear G1
  go_wp2_with fail
  go_at_call 17
  refine (below_any _ _ _ H1 (by omega) (by omega)).mono ?_
  rintro e w2 ⟨x, ⟨hx0, hx1⟩, rfl, H2, G2⟩
  have HG2 := Lib.hid (gby_own HG1.out G2 hc)
  clear G2
  go_wp2
  go_ret
  exact ⟨x.toNat, by omega, ret_i64 (by omega), HG2.out⟩

set_option maxHeartbeats 2000000 in
theorem walk_ids (a : Option Addr) (len cap : Nat) (zs : List Int) (w : World) (hB : Bytes w a len zs) (hv : ErrVars w) (htab : TabIs Tryd.prog w "internal/strconv.uint64pow10" .u64 pow10Tab) :
    Calls Tryd.prog 3 #[.slice a len cap] w fun e w' => e = .returned (.bool true) ∧ Below w.heap.size w w' := by
  have HB := Lib.hid hB
  have HV := Lib.hid hv
  have HT := Lib.hid htab
  clear hB hv htab
  by_cases hbig : (1048576 : Int) < (len : Int)
  · go_enter Tryd.func3, Tryd.ntmps3
    go_wp2
    go_ret
    exact ⟨rfl, Below.refl _ _⟩
  · go_enter Tryd.func3, Tryd.ntmps3
    go_wp2_with fail
    go_at_call 6
    refine (big_any _ _ _ _).mono ?_
    rintro e w1 ⟨rfl, rfl⟩
    go_wp2_with fail
    go_at_call 7
    refine (drawId_any _ _ _ _ _ HB.out (by omega)).mono ?_
    rintro e w1 ⟨k, hk, rfl, G1⟩
    have B1 := Lib.hid (gby_below G1)
    clear G1
    obtain ⟨t, ht⟩ : ∃ t : ByteArray, t = ⟨(idL k).toArray⟩ := ⟨_, rfl⟩
    have hts : t.size ≤ 8 := by
      have := idL_len k hk
      rw [ht]; simpa [ByteArray.size] using this
    have HF := Lib.hid (show Calls Tryd.prog 9 #[.int .i64 (k : Int)] w1 (TextIs t w1) from by rw [ht]; exact implFormatId_in k w1 hk (tab_below B1.out HT.out))
    have HL := Lib.hid (text_of ht)
    clear ht
    go_wp2_with fail
    go_at_call 9
    refine HF.out.mono ?_
    rintro e w2 ⟨rfl, b2⟩
    have B2 := Lib.hid (below_then B1.out b2)
    clear b2
    go_wp2_with fail
    go_at_call 8
    refine (implParseId_any _ _ (by omega) (errs_below B2.out HV.out) (tab_below B2.out HT.out)).mono ?_
    rintro e w3 ⟨⟨m, hm, hc2, rfl⟩ | ⟨hno, rfl⟩, b3⟩
    case inr => exact absurd HL.out (hno k hk)
    obtain rfl := idL_one (HL.out.symm.trans hc2)
    have B3 := Lib.hid (below_then B2.out b3)
    clear b3 hc2
    have HM := Lib.hid (fun W : World => show Calls Tryd.prog 11 #[.int .i64 ((k : Int) / 16), .int .i64 ((k : Int) / 4 % 4), .int .i64 ((k : Int) % 4)] W (Ans (.int .i64 (k : Int)) W) from by
      have := implMake_in ((k : Int) / 16) ((k : Int) / 4 % 4) ((k : Int) % 4) W ⟨by omega, by omega, by omega, by omega, by omega, by omega⟩
      rw [show (k : Int) / 16 * 16 + (k : Int) / 4 % 4 * 4 + (k : Int) % 4 = (k : Int) by omega] at this
      exact this)
    go_wp2_with fail
    go_at_call 10
    refine (implIsId_yes _ _ (by omega) (by omega)).mono ?_
    rintro e w4 ⟨rfl, d4⟩
    have B4 := Lib.hid (below_then B3.out (drew_below d4))
    clear d4
    go_wp2_with fail
    go_at_call 12
    refine (implBusOf_in _ _ hk).mono ?_
    rintro e w5 ⟨rfl, d5⟩
    have B5 := Lib.hid (below_then B4.out (drew_below d5))
    clear d5
    go_wp2_with fail
    go_at_call 13
    refine (implDeviceOf_in _ _ hk).mono ?_
    rintro e w6 ⟨rfl, d6⟩
    have B6 := Lib.hid (below_then B5.out (drew_below d6))
    clear d6
    go_wp2_with fail
    go_at_call 14
    refine (implFunctionOf_in _ _ hk).mono ?_
    rintro e w7 ⟨rfl, d7⟩
    have B7 := Lib.hid (below_then B6.out (drew_below d7))
    clear d7
    go_wp2_with fail
    go_at_call 11
    refine (HM.out _).mono ?_
    rintro e w8 ⟨rfl, d8⟩
    have B8 := Lib.hid (below_then B7.out (drew_below d8))
    clear d8
    go_wp2
    go_ret
    exact ⟨rfl, B8.out⟩

end Go.Proofs.YteaaobklfhlgiaaDoor
