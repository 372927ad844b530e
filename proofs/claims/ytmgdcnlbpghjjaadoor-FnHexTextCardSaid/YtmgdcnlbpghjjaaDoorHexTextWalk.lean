/-
  The walk of FnHexText: at every slice of bytes the law returns true and writes nothing that was there.
-/
import Derived.Test.YtmgdcnlbpghjjaaDoorDrawText
import Derived.Test.YtmgdcnlbpghjjaaDoorBig
import Derived.Test.YtmgdcnlbpghjjaaDoorHexBack
import Derived.Test.YtmgdcnlbpghjjaaDoorHexImpl
import Derived.Test.YtmgdcnlbpghjjaaDoorUnhexImpl
import Derived.Test.YtmgdcnlbpghjjaaDoorFmtImpl
import Derived.Test.YtmgdcnlbpghjjaaDoorFmtWalk
namespace Go.Proofs.YtmgdcnlbpghjjaaDoor
open Go Go.RowKit

/-- a drawn text that is at most one byte too long -/
def DrawnHex (w : World) (e : Ending) (w' : World) : Prop := ∃ s : ByteArray, s.size ≤ 20001 ∧ e = .returned (.string s) ∧ Below w.heap.size w w'

set_option maxHeartbeats 400000 in
theorem drawEncodeHex_any (w : World) (a : Option Addr) (len cap : Nat) (zs : List Int) (hB : Bytes w a len zs) (hl : len ≤ 1048576) :
    Calls Tryd.prog 8 #[.slice a len cap] w (DrawnHex w) := by
  have HB := Lib.hid hB
  clear hB
  go_enter Tryd.func8, Tryd.ntmps8
  go_wp2_with fail
  go_at_call 19
  refine (new_any _ _ _ _ _ HB.out hl).mono ?_
  rintro e w1 ⟨c, rfl, hc, H1, G1⟩
  have HG1 := Lib.hid G1
  clear G1
  go_wp2_with fail
  go_at_call 20
  refine (once_any _ _ _ H1 (by omega) (by omega)).mono ?_
  rintro e w2 ⟨t, rfl, H2, G2⟩
  have HG2 := Lib.hid (gby_own HG1.out G2 hc)
  clear G2
  cases t
  · go_wp2_with fail
    go_at_call 22
    refine (below_any _ _ _ H2 (by omega) (by omega)).mono ?_
    rintro e w3 ⟨x, ⟨hx0, hx1⟩, rfl, H3, G3⟩
    have HG3 := Lib.hid (gby_own HG2.out G3 hc)
    clear G3
    obtain ⟨n, rfl⟩ := Int.eq_ofNat_of_zero_le hx0
    go_wp2_with fail
    go_at_call 23
    refine (text_any _ _ n H3 (by omega)).mono ?_
    rintro e w4 ⟨s, hs, rfl, H4, G4⟩
    have HG4 := Lib.hid (gby_own HG3.out G4 hc)
    clear G4
    go_wp2
    go_ret
    exact ⟨s, by omega, rfl, gby_below HG4.out⟩
  · go_wp2_with fail
    go_at_call 22
    refine (below_any _ _ _ H2 (by omega) (by omega)).mono ?_
    rintro e w3 ⟨x, ⟨hx0, hx1⟩, rfl, H3, G3⟩
    have HG3 := Lib.hid (gby_own HG2.out G3 hc)
    clear G3
    obtain ⟨n, rfl⟩ := Int.eq_ofNat_of_zero_le hx0
    go_wp2_with fail
    go_at_call 21
    refine (long_any _ (20000 + n) 200 (by omega)).mono ?_
    rintro e w4 ⟨⟨s, rfl, hs⟩, G4⟩
    have HG4 := Lib.hid (gby_trans HG3.out G4)
    clear G4
    go_wp2
    go_ret
    exact ⟨s, by omega, rfl, gby_below HG4.out⟩

set_option maxHeartbeats 400000 in
theorem walk_hexText (a : Option Addr) (len cap : Nat) (zs : List Int) (w : World) (hB : Bytes w a len zs) (htab : Go.Lib.TabIs Tryd.prog w "internal/strconv.uint64pow10" .u64 Go.Lib.pow10Tab) :
    Calls Tryd.prog 3 #[.slice a len cap] w fun e w' => e = .returned (.bool true) ∧ Below w.heap.size w w' := by
  have HB := Lib.hid hB
  have HT := Lib.hid htab
  clear hB htab
  by_cases hbig : (1048576 : Int) < (len : Int)
  · go_enter Tryd.func3, Tryd.ntmps3
    go_wp2
    go_ret
    exact ⟨rfl, Below.refl _ _⟩
  · go_enter Tryd.func3, Tryd.ntmps3
    go_wp2_with fail
    go_at_call 7
    refine (big_any _ _ _ _).mono ?_
    rintro e w1 ⟨rfl, rfl⟩
    go_wp2_with fail
    go_at_call 8
    refine (drawEncodeHex_any _ _ _ _ _ HB.out (by omega)).mono ?_
    rintro e w1 ⟨s, hs, rfl, B1⟩
    have HB1 := Lib.hid B1
    clear B1
    by_cases hlong : 20000 < s.size
    · have hlongi : (20000 : Int) < (s.size : Int) := by omega
      go_wp2_with fail
      go_at_call 9
      refine (implEncode_no _ _ hlong (by unfold maxLen; omega)).mono ?_
      rintro e w2 ⟨rfl, B2⟩
      have HB2 := Lib.hid (below_then HB1.out B2)
      clear B2
      go_wp2_with fail
      go_at_call 10
      refine (implFormat_any _ _ (by omega) (by omega) (tab_below HB2.out HT.out)).mono ?_
      rintro e w3 ⟨rfl, B3⟩
      have HB3 := Lib.hid (below_then HB2.out B3)
      clear B3
      have e10 : Go.Lib.itoa 10 = [49, 48] := by decide +kernel
      rw [e10]
      go_wp2
      go_ret
      exact ⟨rfl, HB3.out⟩
    · go_wp2_with fail
      go_at_call 9
      refine (implEncode_yes _ _ (by omega)).mono ?_
      rintro e w2 ⟨rfl, B2⟩
      have HB2 := Lib.hid (below_then HB1.out B2)
      clear B2
      have hsize := hexI_size s
      have hback := hex_back s
      generalize strOfNums (hexI s.data.toList) = h at hsize hback ⊢
      have HK := Lib.hid hback
      have HZ := Lib.hid hsize
      clear hback hsize
      go_wp2_with fail
      go_at_call 11
      refine (implDecode_even _ _ (by have := HZ.out; omega) (by have := HZ.out; omega)).mono ?_
      rintro e w3 ⟨⟨_, rfl⟩ | ⟨hn, _⟩, B3⟩
      · have HB3 := Lib.hid (below_then HB2.out B3)
        clear B3
        rw [HK.out.2]
        have hz : (h.size : Int) = 2 * (s.size : Int) := by have := HZ.out; omega
        go_wp2
        go_ret
        exact ⟨rfl, HB3.out⟩
      · exact absurd HK.out.1 hn

end Go.Proofs.YtmgdcnlbpghjjaaDoor
