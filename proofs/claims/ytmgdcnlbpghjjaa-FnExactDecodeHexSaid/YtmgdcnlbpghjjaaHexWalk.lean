/-
  The walk of FnExactEncodeHex: at every string the law returns true and writes nothing that was there.
-/
import Derived.Test.YtmgdcnlbpghjjaaHex
namespace Go.Proofs.Ytmgdcnlbpghjjaa
open Go Go.RowKit

/-- from a later world on nothing below is touched either -/
theorem below_two {w a b : World} (h : Below w.heap.size w a) (k : Below a.heap.size a b) : Below w.heap.size w b := h.trans (k.mono h.size)

set_option maxHeartbeats 400000 in
theorem walk_exactEncode (s : ByteArray) (hs : s.size ≤ maxLen) (w : World) :
    Calls Try.prog 4 #[.string s] w fun e w' => e = .returned (.bool true) ∧ Below w.heap.size w w' := by
  have HS := Lib.hid hs
  unfold maxLen at hs
  by_cases hbig : (1048576 : Int) < (s.size : Int)
  · go_enter Try.func4, Try.ntmps4
    go_wp2
    go_ret
    exact ⟨rfl, Below.refl _ _⟩
  · by_cases h2 : s.size ≤ 20000
    · go_enter Try.func4, Try.ntmps4
      go_wp2_with fail
      go_at_call 11
      refine (specEncode_yes _ _ h2).mono ?_
      rintro e w1 ⟨rfl, B1⟩
      have HB1 := Lib.hid B1
      clear B1
      go_wp2_with fail
      go_at_call 12
      refine (implEncode_yes _ _ h2).mono ?_
      rintro e w2 ⟨rfl, B2⟩
      have HB2 := Lib.hid B2
      clear B2
      go_wp2
      go_ret
      exact ⟨rfl, below_two HB1.out HB2.out⟩
    · go_enter Try.func4, Try.ntmps4
      go_wp2_with fail
      go_at_call 11
      refine (specEncode_no _ _ (by omega) HS.out).mono ?_
      rintro e w1 ⟨rfl, B1⟩
      have HB1 := Lib.hid B1
      clear B1
      go_wp2_with fail
      go_at_call 12
      refine (implEncode_no _ _ (by omega) HS.out).mono ?_
      rintro e w2 ⟨rfl, B2⟩
      have HB2 := Lib.hid B2
      clear B2
      go_wp2
      go_ret
      exact ⟨rfl, below_two HB1.out HB2.out⟩

end Go.Proofs.Ytmgdcnlbpghjjaa
