/-
  The walk of FnExactDecodeHex: at every string the law returns true and writes nothing that was there.
-/
import Derived.Test.YtmgdcnlbpghjjaaUnhex
import Derived.Test.YtmgdcnlbpghjjaaHexWalk
namespace Go.Proofs.Ytmgdcnlbpghjjaa
open Go Go.RowKit

/-- both decoders at one string: the same two results -/
def Alike2 (s : ByteArray) : Prop := ∀ w : World, ∃ (t : ByteArray) (b : Bool),
  Calls Try.prog 13 #[.string s] w (TextOk t b w) ∧ ∀ w1 : World, Calls Try.prog 14 #[.string s] w1 (TextOk t b w1)

theorem alike2 (s : ByteArray) (hs : s.size ≤ maxLen) : Alike2 s := by
  intro w
  by_cases ho : s.size % 2 = 1
  · refine ⟨ByteArray.empty, false, ?_, fun w1 => implDecode_odd s w1 hs ho⟩
    by_cases hl : s.size ≤ 40000
    · exact specDecode_odd s w hl ho
    · exact specDecode_long s w (by omega) hs
  · by_cases hl : s.size ≤ 40000
    · by_cases hg : goodTo s (s.size / 2)
      · refine ⟨strOfNums (pairs s (s.size / 2)), true, (specDecode_even s w hl (by omega)).mono ?_, fun w1 => (implDecode_even s w1 hl (by omega)).mono ?_⟩
        · rintro e w' ⟨⟨_, he⟩ | ⟨hn, _⟩, hb⟩
          · exact ⟨he, hb⟩
          · exact absurd hg hn
        · rintro e w' ⟨⟨_, he⟩ | ⟨hn, _⟩, hb⟩
          · exact ⟨he, hb⟩
          · exact absurd hg hn
      · refine ⟨ByteArray.empty, false, (specDecode_even s w hl (by omega)).mono ?_, fun w1 => (implDecode_even s w1 hl (by omega)).mono ?_⟩
        · rintro e w' ⟨⟨hn, _⟩ | ⟨_, he⟩, hb⟩
          · exact absurd hn hg
          · exact ⟨he, hb⟩
        · rintro e w' ⟨⟨hn, _⟩ | ⟨_, he⟩, hb⟩
          · exact absurd hn hg
          · exact ⟨he, hb⟩
    · exact ⟨ByteArray.empty, false, specDecode_long s w (by omega) hs, fun w1 => implDecode_long s w1 (by omega) hs (by omega)⟩

set_option maxHeartbeats 400000 in
theorem walk_exactDecode (s : ByteArray) (hs : s.size ≤ maxLen) (w : World) :
    Calls Try.prog 5 #[.string s] w fun e w' => e = .returned (.bool true) ∧ Below w.heap.size w w' := by
  have HS := Lib.hid (alike2 s hs)
  unfold maxLen at hs
  by_cases hbig : (1048576 : Int) < (s.size : Int)
  · go_enter Try.func5, Try.ntmps5
    go_wp2
    go_ret
    exact ⟨rfl, Below.refl _ _⟩
  · obtain ⟨t, b, h1, h2⟩ := HS.out w
    have H1 := Lib.hid h1
    have H2 := Lib.hid h2
    clear h1 h2
    go_enter Try.func5, Try.ntmps5
    go_wp2_with fail
    go_at_call 13
    refine H1.out.mono ?_
    rintro e w1 ⟨rfl, B1⟩
    have HB1 := Lib.hid B1
    clear B1
    go_wp2_with fail
    go_at_call 14
    refine (H2.out _).mono ?_
    rintro e w2 ⟨rfl, B2⟩
    have HB2 := Lib.hid B2
    clear B2
    go_wp2
    go_ret
    exact ⟨rfl, below_two HB1.out HB2.out⟩

end Go.Proofs.Ytmgdcnlbpghjjaa
