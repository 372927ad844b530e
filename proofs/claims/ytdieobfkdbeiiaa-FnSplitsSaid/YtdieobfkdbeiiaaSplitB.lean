/-
  Ranges split into pieces, at every argument.
-/
import Derived.Test.YtdieobfkdbeiiaaSplit
namespace Go.Proofs.Ytdieobfkdbeiiaa
open Go Go.RowKit
set_option linter.unusedVariables false

set_option maxHeartbeats 1000000 in
theorem implSplit_no (a l p : Int) (W : World) (h : ¬ CanSplit a l p) : Calls Try.prog 38 #[.int .i64 a, .int .i64 l, .int .i64 p] W (ResISplitRange [] W) := by
  by_cases hp : IsPay p
  · have HP := Lib.hid hp
    by_cases hl : 1 ≤ l ∧ l ≤ 64
    · have ha : ¬ (0 ≤ a ∧ a ≤ 65536 - l) := fun q => h ⟨hp, hl, q⟩
      clear h hp
      go_enter Try.func38, Try.ntmps38
      go_wp2_with fail
      go_at_call 84
      refine (implPay_yes _ _ HP.out).mono ?_
      rintro e w1 ⟨rfl, hd⟩
      have HD := Lib.hid (hd.gby none)
      clear hd
      go_wp2_with fail
      go_at_call 66
      refine (rng_yes _ _ _ _ (by omega) (by omega)).mono ?_
      rintro e w2 ⟨rfl, rfl⟩
      go_wp2_with fail
      go_at_call 66
      refine (rng_no _ _ _ _ (by omega)).mono ?_
      rintro e w3 ⟨rfl, rfl⟩
      go_wp2
      go_ret
      exact ⟨_, rfl, OwU.one owL_nil, HD.out⟩
    · clear h hp
      go_enter Try.func38, Try.ntmps38
      go_wp2_with fail
      go_at_call 84
      refine (implPay_yes _ _ HP.out).mono ?_
      rintro e w1 ⟨rfl, hd⟩
      have HD := Lib.hid (hd.gby none)
      clear hd
      go_wp2_with fail
      go_at_call 66
      refine (rng_no _ _ _ _ (by omega)).mono ?_
      rintro e w2 ⟨rfl, rfl⟩
      go_wp2
      go_ret
      exact ⟨_, rfl, OwU.one owL_nil, HD.out⟩
  · have HP := Lib.hid hp
    clear h hp
    go_enter Try.func38, Try.ntmps38
    go_wp2_with fail
    go_at_call 84
    refine (implPay_no _ _ HP.out).mono ?_
    rintro e w1 ⟨rfl, hd⟩
    have HD := Lib.hid (hd.gby none)
    clear hd
    go_wp2
    go_ret
    exact ⟨_, rfl, OwU.one owL_nil, HD.out⟩

end Go.Proofs.Ytdieobfkdbeiiaa
