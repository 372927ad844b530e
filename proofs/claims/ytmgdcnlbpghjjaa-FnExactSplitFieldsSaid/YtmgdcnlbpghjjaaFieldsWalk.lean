/-
  The walk of FnExactSplitFields: at every string the law returns true and writes nothing that was there.
-/
import Derived.Test.YtmgdcnlbpghjjaaMarkStrings
import Derived.Test.YtmgdcnlbpghjjaaFieldsImpl
namespace Go.Proofs.Ytmgdcnlbpghjjaa
open Go Go.RowKit

/-- a row of an earlier call stays while a block behind it is written -/
theorem own_far {w w' : World} {base e size n B : Nat} {v : Value} {xs : List Value} {r : Option Nat} (h : w.ownsRow base e size v n xs) (hg : w.grownBy w' r) (hlt : ∀ g, v.ownBlock = some g → g < B) (hr : ∀ i, r = some i → B ≤ i) : w'.ownsRow base e size v n xs :=
  h.kept hg (by
    rcases hv : v.ownBlock with _ | g
    · exact .inl rfl
    · right; intro e; have h1 := hlt g hv; have h2 := hr g e.symm; omega)

set_option maxHeartbeats 2000000 in
theorem walk_exactSplit (s : ByteArray) (hs : s.size ≤ maxLen) (w : World) :
    Calls Try.prog 6 #[.string s] w fun e w' => e = .returned (.bool true) ∧ Below w.heap.size w w' := by
  have HS := Lib.hid hs
  unfold maxLen at hs
  by_cases hbig : (1048576 : Int) < (s.size : Int)
  · go_enter Try.func6, Try.ntmps6
    go_wp2
    go_ret
    exact ⟨rfl, Below.refl _ _⟩
  · go_enter Try.func6, Try.ntmps6
    go_wp2_with fail
    go_at_call 15
    refine (specSplit_any _ _ HS.out).mono ?_
    rintro e w1 ⟨v0, xs0, b0, rfl, o0, B1, r0⟩
    have hsz1 := B1.size
    have HO0 := Lib.hid o0
    have HB1 := Lib.hid B1
    have HR0 := Lib.hid r0
    have HLT0 := Lib.hid (show ∀ g, v0.ownBlock = some g → g < w1.heap.size from fun g hg => (o0.lt g hg).2)
    clear o0 B1 r0
    go_wp2_with fail
    go_at_call 16
    refine (implSplit_any _ _ HS.out).mono ?_
    rintro e w2 ⟨v1, xs1, b1, rfl, o1, B2, r1⟩
    obtain ⟨rfl, rfl⟩ : xs1 = xs0 ∧ b1 = b0 := by
      rcases HR0.out with ⟨y, rfl, rfl⟩ | ⟨y, rfl, rfl⟩ <;> rcases r1 with ⟨z, rfl, rfl⟩ | ⟨z, rfl, rfl⟩
      · exact ⟨rfl, rfl⟩
      · exact absurd y z
      · exact absurd z y
      · exact ⟨rfl, rfl⟩
    have hlen : xs1.length ≤ 24 := by
      rcases r1 with ⟨y, rfl, _⟩ | ⟨_, rfl, _⟩
      · exact y.2.2
      · exact Nat.zero_le _
    have hsz2 := B2.size
    have HO1 := Lib.hid o1
    have HB2 := Lib.hid B2
    have HP0 := Lib.hid (own_gby HO0.out (below_gby B2 none))
    clear o1 B2 r1
    go_wp2_with fail
    go_at_call 17
    refine (eqS_same _ _ _ _ _ xs1 HO1.out HP0.out (by omega)).mono ?_
    rintro e w3 ⟨rfl, G3⟩
    have HO2 := Lib.hid (own_gby HO1.out G3)
    have HP1 := Lib.hid (own_gby HP0.out G3)
    have HG3 := Lib.hid G3
    clear G3
    go_wp2_with fail
    go_at_call 18
    refine (markS_any _ _ 1 _ xs1 HO2.out (by omega) (by omega) (by omega)).mono ?_
    rintro e w4 ⟨rfl, o4, G4⟩
    have HO4 := Lib.hid o4
    have HP2 := Lib.hid (own_far HP1.out G4 HLT0.out (fun i hi => own_from HO2.out i hi))
    have HG4 := Lib.hid G4
    clear o4 G4
    go_wp2_with fail
    go_at_call 19
    refine (heldS_any _ _ 1 _ _ HO4.out (by omega) (by omega) (by omega)).mono ?_
    rintro e w5 ⟨rfl, G5⟩
    have HO5 := Lib.hid (own_gby HO4.out G5)
    have HP3 := Lib.hid (own_gby HP2.out G5)
    have HG5 := Lib.hid G5
    clear G5
    go_wp2_with fail
    go_at_call 16
    refine (implSplit_any _ _ HS.out).mono ?_
    rintro e w6 ⟨v2, xs2, b2, rfl, o6, B6, r6⟩
    obtain ⟨rfl, rfl⟩ : xs2 = xs1 ∧ b2 = b1 := by
      rcases HR0.out with ⟨y, rfl, rfl⟩ | ⟨y, rfl, rfl⟩ <;> rcases r6 with ⟨z, rfl, rfl⟩ | ⟨z, rfl, rfl⟩
      · exact ⟨rfl, rfl⟩
      · exact absurd y z
      · exact absurd z y
      · exact ⟨rfl, rfl⟩
    have HO6 := Lib.hid o6
    have HO7 := Lib.hid (own_gby HO5.out (below_gby B6 none))
    have HP4 := Lib.hid (own_gby HP3.out (below_gby B6 none))
    have HB6 := Lib.hid B6
    clear o6 B6 r6
    go_wp2_with fail
    go_at_call 17
    refine (eqS_same _ _ _ _ _ xs2 HO6.out HP4.out (by omega)).mono ?_
    rintro e w7 ⟨rfl, G7⟩
    have HO8 := Lib.hid (own_gby HO7.out G7)
    have HG7 := Lib.hid G7
    clear G7
    go_wp2_with fail
    go_at_call 19
    refine (heldS_any _ _ 1 _ _ HO8.out (by omega) (by omega) (by omega)).mono ?_
    rintro e w8 ⟨rfl, G8⟩
    have HG8 := Lib.hid G8
    clear G8
    go_wp2
    go_ret
    refine ⟨rfl, ?_⟩
    have k2 := HB1.out.trans (HB2.out.mono hsz1)
    have k3 := gby_trans (below_gby k2 none) HG3.out
    have k4 : w.grownBy w4 none := gby_new k3 HG4.out (fun i hi => Nat.le_trans hsz1 (own_from HO2.out i hi))
    have k5 := gby_trans k4 HG5.out
    have k6 := gby_trans k5 (below_gby HB6.out none)
    exact gby_below (gby_trans (gby_trans k6 HG7.out) HG8.out)

end Go.Proofs.Ytmgdcnlbpghjjaa
