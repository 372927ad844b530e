/-
  IsBelow on both sides.
-/
import Derived.Test.YtgagbhkidponnaaShpI
import Derived.Test.YtgagbhkidponnaaDNode
import Derived.Test.YtgagbhkidponnaaPathB
import Derived.Test.YtgagbhkidponnaaHasI
namespace Go.Proofs.Ytgagbhkidponnaa
open Go Go.RowKit

def ResSIsBelow (br0 : Bool) (W : World) (e : Ending) (w' : World) : Prop := e = .returned (.bool br0) ∧ W.grownBy w' none
def ResIIsBelow (br0 : Bool) (W : World) (e : Ending) (w' : World) : Prop := e = .returned (.bool br0) ∧ W.grownBy w' none

end Go.Proofs.Ytgagbhkidponnaa

namespace Go.Proofs.Ytgagbhkidponnaa
open Go Go.RowKit
set_option linter.unusedVariables false

/-- node k is below top, or is top -/
def BelowP (xs : List DNode) (k top : Int) : Prop := ∃ ys, PthIs xs k ys ∧ top ∈ ys
theorem belowP_iff {xs : List DNode} {k top : Int} {ys : List Int} (h : PthIs xs k ys) : top ∈ ys ↔ BelowP xs k top := by
  constructor
  · exact fun q => ⟨ys, h, q⟩
  · rintro ⟨zs, hz, q⟩
    rcases h with ⟨n, rfl, h1, h2, rfl⟩ | ⟨h, rfl⟩
    · rcases hz with ⟨m, e, _, _, rfl⟩ | ⟨h3, _⟩
      · obtain rfl : n = m := by omega
        exact q
      · exact absurd ⟨h1, by omega, by omega⟩ h3
    · rcases hz with ⟨m, rfl, h1, h2, rfl⟩ | ⟨_, rfl⟩
      · exact absurd ⟨h1, by omega, by omega⟩ h
      · exact q
theorem belowP_at {xs : List DNode} (h : TOk xs) {k : Nat} (hk : k < xs.length) {top : Int} : BelowP xs (k : Int) top ↔ top ∈ pth xs k := (belowP_iff (.inl ⟨k, rfl, h, hk, rfl⟩)).symm

set_option maxHeartbeats 1000000 in
theorem specBelow (W : World) (v : Value) (xs : List DNode) (k t : Int) (H : RdL shNode W v xs) (hl : szL shNode xs ≤ 1048576) : Calls Try.prog 76 #[v, .int .i64 k, .int .i64 t] W (BPost (BelowP xs k t) W) := by
  obtain ⟨ys, hy⟩ := pthIs_ex xs k
  have HY := Lib.hid hy
  clear hy
  have HT := Lib.hid H
  have HL := Lib.hid hl
  obtain ⟨a0, n0, c0, rfl⟩ := RdL.form H
  have hn0 : n0 = xs.length := by obtain ⟨_, _, e, _⟩ := H; injection e
  have HE := Lib.hid hn0
  have hlx : n0 ≤ 1048576 := by have := szL_len shNode xs; omega
  clear H hn0 hl
  go_enter Try.func76, Try.ntmps76
  go_wp2_with fail
  go_at_call 97
  refine (specPath_any _ _ xs k (HT.out.grow (gby_refl _ _)) HL.out ys HY.out).mono ?_
  rintro e w1 ⟨vr, rfl, o, g⟩
  have G1_ := Lib.hid (show (W).grownBy (w1) none from gby_trans (gby_refl _ _) g)
  clear g
  obtain ⟨p1, n1, c1, hv_⟩ := RdL.form (OwU.rd o)
  subst hv_
  have HRD := Lib.hid (OwU.rd o)
  clear o
  go_wp2_with fail
  go_at_call 96
  refine (has19_any _ _ ys t HRD.out (by have := pthIs_len HY.out; omega)).mono ?_
  rintro e w2 ⟨r, rfl, hr, g⟩
  have G2_ := Lib.hid (show (W).grownBy (w2) none from gby_trans G1_.out g)
  clear g
  have HR := Lib.hid hr
  clear hr
  go_wp2
  go_ret
  exact ⟨r, rfl, HR.out.trans (belowP_iff HY.out), G2_.out⟩
theorem specBelow_yes (W : World) (v : Value) (xs : List DNode) (k t : Int) (H : RdL shNode W v xs) (hl : szL shNode xs ≤ 1048576) (h : BelowP xs k t) : Calls Try.prog 76 #[v, .int .i64 k, .int .i64 t] W (AnsN (.bool true) W) := (specBelow W v xs k t H hl).mono (bpost_yes h)
theorem specBelow_no (W : World) (v : Value) (xs : List DNode) (k t : Int) (H : RdL shNode W v xs) (hl : szL shNode xs ≤ 1048576) (h : ¬ BelowP xs k t) : Calls Try.prog 76 #[v, .int .i64 k, .int .i64 t] W (AnsN (.bool false) W) := (specBelow W v xs k t H hl).mono (bpost_no h)

set_option maxHeartbeats 1000000 in
theorem implBelow (W : World) (v : Value) (xs : List DNode) (k t : Int) (H : RdL shNode W v xs) (hl : szL shNode xs ≤ 1048576) : Calls Try.prog 24 #[v, .int .i64 k, .int .i64 t] W (BPost (BelowP xs k t) W) := by
  obtain ⟨ys, hy⟩ := pthIs_ex xs k
  have HY := Lib.hid hy
  clear hy
  have HT := Lib.hid H
  have HL := Lib.hid hl
  obtain ⟨a0, n0, c0, rfl⟩ := RdL.form H
  have hn0 : n0 = xs.length := by obtain ⟨_, _, e, _⟩ := H; injection e
  have HE := Lib.hid hn0
  have hlx : n0 ≤ 1048576 := by have := szL_len shNode xs; omega
  clear H hn0 hl
  go_enter Try.func24, Try.ntmps24
  go_wp2_with fail
  go_at_call 28
  refine (implPath_any _ _ xs k (HT.out.grow (gby_refl _ _)) HL.out ys HY.out).mono ?_
  rintro e w1 ⟨vr, rfl, o, g⟩
  have G1_ := Lib.hid (show (W).grownBy (w1) none from gby_trans (gby_refl _ _) g)
  clear g
  obtain ⟨p1, n1, c1, hv_⟩ := RdL.form (OwU.rd o)
  subst hv_
  have HRD := Lib.hid (OwU.rd o)
  clear o
  go_wp2_with fail
  go_at_call 60
  refine (contains_any _ _ ys t HRD.out (by have := pthIs_len HY.out; omega)).mono ?_
  rintro e w2 ⟨r, rfl, hr, g⟩
  have G2_ := Lib.hid (show (W).grownBy (w2) none from gby_trans G1_.out g)
  clear g
  have HR := Lib.hid hr
  clear hr
  go_wp2
  go_ret
  exact ⟨r, rfl, HR.out.trans (belowP_iff HY.out), G2_.out⟩
theorem implBelow_yes (W : World) (v : Value) (xs : List DNode) (k t : Int) (H : RdL shNode W v xs) (hl : szL shNode xs ≤ 1048576) (h : BelowP xs k t) : Calls Try.prog 24 #[v, .int .i64 k, .int .i64 t] W (AnsN (.bool true) W) := (implBelow W v xs k t H hl).mono (bpost_yes h)
theorem implBelow_no (W : World) (v : Value) (xs : List DNode) (k t : Int) (H : RdL shNode W v xs) (hl : szL shNode xs ≤ 1048576) (h : ¬ BelowP xs k t) : Calls Try.prog 24 #[v, .int .i64 k, .int .i64 t] W (AnsN (.bool false) W) := (implBelow W v xs k t H hl).mono (bpost_no h)

theorem isBelow_both (xs0 : List DNode) (i1 i2 : Int) (h0 : szL shNode xs0 ≤ 1048576) : ∃ (br0 : Bool), (∀ (W : World), ∀ u0, RdL shNode W u0 xs0 → Calls Try.prog 76 #[u0, .int .i64 i1, .int .i64 i2] W (ResSIsBelow br0 W)) ∧ ∀ (W : World), ∀ u0, RdL shNode W u0 xs0 → Calls Try.prog 24 #[u0, .int .i64 i1, .int .i64 i2] W (ResIIsBelow br0 W) := by
  by_cases h : BelowP xs0 i1 i2
  · exact ⟨true, fun W u H => specBelow_yes W u xs0 i1 i2 H h0 h, fun W u H => implBelow_yes W u xs0 i1 i2 H h0 h⟩
  · exact ⟨false, fun W u H => specBelow_no W u xs0 i1 i2 H h0 h, fun W u H => implBelow_no W u xs0 i1 i2 H h0 h⟩

end Go.Proofs.Ytgagbhkidponnaa
