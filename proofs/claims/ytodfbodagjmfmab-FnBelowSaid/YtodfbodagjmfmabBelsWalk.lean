/-
  The walk of FnBelow.
-/
import Derived.Test.YtodfbodagjmfmabBPost0
import Derived.Test.YtodfbodagjmfmabShelfRev
import Derived.Test.YtodfbodagjmfmabPlainRow
import Derived.Test.YtodfbodagjmfmabPathB
import Derived.Test.YtodfbodagjmfmabRIsBelow
import Derived.Test.YtodfbodagjmfmabKidsS
import Derived.Test.YtodfbodagjmfmabKidsI
import Derived.Test.YtodfbodagjmfmabProg
import Derived.Test.YtodfbodagjmfmabPlain
import Derived.Test.YtodfbodagjmfmabDrawTree
import Derived.Test.YtodfbodagjmfmabTreeB
import Derived.Deep.QuietTactic
import Derived.Deep.RegionHeld3
namespace Go.Proofs.Ytodfbodagjmfmab
open Go Go.RowKit
set_option linter.unusedVariables false

theorem iff_no' {p : Prop} (h : ¬ p) : false = true ↔ p := ⟨fun q => (by cases q), fun q => absurd q h⟩
theorem iff_yes' {p : Prop} (h : p) : true = true ↔ p := ⟨fun _ => h, fun _ => rfl⟩
theorem mem_at {ys : List Int} {x : Int} : x ∈ ys ↔ ∃ k, k < ys.length ∧ ys.getD k 0 = x := by
  rw [List.mem_iff_getElem?]
  constructor
  · rintro ⟨k, hk⟩
    obtain ⟨h1, h2⟩ := List.getElem?_eq_some_iff.1 hk
    exact ⟨k, h1, by rw [List.getD_eq_getElem?_getD, hk]; rfl⟩
  · rintro ⟨k, h1, h2⟩
    exact ⟨k, by rw [List.getElem?_eq_getElem h1]; rw [List.getD_eq_getElem?_getD, List.getElem?_eq_getElem h1] at h2; exact congrArg some h2⟩

set_option maxRecDepth 8000 in
set_option maxHeartbeats 2000000 in
theorem has19_any (W : World) (v : Value) (ys : List Int) (x : Int) (H : RdL shI W v ys) (hl : ys.length ≤ 1048576) : Calls Try.prog 56 #[v, .int .i64 x] W (BPost (x ∈ ys) W) := by
  obtain ⟨a0, cap, rfl, hcap, hi⟩ := rdI1_in H
  have HA := Lib.hid hi
  obtain ⟨len, hlen⟩ : ∃ len, len = ys.length := ⟨_, rfl⟩
  have HE := Lib.hid hlen
  unfold RdN1 at HA
  rw [← hlen] at hl HA ⊢
  clear H hi hlen hcap
  go_enter Try.func56, Try.ntmps56
  go_wp2
  go_loopw [5] (fun i wr => ∃ n : Nat, n ≤ len ∧ i = .int .i64 (n : Int) ∧ (∀ j, j < n → ¬ ys.getD j 0 = x) ∧ (W).grownBy wr none) (fun i _ => len - (intOf i).toNat)
  case atStart => exact ⟨0, by omega, rfl, fun j hj => absurd hj (Nat.not_lt_zero _), gby_refl _ _⟩
  case round =>
    obtain ⟨n, hn, rfl, hj, hg⟩ := hrel
    have szrwr := hg.size
    try simp only [World.size_alloc] at szrwr
    try simp only [World.size_setCell] at szrwr
    have szr_ := szrwr
    have G1_ := Lib.hid (show (W).grownBy (wr) none from gby_trans (gby_refl _ _) hg)
    have HTB_ := Lib.hid hg
    clear hg
    have HJ := Lib.hid hj
    clear hj
    have hn0 : (0 : Int) ≤ (n : Int) := by omega
    have htn : ((n : Int)).toNat = n := by omega
    by_cases hlt : n < len
    · have hki : (n : Int) < (len : Int) := by omega
      obtain ⟨b, off, rfl, hcell⟩ := HA.out.resolve_left (by omega)
      obtain ⟨y, hy⟩ : ∃ y, y = ys.getD n 0 := ⟨_, rfl⟩
      have HY := Lib.hid hy
      have hyc := hcell n hlt
      rw [← hy] at hyc
      clear hy hcell
      have y_ := (G1_.out).cell hyc (by simp)
      clear hyc
      by_cases he : y = x
      · have hb : (y == x) = true := by simpa using he
        have HE1 := Lib.hid he
        clear he
        go_wp2
        go_ret
        exact ⟨true, rfl, iff_yes' (mem_at.2 ⟨n, by rw [← HE.out]; exact hlt, by rw [← HY.out]; exact HE1.out⟩), G1_.out⟩
      · have hb : (y == x) = false := by simpa using he
        have HE1 := Lib.hid he
        clear he
        go_wp2
        refine ⟨⟨n + 1, by omega, by go_num, fun j hj => ?_, HTB_.out⟩, by simp [intOf]; omega⟩
        by_cases e : j = n
        · subst e; rw [← HY.out]; exact HE1.out
        · exact HJ.out j (by omega)
    · obtain rfl : n = len := by omega
      have hki : ¬ (n : Int) < (n : Int) := by omega
      go_wp2
      go_ret
      exact ⟨false, rfl, iff_no' (fun q => by obtain ⟨k, h1, h2⟩ := mem_at.1 q; exact HJ.out k (by rw [HE.out]; exact h1) h2), G1_.out⟩

set_option maxRecDepth 8000 in
set_option maxHeartbeats 2000000 in
theorem hasL_any (W : World) (v : Value) (ys : List Int) (x : Int) (H : RdL shI W v ys) (hl : ys.length ≤ 1048576) : Calls Try.prog 34 #[v, .int .i64 x] W (BPost (x ∈ ys) W) := by
  obtain ⟨a0, cap, rfl, hcap, hi⟩ := rdI1_in H
  have HA := Lib.hid hi
  obtain ⟨len, hlen⟩ : ∃ len, len = ys.length := ⟨_, rfl⟩
  have HE := Lib.hid hlen
  unfold RdN1 at HA
  rw [← hlen] at hl HA ⊢
  clear H hi hlen hcap
  go_enter Try.func34, Try.ntmps34
  go_wp2
  go_loopw [5] (fun i wr => ∃ n : Nat, n ≤ len ∧ i = .int .i64 (n : Int) ∧ (∀ j, j < n → ¬ ys.getD j 0 = x) ∧ (W).grownBy wr none) (fun i _ => len - (intOf i).toNat)
  case atStart => exact ⟨0, by omega, rfl, fun j hj => absurd hj (Nat.not_lt_zero _), gby_refl _ _⟩
  case round =>
    obtain ⟨n, hn, rfl, hj, hg⟩ := hrel
    have szrwr := hg.size
    try simp only [World.size_alloc] at szrwr
    try simp only [World.size_setCell] at szrwr
    have szr_ := szrwr
    have G1_ := Lib.hid (show (W).grownBy (wr) none from gby_trans (gby_refl _ _) hg)
    have HTB_ := Lib.hid hg
    clear hg
    have HJ := Lib.hid hj
    clear hj
    have hn0 : (0 : Int) ≤ (n : Int) := by omega
    have htn : ((n : Int)).toNat = n := by omega
    by_cases hlt : n < len
    · have hki : (n : Int) < (len : Int) := by omega
      obtain ⟨b, off, rfl, hcell⟩ := HA.out.resolve_left (by omega)
      obtain ⟨y, hy⟩ : ∃ y, y = ys.getD n 0 := ⟨_, rfl⟩
      have HY := Lib.hid hy
      have hyc := hcell n hlt
      rw [← hy] at hyc
      clear hy hcell
      have y_ := (G1_.out).cell hyc (by simp)
      clear hyc
      by_cases he : y = x
      · have hb : (y == x) = true := by simpa using he
        have HE1 := Lib.hid he
        clear he
        go_wp2
        go_ret
        exact ⟨true, rfl, iff_yes' (mem_at.2 ⟨n, by rw [← HE.out]; exact hlt, by rw [← HY.out]; exact HE1.out⟩), G1_.out⟩
      · have hb : (y == x) = false := by simpa using he
        have HE1 := Lib.hid he
        clear he
        go_wp2
        refine ⟨⟨n + 1, by omega, by go_num, fun j hj => ?_, HTB_.out⟩, by simp [intOf]; omega⟩
        by_cases e : j = n
        · subst e; rw [← HY.out]; exact HE1.out
        · exact HJ.out j (by omega)
    · obtain rfl : n = len := by omega
      have hki : ¬ (n : Int) < (n : Int) := by omega
      go_wp2
      go_ret
      exact ⟨false, rfl, iff_no' (fun q => by obtain ⟨k, h1, h2⟩ := mem_at.1 q; exact HJ.out k (by rw [HE.out]; exact h1) h2), G1_.out⟩

theorem contains_any (W : World) (v : Value) (ys : List Int) (x : Int) (H : RdL shI W v ys) (hl : ys.length ≤ 1048576) : Calls Try.prog 57 #[v, .int .i64 x] W (BPost (x ∈ ys) W) := by
  obtain ⟨a0, cap, rfl, hcap, hi⟩ := rdI1_in H
  rcases hi with h0 | ⟨b, off, rfl, hc⟩
  · obtain rfl : ys = [] := List.eq_nil_of_length_eq_zero h0
    exact (Try.slices_Contains_int_empty a0 cap x W).mono (by rintro e w' ⟨rfl, rfl⟩; exact ⟨false, rfl, iff_no' (by simp), gby_refl _ _⟩)
  · exact (Try.slices_Contains_int b off ys.length cap ys x W (Nat.le_refl _) (by omega) hc).mono (by rintro e w' ⟨rfl, rfl⟩; exact ⟨_, rfl, by simp, gby_refl _ _⟩)

end Go.Proofs.Ytodfbodagjmfmab

namespace Go.Proofs.Ytodfbodagjmfmab
open Go Go.RowKit
set_option linter.unusedVariables false

/-- node k is below top, or is top -/
def BelowP (xs : List DNode) (k top : Int) : Prop := ∃ ys, PthIs xs k ys ∧ top ∈ ys
theorem belowP_iff {xs : List DNode} {k top : Int} {ys : List Int} (h : PthIs xs k ys) : top ∈ ys ↔ BelowP xs k top := by
  constructor
  · exact fun q => ⟨ys, h, q⟩
  · rintro ⟨zs, hz, q⟩
    rcases h with ⟨n, rfl, h1, h2, rfl⟩ | ⟨h, rfl⟩
    · rcases hz with ⟨m, e, _, _, rfl⟩ | ⟨h3, _⟩
      · obtain rfl : n = m := by omega
        exact q
      · exact absurd ⟨h1, by omega, by omega⟩ h3
    · rcases hz with ⟨m, rfl, h1, h2, rfl⟩ | ⟨_, rfl⟩
      · exact absurd ⟨h1, by omega, by omega⟩ h
      · exact q
theorem belowP_at {xs : List DNode} (h : TOk xs) {k : Nat} (hk : k < xs.length) {top : Int} : BelowP xs (k : Int) top ↔ top ∈ pth xs k := (belowP_iff (.inl ⟨k, rfl, h, hk, rfl⟩)).symm

set_option maxHeartbeats 1000000 in
theorem specBelow (W : World) (v : Value) (xs : List DNode) (k t : Int) (H : RdL shNode W v xs) (hl : szL shNode xs ≤ 1048576) : Calls Try.prog 26 #[v, .int .i64 k, .int .i64 t] W (BPost (BelowP xs k t) W) := by
  obtain ⟨ys, hy⟩ := pthIs_ex xs k
  have HY := Lib.hid hy
  clear hy
  have HT := Lib.hid H
  have HL := Lib.hid hl
  obtain ⟨a0, n0, c0, rfl⟩ := RdL.form H
  have hn0 : n0 = xs.length := by obtain ⟨_, _, e, _⟩ := H; injection e
  have HE := Lib.hid hn0
  have hlx : n0 ≤ 1048576 := by have := szL_len shNode xs; omega
  clear H hn0 hl
  go_enter Try.func26, Try.ntmps26
  go_wp2_with fail
  go_at_call 24
  refine (specPath_any _ _ xs k (HT.out.grow (gby_refl _ _)) HL.out ys HY.out).mono ?_
  rintro e w1 ⟨vr, rfl, o, g⟩
  have G1_ := Lib.hid (show (W).grownBy (w1) none from gby_trans (gby_refl _ _) g)
  clear g
  obtain ⟨p1, n1, c1, hv_⟩ := RdL.form (OwU.rd o)
  subst hv_
  have HRD := Lib.hid (OwU.rd o)
  clear o
  go_wp2_with fail
  go_at_call 56
  refine (has19_any _ _ ys t HRD.out (by have := pthIs_len HY.out; omega)).mono ?_
  rintro e w2 ⟨r, rfl, hr, g⟩
  have G2_ := Lib.hid (show (W).grownBy (w2) none from gby_trans G1_.out g)
  clear g
  have HR := Lib.hid hr
  clear hr
  go_wp2
  go_ret
  exact ⟨r, rfl, HR.out.trans (belowP_iff HY.out), G2_.out⟩
theorem specBelow_yes (W : World) (v : Value) (xs : List DNode) (k t : Int) (H : RdL shNode W v xs) (hl : szL shNode xs ≤ 1048576) (h : BelowP xs k t) : Calls Try.prog 26 #[v, .int .i64 k, .int .i64 t] W (AnsN (.bool true) W) := (specBelow W v xs k t H hl).mono (bpost_yes h)
theorem specBelow_no (W : World) (v : Value) (xs : List DNode) (k t : Int) (H : RdL shNode W v xs) (hl : szL shNode xs ≤ 1048576) (h : ¬ BelowP xs k t) : Calls Try.prog 26 #[v, .int .i64 k, .int .i64 t] W (AnsN (.bool false) W) := (specBelow W v xs k t H hl).mono (bpost_no h)

set_option maxHeartbeats 1000000 in
theorem implBelow (W : World) (v : Value) (xs : List DNode) (k t : Int) (H : RdL shNode W v xs) (hl : szL shNode xs ≤ 1048576) : Calls Try.prog 27 #[v, .int .i64 k, .int .i64 t] W (BPost (BelowP xs k t) W) := by
  obtain ⟨ys, hy⟩ := pthIs_ex xs k
  have HY := Lib.hid hy
  clear hy
  have HT := Lib.hid H
  have HL := Lib.hid hl
  obtain ⟨a0, n0, c0, rfl⟩ := RdL.form H
  have hn0 : n0 = xs.length := by obtain ⟨_, _, e, _⟩ := H; injection e
  have HE := Lib.hid hn0
  have hlx : n0 ≤ 1048576 := by have := szL_len shNode xs; omega
  clear H hn0 hl
  go_enter Try.func27, Try.ntmps27
  go_wp2_with fail
  go_at_call 25
  refine (implPath_any _ _ xs k (HT.out.grow (gby_refl _ _)) HL.out ys HY.out).mono ?_
  rintro e w1 ⟨vr, rfl, o, g⟩
  have G1_ := Lib.hid (show (W).grownBy (w1) none from gby_trans (gby_refl _ _) g)
  clear g
  obtain ⟨p1, n1, c1, hv_⟩ := RdL.form (OwU.rd o)
  subst hv_
  have HRD := Lib.hid (OwU.rd o)
  clear o
  go_wp2_with fail
  go_at_call 57
  refine (contains_any _ _ ys t HRD.out (by have := pthIs_len HY.out; omega)).mono ?_
  rintro e w2 ⟨r, rfl, hr, g⟩
  have G2_ := Lib.hid (show (W).grownBy (w2) none from gby_trans G1_.out g)
  clear g
  have HR := Lib.hid hr
  clear hr
  go_wp2
  go_ret
  exact ⟨r, rfl, HR.out.trans (belowP_iff HY.out), G2_.out⟩
theorem implBelow_yes (W : World) (v : Value) (xs : List DNode) (k t : Int) (H : RdL shNode W v xs) (hl : szL shNode xs ≤ 1048576) (h : BelowP xs k t) : Calls Try.prog 27 #[v, .int .i64 k, .int .i64 t] W (AnsN (.bool true) W) := (implBelow W v xs k t H hl).mono (bpost_yes h)
theorem implBelow_no (W : World) (v : Value) (xs : List DNode) (k t : Int) (H : RdL shNode W v xs) (hl : szL shNode xs ≤ 1048576) (h : ¬ BelowP xs k t) : Calls Try.prog 27 #[v, .int .i64 k, .int .i64 t] W (AnsN (.bool false) W) := (implBelow W v xs k t H hl).mono (bpost_no h)

theorem isBelow_both (xs0 : List DNode) (i1 i2 : Int) (h0 : szL shNode xs0 ≤ 1048576) : ∃ (br0 : Bool), (∀ (W : World), ∀ u0, RdL shNode W u0 xs0 → Calls Try.prog 26 #[u0, .int .i64 i1, .int .i64 i2] W (ResSIsBelow br0 W)) ∧ ∀ (W : World), ∀ u0, RdL shNode W u0 xs0 → Calls Try.prog 27 #[u0, .int .i64 i1, .int .i64 i2] W (ResIIsBelow br0 W) := by
  by_cases h : BelowP xs0 i1 i2
  · exact ⟨true, fun W u H => specBelow_yes W u xs0 i1 i2 H h0 h, fun W u H => implBelow_yes W u xs0 i1 i2 H h0 h⟩
  · exact ⟨false, fun W u H => specBelow_no W u xs0 i1 i2 H h0 h, fun W u H => implBelow_no W u xs0 i1 i2 H h0 h⟩

end Go.Proofs.Ytodfbodagjmfmab

namespace Go.Proofs.Ytodfbodagjmfmab
open Go Go.RowKit
set_option linter.unusedVariables false

/-- what ChildrenOf answers with -/
def KidL (xs : List DNode) (k : Int) (ys : List Int) : Prop := (NodeP xs k ∧ ys = nums (kidsN xs k 4)) ∨ (¬ NodeP xs k ∧ ys = [])
theorem kidL_ex (xs : List DNode) (k : Int) : ∃ ys, KidL xs k ys := by
  by_cases h : NodeP xs k
  · exact ⟨_, .inl ⟨h, rfl⟩⟩
  · exact ⟨_, .inr ⟨h, rfl⟩⟩
theorem kidL_len {xs : List DNode} {k : Int} {ys : List Int} (h : KidL xs k ys) : ys.length ≤ 48 := by
  rcases h with ⟨h1, rfl⟩ | ⟨_, rfl⟩
  · rw [nums_len]
    have := kidsN_len xs k 4
    have := h1.1.1.2
    omega
  · simp
theorem specKids_any (W : World) (v : Value) (xs : List DNode) (k : Int) (H : RdL shNode W v xs) (hl : szL shNode xs ≤ 1048576) (ys : List Int) (h : KidL xs k ys) : Calls Try.prog 16 #[v, .int .i64 k] W (ResIChildrenOf ys W) := by
  rcases h with ⟨h1, rfl⟩ | ⟨h1, rfl⟩
  · exact specKids_yes W v xs k H hl h1
  · exact specKids_no W v xs k H hl h1

theorem implKids_any (W : World) (v : Value) (xs : List DNode) (k : Int) (H : RdL shNode W v xs) (hl : szL shNode xs ≤ 1048576) (ys : List Int) (h : KidL xs k ys) : Calls Try.prog 18 #[v, .int .i64 k] W (ResIChildrenOf ys W) := by
  rcases h with ⟨h1, rfl⟩ | ⟨h1, rfl⟩
  · exact implKids_yes W v xs k H hl h1
  · exact implKids_no W v xs k H hl h1

theorem childrenOf_both (xs0 : List DNode) (i1 : Int) (h0 : szL shNode xs0 ≤ 1048576) : ∃ (xsr0 : List Int), szL shI xsr0 ≤ 1048576 ∧ (∀ (W : World), ∀ u0, RdL shNode W u0 xs0 → Calls Try.prog 16 #[u0, .int .i64 i1] W (ResSChildrenOf xsr0 W)) ∧ ∀ (W : World), ∀ u0, RdL shNode W u0 xs0 → Calls Try.prog 18 #[u0, .int .i64 i1] W (ResIChildrenOf xsr0 W) := by
  obtain ⟨ys, hy⟩ := kidL_ex xs0 i1
  exact ⟨ys, by rw [szL_I]; have := kidL_len hy; omega, fun W u H => (specKids_any W u xs0 i1 H h0 ys hy).mono (fun e w q => resS_ofChildrenOf e w q), fun W u H => implKids_any W u xs0 i1 H h0 ys hy⟩

end Go.Proofs.Ytodfbodagjmfmab

namespace Go.Proofs.Ytodfbodagjmfmab
open Go Go.RowKit


theorem big_any (a : Option Addr) (len cap : Nat) (w : World) :
    Calls Try.prog 30 #[.slice a len cap] w (fun e w' => e = .returned (.bool (decide ((1048576 : Int) < (len : Int)))) ∧ w = w') := by
  go_enter Try.func30, Try.ntmps30
  go_wp2
  go_ret
  exact ⟨rfl, rfl⟩

end Go.Proofs.Ytodfbodagjmfmab

namespace Go.Proofs.Ytodfbodagjmfmab
open Go Go.RowKit
set_option linter.unusedVariables false

theorem pth_zero_in {xs : List DNode} (h : TOk xs) {k : Nat} (hk : k < xs.length) : BelowP xs (k : Int) 0 := by
  rw [belowP_at h hk, mem_at]
  exact ⟨0, (pth_len h k hk).1, pth_head h k hk⟩
theorem pth_end {xs : List DNode} (h : TOk xs) (k : Nat) (hk : k < xs.length) : (pth xs k).getD ((pth xs k).length - 1) 0 = (k : Int) := by
  rw [List.getD_eq_getElem?_getD]
  by_cases m0 : k = 0
  · subst m0; rw [pth_zero]; rfl
  · rw [pth_succ h (by omega) hk]; simp
theorem pth_self_in {xs : List DNode} (h : TOk xs) {k : Nat} (hk : k < xs.length) : BelowP xs (k : Int) (k : Int) := by
  rw [belowP_at h hk, mem_at]
  exact ⟨(pth xs k).length - 1, by have := (pth_len h k hk).1; omega, pth_end h k hk⟩
theorem par_not_below {xs : List DNode} (h : TOk xs) {k : Nat} (h1 : 1 ≤ k) (hk : k < xs.length) : ¬ BelowP xs (par xs k : Int) (k : Int) := by
  have hp := par_lt h h1 hk
  rw [belowP_at h (by omega)]
  intro q
  have := pth_in h (par xs k) (by omega) _ q
  omega
theorem kid_below {xs : List DNode} (h : TOk xs) {n k : Nat} (h1 : 1 ≤ n) (hn : n < xs.length) (hp : (nd xs n).f0 = (k : Int)) : k < n ∧ BelowP xs (n : Int) (k : Int) := by
  have hpk : par xs n = k := by have := par_eq h h1 hn; omega
  have hlt := par_lt h h1 hn
  refine ⟨by omega, ?_⟩
  rw [belowP_at h hn, pth_succ h h1 hn, List.mem_append, hpk]
  left
  exact (belowP_at h (show k < xs.length by omega)).1 (pth_self_in h (by omega))
theorem mem_nums {ks : List Nat} {n : Nat} : (n : Int) ∈ nums ks ↔ n ∈ ks := by
  unfold nums
  rw [List.mem_map]
  exact ⟨fun ⟨a, h, e⟩ => (show a = n from by omega) ▸ h, fun h => ⟨n, h, rfl⟩⟩
theorem kid_of_par {xs : List DNode} (h : TOk xs) {k : Nat} (h1 : 1 ≤ k) (hk : k < xs.length) : (k : Int) ∈ nums (kidsN xs (par xs k : Int) 4) := by
  rw [mem_nums]
  exact ((kids_is h _).1 k).2 ⟨h1, hk, par_eq h h1 hk⟩
/-- what the children of k are, by their places -/
structure KidFacts (xs : List DNode) (k : Nat) (X : List Int) : Prop where
  each : ∀ i, i < X.length → ∃ n : Nat, X.getD i 0 = (n : Int) ∧ k < n ∧ n < xs.length ∧ BelowP xs (n : Int) (k : Int)
  sorted : ∀ i m n : Nat, i + 1 < X.length → X.getD i 0 = (m : Int) → X.getD (i + 1) 0 = (n : Int) → (nd xs m).f1 < (nd xs n).f1
theorem kidFacts {xs : List DNode} (h : TOk xs) {k : Nat} : KidFacts xs k (nums (kidsN xs (k : Int) 4)) := by
  obtain ⟨ha, hs⟩ := kids_is h (k : Int)
  refine ⟨fun i hi => ?_, fun i m n hi hm hn => ?_⟩
  · rw [nums_len] at hi
    rw [nums_at _ i hi]
    obtain ⟨q1, q2, q3⟩ := (ha _).1 (List.getElem_mem hi)
    obtain ⟨b1, b2⟩ := kid_below h q1 q2 q3
    exact ⟨_, rfl, b1, q2, b2⟩
  · rw [nums_len] at hi
    rw [nums_at _ i (by omega)] at hm
    rw [nums_at _ (i + 1) hi] at hn
    have e1 : (kidsN xs (k : Int) 4)[i] = m := by omega
    have e2 : (kidsN xs (k : Int) 4)[i + 1] = n := by omega
    rw [← e1, ← e2]
    exact List.pairwise_iff_getElem.1 hs i (i + 1) (by omega) hi (by omega)

set_option maxRecDepth 8000 in
set_option maxHeartbeats 8000000 in
theorem walk_below (a : Option Addr) (len cap : Nat) (zs : List Int) (W : World) (hB : Bytes W a len zs) :
    Calls Try.prog 8 #[.slice a len cap] W fun e w' => e = .returned (.bool true) ∧ Below W.heap.size W w' := by
  have HB := Lib.hid hB
  clear hB
  by_cases hbig : (1048576 : Int) < (len : Int)
  · go_enter Try.func8, Try.ntmps8
    go_wp2
    go_ret
    exact ⟨rfl, Below.refl _ _⟩
  · skip
    go_enter Try.func8, Try.ntmps8
    go_wp2_with fail
    go_at_call 30
    refine (big_any _ _ _ _).mono ?_
    rintro e w1 ⟨rfl, rfl⟩
    go_wp2_with fail
    go_at_call 31
    refine (drawTree_any _ _ _ _ _ (bytes_grow HB.out (gby_refl _ _)) (by omega)).mono ?_
    rintro e w2 ⟨v_, xs, rfl, ht, o, g⟩
    have HTO := Lib.hid ht
    obtain ⟨ta_, tc, rfl, _, hi_⟩ := rdN_in o.rd
    obtain ⟨tb, to, rfl, hnc⟩ := hi_.resolve_left (by have := ht.1.1; omega)
    have HNC := Lib.hid hnc
    have HT0 := Lib.hid o.rd
    obtain ⟨n0, hn0⟩ : ∃ n, n = xs.length := ⟨_, rfl⟩
    have HE := Lib.hid hn0
    have hx1 : 1 ≤ n0 := by have := ht.1.1; omega
    have hx2 : n0 ≤ 12 := by have := ht.1.2; omega
    rw [← hn0] at HNC HT0 ⊢
    have HLx : Hid (szL shNode xs ≤ 1048576) := Lib.hid (by rw [szL_size0 (fun _ => rfl)]; have := ht.1.2; omega)
    clear ht o hn0 hnc
    have szw2 := g.size
    try simp only [World.size_alloc] at szw2
    have G1_ := Lib.hid (show (W).grownBy (w2) none from gby_trans (gby_refl _ _) g)
    clear g
    have HTT2_ := Lib.hid (gby_refl (w2) none)
    have MG3_ := Lib.hid (show (W).grownBy (w2) none from G1_.out)
    go_wp2
    go_loopw [4] (fun k wr => ∃ k_ : Nat, k = .int .i64 (k_ : Int) ∧ k_ ≤ n0 ∧ (w2).grownBy wr none) (fun k _ => n0 - (intOf k).toNat)
    case atStart => exact ⟨0, rfl, by omega, gby_refl _ _⟩
    case round =>
      obtain ⟨k_, rfl, hk, hg⟩ := hrel
      have szrwr := hg.size
      try simp only [World.size_alloc] at szrwr
      try simp only [World.size_setCell] at szrwr
      have szr_ := szrwr
      have G4_ := Lib.hid (show (W).grownBy (wr) none from gby_trans G1_.out hg)
      have HTT5_ := Lib.hid (show (w2).grownBy (wr) none from gby_trans HTT2_.out hg)
      clear HTT2_
      have HTB_ := Lib.hid hg
      clear hg
      obtain ⟨k, hkk⟩ : ∃ k, k = k_ := ⟨_, rfl⟩
      subst hkk
      have hk0 : (0 : Int) ≤ (k : Int) := by omega
      have htk : ((k : Int)).toNat = k := by omega
      by_cases hlt : k < n0
      rotate_left
      · obtain rfl : k = n0 := by omega
        have hki : ¬ (k : Int) < (k : Int) := by omega
        go_wp2_with fail
        go_at_call 35
        refine (implTree_yes _ _ xs (HT0.out.grow HTT5_.out) HLx.out HTO.out).mono ?_
        rintro e w3 ⟨rfl, g⟩
        have szw3 := g.size
        try simp only [World.size_alloc] at szw3
        try simp only [World.size_setCell] at szw3
        have G6_ := Lib.hid (show (W).grownBy (w3) none from gby_trans G4_.out g)
        have HTT7_ := Lib.hid (show (w2).grownBy (w3) none from gby_trans HTT5_.out g)
        clear HTT5_
        have HTB8_ := Lib.hid (show (w2).grownBy (w3) none from gby_trans HTB_.out g)
        clear HTB_
        clear g
        go_wp2
        go_ret
        exact ⟨rfl, gby_below G6_.out⟩
      have hki : (k : Int) < (n0 : Int) := by omega
      have HK := Lib.hid (show k < xs.length by rw [← HE.out]; exact hlt)
      go_wp2_with fail
      go_at_call 27
      refine (implBelow_yes _ _ xs (k : Int) 0 (HT0.out.grow HTT5_.out) HLx.out (pth_zero_in HTO.out HK.out)).mono ?_
      rintro e w3 ⟨rfl, g⟩
      have szw3 := g.size
      try simp only [World.size_alloc] at szw3
      try simp only [World.size_setCell] at szw3
      have G6_ := Lib.hid (show (W).grownBy (w3) none from gby_trans G4_.out g)
      have HTT7_ := Lib.hid (show (w2).grownBy (w3) none from gby_trans HTT5_.out g)
      clear HTT5_
      have HTB8_ := Lib.hid (show (w2).grownBy (w3) none from gby_trans HTB_.out g)
      clear HTB_
      clear g
      go_wp2_with fail
      go_at_call 27
      refine (implBelow_yes _ _ xs (k : Int) (k : Int) (HT0.out.grow HTT7_.out) HLx.out (pth_self_in HTO.out HK.out)).mono ?_
      rintro e w4 ⟨rfl, g⟩
      have szw4 := g.size
      try simp only [World.size_alloc] at szw4
      try simp only [World.size_setCell] at szw4
      have G9_ := Lib.hid (show (W).grownBy (w4) none from gby_trans G6_.out g)
      have HTT10_ := Lib.hid (show (w2).grownBy (w4) none from gby_trans HTT7_.out g)
      clear HTT7_
      have HTB11_ := Lib.hid (show (w2).grownBy (w4) none from gby_trans HTB8_.out g)
      clear HTB8_
      clear g
      by_cases k0 : k = 0
      · have hgt : ¬ (0 : Int) < (k : Int) := by omega
        have hgd : decide ((0 : Int) < (k : Int)) = false := decide_eq_false hgt
        have hgd2 : decide (0 < k) = false := decide_eq_false (by omega)
        clear k0
        obtain ⟨X, hX⟩ : ∃ X, X = nums (kidsN xs (k : Int) 4) := ⟨_, rfl⟩
        have HX := Lib.hid hX
        clear hX
        go_wp2_with fail
        go_at_call 18
        refine ((show Calls _ _ _ _ (ResIChildrenOf X _) from by rw [HX.out]; exact implKids_yes _ _ xs (k : Int) (HT0.out.grow HTT10_.out) HLx.out ⟨HTO.out, by omega, by have := HE.out; omega⟩)).mono ?_
        rintro e w5 ⟨vX, rfl, o, g⟩
        have szw5 := g.size
        have G12_ := Lib.hid (show (W).grownBy (w5) none from gby_trans G9_.out g)
        have HTT13_ := Lib.hid (show (w2).grownBy (w5) none from gby_trans HTT10_.out g)
        clear HTT10_
        have HTB14_ := Lib.hid (show (w2).grownBy (w5) none from gby_trans HTB11_.out g)
        clear HTB11_
        clear g
        obtain ⟨pX, cX, rfl, hcX, hiX⟩ := rdI1_in (OwU.rd o)
        have HIX := Lib.hid hiX
        have HRX := Lib.hid (OwU.rd o)
        clear hiX hcX o
        have HTX15_ := Lib.hid (gby_refl (w5) none)
        have MG16_ := Lib.hid (show (W).grownBy (w5) none from G12_.out)
        have HF := Lib.hid (show KidFacts xs k X by rw [HX.out]; exact kidFacts HTO.out)
        have hX48 : X.length ≤ 48 := by rw [HX.out, nums_len]; have := kidsN_len xs (k : Int) 4; have := HE.out; omega
        generalize hnX : X.length = nX at *
        have HNX := Lib.hid hnX
        clear hnX
        go_wp2
        go_loopw [6] (fun i wr => ∃ j : Nat, i = .int .i64 (j : Int) ∧ j ≤ nX ∧ (w5).grownBy wr none) (fun i _ => nX - (intOf i).toNat)
        case atStart => exact ⟨0, rfl, by omega, gby_refl _ _⟩
        case round =>
          obtain ⟨wi, hwo_⟩ : ∃ w_, w_ = wr := ⟨_, rfl⟩
          subst hwo_
          obtain ⟨j, rfl, hj, hg⟩ := hrel
          have szrwi := hg.size
          try simp only [World.size_alloc] at szrwi
          try simp only [World.size_setCell] at szrwi
          have szr_ := szrwi
          have G17_ := Lib.hid (show (W).grownBy (wi) none from gby_trans G12_.out hg)
          have HTT18_ := Lib.hid (show (w2).grownBy (wi) none from gby_trans HTT13_.out hg)
          clear HTT13_
          have HTB19_ := Lib.hid (show (w2).grownBy (wi) none from gby_trans HTB14_.out hg)
          clear HTB14_
          have HTX20_ := Lib.hid (show (w5).grownBy (wi) none from gby_trans HTX15_.out hg)
          clear HTX15_
          have HTC_ := Lib.hid hg
          clear hg
          have hj0 : (0 : Int) ≤ (j : Int) := by omega
          have htj : ((j : Int)).toNat = j := by omega
          by_cases hlj : j < nX
          rotate_left
          · obtain rfl : j = nX := by omega
            have hji : ¬ (j : Int) < (j : Int) := by omega
            go_wp2
            refine ⟨⟨k + 1, by go_num, by omega, by repeat (first | exact HTB19_.out | with_reducible refine gby_drewN ?_ _)⟩, by simp [intOf]; omega⟩
          have hji : (j : Int) < (nX : Int) := by omega
          obtain ⟨bX, oX, rfl, hcX⟩ := HIX.out.resolve_left (by have := HNX.out; omega)
          obtain ⟨m, hm, hkm, hmx, hbl⟩ := HF.out.each j (by rw [HNX.out]; exact hlj)
          have HBL := Lib.hid hbl
          have HM := Lib.hid hm
          have hmn : m < n0 := by rw [HE.out]; exact hmx
          have HCX := Lib.hid hcX
          have xj_ := (HTX20_.out).cell (hcX j (by rw [HNX.out]; exact hlj)) (by simp)
          rw [hm] at xj_
          clear hbl hm hmx hcX
          have hkm1 : ¬ (m : Int) ≤ (k : Int) := by omega
          have hkm2 : ¬ (m : Int) ≥ (n0 : Int) := by omega
          have hkm3 : ¬ (n0 : Int) ≤ (m : Int) := by omega
          have hd1 : decide ((m : Int) ≤ (k : Int)) = false := decide_eq_false hkm1
          have hd1b : decide (m ≤ k) = false := decide_eq_false (by omega)
          have hd2 : decide ((n0 : Int) ≤ (m : Int)) = false := decide_eq_false hkm3
          have hd2b : decide (n0 ≤ m) = false := decide_eq_false (by omega)
          have hm0 : (0 : Int) ≤ (m : Int) := by omega
          have hmi : (m : Int) < (n0 : Int) := by omega
          have htm : ((m : Int)).toNat = m := by omega
          by_cases j0 : j = 0
          · have hgt : ¬ (0 : Int) < (j : Int) := by omega
            have hgd : decide ((0 : Int) < (j : Int)) = false := decide_eq_false hgt
            have hgd2 : decide (0 < j) = false := decide_eq_false (by omega)
            clear j0
            go_wp2_with fail
            refine wp_region_held_drew (S := fun w' => w'.cell? ⟨bX, oX + j, none⟩ = some (.int .i64 (m : Int))) (by kernel_rfl) (by (try dsimp only); exact xj_) (fun hHeld => ?_)
            refine wpAnyH_take (i := 0) (oi := { dst := some 63, op := Op.move (Operand.tmp 5), type := 24, pos := "laws.go:631", after := #[], guard := none }) (v := ?v0_1) rfl (by kernel_rfl) (by kernel_rfl) (by kernel_rfl) (fun _ _ _ h => h) (Or.inl ⟨by rfl, ?y0_1⟩) (by assumption) ?r0_1
            case y0_1 => (intro w hSw; (try dsimp only at hSw); go_simp; all_goals (with_reducible rfl))
            try simp only [Act.put, List.setIfInBounds_toArray, List.set_cons_zero, List.set_cons_succ]
            refine wpAnyH_take (i := 1) (oi := { dst := some 64, op := Op.move (Operand.tmp 6), type := 3, pos := "laws.go:631", after := #[], guard := none }) (v := ?v1_1) rfl (by kernel_rfl) (by kernel_rfl) (by kernel_rfl) (fun _ _ _ h => h) (Or.inl ⟨by rfl, ?y1_1⟩) (by assumption) ?r1_1
            case y1_1 => (intro w hSw; (try dsimp only at hSw); go_simp; all_goals (with_reducible rfl))
            try simp only [Act.put, List.setIfInBounds_toArray, List.set_cons_zero, List.set_cons_succ]
            refine wpAnyH_take (i := 2) (oi := { dst := some 65, op := Op.indexAddr 24 (Operand.tmp 63) (Operand.tmp 64), type := 0, pos := "laws.go:631", after := #[{ on := 0, ground := Ground.data }, { on := 1, ground := Ground.data }], guard := none }) (v := ?v2_1) rfl (by kernel_rfl) (by kernel_rfl) (by kernel_rfl) (fun _ _ _ h => h) (Or.inl ⟨by rfl, ?y2_1⟩) (by assumption) ?r2_1
            case y2_1 => (intro w hSw; (try dsimp only at hSw); go_simp; all_goals (with_reducible rfl))
            try simp only [Act.put, List.setIfInBounds_toArray, List.set_cons_zero, List.set_cons_succ]
            refine wpAnyH_take (i := 3) (oi := { dst := some 66, op := Op.load 3 (Operand.tmp 65), type := 3, pos := "laws.go:631", after := #[{ on := 2, ground := Ground.data }], guard := none }) (v := ?v3_1) rfl (by kernel_rfl) (by kernel_rfl) (by kernel_rfl) (fun _ _ _ h => h) (Or.inl ⟨by rfl, ?y3_1⟩) (by assumption) ?r3_1
            case y3_1 => (intro w hSw; (try dsimp only at hSw); go_simp; all_goals (with_reducible rfl))
            try simp only [Act.put, List.setIfInBounds_toArray, List.set_cons_zero, List.set_cons_succ]
            refine wpAnyH_take (i := 4) (oi := { dst := some 67, op := Op.move (Operand.tmp 4), type := 3, pos := "laws.go:631", after := #[], guard := none }) (v := ?v4_1) rfl (by kernel_rfl) (by kernel_rfl) (by kernel_rfl) (fun _ _ _ h => h) (Or.inl ⟨by rfl, ?y4_1⟩) (by assumption) ?r4_1
            case y4_1 => (intro w hSw; (try dsimp only at hSw); go_simp; all_goals (with_reducible rfl))
            try simp only [Act.put, List.setIfInBounds_toArray, List.set_cons_zero, List.set_cons_succ]
            refine wpAnyH_take (i := 5) (oi := { dst := some 68, op := Op.binOp BinOp.leq 3 (Operand.tmp 66) (Operand.tmp 67) 3, type := 4, pos := "laws.go:631", after := #[{ on := 3, ground := Ground.data }, { on := 4, ground := Ground.data }], guard := none }) (v := ?v5_1) rfl (by kernel_rfl) (by kernel_rfl) (by kernel_rfl) (fun _ _ _ h => h) (Or.inl ⟨by rfl, ?y5_1⟩) (by assumption) ?r5_1
            case y5_1 => (intro w hSw; (try dsimp only at hSw); go_simp; all_goals (with_reducible rfl))
            try simp only [Act.put, List.setIfInBounds_toArray, List.set_cons_zero, List.set_cons_succ]
            refine wpAnyH_take (i := 6) (oi := { dst := some 69, op := Op.move (Operand.tmp 68), type := 4, pos := "laws.go:631", after := #[{ on := 5, ground := Ground.data }], guard := none }) (v := ?v6_1) rfl (by kernel_rfl) (by kernel_rfl) (by kernel_rfl) (fun _ _ _ h => h) (Or.inl ⟨by rfl, ?y6_1⟩) (by assumption) ?r6_1
            case y6_1 => (intro w hSw; (try dsimp only at hSw); go_simp; all_goals (with_reducible rfl))
            try simp only [Act.put, List.setIfInBounds_toArray, List.set_cons_zero, List.set_cons_succ]
            refine wpAnyH_take (i := 7) (oi := { dst := some 70, op := Op.move (Operand.tmp 5), type := 24, pos := "laws.go:631", after := #[{ on := 6, ground := Ground.guard }], guard := some (6, false) }) (v := ?v7_1) rfl (by kernel_rfl) (by kernel_rfl) (by kernel_rfl) (fun _ _ _ h => h) (Or.inl ⟨by rfl, ?y7_1⟩) (by assumption) ?r7_1
            case y7_1 => (intro w hSw; (try dsimp only at hSw); go_simp; all_goals (with_reducible rfl))
            try simp only [Act.put, List.setIfInBounds_toArray, List.set_cons_zero, List.set_cons_succ]
            refine wpAnyH_take (i := 8) (oi := { dst := some 71, op := Op.move (Operand.tmp 6), type := 3, pos := "laws.go:631", after := #[{ on := 6, ground := Ground.guard }], guard := some (6, false) }) (v := ?v8_1) rfl (by kernel_rfl) (by kernel_rfl) (by kernel_rfl) (fun _ _ _ h => h) (Or.inl ⟨by rfl, ?y8_1⟩) (by assumption) ?r8_1
            case y8_1 => (intro w hSw; (try dsimp only at hSw); go_simp; all_goals (with_reducible rfl))
            try simp only [Act.put, List.setIfInBounds_toArray, List.set_cons_zero, List.set_cons_succ]
            refine wpAnyH_take (i := 9) (oi := { dst := some 72, op := Op.indexAddr 24 (Operand.tmp 70) (Operand.tmp 71), type := 0, pos := "laws.go:631", after := #[{ on := 7, ground := Ground.data }, { on := 8, ground := Ground.data }, { on := 6, ground := Ground.guard }], guard := some (6, false) }) (v := ?v9_1) rfl (by kernel_rfl) (by kernel_rfl) (by kernel_rfl) (fun _ _ _ h => h) (Or.inl ⟨by rfl, ?y9_1⟩) (by assumption) ?r9_1
            case y9_1 => (intro w hSw; (try dsimp only at hSw); go_simp; all_goals (with_reducible rfl))
            try simp only [Act.put, List.setIfInBounds_toArray, List.set_cons_zero, List.set_cons_succ]
            refine wpAnyH_take (i := 10) (oi := { dst := some 73, op := Op.load 3 (Operand.tmp 72), type := 3, pos := "laws.go:631", after := #[{ on := 9, ground := Ground.data }, { on := 6, ground := Ground.guard }], guard := some (6, false) }) (v := ?v10_1) rfl (by kernel_rfl) (by kernel_rfl) (by kernel_rfl) (fun _ _ _ h => h) (Or.inl ⟨by rfl, ?y10_1⟩) (by assumption) ?r10_1
            case y10_1 => (intro w hSw; (try dsimp only at hSw); go_simp; all_goals (with_reducible rfl))
            try simp only [Act.put, List.setIfInBounds_toArray, List.set_cons_zero, List.set_cons_succ]
            refine wpAnyH_take (i := 11) (oi := { dst := some 74, op := Op.move (Operand.tmp 3), type := 26, pos := "laws.go:631", after := #[{ on := 6, ground := Ground.guard }], guard := some (6, false) }) (v := ?v11_1) rfl (by kernel_rfl) (by kernel_rfl) (by kernel_rfl) (fun _ _ _ h => h) (Or.inl ⟨by rfl, ?y11_1⟩) (by assumption) ?r11_1
            case y11_1 => (intro w hSw; (try dsimp only at hSw); go_simp; all_goals (with_reducible rfl))
            try simp only [Act.put, List.setIfInBounds_toArray, List.set_cons_zero, List.set_cons_succ]
            refine wpAnyH_take (i := 12) (oi := { dst := some 75, op := Op.call { callee := Callee.builtin Builtin.len, args := #[Operand.tmp 74], argTypes := #[26] }, type := 3, pos := "laws.go:631", after := #[{ on := 11, ground := Ground.data }, { on := 6, ground := Ground.guard }], guard := some (6, false) }) (v := ?v12_1) rfl (by kernel_rfl) (by kernel_rfl) (by kernel_rfl) (fun _ _ _ h => h) (Or.inl ⟨by rfl, ?y12_1⟩) (by assumption) ?r12_1
            case y12_1 => (intro w hSw; (try dsimp only at hSw); go_simp; all_goals (with_reducible rfl))
            try simp only [Act.put, List.setIfInBounds_toArray, List.set_cons_zero, List.set_cons_succ]
            refine wpAnyH_take (i := 13) (oi := { dst := some 76, op := Op.binOp BinOp.geq 3 (Operand.tmp 73) (Operand.tmp 75) 3, type := 4, pos := "laws.go:631", after := #[{ on := 10, ground := Ground.data }, { on := 12, ground := Ground.data }, { on := 6, ground := Ground.guard }], guard := some (6, false) }) (v := ?v13_1) rfl (by kernel_rfl) (by kernel_rfl) (by kernel_rfl) (fun _ _ _ h => h) (Or.inl ⟨by rfl, ?y13_1⟩) (by assumption) ?r13_1
            case y13_1 => (intro w hSw; (try dsimp only at hSw); go_simp; all_goals (with_reducible rfl))
            try simp only [Act.put, List.setIfInBounds_toArray, List.set_cons_zero, List.set_cons_succ]
            refine wpAnyH_take (i := 14) (oi := { dst := some 77, op := Op.pick (Operand.tmp 69) (Operand.const (Value.bool true)) (Operand.tmp 76), type := 4, pos := "laws.go:631", after := #[{ on := 6, ground := Ground.data }, { on := 13, ground := Ground.data }], guard := none }) (v := ?v14_1) rfl (by kernel_rfl) (by kernel_rfl) (by kernel_rfl) (fun _ _ _ h => h) (Or.inl ⟨by rfl, ?y14_1⟩) (by assumption) ?r14_1
            case y14_1 => (intro w hSw; (try dsimp only at hSw); go_simp; all_goals (with_reducible rfl))
            try simp only [Act.put, List.setIfInBounds_toArray, List.set_cons_zero, List.set_cons_succ]
            refine wpAnyH_take (i := 15) (oi := { dst := some 78, op := Op.move (Operand.tmp 77), type := 4, pos := "laws.go:631", after := #[{ on := 14, ground := Ground.data }, { on := 6, ground := Ground.chain }], guard := none }) (v := ?v15_1) rfl (by kernel_rfl) (by kernel_rfl) (by kernel_rfl) (fun _ _ _ h => h) (Or.inl ⟨by rfl, ?y15_1⟩) (by assumption) ?r15_1
            case y15_1 => (intro w hSw; (try dsimp only at hSw); go_simp; all_goals (with_reducible rfl))
            try simp only [Act.put, List.setIfInBounds_toArray, List.set_cons_zero, List.set_cons_succ]
            refine wpAnyH_take (i := 16) (oi := { dst := some 79, op := Op.move (Operand.tmp 3), type := 26, pos := "laws.go:631", after := #[{ on := 15, ground := Ground.guard }], guard := some (15, false) }) (v := ?v16_1) rfl (by kernel_rfl) (by kernel_rfl) (by kernel_rfl) (fun _ _ _ h => h) (Or.inl ⟨by rfl, ?y16_1⟩) (by assumption) ?r16_1
            case y16_1 => (intro w hSw; (try dsimp only at hSw); go_simp; all_goals (with_reducible rfl))
            try simp only [Act.put, List.setIfInBounds_toArray, List.set_cons_zero, List.set_cons_succ]
            refine wpAnyH_take (i := 17) (oi := { dst := some 80, op := Op.move (Operand.tmp 5), type := 24, pos := "laws.go:631", after := #[{ on := 15, ground := Ground.guard }], guard := some (15, false) }) (v := ?v17_1) rfl (by kernel_rfl) (by kernel_rfl) (by kernel_rfl) (fun _ _ _ h => h) (Or.inl ⟨by rfl, ?y17_1⟩) (by assumption) ?r17_1
            case y17_1 => (intro w hSw; (try dsimp only at hSw); go_simp; all_goals (with_reducible rfl))
            try simp only [Act.put, List.setIfInBounds_toArray, List.set_cons_zero, List.set_cons_succ]
            refine wpAnyH_take (i := 18) (oi := { dst := some 81, op := Op.move (Operand.tmp 6), type := 3, pos := "laws.go:631", after := #[{ on := 15, ground := Ground.guard }], guard := some (15, false) }) (v := ?v18_1) rfl (by kernel_rfl) (by kernel_rfl) (by kernel_rfl) (fun _ _ _ h => h) (Or.inl ⟨by rfl, ?y18_1⟩) (by assumption) ?r18_1
            case y18_1 => (intro w hSw; (try dsimp only at hSw); go_simp; all_goals (with_reducible rfl))
            try simp only [Act.put, List.setIfInBounds_toArray, List.set_cons_zero, List.set_cons_succ]
            refine wpAnyH_take (i := 19) (oi := { dst := some 82, op := Op.indexAddr 24 (Operand.tmp 80) (Operand.tmp 81), type := 0, pos := "laws.go:631", after := #[{ on := 17, ground := Ground.data }, { on := 18, ground := Ground.data }, { on := 15, ground := Ground.guard }], guard := some (15, false) }) (v := ?v19_1) rfl (by kernel_rfl) (by kernel_rfl) (by kernel_rfl) (fun _ _ _ h => h) (Or.inl ⟨by rfl, ?y19_1⟩) (by assumption) ?r19_1
            case y19_1 => (intro w hSw; (try dsimp only at hSw); go_simp; all_goals (with_reducible rfl))
            try simp only [Act.put, List.setIfInBounds_toArray, List.set_cons_zero, List.set_cons_succ]
            refine wpAnyH_take (i := 20) (oi := { dst := some 83, op := Op.load 3 (Operand.tmp 82), type := 3, pos := "laws.go:631", after := #[{ on := 19, ground := Ground.data }, { on := 15, ground := Ground.guard }], guard := some (15, false) }) (v := ?v20_1) rfl (by kernel_rfl) (by kernel_rfl) (by kernel_rfl) (fun _ _ _ h => h) (Or.inl ⟨by rfl, ?y20_1⟩) (by assumption) ?r20_1
            case y20_1 => (intro w hSw; (try dsimp only at hSw); go_simp; all_goals (with_reducible rfl))
            try simp only [Act.put, List.setIfInBounds_toArray, List.set_cons_zero, List.set_cons_succ]
            refine wpAnyH_take (i := 21) (oi := { dst := some 84, op := Op.move (Operand.tmp 4), type := 3, pos := "laws.go:631", after := #[{ on := 15, ground := Ground.guard }], guard := some (15, false) }) (v := ?v21_1) rfl (by kernel_rfl) (by kernel_rfl) (by kernel_rfl) (fun _ _ _ h => h) (Or.inl ⟨by rfl, ?y21_1⟩) (by assumption) ?r21_1
            case y21_1 => (intro w hSw; (try dsimp only at hSw); go_simp; all_goals (with_reducible rfl))
            try simp only [Act.put, List.setIfInBounds_toArray, List.set_cons_zero, List.set_cons_succ]
            refine wpAnyH_ready (rs := [22]) (by kernel_rfl) (by simp) ?_
            refine AllReadyH.cons (o := { dst := some 85, op := Op.call { callee := Callee.value (Operand.func 27), args := #[Operand.tmp 79, Operand.tmp 83, Operand.tmp 84], argTypes := #[26, 3, 3] }, type := 4, pos := "laws.go:631", after := #[{ on := 16, ground := Ground.data }, { on := 20, ground := Ground.data }, { on := 21, ground := Ground.data }, { on := 15, ground := Ground.chain }, { on := 15, ground := Ground.guard }], guard := some (15, false) }) rfl (fun K hK => ?_) AllReadyH.nil
            go_simp
            go_at_call 27
            refine (implBelow_yes _ _ xs (m : Int) (k : Int) (HT0.out.grow (gby_drew HTT18_.out)) HLx.out HBL.out).mono ?_
            rintro e wA ⟨rfl, gA⟩
            have mxj_ : wA.cell? _ = some _ := gA.cell xj_ (by simp)
            go_wp2_with fail
            clear hHeld
            refine hK.out _ _ ?s22_1 (fun hHeld => ?_)
            case s22_1 => exact mxj_
            clear hK K
            try simp only [Act.put, List.setIfInBounds_toArray, List.set_cons_zero, List.set_cons_succ]
            refine wpAnyH_take (i := 23) (oi := { dst := some 86, op := Op.unOp UnOp.not 4 (Operand.tmp 85), type := 4, pos := "laws.go:631", after := #[{ on := 22, ground := Ground.data }, { on := 15, ground := Ground.guard }], guard := some (15, false) }) (v := ?v23_1) rfl (by kernel_rfl) (by kernel_rfl) (by kernel_rfl) (fun _ _ _ h => h) (Or.inl ⟨by rfl, ?y23_1⟩) (by assumption) ?r23_1
            case y23_1 => (intro w hSw; (try dsimp only at hSw); go_simp; all_goals (with_reducible rfl))
            try simp only [Act.put, List.setIfInBounds_toArray, List.set_cons_zero, List.set_cons_succ]
            refine wpAnyH_take (i := 24) (oi := { dst := some 87, op := Op.pick (Operand.tmp 78) (Operand.const (Value.bool true)) (Operand.tmp 86), type := 4, pos := "laws.go:631", after := #[{ on := 15, ground := Ground.data }, { on := 23, ground := Ground.data }], guard := none }) (v := ?v24_1) rfl (by kernel_rfl) (by kernel_rfl) (by kernel_rfl) (fun _ _ _ h => h) (Or.inl ⟨by rfl, ?y24_1⟩) (by assumption) ?r24_1
            case y24_1 => (intro w hSw; (try dsimp only at hSw); go_simp; all_goals (with_reducible rfl))
            try simp only [Act.put, List.setIfInBounds_toArray, List.set_cons_zero, List.set_cons_succ]
            refine wpAnyH_take (i := 25) (oi := { dst := some 88, op := Op.move (Operand.tmp 87), type := 4, pos := "laws.go:631", after := #[{ on := 24, ground := Ground.data }, { on := 22, ground := Ground.chain }], guard := none }) (v := ?v25_1) rfl (by kernel_rfl) (by kernel_rfl) (by kernel_rfl) (fun _ _ _ h => h) (Or.inl ⟨by rfl, ?y25_1⟩) (by assumption) ?r25_1
            case y25_1 => (intro w hSw; (try dsimp only at hSw); go_simp; all_goals (with_reducible rfl))
            try simp only [Act.put, List.setIfInBounds_toArray, List.set_cons_zero, List.set_cons_succ]
            refine wpAnyH_take (i := 26) (oi := { dst := some 89, op := Op.move (Operand.tmp 6), type := 3, pos := "laws.go:631", after := #[{ on := 25, ground := Ground.guard }], guard := some (25, false) }) (v := ?v26_1) rfl (by kernel_rfl) (by kernel_rfl) (by kernel_rfl) (fun _ _ _ h => h) (Or.inl ⟨by rfl, ?y26_1⟩) (by assumption) ?r26_1
            case y26_1 => (intro w hSw; (try dsimp only at hSw); go_simp; all_goals (with_reducible rfl))
            try simp only [Act.put, List.setIfInBounds_toArray, List.set_cons_zero, List.set_cons_succ]
            refine wpAnyH_take (i := 27) (oi := { dst := some 90, op := Op.binOp BinOp.gtr 3 (Operand.tmp 89) (Operand.const (Value.int IntKind.i64 0)) 3, type := 4, pos := "laws.go:631", after := #[{ on := 26, ground := Ground.data }, { on := 25, ground := Ground.guard }], guard := some (25, false) }) (v := ?v27_1) rfl (by kernel_rfl) (by kernel_rfl) (by kernel_rfl) (fun _ _ _ h => h) (Or.inl ⟨by rfl, ?y27_1⟩) (by assumption) ?r27_1
            case y27_1 => (intro w hSw; (try dsimp only at hSw); go_simp; all_goals (with_reducible rfl))
            try simp only [Act.put, List.setIfInBounds_toArray, List.set_cons_zero, List.set_cons_succ]
            refine wpAnyH_take (i := 28) (oi := { dst := some 91, op := Op.move (Operand.tmp 90), type := 4, pos := "laws.go:631", after := #[{ on := 27, ground := Ground.data }, { on := 25, ground := Ground.chain }, { on := 25, ground := Ground.guard }], guard := some (25, false) }) (v := ?v28_1) rfl (by kernel_rfl) (by kernel_rfl) (by kernel_rfl) (fun _ _ _ h => h) (Or.inl ⟨by rfl, ?y28_1⟩) (by assumption) ?r28_1
            case y28_1 => (intro w hSw; (try dsimp only at hSw); go_simp; all_goals (with_reducible rfl))
            try simp only [Act.put, List.setIfInBounds_toArray, List.set_cons_zero, List.set_cons_succ]
            refine wpAnyH_take (i := 29) (oi := { dst := some 92, op := Op.move (Operand.tmp 3), type := 26, pos := "laws.go:631", after := #[{ on := 28, ground := Ground.guard }], guard := some (28, true) }) (v := undef) rfl (by kernel_rfl) (by kernel_rfl) (by kernel_rfl) (fun _ _ _ h => h) (Or.inr ⟨by rfl, rfl⟩) (by assumption) ?r29_1
            try simp only [Act.put, List.setIfInBounds_toArray, List.set_cons_zero, List.set_cons_succ]
            refine wpAnyH_take (i := 30) (oi := { dst := some 93, op := Op.move (Operand.tmp 5), type := 24, pos := "laws.go:631", after := #[{ on := 28, ground := Ground.guard }], guard := some (28, true) }) (v := undef) rfl (by kernel_rfl) (by kernel_rfl) (by kernel_rfl) (fun _ _ _ h => h) (Or.inr ⟨by rfl, rfl⟩) (by assumption) ?r30_1
            try simp only [Act.put, List.setIfInBounds_toArray, List.set_cons_zero, List.set_cons_succ]
            refine wpAnyH_take (i := 31) (oi := { dst := some 94, op := Op.move (Operand.tmp 6), type := 3, pos := "laws.go:631", after := #[{ on := 28, ground := Ground.guard }], guard := some (28, true) }) (v := undef) rfl (by kernel_rfl) (by kernel_rfl) (by kernel_rfl) (fun _ _ _ h => h) (Or.inr ⟨by rfl, rfl⟩) (by assumption) ?r31_1
            try simp only [Act.put, List.setIfInBounds_toArray, List.set_cons_zero, List.set_cons_succ]
            refine wpAnyH_take (i := 32) (oi := { dst := some 95, op := Op.indexAddr 24 (Operand.tmp 93) (Operand.tmp 94), type := 0, pos := "laws.go:631", after := #[{ on := 30, ground := Ground.data }, { on := 31, ground := Ground.data }, { on := 28, ground := Ground.guard }], guard := some (28, true) }) (v := undef) rfl (by kernel_rfl) (by kernel_rfl) (by kernel_rfl) (fun _ _ _ h => h) (Or.inr ⟨by rfl, rfl⟩) (by assumption) ?r32_1
            try simp only [Act.put, List.setIfInBounds_toArray, List.set_cons_zero, List.set_cons_succ]
            refine wpAnyH_take (i := 33) (oi := { dst := some 96, op := Op.load 3 (Operand.tmp 95), type := 3, pos := "laws.go:631", after := #[{ on := 32, ground := Ground.data }, { on := 28, ground := Ground.guard }], guard := some (28, true) }) (v := undef) rfl (by kernel_rfl) (by kernel_rfl) (by kernel_rfl) (fun _ _ _ h => h) (Or.inr ⟨by rfl, rfl⟩) (by assumption) ?r33_1
            try simp only [Act.put, List.setIfInBounds_toArray, List.set_cons_zero, List.set_cons_succ]
            refine wpAnyH_take (i := 34) (oi := { dst := some 97, op := Op.indexAddr 26 (Operand.tmp 92) (Operand.tmp 96), type := 0, pos := "laws.go:631", after := #[{ on := 29, ground := Ground.data }, { on := 33, ground := Ground.data }, { on := 28, ground := Ground.guard }], guard := some (28, true) }) (v := undef) rfl (by kernel_rfl) (by kernel_rfl) (by kernel_rfl) (fun _ _ _ h => h) (Or.inr ⟨by rfl, rfl⟩) (by assumption) ?r34_1
            try simp only [Act.put, List.setIfInBounds_toArray, List.set_cons_zero, List.set_cons_succ]
            refine wpAnyH_take (i := 35) (oi := { dst := some 98, op := Op.fieldAddr 41 (Operand.tmp 97) 1, type := 0, pos := "laws.go:631", after := #[{ on := 34, ground := Ground.data }, { on := 28, ground := Ground.guard }], guard := some (28, true) }) (v := undef) rfl (by kernel_rfl) (by kernel_rfl) (by kernel_rfl) (fun _ _ _ h => h) (Or.inr ⟨by rfl, rfl⟩) (by assumption) ?r35_1
            try simp only [Act.put, List.setIfInBounds_toArray, List.set_cons_zero, List.set_cons_succ]
            refine wpAnyH_take (i := 36) (oi := { dst := some 99, op := Op.load 3 (Operand.tmp 98), type := 3, pos := "laws.go:631", after := #[{ on := 35, ground := Ground.data }, { on := 28, ground := Ground.guard }], guard := some (28, true) }) (v := undef) rfl (by kernel_rfl) (by kernel_rfl) (by kernel_rfl) (fun _ _ _ h => h) (Or.inr ⟨by rfl, rfl⟩) (by assumption) ?r36_1
            try simp only [Act.put, List.setIfInBounds_toArray, List.set_cons_zero, List.set_cons_succ]
            refine wpAnyH_take (i := 37) (oi := { dst := some 100, op := Op.move (Operand.tmp 3), type := 26, pos := "laws.go:631", after := #[{ on := 28, ground := Ground.guard }], guard := some (28, true) }) (v := undef) rfl (by kernel_rfl) (by kernel_rfl) (by kernel_rfl) (fun _ _ _ h => h) (Or.inr ⟨by rfl, rfl⟩) (by assumption) ?r37_1
            try simp only [Act.put, List.setIfInBounds_toArray, List.set_cons_zero, List.set_cons_succ]
            refine wpAnyH_take (i := 38) (oi := { dst := some 101, op := Op.move (Operand.tmp 5), type := 24, pos := "laws.go:631", after := #[{ on := 28, ground := Ground.guard }], guard := some (28, true) }) (v := undef) rfl (by kernel_rfl) (by kernel_rfl) (by kernel_rfl) (fun _ _ _ h => h) (Or.inr ⟨by rfl, rfl⟩) (by assumption) ?r38_1
            try simp only [Act.put, List.setIfInBounds_toArray, List.set_cons_zero, List.set_cons_succ]
            refine wpAnyH_take (i := 39) (oi := { dst := some 102, op := Op.move (Operand.tmp 6), type := 3, pos := "laws.go:631", after := #[{ on := 28, ground := Ground.guard }], guard := some (28, true) }) (v := undef) rfl (by kernel_rfl) (by kernel_rfl) (by kernel_rfl) (fun _ _ _ h => h) (Or.inr ⟨by rfl, rfl⟩) (by assumption) ?r39_1
            try simp only [Act.put, List.setIfInBounds_toArray, List.set_cons_zero, List.set_cons_succ]
            refine wpAnyH_take (i := 40) (oi := { dst := some 103, op := Op.binOp BinOp.sub 3 (Operand.tmp 102) (Operand.const (Value.int IntKind.i64 1)) 3, type := 3, pos := "laws.go:631", after := #[{ on := 39, ground := Ground.data }, { on := 28, ground := Ground.guard }], guard := some (28, true) }) (v := undef) rfl (by kernel_rfl) (by kernel_rfl) (by kernel_rfl) (fun _ _ _ h => h) (Or.inr ⟨by rfl, rfl⟩) (by assumption) ?r40_1
            try simp only [Act.put, List.setIfInBounds_toArray, List.set_cons_zero, List.set_cons_succ]
            refine wpAnyH_take (i := 41) (oi := { dst := some 104, op := Op.indexAddr 24 (Operand.tmp 101) (Operand.tmp 103), type := 0, pos := "laws.go:631", after := #[{ on := 38, ground := Ground.data }, { on := 40, ground := Ground.data }, { on := 28, ground := Ground.guard }], guard := some (28, true) }) (v := undef) rfl (by kernel_rfl) (by kernel_rfl) (by kernel_rfl) (fun _ _ _ h => h) (Or.inr ⟨by rfl, rfl⟩) (by assumption) ?r41_1
            try simp only [Act.put, List.setIfInBounds_toArray, List.set_cons_zero, List.set_cons_succ]
            refine wpAnyH_take (i := 42) (oi := { dst := some 105, op := Op.load 3 (Operand.tmp 104), type := 3, pos := "laws.go:631", after := #[{ on := 41, ground := Ground.data }, { on := 28, ground := Ground.guard }], guard := some (28, true) }) (v := undef) rfl (by kernel_rfl) (by kernel_rfl) (by kernel_rfl) (fun _ _ _ h => h) (Or.inr ⟨by rfl, rfl⟩) (by assumption) ?r42_1
            try simp only [Act.put, List.setIfInBounds_toArray, List.set_cons_zero, List.set_cons_succ]
            refine wpAnyH_take (i := 43) (oi := { dst := some 106, op := Op.indexAddr 26 (Operand.tmp 100) (Operand.tmp 105), type := 0, pos := "laws.go:631", after := #[{ on := 37, ground := Ground.data }, { on := 42, ground := Ground.data }, { on := 28, ground := Ground.guard }], guard := some (28, true) }) (v := undef) rfl (by kernel_rfl) (by kernel_rfl) (by kernel_rfl) (fun _ _ _ h => h) (Or.inr ⟨by rfl, rfl⟩) (by assumption) ?r43_1
            try simp only [Act.put, List.setIfInBounds_toArray, List.set_cons_zero, List.set_cons_succ]
            refine wpAnyH_take (i := 44) (oi := { dst := some 107, op := Op.fieldAddr 41 (Operand.tmp 106) 1, type := 0, pos := "laws.go:631", after := #[{ on := 43, ground := Ground.data }, { on := 28, ground := Ground.guard }], guard := some (28, true) }) (v := undef) rfl (by kernel_rfl) (by kernel_rfl) (by kernel_rfl) (fun _ _ _ h => h) (Or.inr ⟨by rfl, rfl⟩) (by assumption) ?r44_1
            try simp only [Act.put, List.setIfInBounds_toArray, List.set_cons_zero, List.set_cons_succ]
            refine wpAnyH_take (i := 45) (oi := { dst := some 108, op := Op.load 3 (Operand.tmp 107), type := 3, pos := "laws.go:631", after := #[{ on := 44, ground := Ground.data }, { on := 28, ground := Ground.guard }], guard := some (28, true) }) (v := undef) rfl (by kernel_rfl) (by kernel_rfl) (by kernel_rfl) (fun _ _ _ h => h) (Or.inr ⟨by rfl, rfl⟩) (by assumption) ?r45_1
            try simp only [Act.put, List.setIfInBounds_toArray, List.set_cons_zero, List.set_cons_succ]
            refine wpAnyH_take (i := 46) (oi := { dst := some 109, op := Op.binOp BinOp.leq 3 (Operand.tmp 99) (Operand.tmp 108) 3, type := 4, pos := "laws.go:631", after := #[{ on := 36, ground := Ground.data }, { on := 45, ground := Ground.data }, { on := 28, ground := Ground.guard }], guard := some (28, true) }) (v := undef) rfl (by kernel_rfl) (by kernel_rfl) (by kernel_rfl) (fun _ _ _ h => h) (Or.inr ⟨by rfl, rfl⟩) (by assumption) ?r46_1
            try simp only [Act.put, List.setIfInBounds_toArray, List.set_cons_zero, List.set_cons_succ]
            refine wpAnyH_take (i := 47) (oi := { dst := some 110, op := Op.pick (Operand.tmp 91) (Operand.tmp 109) (Operand.const (Value.bool false)), type := 4, pos := "laws.go:631", after := #[{ on := 28, ground := Ground.data }, { on := 46, ground := Ground.data }, { on := 25, ground := Ground.guard }], guard := some (25, false) }) (v := ?v47_1) rfl (by kernel_rfl) (by kernel_rfl) (by kernel_rfl) (fun _ _ _ h => h) (Or.inl ⟨by rfl, ?y47_1⟩) (by assumption) ?r47_1
            case y47_1 => (intro w hSw; (try dsimp only at hSw); go_simp; all_goals (with_reducible rfl))
            try simp only [Act.put, List.setIfInBounds_toArray, List.set_cons_zero, List.set_cons_succ]
            refine wpAnyH_take (i := 48) (oi := { dst := some 111, op := Op.pick (Operand.tmp 88) (Operand.const (Value.bool true)) (Operand.tmp 110), type := 4, pos := "laws.go:631", after := #[{ on := 25, ground := Ground.data }, { on := 47, ground := Ground.data }], guard := none }) (v := ?v48_1) rfl (by kernel_rfl) (by kernel_rfl) (by kernel_rfl) (fun _ _ _ h => h) (Or.inl ⟨by rfl, ?y48_1⟩) (by assumption) ?r48_1
            case y48_1 => (intro w hSw; (try dsimp only at hSw); go_simp; all_goals (with_reducible rfl))
            try simp only [Act.put, List.setIfInBounds_toArray, List.set_cons_zero, List.set_cons_succ]
            refine wpAnyH_done (by kernel_rfl) ?_ _
            have g : (wi).grownBy wA none := gby_trans (gby_drew (gby_refl _ _)) gA
            clear gA mxj_
            have G21_ := Lib.hid (show (W).grownBy (wA) none from gby_trans G17_.out g)
            have HTT22_ := Lib.hid (show (w2).grownBy (wA) none from gby_trans HTT18_.out g)
            clear HTT18_
            have HTB23_ := Lib.hid (show (w2).grownBy (wA) none from gby_trans HTB19_.out g)
            clear HTB19_
            have HTX24_ := Lib.hid (show (w5).grownBy (wA) none from gby_trans HTX20_.out g)
            clear HTX20_
            have HTC25_ := Lib.hid (show (w5).grownBy (wA) none from gby_trans HTC_.out g)
            clear HTC_
            clear g
            go_wp2
            refine ⟨⟨j + 1, by go_num, by omega, by repeat (first | exact HTC25_.out | with_reducible refine gby_drewN ?_ _)⟩, by simp [intOf]; omega⟩
          have hgt : (0 : Int) < (j : Int) := by omega
          have hgd : decide ((0 : Int) < (j : Int)) = true := decide_eq_true hgt
          have hgd2 : decide (0 < j) = true := decide_eq_true (by omega)
          obtain ⟨i, hi⟩ : ∃ i, i = j - 1 := ⟨_, rfl⟩
          obtain ⟨p, hp, hkp, hpx, _⟩ := HF.out.each i (by rw [HNX.out]; omega)
          have hpn : p < n0 := by rw [HE.out]; exact hpx
          have hso := HF.out.sorted i p m (by rw [HNX.out]; omega) hp (by rw [show i + 1 = j by omega]; exact HM.out)
          have xj_ := (HTX20_.out).cell (HCX.out j (by rw [HNX.out]; exact hlj)) (by simp)
          rw [HM.out] at xj_
          have xi_ := (HTX20_.out).cell (HCX.out i (by rw [HNX.out]; omega)) (by simp)
          rw [hp] at xi_
          have hjw : IntKind.i64.wrap ((j : Int) - 1) = (i : Int) := by rw [show (j : Int) - 1 = (i : Int) by omega]; exact IntWalk.i64_in _ (by omega)
          have hjw2 : (j : Int) - 1 = (i : Int) := by omega
          have hjw3 : IntKind.i64.wrap (i : Int) = (i : Int) := IntWalk.i64_in _ (by omega)
          have hi0 : (0 : Int) ≤ (i : Int) := by omega
          have hti : ((i : Int)).toNat = i := by omega
          have hii : (i : Int) < (nX : Int) := by omega
          have hp0 : (0 : Int) ≤ (p : Int) := by omega
          have hpi : (p : Int) < (n0 : Int) := by omega
          have htp : ((p : Int)).toNat = p := by omega
          obtain ⟨fm, hfm⟩ : ∃ f, f = (nd xs m).f1 := ⟨_, rfl⟩
          obtain ⟨fp, hfp⟩ : ∃ f, f = (nd xs p).f1 := ⟨_, rfl⟩
          have nm_ := (HTT18_.out).cell (HNC.out m hmn).2.1 (by simp)
          have np_ := (HTT18_.out).cell (HNC.out p hpn).2.1 (by simp)
          rw [← hfm] at nm_ hso
          rw [← hfp] at np_ hso
          clear hfm hfp hi hp hpx
          have hgo : ¬ fm ≤ fp := by omega
          have hgo2 : decide (fm ≤ fp) = false := decide_eq_false hgo
          go_wp2_with fail
          go_region_held3 (fun w' => w'.cell? ⟨bX, oX + j, none⟩ = some (.int .i64 (m : Int)) ∧ w'.cell? ⟨bX, oX + i, none⟩ = some (.int .i64 (p : Int)) ∧ w'.cell? ⟨tb, to + m * 3 + 1, none⟩ = some (.int .i64 fm) ∧ w'.cell? ⟨tb, to + p * 3 + 1, none⟩ = some (.int .i64 fp))
            (first | exact ⟨xj_, xi_, nm_, np_⟩ | exact ⟨mxj_, mxi_, mnm_, mnp_⟩ | fail)
            (first
              | (go_at_call 27; refine (implBelow_yes _ _ xs (m : Int) (k : Int) (HT0.out.grow (gby_drew HTT18_.out)) HLx.out HBL.out).mono ?_; rintro e wA ⟨rfl, gA⟩; have mxj_ : wA.cell? _ = some _ := gA.cell xj_ (by simp); have mxi_ : wA.cell? _ = some _ := gA.cell xi_ (by simp); have mnm_ : wA.cell? _ = some _ := gA.cell nm_ (by simp); have mnp_ : wA.cell? _ = some _ := gA.cell np_ (by simp))
              | fail)
          all_goals
            have g : (wi).grownBy wA none := gby_trans (gby_drew (gby_refl _ _)) gA
            clear gA mxj_ mxi_ mnm_ mnp_
          have G21_ := Lib.hid (show (W).grownBy (wA) none from gby_trans G17_.out g)
          have HTT22_ := Lib.hid (show (w2).grownBy (wA) none from gby_trans HTT18_.out g)
          clear HTT18_
          have HTB23_ := Lib.hid (show (w2).grownBy (wA) none from gby_trans HTB19_.out g)
          clear HTB19_
          have HTX24_ := Lib.hid (show (w5).grownBy (wA) none from gby_trans HTX20_.out g)
          clear HTX20_
          have HTC25_ := Lib.hid (show (w5).grownBy (wA) none from gby_trans HTC_.out g)
          clear HTC_
          clear g
          go_wp2
          refine ⟨⟨j + 1, by go_num, by omega, by repeat (first | exact HTC25_.out | with_reducible refine gby_drewN ?_ _)⟩, by simp [intOf]; omega⟩
      have hgt : (0 : Int) < (k : Int) := by omega
      have hgd : decide ((0 : Int) < (k : Int)) = true := decide_eq_true hgt
      have hgd2 : decide (0 < k) = true := decide_eq_true (by omega)
      have hk1 : 1 ≤ k := by omega
      have HNB := Lib.hid (par_not_below HTO.out hk1 HK.out)
      have HKP := Lib.hid (kid_of_par HTO.out hk1 HK.out)
      have hpl := par_lt HTO.out hk1 HK.out
      have hpe := par_eq HTO.out hk1 HK.out
      obtain ⟨p, hpp⟩ : ∃ p, p = par xs k := ⟨_, rfl⟩
      rw [← hpp] at HNB HKP hpl hpe
      have HPP := Lib.hid hpp
      clear hpp
      have nk_ := (HTT10_.out).cell (HNC.out k hlt).1 (by simp)
      rw [hpe] at nk_
      clear hpe
      have hp0 : (0 : Int) ≤ (p : Int) := by omega
      obtain ⟨Z, hZ⟩ : ∃ Z, Z = nums (kidsN xs (p : Int) 4) := ⟨_, rfl⟩
      have HZ := Lib.hid hZ
      rw [← hZ] at HKP
      clear hZ
      go_wp2_with fail
      go_at_call 18
      refine ((show Calls _ _ _ _ (ResIChildrenOf Z _) from by rw [HZ.out]; exact implKids_yes _ _ xs (p : Int) (HT0.out.grow HTT10_.out) HLx.out ⟨HTO.out, by omega, by have := HE.out; omega⟩)).mono ?_
      rintro e w5 ⟨vZ, rfl, o, g⟩
      have szw5 := g.size
      have G12_ := Lib.hid (show (W).grownBy (w5) none from gby_trans G9_.out g)
      have HTT13_ := Lib.hid (show (w2).grownBy (w5) none from gby_trans HTT10_.out g)
      clear HTT10_
      have HTB14_ := Lib.hid (show (w2).grownBy (w5) none from gby_trans HTB11_.out g)
      clear HTB11_
      clear g
      obtain ⟨pZ, cZ, rfl, hcZ, hiZ⟩ := rdI1_in (OwU.rd o)
      have HIZ := Lib.hid hiZ
      have HRZ := Lib.hid (OwU.rd o)
      clear hiZ hcZ o
      have HTZ15_ := Lib.hid (gby_refl (w5) none)
      have MG16_ := Lib.hid (show (W).grownBy (w5) none from G12_.out)
      go_wp2_with fail
      go_at_call 34
      refine ((hasL_any _ _ Z (k : Int) HRZ.out (by rw [HZ.out, nums_len]; have := kidsN_len xs (p : Int) 4; have := HE.out; omega)).mono (bpost_yes HKP.out)).mono ?_
      rintro e w6 ⟨rfl, g⟩
      have szw6 := g.size
      try simp only [World.size_alloc] at szw6
      try simp only [World.size_setCell] at szw6
      have G17_ := Lib.hid (show (W).grownBy (w6) none from gby_trans G12_.out g)
      have HTT18_ := Lib.hid (show (w2).grownBy (w6) none from gby_trans HTT13_.out g)
      clear HTT13_
      have HTB19_ := Lib.hid (show (w2).grownBy (w6) none from gby_trans HTB14_.out g)
      clear HTB14_
      have HTZ20_ := Lib.hid (show (w5).grownBy (w6) none from gby_trans HTZ15_.out g)
      clear HTZ15_
      clear g
      have nk_ := (HTT18_.out).cell (HNC.out k hlt).1 (by simp)
      rw [par_eq HTO.out hk1 HK.out, ← HPP.out] at nk_
      go_wp2_with fail
      go_at_call 27
      refine (implBelow_no _ _ xs (p : Int) (k : Int) (HT0.out.grow HTT18_.out) HLx.out HNB.out).mono ?_
      rintro e w7 ⟨rfl, g⟩
      have szw7 := g.size
      try simp only [World.size_alloc] at szw7
      try simp only [World.size_setCell] at szw7
      have G21_ := Lib.hid (show (W).grownBy (w7) none from gby_trans G17_.out g)
      have HTT22_ := Lib.hid (show (w2).grownBy (w7) none from gby_trans HTT18_.out g)
      clear HTT18_
      have HTB23_ := Lib.hid (show (w2).grownBy (w7) none from gby_trans HTB19_.out g)
      clear HTB19_
      have HTZ24_ := Lib.hid (show (w5).grownBy (w7) none from gby_trans HTZ20_.out g)
      clear HTZ20_
      clear g
      obtain ⟨X, hX⟩ : ∃ X, X = nums (kidsN xs (k : Int) 4) := ⟨_, rfl⟩
      have HX := Lib.hid hX
      clear hX
      go_wp2_with fail
      go_at_call 18
      refine ((show Calls _ _ _ _ (ResIChildrenOf X _) from by rw [HX.out]; exact implKids_yes _ _ xs (k : Int) (HT0.out.grow HTT22_.out) HLx.out ⟨HTO.out, by omega, by have := HE.out; omega⟩)).mono ?_
      rintro e w8 ⟨vX, rfl, o, g⟩
      have szw8 := g.size
      have G25_ := Lib.hid (show (W).grownBy (w8) none from gby_trans G21_.out g)
      have HTT26_ := Lib.hid (show (w2).grownBy (w8) none from gby_trans HTT22_.out g)
      clear HTT22_
      have HTB27_ := Lib.hid (show (w2).grownBy (w8) none from gby_trans HTB23_.out g)
      clear HTB23_
      have HTZ28_ := Lib.hid (show (w5).grownBy (w8) none from gby_trans HTZ24_.out g)
      clear HTZ24_
      clear g
      obtain ⟨pX, cX, rfl, hcX, hiX⟩ := rdI1_in (OwU.rd o)
      have HIX := Lib.hid hiX
      have HRX := Lib.hid (OwU.rd o)
      clear hiX hcX o
      have HTX29_ := Lib.hid (gby_refl (w8) none)
      have MG30_ := Lib.hid (show (W).grownBy (w8) none from G25_.out)
      have HF := Lib.hid (show KidFacts xs k X by rw [HX.out]; exact kidFacts HTO.out)
      have hX48 : X.length ≤ 48 := by rw [HX.out, nums_len]; have := kidsN_len xs (k : Int) 4; have := HE.out; omega
      generalize hnX : X.length = nX at *
      have HNX := Lib.hid hnX
      clear hnX
      go_wp2
      go_loopw [6] (fun i wr => ∃ j : Nat, i = .int .i64 (j : Int) ∧ j ≤ nX ∧ (w8).grownBy wr none) (fun i _ => nX - (intOf i).toNat)
      case atStart => exact ⟨0, rfl, by omega, gby_refl _ _⟩
      case round =>
        obtain ⟨wi, hwo_⟩ : ∃ w_, w_ = wr := ⟨_, rfl⟩
        subst hwo_
        obtain ⟨j, rfl, hj, hg⟩ := hrel
        have szrwi := hg.size
        try simp only [World.size_alloc] at szrwi
        try simp only [World.size_setCell] at szrwi
        have szr_ := szrwi
        have G31_ := Lib.hid (show (W).grownBy (wi) none from gby_trans G25_.out hg)
        have HTT32_ := Lib.hid (show (w2).grownBy (wi) none from gby_trans HTT26_.out hg)
        clear HTT26_
        have HTB33_ := Lib.hid (show (w2).grownBy (wi) none from gby_trans HTB27_.out hg)
        clear HTB27_
        have HTZ34_ := Lib.hid (show (w5).grownBy (wi) none from gby_trans HTZ28_.out hg)
        clear HTZ28_
        have HTX35_ := Lib.hid (show (w8).grownBy (wi) none from gby_trans HTX29_.out hg)
        clear HTX29_
        have HTC_ := Lib.hid hg
        clear hg
        have hj0 : (0 : Int) ≤ (j : Int) := by omega
        have htj : ((j : Int)).toNat = j := by omega
        by_cases hlj : j < nX
        rotate_left
        · obtain rfl : j = nX := by omega
          have hji : ¬ (j : Int) < (j : Int) := by omega
          go_wp2
          refine ⟨⟨k + 1, by go_num, by omega, by repeat (first | exact HTB33_.out | with_reducible refine gby_drewN ?_ _)⟩, by simp [intOf]; omega⟩
        have hji : (j : Int) < (nX : Int) := by omega
        obtain ⟨bX, oX, rfl, hcX⟩ := HIX.out.resolve_left (by have := HNX.out; omega)
        obtain ⟨m, hm, hkm, hmx, hbl⟩ := HF.out.each j (by rw [HNX.out]; exact hlj)
        have HBL := Lib.hid hbl
        have HM := Lib.hid hm
        have hmn : m < n0 := by rw [HE.out]; exact hmx
        have HCX := Lib.hid hcX
        have xj_ := (HTX35_.out).cell (hcX j (by rw [HNX.out]; exact hlj)) (by simp)
        rw [hm] at xj_
        clear hbl hm hmx hcX
        have hkm1 : ¬ (m : Int) ≤ (k : Int) := by omega
        have hkm2 : ¬ (m : Int) ≥ (n0 : Int) := by omega
        have hkm3 : ¬ (n0 : Int) ≤ (m : Int) := by omega
        have hd1 : decide ((m : Int) ≤ (k : Int)) = false := decide_eq_false hkm1
        have hd1b : decide (m ≤ k) = false := decide_eq_false (by omega)
        have hd2 : decide ((n0 : Int) ≤ (m : Int)) = false := decide_eq_false hkm3
        have hd2b : decide (n0 ≤ m) = false := decide_eq_false (by omega)
        have hm0 : (0 : Int) ≤ (m : Int) := by omega
        have hmi : (m : Int) < (n0 : Int) := by omega
        have htm : ((m : Int)).toNat = m := by omega
        by_cases j0 : j = 0
        · have hgt : ¬ (0 : Int) < (j : Int) := by omega
          have hgd : decide ((0 : Int) < (j : Int)) = false := decide_eq_false hgt
          have hgd2 : decide (0 < j) = false := decide_eq_false (by omega)
          clear j0
          go_wp2_with fail
          refine wp_region_held_drew (S := fun w' => w'.cell? ⟨bX, oX + j, none⟩ = some (.int .i64 (m : Int))) (by kernel_rfl) (by (try dsimp only); exact xj_) (fun hHeld => ?_)
          refine wpAnyH_take (i := 0) (oi := { dst := some 63, op := Op.move (Operand.tmp 5), type := 24, pos := "laws.go:631", after := #[], guard := none }) (v := ?v0_2) rfl (by kernel_rfl) (by kernel_rfl) (by kernel_rfl) (fun _ _ _ h => h) (Or.inl ⟨by rfl, ?y0_2⟩) (by assumption) ?r0_2
          case y0_2 => (intro w hSw; (try dsimp only at hSw); go_simp; all_goals (with_reducible rfl))
          try simp only [Act.put, List.setIfInBounds_toArray, List.set_cons_zero, List.set_cons_succ]
          refine wpAnyH_take (i := 1) (oi := { dst := some 64, op := Op.move (Operand.tmp 6), type := 3, pos := "laws.go:631", after := #[], guard := none }) (v := ?v1_2) rfl (by kernel_rfl) (by kernel_rfl) (by kernel_rfl) (fun _ _ _ h => h) (Or.inl ⟨by rfl, ?y1_2⟩) (by assumption) ?r1_2
          case y1_2 => (intro w hSw; (try dsimp only at hSw); go_simp; all_goals (with_reducible rfl))
          try simp only [Act.put, List.setIfInBounds_toArray, List.set_cons_zero, List.set_cons_succ]
          refine wpAnyH_take (i := 2) (oi := { dst := some 65, op := Op.indexAddr 24 (Operand.tmp 63) (Operand.tmp 64), type := 0, pos := "laws.go:631", after := #[{ on := 0, ground := Ground.data }, { on := 1, ground := Ground.data }], guard := none }) (v := ?v2_2) rfl (by kernel_rfl) (by kernel_rfl) (by kernel_rfl) (fun _ _ _ h => h) (Or.inl ⟨by rfl, ?y2_2⟩) (by assumption) ?r2_2
          case y2_2 => (intro w hSw; (try dsimp only at hSw); go_simp; all_goals (with_reducible rfl))
          try simp only [Act.put, List.setIfInBounds_toArray, List.set_cons_zero, List.set_cons_succ]
          refine wpAnyH_take (i := 3) (oi := { dst := some 66, op := Op.load 3 (Operand.tmp 65), type := 3, pos := "laws.go:631", after := #[{ on := 2, ground := Ground.data }], guard := none }) (v := ?v3_2) rfl (by kernel_rfl) (by kernel_rfl) (by kernel_rfl) (fun _ _ _ h => h) (Or.inl ⟨by rfl, ?y3_2⟩) (by assumption) ?r3_2
          case y3_2 => (intro w hSw; (try dsimp only at hSw); go_simp; all_goals (with_reducible rfl))
          try simp only [Act.put, List.setIfInBounds_toArray, List.set_cons_zero, List.set_cons_succ]
          refine wpAnyH_take (i := 4) (oi := { dst := some 67, op := Op.move (Operand.tmp 4), type := 3, pos := "laws.go:631", after := #[], guard := none }) (v := ?v4_2) rfl (by kernel_rfl) (by kernel_rfl) (by kernel_rfl) (fun _ _ _ h => h) (Or.inl ⟨by rfl, ?y4_2⟩) (by assumption) ?r4_2
          case y4_2 => (intro w hSw; (try dsimp only at hSw); go_simp; all_goals (with_reducible rfl))
          try simp only [Act.put, List.setIfInBounds_toArray, List.set_cons_zero, List.set_cons_succ]
          refine wpAnyH_take (i := 5) (oi := { dst := some 68, op := Op.binOp BinOp.leq 3 (Operand.tmp 66) (Operand.tmp 67) 3, type := 4, pos := "laws.go:631", after := #[{ on := 3, ground := Ground.data }, { on := 4, ground := Ground.data }], guard := none }) (v := ?v5_2) rfl (by kernel_rfl) (by kernel_rfl) (by kernel_rfl) (fun _ _ _ h => h) (Or.inl ⟨by rfl, ?y5_2⟩) (by assumption) ?r5_2
          case y5_2 => (intro w hSw; (try dsimp only at hSw); go_simp; all_goals (with_reducible rfl))
          try simp only [Act.put, List.setIfInBounds_toArray, List.set_cons_zero, List.set_cons_succ]
          refine wpAnyH_take (i := 6) (oi := { dst := some 69, op := Op.move (Operand.tmp 68), type := 4, pos := "laws.go:631", after := #[{ on := 5, ground := Ground.data }], guard := none }) (v := ?v6_2) rfl (by kernel_rfl) (by kernel_rfl) (by kernel_rfl) (fun _ _ _ h => h) (Or.inl ⟨by rfl, ?y6_2⟩) (by assumption) ?r6_2
          case y6_2 => (intro w hSw; (try dsimp only at hSw); go_simp; all_goals (with_reducible rfl))
          try simp only [Act.put, List.setIfInBounds_toArray, List.set_cons_zero, List.set_cons_succ]
          refine wpAnyH_take (i := 7) (oi := { dst := some 70, op := Op.move (Operand.tmp 5), type := 24, pos := "laws.go:631", after := #[{ on := 6, ground := Ground.guard }], guard := some (6, false) }) (v := ?v7_2) rfl (by kernel_rfl) (by kernel_rfl) (by kernel_rfl) (fun _ _ _ h => h) (Or.inl ⟨by rfl, ?y7_2⟩) (by assumption) ?r7_2
          case y7_2 => (intro w hSw; (try dsimp only at hSw); go_simp; all_goals (with_reducible rfl))
          try simp only [Act.put, List.setIfInBounds_toArray, List.set_cons_zero, List.set_cons_succ]
          refine wpAnyH_take (i := 8) (oi := { dst := some 71, op := Op.move (Operand.tmp 6), type := 3, pos := "laws.go:631", after := #[{ on := 6, ground := Ground.guard }], guard := some (6, false) }) (v := ?v8_2) rfl (by kernel_rfl) (by kernel_rfl) (by kernel_rfl) (fun _ _ _ h => h) (Or.inl ⟨by rfl, ?y8_2⟩) (by assumption) ?r8_2
          case y8_2 => (intro w hSw; (try dsimp only at hSw); go_simp; all_goals (with_reducible rfl))
          try simp only [Act.put, List.setIfInBounds_toArray, List.set_cons_zero, List.set_cons_succ]
          refine wpAnyH_take (i := 9) (oi := { dst := some 72, op := Op.indexAddr 24 (Operand.tmp 70) (Operand.tmp 71), type := 0, pos := "laws.go:631", after := #[{ on := 7, ground := Ground.data }, { on := 8, ground := Ground.data }, { on := 6, ground := Ground.guard }], guard := some (6, false) }) (v := ?v9_2) rfl (by kernel_rfl) (by kernel_rfl) (by kernel_rfl) (fun _ _ _ h => h) (Or.inl ⟨by rfl, ?y9_2⟩) (by assumption) ?r9_2
          case y9_2 => (intro w hSw; (try dsimp only at hSw); go_simp; all_goals (with_reducible rfl))
          try simp only [Act.put, List.setIfInBounds_toArray, List.set_cons_zero, List.set_cons_succ]
          refine wpAnyH_take (i := 10) (oi := { dst := some 73, op := Op.load 3 (Operand.tmp 72), type := 3, pos := "laws.go:631", after := #[{ on := 9, ground := Ground.data }, { on := 6, ground := Ground.guard }], guard := some (6, false) }) (v := ?v10_2) rfl (by kernel_rfl) (by kernel_rfl) (by kernel_rfl) (fun _ _ _ h => h) (Or.inl ⟨by rfl, ?y10_2⟩) (by assumption) ?r10_2
          case y10_2 => (intro w hSw; (try dsimp only at hSw); go_simp; all_goals (with_reducible rfl))
          try simp only [Act.put, List.setIfInBounds_toArray, List.set_cons_zero, List.set_cons_succ]
          refine wpAnyH_take (i := 11) (oi := { dst := some 74, op := Op.move (Operand.tmp 3), type := 26, pos := "laws.go:631", after := #[{ on := 6, ground := Ground.guard }], guard := some (6, false) }) (v := ?v11_2) rfl (by kernel_rfl) (by kernel_rfl) (by kernel_rfl) (fun _ _ _ h => h) (Or.inl ⟨by rfl, ?y11_2⟩) (by assumption) ?r11_2
          case y11_2 => (intro w hSw; (try dsimp only at hSw); go_simp; all_goals (with_reducible rfl))
          try simp only [Act.put, List.setIfInBounds_toArray, List.set_cons_zero, List.set_cons_succ]
          refine wpAnyH_take (i := 12) (oi := { dst := some 75, op := Op.call { callee := Callee.builtin Builtin.len, args := #[Operand.tmp 74], argTypes := #[26] }, type := 3, pos := "laws.go:631", after := #[{ on := 11, ground := Ground.data }, { on := 6, ground := Ground.guard }], guard := some (6, false) }) (v := ?v12_2) rfl (by kernel_rfl) (by kernel_rfl) (by kernel_rfl) (fun _ _ _ h => h) (Or.inl ⟨by rfl, ?y12_2⟩) (by assumption) ?r12_2
          case y12_2 => (intro w hSw; (try dsimp only at hSw); go_simp; all_goals (with_reducible rfl))
          try simp only [Act.put, List.setIfInBounds_toArray, List.set_cons_zero, List.set_cons_succ]
          refine wpAnyH_take (i := 13) (oi := { dst := some 76, op := Op.binOp BinOp.geq 3 (Operand.tmp 73) (Operand.tmp 75) 3, type := 4, pos := "laws.go:631", after := #[{ on := 10, ground := Ground.data }, { on := 12, ground := Ground.data }, { on := 6, ground := Ground.guard }], guard := some (6, false) }) (v := ?v13_2) rfl (by kernel_rfl) (by kernel_rfl) (by kernel_rfl) (fun _ _ _ h => h) (Or.inl ⟨by rfl, ?y13_2⟩) (by assumption) ?r13_2
          case y13_2 => (intro w hSw; (try dsimp only at hSw); go_simp; all_goals (with_reducible rfl))
          try simp only [Act.put, List.setIfInBounds_toArray, List.set_cons_zero, List.set_cons_succ]
          refine wpAnyH_take (i := 14) (oi := { dst := some 77, op := Op.pick (Operand.tmp 69) (Operand.const (Value.bool true)) (Operand.tmp 76), type := 4, pos := "laws.go:631", after := #[{ on := 6, ground := Ground.data }, { on := 13, ground := Ground.data }], guard := none }) (v := ?v14_2) rfl (by kernel_rfl) (by kernel_rfl) (by kernel_rfl) (fun _ _ _ h => h) (Or.inl ⟨by rfl, ?y14_2⟩) (by assumption) ?r14_2
          case y14_2 => (intro w hSw; (try dsimp only at hSw); go_simp; all_goals (with_reducible rfl))
          try simp only [Act.put, List.setIfInBounds_toArray, List.set_cons_zero, List.set_cons_succ]
          refine wpAnyH_take (i := 15) (oi := { dst := some 78, op := Op.move (Operand.tmp 77), type := 4, pos := "laws.go:631", after := #[{ on := 14, ground := Ground.data }, { on := 6, ground := Ground.chain }], guard := none }) (v := ?v15_2) rfl (by kernel_rfl) (by kernel_rfl) (by kernel_rfl) (fun _ _ _ h => h) (Or.inl ⟨by rfl, ?y15_2⟩) (by assumption) ?r15_2
          case y15_2 => (intro w hSw; (try dsimp only at hSw); go_simp; all_goals (with_reducible rfl))
          try simp only [Act.put, List.setIfInBounds_toArray, List.set_cons_zero, List.set_cons_succ]
          refine wpAnyH_take (i := 16) (oi := { dst := some 79, op := Op.move (Operand.tmp 3), type := 26, pos := "laws.go:631", after := #[{ on := 15, ground := Ground.guard }], guard := some (15, false) }) (v := ?v16_2) rfl (by kernel_rfl) (by kernel_rfl) (by kernel_rfl) (fun _ _ _ h => h) (Or.inl ⟨by rfl, ?y16_2⟩) (by assumption) ?r16_2
          case y16_2 => (intro w hSw; (try dsimp only at hSw); go_simp; all_goals (with_reducible rfl))
          try simp only [Act.put, List.setIfInBounds_toArray, List.set_cons_zero, List.set_cons_succ]
          refine wpAnyH_take (i := 17) (oi := { dst := some 80, op := Op.move (Operand.tmp 5), type := 24, pos := "laws.go:631", after := #[{ on := 15, ground := Ground.guard }], guard := some (15, false) }) (v := ?v17_2) rfl (by kernel_rfl) (by kernel_rfl) (by kernel_rfl) (fun _ _ _ h => h) (Or.inl ⟨by rfl, ?y17_2⟩) (by assumption) ?r17_2
          case y17_2 => (intro w hSw; (try dsimp only at hSw); go_simp; all_goals (with_reducible rfl))
          try simp only [Act.put, List.setIfInBounds_toArray, List.set_cons_zero, List.set_cons_succ]
          refine wpAnyH_take (i := 18) (oi := { dst := some 81, op := Op.move (Operand.tmp 6), type := 3, pos := "laws.go:631", after := #[{ on := 15, ground := Ground.guard }], guard := some (15, false) }) (v := ?v18_2) rfl (by kernel_rfl) (by kernel_rfl) (by kernel_rfl) (fun _ _ _ h => h) (Or.inl ⟨by rfl, ?y18_2⟩) (by assumption) ?r18_2
          case y18_2 => (intro w hSw; (try dsimp only at hSw); go_simp; all_goals (with_reducible rfl))
          try simp only [Act.put, List.setIfInBounds_toArray, List.set_cons_zero, List.set_cons_succ]
          refine wpAnyH_take (i := 19) (oi := { dst := some 82, op := Op.indexAddr 24 (Operand.tmp 80) (Operand.tmp 81), type := 0, pos := "laws.go:631", after := #[{ on := 17, ground := Ground.data }, { on := 18, ground := Ground.data }, { on := 15, ground := Ground.guard }], guard := some (15, false) }) (v := ?v19_2) rfl (by kernel_rfl) (by kernel_rfl) (by kernel_rfl) (fun _ _ _ h => h) (Or.inl ⟨by rfl, ?y19_2⟩) (by assumption) ?r19_2
          case y19_2 => (intro w hSw; (try dsimp only at hSw); go_simp; all_goals (with_reducible rfl))
          try simp only [Act.put, List.setIfInBounds_toArray, List.set_cons_zero, List.set_cons_succ]
          refine wpAnyH_take (i := 20) (oi := { dst := some 83, op := Op.load 3 (Operand.tmp 82), type := 3, pos := "laws.go:631", after := #[{ on := 19, ground := Ground.data }, { on := 15, ground := Ground.guard }], guard := some (15, false) }) (v := ?v20_2) rfl (by kernel_rfl) (by kernel_rfl) (by kernel_rfl) (fun _ _ _ h => h) (Or.inl ⟨by rfl, ?y20_2⟩) (by assumption) ?r20_2
          case y20_2 => (intro w hSw; (try dsimp only at hSw); go_simp; all_goals (with_reducible rfl))
          try simp only [Act.put, List.setIfInBounds_toArray, List.set_cons_zero, List.set_cons_succ]
          refine wpAnyH_take (i := 21) (oi := { dst := some 84, op := Op.move (Operand.tmp 4), type := 3, pos := "laws.go:631", after := #[{ on := 15, ground := Ground.guard }], guard := some (15, false) }) (v := ?v21_2) rfl (by kernel_rfl) (by kernel_rfl) (by kernel_rfl) (fun _ _ _ h => h) (Or.inl ⟨by rfl, ?y21_2⟩) (by assumption) ?r21_2
          case y21_2 => (intro w hSw; (try dsimp only at hSw); go_simp; all_goals (with_reducible rfl))
          try simp only [Act.put, List.setIfInBounds_toArray, List.set_cons_zero, List.set_cons_succ]
          refine wpAnyH_ready (rs := [22]) (by kernel_rfl) (by simp) ?_
          refine AllReadyH.cons (o := { dst := some 85, op := Op.call { callee := Callee.value (Operand.func 27), args := #[Operand.tmp 79, Operand.tmp 83, Operand.tmp 84], argTypes := #[26, 3, 3] }, type := 4, pos := "laws.go:631", after := #[{ on := 16, ground := Ground.data }, { on := 20, ground := Ground.data }, { on := 21, ground := Ground.data }, { on := 15, ground := Ground.chain }, { on := 15, ground := Ground.guard }], guard := some (15, false) }) rfl (fun K hK => ?_) AllReadyH.nil
          go_simp
          go_at_call 27
          refine (implBelow_yes _ _ xs (m : Int) (k : Int) (HT0.out.grow (gby_drew HTT32_.out)) HLx.out HBL.out).mono ?_
          rintro e wA ⟨rfl, gA⟩
          have mxj_ : wA.cell? _ = some _ := gA.cell xj_ (by simp)
          go_wp2_with fail
          clear hHeld
          refine hK.out _ _ ?s22_2 (fun hHeld => ?_)
          case s22_2 => exact mxj_
          clear hK K
          try simp only [Act.put, List.setIfInBounds_toArray, List.set_cons_zero, List.set_cons_succ]
          refine wpAnyH_take (i := 23) (oi := { dst := some 86, op := Op.unOp UnOp.not 4 (Operand.tmp 85), type := 4, pos := "laws.go:631", after := #[{ on := 22, ground := Ground.data }, { on := 15, ground := Ground.guard }], guard := some (15, false) }) (v := ?v23_2) rfl (by kernel_rfl) (by kernel_rfl) (by kernel_rfl) (fun _ _ _ h => h) (Or.inl ⟨by rfl, ?y23_2⟩) (by assumption) ?r23_2
          case y23_2 => (intro w hSw; (try dsimp only at hSw); go_simp; all_goals (with_reducible rfl))
          try simp only [Act.put, List.setIfInBounds_toArray, List.set_cons_zero, List.set_cons_succ]
          refine wpAnyH_take (i := 24) (oi := { dst := some 87, op := Op.pick (Operand.tmp 78) (Operand.const (Value.bool true)) (Operand.tmp 86), type := 4, pos := "laws.go:631", after := #[{ on := 15, ground := Ground.data }, { on := 23, ground := Ground.data }], guard := none }) (v := ?v24_2) rfl (by kernel_rfl) (by kernel_rfl) (by kernel_rfl) (fun _ _ _ h => h) (Or.inl ⟨by rfl, ?y24_2⟩) (by assumption) ?r24_2
          case y24_2 => (intro w hSw; (try dsimp only at hSw); go_simp; all_goals (with_reducible rfl))
          try simp only [Act.put, List.setIfInBounds_toArray, List.set_cons_zero, List.set_cons_succ]
          refine wpAnyH_take (i := 25) (oi := { dst := some 88, op := Op.move (Operand.tmp 87), type := 4, pos := "laws.go:631", after := #[{ on := 24, ground := Ground.data }, { on := 22, ground := Ground.chain }], guard := none }) (v := ?v25_2) rfl (by kernel_rfl) (by kernel_rfl) (by kernel_rfl) (fun _ _ _ h => h) (Or.inl ⟨by rfl, ?y25_2⟩) (by assumption) ?r25_2
          case y25_2 => (intro w hSw; (try dsimp only at hSw); go_simp; all_goals (with_reducible rfl))
          try simp only [Act.put, List.setIfInBounds_toArray, List.set_cons_zero, List.set_cons_succ]
          refine wpAnyH_take (i := 26) (oi := { dst := some 89, op := Op.move (Operand.tmp 6), type := 3, pos := "laws.go:631", after := #[{ on := 25, ground := Ground.guard }], guard := some (25, false) }) (v := ?v26_2) rfl (by kernel_rfl) (by kernel_rfl) (by kernel_rfl) (fun _ _ _ h => h) (Or.inl ⟨by rfl, ?y26_2⟩) (by assumption) ?r26_2
          case y26_2 => (intro w hSw; (try dsimp only at hSw); go_simp; all_goals (with_reducible rfl))
          try simp only [Act.put, List.setIfInBounds_toArray, List.set_cons_zero, List.set_cons_succ]
          refine wpAnyH_take (i := 27) (oi := { dst := some 90, op := Op.binOp BinOp.gtr 3 (Operand.tmp 89) (Operand.const (Value.int IntKind.i64 0)) 3, type := 4, pos := "laws.go:631", after := #[{ on := 26, ground := Ground.data }, { on := 25, ground := Ground.guard }], guard := some (25, false) }) (v := ?v27_2) rfl (by kernel_rfl) (by kernel_rfl) (by kernel_rfl) (fun _ _ _ h => h) (Or.inl ⟨by rfl, ?y27_2⟩) (by assumption) ?r27_2
          case y27_2 => (intro w hSw; (try dsimp only at hSw); go_simp; all_goals (with_reducible rfl))
          try simp only [Act.put, List.setIfInBounds_toArray, List.set_cons_zero, List.set_cons_succ]
          refine wpAnyH_take (i := 28) (oi := { dst := some 91, op := Op.move (Operand.tmp 90), type := 4, pos := "laws.go:631", after := #[{ on := 27, ground := Ground.data }, { on := 25, ground := Ground.chain }, { on := 25, ground := Ground.guard }], guard := some (25, false) }) (v := ?v28_2) rfl (by kernel_rfl) (by kernel_rfl) (by kernel_rfl) (fun _ _ _ h => h) (Or.inl ⟨by rfl, ?y28_2⟩) (by assumption) ?r28_2
          case y28_2 => (intro w hSw; (try dsimp only at hSw); go_simp; all_goals (with_reducible rfl))
          try simp only [Act.put, List.setIfInBounds_toArray, List.set_cons_zero, List.set_cons_succ]
          refine wpAnyH_take (i := 29) (oi := { dst := some 92, op := Op.move (Operand.tmp 3), type := 26, pos := "laws.go:631", after := #[{ on := 28, ground := Ground.guard }], guard := some (28, true) }) (v := undef) rfl (by kernel_rfl) (by kernel_rfl) (by kernel_rfl) (fun _ _ _ h => h) (Or.inr ⟨by rfl, rfl⟩) (by assumption) ?r29_2
          try simp only [Act.put, List.setIfInBounds_toArray, List.set_cons_zero, List.set_cons_succ]
          refine wpAnyH_take (i := 30) (oi := { dst := some 93, op := Op.move (Operand.tmp 5), type := 24, pos := "laws.go:631", after := #[{ on := 28, ground := Ground.guard }], guard := some (28, true) }) (v := undef) rfl (by kernel_rfl) (by kernel_rfl) (by kernel_rfl) (fun _ _ _ h => h) (Or.inr ⟨by rfl, rfl⟩) (by assumption) ?r30_2
          try simp only [Act.put, List.setIfInBounds_toArray, List.set_cons_zero, List.set_cons_succ]
          refine wpAnyH_take (i := 31) (oi := { dst := some 94, op := Op.move (Operand.tmp 6), type := 3, pos := "laws.go:631", after := #[{ on := 28, ground := Ground.guard }], guard := some (28, true) }) (v := undef) rfl (by kernel_rfl) (by kernel_rfl) (by kernel_rfl) (fun _ _ _ h => h) (Or.inr ⟨by rfl, rfl⟩) (by assumption) ?r31_2
          try simp only [Act.put, List.setIfInBounds_toArray, List.set_cons_zero, List.set_cons_succ]
          refine wpAnyH_take (i := 32) (oi := { dst := some 95, op := Op.indexAddr 24 (Operand.tmp 93) (Operand.tmp 94), type := 0, pos := "laws.go:631", after := #[{ on := 30, ground := Ground.data }, { on := 31, ground := Ground.data }, { on := 28, ground := Ground.guard }], guard := some (28, true) }) (v := undef) rfl (by kernel_rfl) (by kernel_rfl) (by kernel_rfl) (fun _ _ _ h => h) (Or.inr ⟨by rfl, rfl⟩) (by assumption) ?r32_2
          try simp only [Act.put, List.setIfInBounds_toArray, List.set_cons_zero, List.set_cons_succ]
          refine wpAnyH_take (i := 33) (oi := { dst := some 96, op := Op.load 3 (Operand.tmp 95), type := 3, pos := "laws.go:631", after := #[{ on := 32, ground := Ground.data }, { on := 28, ground := Ground.guard }], guard := some (28, true) }) (v := undef) rfl (by kernel_rfl) (by kernel_rfl) (by kernel_rfl) (fun _ _ _ h => h) (Or.inr ⟨by rfl, rfl⟩) (by assumption) ?r33_2
          try simp only [Act.put, List.setIfInBounds_toArray, List.set_cons_zero, List.set_cons_succ]
          refine wpAnyH_take (i := 34) (oi := { dst := some 97, op := Op.indexAddr 26 (Operand.tmp 92) (Operand.tmp 96), type := 0, pos := "laws.go:631", after := #[{ on := 29, ground := Ground.data }, { on := 33, ground := Ground.data }, { on := 28, ground := Ground.guard }], guard := some (28, true) }) (v := undef) rfl (by kernel_rfl) (by kernel_rfl) (by kernel_rfl) (fun _ _ _ h => h) (Or.inr ⟨by rfl, rfl⟩) (by assumption) ?r34_2
          try simp only [Act.put, List.setIfInBounds_toArray, List.set_cons_zero, List.set_cons_succ]
          refine wpAnyH_take (i := 35) (oi := { dst := some 98, op := Op.fieldAddr 41 (Operand.tmp 97) 1, type := 0, pos := "laws.go:631", after := #[{ on := 34, ground := Ground.data }, { on := 28, ground := Ground.guard }], guard := some (28, true) }) (v := undef) rfl (by kernel_rfl) (by kernel_rfl) (by kernel_rfl) (fun _ _ _ h => h) (Or.inr ⟨by rfl, rfl⟩) (by assumption) ?r35_2
          try simp only [Act.put, List.setIfInBounds_toArray, List.set_cons_zero, List.set_cons_succ]
          refine wpAnyH_take (i := 36) (oi := { dst := some 99, op := Op.load 3 (Operand.tmp 98), type := 3, pos := "laws.go:631", after := #[{ on := 35, ground := Ground.data }, { on := 28, ground := Ground.guard }], guard := some (28, true) }) (v := undef) rfl (by kernel_rfl) (by kernel_rfl) (by kernel_rfl) (fun _ _ _ h => h) (Or.inr ⟨by rfl, rfl⟩) (by assumption) ?r36_2
          try simp only [Act.put, List.setIfInBounds_toArray, List.set_cons_zero, List.set_cons_succ]
          refine wpAnyH_take (i := 37) (oi := { dst := some 100, op := Op.move (Operand.tmp 3), type := 26, pos := "laws.go:631", after := #[{ on := 28, ground := Ground.guard }], guard := some (28, true) }) (v := undef) rfl (by kernel_rfl) (by kernel_rfl) (by kernel_rfl) (fun _ _ _ h => h) (Or.inr ⟨by rfl, rfl⟩) (by assumption) ?r37_2
          try simp only [Act.put, List.setIfInBounds_toArray, List.set_cons_zero, List.set_cons_succ]
          refine wpAnyH_take (i := 38) (oi := { dst := some 101, op := Op.move (Operand.tmp 5), type := 24, pos := "laws.go:631", after := #[{ on := 28, ground := Ground.guard }], guard := some (28, true) }) (v := undef) rfl (by kernel_rfl) (by kernel_rfl) (by kernel_rfl) (fun _ _ _ h => h) (Or.inr ⟨by rfl, rfl⟩) (by assumption) ?r38_2
          try simp only [Act.put, List.setIfInBounds_toArray, List.set_cons_zero, List.set_cons_succ]
          refine wpAnyH_take (i := 39) (oi := { dst := some 102, op := Op.move (Operand.tmp 6), type := 3, pos := "laws.go:631", after := #[{ on := 28, ground := Ground.guard }], guard := some (28, true) }) (v := undef) rfl (by kernel_rfl) (by kernel_rfl) (by kernel_rfl) (fun _ _ _ h => h) (Or.inr ⟨by rfl, rfl⟩) (by assumption) ?r39_2
          try simp only [Act.put, List.setIfInBounds_toArray, List.set_cons_zero, List.set_cons_succ]
          refine wpAnyH_take (i := 40) (oi := { dst := some 103, op := Op.binOp BinOp.sub 3 (Operand.tmp 102) (Operand.const (Value.int IntKind.i64 1)) 3, type := 3, pos := "laws.go:631", after := #[{ on := 39, ground := Ground.data }, { on := 28, ground := Ground.guard }], guard := some (28, true) }) (v := undef) rfl (by kernel_rfl) (by kernel_rfl) (by kernel_rfl) (fun _ _ _ h => h) (Or.inr ⟨by rfl, rfl⟩) (by assumption) ?r40_2
          try simp only [Act.put, List.setIfInBounds_toArray, List.set_cons_zero, List.set_cons_succ]
          refine wpAnyH_take (i := 41) (oi := { dst := some 104, op := Op.indexAddr 24 (Operand.tmp 101) (Operand.tmp 103), type := 0, pos := "laws.go:631", after := #[{ on := 38, ground := Ground.data }, { on := 40, ground := Ground.data }, { on := 28, ground := Ground.guard }], guard := some (28, true) }) (v := undef) rfl (by kernel_rfl) (by kernel_rfl) (by kernel_rfl) (fun _ _ _ h => h) (Or.inr ⟨by rfl, rfl⟩) (by assumption) ?r41_2
          try simp only [Act.put, List.setIfInBounds_toArray, List.set_cons_zero, List.set_cons_succ]
          refine wpAnyH_take (i := 42) (oi := { dst := some 105, op := Op.load 3 (Operand.tmp 104), type := 3, pos := "laws.go:631", after := #[{ on := 41, ground := Ground.data }, { on := 28, ground := Ground.guard }], guard := some (28, true) }) (v := undef) rfl (by kernel_rfl) (by kernel_rfl) (by kernel_rfl) (fun _ _ _ h => h) (Or.inr ⟨by rfl, rfl⟩) (by assumption) ?r42_2
          try simp only [Act.put, List.setIfInBounds_toArray, List.set_cons_zero, List.set_cons_succ]
          refine wpAnyH_take (i := 43) (oi := { dst := some 106, op := Op.indexAddr 26 (Operand.tmp 100) (Operand.tmp 105), type := 0, pos := "laws.go:631", after := #[{ on := 37, ground := Ground.data }, { on := 42, ground := Ground.data }, { on := 28, ground := Ground.guard }], guard := some (28, true) }) (v := undef) rfl (by kernel_rfl) (by kernel_rfl) (by kernel_rfl) (fun _ _ _ h => h) (Or.inr ⟨by rfl, rfl⟩) (by assumption) ?r43_2
          try simp only [Act.put, List.setIfInBounds_toArray, List.set_cons_zero, List.set_cons_succ]
          refine wpAnyH_take (i := 44) (oi := { dst := some 107, op := Op.fieldAddr 41 (Operand.tmp 106) 1, type := 0, pos := "laws.go:631", after := #[{ on := 43, ground := Ground.data }, { on := 28, ground := Ground.guard }], guard := some (28, true) }) (v := undef) rfl (by kernel_rfl) (by kernel_rfl) (by kernel_rfl) (fun _ _ _ h => h) (Or.inr ⟨by rfl, rfl⟩) (by assumption) ?r44_2
          try simp only [Act.put, List.setIfInBounds_toArray, List.set_cons_zero, List.set_cons_succ]
          refine wpAnyH_take (i := 45) (oi := { dst := some 108, op := Op.load 3 (Operand.tmp 107), type := 3, pos := "laws.go:631", after := #[{ on := 44, ground := Ground.data }, { on := 28, ground := Ground.guard }], guard := some (28, true) }) (v := undef) rfl (by kernel_rfl) (by kernel_rfl) (by kernel_rfl) (fun _ _ _ h => h) (Or.inr ⟨by rfl, rfl⟩) (by assumption) ?r45_2
          try simp only [Act.put, List.setIfInBounds_toArray, List.set_cons_zero, List.set_cons_succ]
          refine wpAnyH_take (i := 46) (oi := { dst := some 109, op := Op.binOp BinOp.leq 3 (Operand.tmp 99) (Operand.tmp 108) 3, type := 4, pos := "laws.go:631", after := #[{ on := 36, ground := Ground.data }, { on := 45, ground := Ground.data }, { on := 28, ground := Ground.guard }], guard := some (28, true) }) (v := undef) rfl (by kernel_rfl) (by kernel_rfl) (by kernel_rfl) (fun _ _ _ h => h) (Or.inr ⟨by rfl, rfl⟩) (by assumption) ?r46_2
          try simp only [Act.put, List.setIfInBounds_toArray, List.set_cons_zero, List.set_cons_succ]
          refine wpAnyH_take (i := 47) (oi := { dst := some 110, op := Op.pick (Operand.tmp 91) (Operand.tmp 109) (Operand.const (Value.bool false)), type := 4, pos := "laws.go:631", after := #[{ on := 28, ground := Ground.data }, { on := 46, ground := Ground.data }, { on := 25, ground := Ground.guard }], guard := some (25, false) }) (v := ?v47_2) rfl (by kernel_rfl) (by kernel_rfl) (by kernel_rfl) (fun _ _ _ h => h) (Or.inl ⟨by rfl, ?y47_2⟩) (by assumption) ?r47_2
          case y47_2 => (intro w hSw; (try dsimp only at hSw); go_simp; all_goals (with_reducible rfl))
          try simp only [Act.put, List.setIfInBounds_toArray, List.set_cons_zero, List.set_cons_succ]
          refine wpAnyH_take (i := 48) (oi := { dst := some 111, op := Op.pick (Operand.tmp 88) (Operand.const (Value.bool true)) (Operand.tmp 110), type := 4, pos := "laws.go:631", after := #[{ on := 25, ground := Ground.data }, { on := 47, ground := Ground.data }], guard := none }) (v := ?v48_2) rfl (by kernel_rfl) (by kernel_rfl) (by kernel_rfl) (fun _ _ _ h => h) (Or.inl ⟨by rfl, ?y48_2⟩) (by assumption) ?r48_2
          case y48_2 => (intro w hSw; (try dsimp only at hSw); go_simp; all_goals (with_reducible rfl))
          try simp only [Act.put, List.setIfInBounds_toArray, List.set_cons_zero, List.set_cons_succ]
          refine wpAnyH_done (by kernel_rfl) ?_ _
          have g : (wi).grownBy wA none := gby_trans (gby_drew (gby_refl _ _)) gA
          clear gA mxj_
          have G36_ := Lib.hid (show (W).grownBy (wA) none from gby_trans G31_.out g)
          have HTT37_ := Lib.hid (show (w2).grownBy (wA) none from gby_trans HTT32_.out g)
          clear HTT32_
          have HTB38_ := Lib.hid (show (w2).grownBy (wA) none from gby_trans HTB33_.out g)
          clear HTB33_
          have HTZ39_ := Lib.hid (show (w5).grownBy (wA) none from gby_trans HTZ34_.out g)
          clear HTZ34_
          have HTX40_ := Lib.hid (show (w8).grownBy (wA) none from gby_trans HTX35_.out g)
          clear HTX35_
          have HTC41_ := Lib.hid (show (w8).grownBy (wA) none from gby_trans HTC_.out g)
          clear HTC_
          clear g
          go_wp2
          refine ⟨⟨j + 1, by go_num, by omega, by repeat (first | exact HTC41_.out | with_reducible refine gby_drewN ?_ _)⟩, by simp [intOf]; omega⟩
        have hgt : (0 : Int) < (j : Int) := by omega
        have hgd : decide ((0 : Int) < (j : Int)) = true := decide_eq_true hgt
        have hgd2 : decide (0 < j) = true := decide_eq_true (by omega)
        obtain ⟨i, hi⟩ : ∃ i, i = j - 1 := ⟨_, rfl⟩
        obtain ⟨p, hp, hkp, hpx, _⟩ := HF.out.each i (by rw [HNX.out]; omega)
        have hpn : p < n0 := by rw [HE.out]; exact hpx
        have hso := HF.out.sorted i p m (by rw [HNX.out]; omega) hp (by rw [show i + 1 = j by omega]; exact HM.out)
        have xj_ := (HTX35_.out).cell (HCX.out j (by rw [HNX.out]; exact hlj)) (by simp)
        rw [HM.out] at xj_
        have xi_ := (HTX35_.out).cell (HCX.out i (by rw [HNX.out]; omega)) (by simp)
        rw [hp] at xi_
        have hjw : IntKind.i64.wrap ((j : Int) - 1) = (i : Int) := by rw [show (j : Int) - 1 = (i : Int) by omega]; exact IntWalk.i64_in _ (by omega)
        have hjw2 : (j : Int) - 1 = (i : Int) := by omega
        have hjw3 : IntKind.i64.wrap (i : Int) = (i : Int) := IntWalk.i64_in _ (by omega)
        have hi0 : (0 : Int) ≤ (i : Int) := by omega
        have hti : ((i : Int)).toNat = i := by omega
        have hii : (i : Int) < (nX : Int) := by omega
        have hp0 : (0 : Int) ≤ (p : Int) := by omega
        have hpi : (p : Int) < (n0 : Int) := by omega
        have htp : ((p : Int)).toNat = p := by omega
        obtain ⟨fm, hfm⟩ : ∃ f, f = (nd xs m).f1 := ⟨_, rfl⟩
        obtain ⟨fp, hfp⟩ : ∃ f, f = (nd xs p).f1 := ⟨_, rfl⟩
        have nm_ := (HTT32_.out).cell (HNC.out m hmn).2.1 (by simp)
        have np_ := (HTT32_.out).cell (HNC.out p hpn).2.1 (by simp)
        rw [← hfm] at nm_ hso
        rw [← hfp] at np_ hso
        clear hfm hfp hi hp hpx
        have hgo : ¬ fm ≤ fp := by omega
        have hgo2 : decide (fm ≤ fp) = false := decide_eq_false hgo
        go_wp2_with fail
        go_region_held3 (fun w' => w'.cell? ⟨bX, oX + j, none⟩ = some (.int .i64 (m : Int)) ∧ w'.cell? ⟨bX, oX + i, none⟩ = some (.int .i64 (p : Int)) ∧ w'.cell? ⟨tb, to + m * 3 + 1, none⟩ = some (.int .i64 fm) ∧ w'.cell? ⟨tb, to + p * 3 + 1, none⟩ = some (.int .i64 fp))
          (first | exact ⟨xj_, xi_, nm_, np_⟩ | exact ⟨mxj_, mxi_, mnm_, mnp_⟩ | fail)
          (first
            | (go_at_call 27; refine (implBelow_yes _ _ xs (m : Int) (k : Int) (HT0.out.grow (gby_drew HTT32_.out)) HLx.out HBL.out).mono ?_; rintro e wA ⟨rfl, gA⟩; have mxj_ : wA.cell? _ = some _ := gA.cell xj_ (by simp); have mxi_ : wA.cell? _ = some _ := gA.cell xi_ (by simp); have mnm_ : wA.cell? _ = some _ := gA.cell nm_ (by simp); have mnp_ : wA.cell? _ = some _ := gA.cell np_ (by simp))
            | fail)
        all_goals
          have g : (wi).grownBy wA none := gby_trans (gby_drew (gby_refl _ _)) gA
          clear gA mxj_ mxi_ mnm_ mnp_
        have G36_ := Lib.hid (show (W).grownBy (wA) none from gby_trans G31_.out g)
        have HTT37_ := Lib.hid (show (w2).grownBy (wA) none from gby_trans HTT32_.out g)
        clear HTT32_
        have HTB38_ := Lib.hid (show (w2).grownBy (wA) none from gby_trans HTB33_.out g)
        clear HTB33_
        have HTZ39_ := Lib.hid (show (w5).grownBy (wA) none from gby_trans HTZ34_.out g)
        clear HTZ34_
        have HTX40_ := Lib.hid (show (w8).grownBy (wA) none from gby_trans HTX35_.out g)
        clear HTX35_
        have HTC41_ := Lib.hid (show (w8).grownBy (wA) none from gby_trans HTC_.out g)
        clear HTC_
        clear g
        go_wp2
        refine ⟨⟨j + 1, by go_num, by omega, by repeat (first | exact HTC41_.out | with_reducible refine gby_drewN ?_ _)⟩, by simp [intOf]; omega⟩

end Go.Proofs.Ytodfbodagjmfmab
