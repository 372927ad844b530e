/-
  Slices of bool, which own no memory: appended, cloned.
-/
import Derived.Test.YtomiicegkdogkaaAppP
import Derived.Test.YtomiicegkdogkaaQSBool
import Derived.Lib.SliceRun
namespace Go.Proofs.Ytomiicegkdogkaa
open Go Go.RowKit
set_option linter.unusedVariables false

theorem slTB : SlT 22 4 1 := slT_of Try.underlying22 infoBool rfl (by omega)

/-- a clone -/
def ClonedB (xs : List Bool) (W : World) (e : Ending) (w' : World) : Prop := ∃ v', e = .returned v' ∧ OwL shB w' W.heap.size w'.heap.size v' xs ∧ W.grownBy w' none
set_option maxHeartbeats 1000000 in
theorem cloneB_d (W : World) (v : Value) (xs : List Bool) (H : RdL shB W v xs) (hl : szL shB xs ≤ 1048576) :
    Calls Try.prog 107 #[v] W (ClonedB xs W) := by
  have q22 : ∀ (w : World) (a : Option Addr) (n c n' c' : Nat), (binOp .eql 22 (.slice a n c) (.slice none n' c')).run Try.prog w = .ok (.bool a.isNone) w := fun w a n c n' c' => Lib.run_eql_slice_nil w _ _ a n c n' c' Try.underlying22
  have hl1 : xs.length ≤ 1048576 := Nat.le_trans (szL_len _ _) hl
  have hmx := H.max
  obtain ⟨a, n, cap, rfl⟩ := RdL.form H
  cases a with
  | none =>
    have hr := rdP_cells plainB H
    have h0 : n = 0 := by
      rcases hr.2.2 with h | ⟨b, off, h, _⟩
      · exact h
      · cases h
    obtain rfl : xs = [] := List.eq_nil_of_length_eq_zero (hr.1.symm.trans h0)
    subst h0
    obtain rfl := hr.2.1 rfl
    clear hr H hmx hl hl1
    go_enter Try.func107, Try.ntmps107
    go_wp2
    go_ret
    exact ⟨_, rfl, owL_nil, gby_refl _ _⟩
  | some p =>
    have hn : n = xs.length := (rdP_cells plainB H).1
    have HX := Lib.hid H
    have HN := Lib.hid hn
    have hn1 : n ≤ 1048576 := by omega
    have HM := Lib.hid hmx
    clear H hmx hl hl1 hn
    go_enter Try.func107, Try.ntmps107
    go_wp2_with (at_builtin; refine wpList_append_plain plainB slTB _ rfl _ _ rfl W.heap.size _ 0 [] rfl (World.ownsRow_made W #[] 0 (Nat.le_refl _) (by unfold maxLen; omega) (by simp)) (some p) n cap xs rfl (HX.out.grow (gby_alloc (gby_refl _ _) _)) (by omega) (by simp) ?_; intro v2 w2 hown2 hg2; have HO2 := Lib.hid (show w2.ownsRow W.heap.size 4 1 v2 xs.length (xs.flatMap (fun x => [.bool x])) by have q := hown2; rw [Nat.zero_add, List.nil_append, HN.out] at q; exact q); have HG2 := Lib.hid (gby_new (gby_alloc (gby_refl W none) _) (show (W.alloc (.cells #[] 4)).grownBy w2 (some W.heap.size) from hg2) (fun i hi => by obtain rfl := Option.some.inj hi; exact Nat.le_refl _)); clear hown2 hg2)
    go_ret
    exact ⟨_, rfl, owP_row _ plainB.len plainB.ow HM.out HO2.out, HG2.out⟩

end Go.Proofs.Ytomiicegkdogkaa
