/-
  Slices of Node, which own no memory: appended, cloned.
-/
import Derived.Test.YtodfbodagjmfmabAppP
import Derived.Test.YtodfbodagjmfmabQSNode
import Derived.Lib.SliceRun
namespace Go.Proofs.Ytodfbodagjmfmab
open Go Go.RowKit
set_option linter.unusedVariables false

theorem plainNode : Plain shNode (fun x => [.int .i64 x.f0, .int .i64 x.f1, .int .i64 x.f2]) := ⟨fun _ => rfl, by decide, fun h => h, fun _ _ => rfl, fun _ _ _ _ => rfl, fun x u hu => by simp only [List.mem_cons, List.not_mem_nil, or_false] at hu; rcases hu with rfl | rfl | rfl <;> rfl⟩
theorem slTNode : SlT 26 41 3 := slT_of Try.underlying26 infoNodeS rfl (by omega)

/-- a clone -/
def ClonedNode (xs : List DNode) (W : World) (e : Ending) (w' : World) : Prop := ∃ v', e = .returned v' ∧ OwL shNode w' W.heap.size w'.heap.size v' xs ∧ W.grownBy w' none
/-- .. as a row -/
def ClonedRowNode (xs : List DNode) (W : World) (e : Ending) (w' : World) : Prop := ∃ v', e = .returned v' ∧ w'.ownsRow W.heap.size 41 3 v' xs.length (xs.flatMap (fun x => [.int .i64 x.f0, .int .i64 x.f1, .int .i64 x.f2])) ∧ W.grownBy w' none
set_option maxHeartbeats 1000000 in
theorem cloneNode_row (W : World) (v : Value) (xs : List DNode) (H : RdL shNode W v xs) (hl : szL shNode xs ≤ 1048576) :
    Calls Try.prog 67 #[v] W (ClonedRowNode xs W) := by
  have q22 : ∀ (w : World) (a : Option Addr) (n c n' c' : Nat), (binOp .eql 26 (.slice a n c) (.slice none n' c')).run Try.prog w = .ok (.bool a.isNone) w := fun w a n c n' c' => Lib.run_eql_slice_nil w _ _ a n c n' c' Try.underlying26
  have hl1 : xs.length ≤ 1048576 := Nat.le_trans (szL_len _ _) hl
  have hmx := H.max
  obtain ⟨a, n, cap, rfl⟩ := RdL.form H
  cases a with
  | none =>
    have hr := rdP_cells plainNode H
    have h0 : n = 0 := by
      rcases hr.2.2 with h | ⟨b, off, h, _⟩
      · exact h
      · cases h
    obtain rfl : xs = [] := List.eq_nil_of_length_eq_zero (hr.1.symm.trans h0)
    subst h0
    obtain rfl := hr.2.1 rfl
    clear hr H hmx hl hl1
    go_enter Try.func67, Try.ntmps67
    go_wp2
    go_ret
    exact ⟨_, rfl, World.ownsRow_nil _ _ _ _, gby_refl _ _⟩
  | some p =>
    have hn : n = xs.length := (rdP_cells plainNode H).1
    have HX := Lib.hid H
    have HN := Lib.hid hn
    have hn1 : n ≤ 1048576 := by omega
    have HM := Lib.hid hmx
    clear H hmx hl hl1 hn
    go_enter Try.func67, Try.ntmps67
    go_wp2_with (at_builtin; refine wpList_append_plain plainNode slTNode _ rfl _ _ rfl W.heap.size _ 0 [] rfl (World.ownsRow_made W #[] 0 (Nat.le_refl _) (by unfold maxLen; omega) (by simp)) (some p) n cap xs rfl (HX.out.grow (gby_alloc (gby_refl _ _) _)) (by omega) (by simp) ?_; intro v2 w2 hown2 hg2; have HO2 := Lib.hid (show w2.ownsRow W.heap.size 41 3 v2 xs.length (xs.flatMap (fun x => [.int .i64 x.f0, .int .i64 x.f1, .int .i64 x.f2])) by have q := hown2; rw [Nat.zero_add, List.nil_append, HN.out] at q; exact q); have HG2 := Lib.hid (gby_new (gby_alloc (gby_refl W none) _) (show (W.alloc (.cells #[] 41)).grownBy w2 (some W.heap.size) from hg2) (fun i hi => by obtain rfl := Option.some.inj hi; exact Nat.le_refl _)); clear hown2 hg2)
    go_ret
    exact ⟨_, rfl, HO2.out, HG2.out⟩

theorem cloneNode_d (W : World) (v : Value) (xs : List DNode) (H : RdL shNode W v xs) (hl : szL shNode xs ≤ 1048576) :
    Calls Try.prog 67 #[v] W (ClonedNode xs W) :=
  (cloneNode_row W v xs H hl).mono (fun e w' ⟨v', he, h, g⟩ => ⟨v', he, owP_row _ plainNode.len plainNode.ow H.max h, g⟩)

end Go.Proofs.Ytodfbodagjmfmab
