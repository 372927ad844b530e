/-
  Contract of slices.Clone at slices of numbers.
-/
import Derived.Test.YtcenngekjopjpaaChg
import Derived.Test.YtcenngekjopjpaaAppendInts
import Derived.Lib.SliceRun
namespace Go.Proofs.Ytcenngekjopjpaa
open Go Go.RowKit

set_option maxHeartbeats 1000000 in
theorem clone_row (W : World) (v : Value) (xs : List Int) (H : RdI W v xs) (hl : xs.length ≤ 1048576) :
    Calls Try.prog 61 #[v] W (RowO xs W) := by
  have q22 : ∀ (w : World) (a : Option Addr) (n c n' c' : Nat), (binOp .eql 35 (.slice a n c) (.slice none n' c')).run Try.prog w = .ok (.bool a.isNone) w := fun w a n c n' c' => Lib.run_eql_slice_nil w _ _ a n c n' c' Try.underlying35
  obtain ⟨a, cap, rfl, hi, hcap⟩ := H
  cases a with
  | none =>
    have h0 : xs.length = 0 := by
      rcases hi.2 with h | ⟨b, off, h, _⟩
      · exact h
      · cases h
    obtain rfl : xs = [] := List.eq_nil_of_length_eq_zero h0
    obtain rfl := hcap.1 rfl
    go_enter Try.func61, Try.ntmps61
    go_wp2
    go_ret
    exact ⟨_, rfl, World.ownsRow_nil W _ _ _, gby_refl _ _⟩
  | some p =>
    have HX := Lib.hid hi
    clear hi hcap
    go_enter Try.func61, Try.ntmps61
    go_wp2_with (at_builtin; refine wpList_append_isl _ rfl _ _ rfl W.heap.size _ 0 [] rfl (World.ownsRow_made W #[] 0 (Nat.le_refl _) (by unfold maxLen; omega) rfl) (some p) xs.length cap xs rfl (HX.out.kept (gby_alloc (gby_refl _ _) _)) (fun h => by cases h) (by omega) (by simp) ?_; intro v2 w2 hown2 hg2; have HO2 := Lib.hid (show w2.ownsRow W.heap.size 3 1 v2 xs.length (i64s xs) by simpa using hown2); have HG2 := Lib.hid (gby_new (gby_alloc (gby_refl W none) _) (show (W.alloc (.cells #[] 3)).grownBy w2 (some W.heap.size) from hg2) (fun i hi => by obtain rfl := Option.some.inj hi; exact Nat.le_refl _)); clear hown2 hg2)
    go_ret
    exact ⟨_, rfl, HO2.out, HG2.out⟩

theorem clone_any (W : World) (v : Value) (xs : List Int) (H : RdI W v xs) (hl : xs.length ≤ 1048576) :
    Calls Try.prog 61 #[v] W (RowI xs W) := (clone_row W v xs H hl).mono (fun e w' h => rowO_rowI e w' h)

end Go.Proofs.Ytcenngekjopjpaa
