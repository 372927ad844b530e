/-
  Ranges split into pieces, at every argument.
-/
import Derived.Test.YtoedgncidoldaaaSplit
namespace Go.Proofs.Ytoedgncidoldaaa
open Go Go.RowKit
set_option linter.unusedVariables false

set_option maxHeartbeats 1000000 in
theorem specSplit_no (a l p : Int) (W : World) (h : ¬ CanSplit a l p) : Calls Try.prog 45 #[.int .i64 a, .int .i64 l, .int .i64 p] W (ResSSplitRange [] W) := by
  by_cases hp : IsPay p
  · have HP := Lib.hid hp
    by_cases hl : 1 ≤ l ∧ l ≤ 64
    · have ha : ¬ (0 ≤ a ∧ a ≤ 65536 - l) := fun q => h ⟨hp, hl, q⟩
      clear h hp
      go_enter Try.func45, Try.ntmps45
      go_wp2_with fail
      go_at_call 41
      refine (specPay_yes _ _ HP.out).mono ?_
      rintro e w1 ⟨rfl, hd⟩
      have HD := Lib.hid (hd.gby none)
      clear hd
      go_wp2_with fail
      go_at_call 51
      refine (in_yes _ _ _ _ (by omega) (by omega)).mono ?_
      rintro e w2 ⟨rfl, rfl⟩
      go_wp2_with fail
      go_at_call 51
      refine (in_no _ _ _ _ (by omega)).mono ?_
      rintro e w3 ⟨rfl, rfl⟩
      go_wp2
      go_ret
      exact ⟨_, rfl, (owL_empty (s := shPiece) (lo := W.heap.size) (hi := W.heap.size + 1) (Nat.le_refl _) (Nat.lt_succ_self _)).rd, gby_trans (gby_alloc (gby_refl W none) _) HD.out⟩
    · clear h hp
      go_enter Try.func45, Try.ntmps45
      go_wp2_with fail
      go_at_call 41
      refine (specPay_yes _ _ HP.out).mono ?_
      rintro e w1 ⟨rfl, hd⟩
      have HD := Lib.hid (hd.gby none)
      clear hd
      go_wp2_with fail
      go_at_call 51
      refine (in_no _ _ _ _ (by omega)).mono ?_
      rintro e w2 ⟨rfl, rfl⟩
      go_wp2
      go_ret
      exact ⟨_, rfl, (owL_empty (s := shPiece) (lo := W.heap.size) (hi := W.heap.size + 1) (Nat.le_refl _) (Nat.lt_succ_self _)).rd, gby_trans (gby_alloc (gby_refl W none) _) HD.out⟩
  · have HP := Lib.hid hp
    clear h hp
    go_enter Try.func45, Try.ntmps45
    go_wp2_with fail
    go_at_call 41
    refine (specPay_no _ _ HP.out).mono ?_
    rintro e w1 ⟨rfl, hd⟩
    have HD := Lib.hid (hd.gby none)
    clear hd
    go_wp2
    go_ret
    exact ⟨_, rfl, (owL_empty (s := shPiece) (lo := W.heap.size) (hi := W.heap.size + 1) (Nat.le_refl _) (Nat.lt_succ_self _)).rd, gby_trans (gby_alloc (gby_refl W none) _) HD.out⟩

set_option maxHeartbeats 1000000 in
theorem implSplit_no (a l p : Int) (W : World) (h : ¬ CanSplit a l p) : Calls Try.prog 46 #[.int .i64 a, .int .i64 l, .int .i64 p] W (ResISplitRange [] W) := by
  by_cases hp : IsPay p
  · have HP := Lib.hid hp
    by_cases hl : 1 ≤ l ∧ l ≤ 64
    · have ha : ¬ (0 ≤ a ∧ a ≤ 65536 - l) := fun q => h ⟨hp, hl, q⟩
      clear h hp
      go_enter Try.func46, Try.ntmps46
      go_wp2_with fail
      go_at_call 42
      refine (implPay_yes _ _ HP.out).mono ?_
      rintro e w1 ⟨rfl, hd⟩
      have HD := Lib.hid (hd.gby none)
      clear hd
      go_wp2_with fail
      go_at_call 53
      refine (rng_yes _ _ _ _ (by omega) (by omega)).mono ?_
      rintro e w2 ⟨rfl, rfl⟩
      go_wp2_with fail
      go_at_call 53
      refine (rng_no _ _ _ _ (by omega)).mono ?_
      rintro e w3 ⟨rfl, rfl⟩
      go_wp2
      go_ret
      exact ⟨_, rfl, OwU.one owL_nil, HD.out⟩
    · clear h hp
      go_enter Try.func46, Try.ntmps46
      go_wp2_with fail
      go_at_call 42
      refine (implPay_yes _ _ HP.out).mono ?_
      rintro e w1 ⟨rfl, hd⟩
      have HD := Lib.hid (hd.gby none)
      clear hd
      go_wp2_with fail
      go_at_call 53
      refine (rng_no _ _ _ _ (by omega)).mono ?_
      rintro e w2 ⟨rfl, rfl⟩
      go_wp2
      go_ret
      exact ⟨_, rfl, OwU.one owL_nil, HD.out⟩
  · have HP := Lib.hid hp
    clear h hp
    go_enter Try.func46, Try.ntmps46
    go_wp2_with fail
    go_at_call 42
    refine (implPay_no _ _ HP.out).mono ?_
    rintro e w1 ⟨rfl, hd⟩
    have HD := Lib.hid (hd.gby none)
    clear hd
    go_wp2
    go_ret
    exact ⟨_, rfl, OwU.one owL_nil, HD.out⟩

theorem splitRange_both (i0 i1 i2 : Int) : ∃ (xsr0 : List DPiece), szL shPiece xsr0 ≤ 1048576 ∧ (∀ (W : World), Calls Try.prog 45 #[.int .i64 i0, .int .i64 i1, .int .i64 i2] W (ResSSplitRange xsr0 W)) ∧ ∀ (W : World), Calls Try.prog 46 #[.int .i64 i0, .int .i64 i1, .int .i64 i2] W (ResISplitRange xsr0 W) := by
  by_cases h : CanSplit i0 i1 i2
  · refine ⟨piecesF 64 i0 i1 i2, ?_, fun W => specSplit_yes _ _ _ W h, fun W => implSplit_yes _ _ _ W h⟩
    rw [szL_size0 (fun _ => rfl)]
    have := piecesF_len 64 i0 i1 i2
    omega
  · exact ⟨[], by rw [szL_size0 (fun _ => rfl)]; simp, fun W => specSplit_no _ _ _ W h, fun W => implSplit_no _ _ _ W h⟩

theorem pieceCount_both (i0 i1 i2 : Int) : ∃ (ir0 : Int), (∀ (W : World), Calls Try.prog 43 #[.int .i64 i0, .int .i64 i1, .int .i64 i2] W (ResSPieceCount ir0 W)) ∧ ∀ (W : World), Calls Try.prog 44 #[.int .i64 i0, .int .i64 i1, .int .i64 i2] W (ResIPieceCount ir0 W) := by
  obtain ⟨xs, hl, hs, hi⟩ := splitRange_both i0 i1 i2
  have hl1 : xs.length ≤ 1048576 := Nat.le_trans (szL_len _ _) hl
  have HS := Lib.hid hs
  have HI := Lib.hid hi
  clear hs hi hl
  obtain ⟨n, hn⟩ : ∃ n, n = xs.length := ⟨_, rfl⟩
  rw [← hn] at hl1
  have HN := Lib.hid hn
  clear hn
  refine ⟨(n : Int), fun W => ?_, fun W => ?_⟩
  · go_enter Try.func43, Try.ntmps43
    go_wp2_with fail
    go_at_call 45
    refine (HS.out _).mono ?_
    rintro e w1 ⟨v, rfl, hr, hg⟩
    obtain ⟨pp, cap, hv, _⟩ := hr
    rw [← HN.out] at hv
    subst hv
    have HG := Lib.hid hg
    clear hg
    go_wp2
    go_ret
    exact ⟨rfl, HG.out⟩
  · go_enter Try.func44, Try.ntmps44
    go_wp2_with fail
    go_at_call 46
    refine (HI.out _).mono ?_
    rintro e w1 ⟨v, rfl, hr, hg⟩
    obtain ⟨pp, cap, hv, _⟩ := OwU.rd hr
    rw [← HN.out] at hv
    subst hv
    have HG := Lib.hid hg
    clear hg hr
    go_wp2
    go_ret
    exact ⟨rfl, HG.out⟩

end Go.Proofs.Ytoedgncidoldaaa
