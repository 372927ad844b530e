/-
  Ranges split into pieces, on both sides.
-/
import Derived.Test.YtdieobfkdbeiiaaPieces
import Derived.Test.YtdieobfkdbeiiaaClonePiece
import Derived.Test.YtdieobfkdbeiiaaRSplitRange
import Derived.Test.YtdieobfkdbeiiaaRIsPayload
import Derived.Test.YtdieobfkdbeiiaaRPieceCount
import Derived.Test.YtdieobfkdbeiiaaBits4Impl
import Derived.Test.YtdieobfkdbeiiaaBar
namespace Go.Proofs.Ytdieobfkdbeiiaa
open Go Go.RowKit
set_option linter.unusedVariables false

theorem implPay_yes (n : Int) (W : World) (h : IsPay n) : Calls Try.prog 84 #[.int .i64 n] W (Ans (.bool true) W) := by
  have HP := Lib.hid (isPay_pow h)
  have hb : 1 ≤ n ∧ n ≤ 8 := by rcases h with rfl | rfl | rfl | rfl <;> omega
  clear h
  go_enter Try.func84, Try.ntmps84
  go_wp2_with fail
  go_at_call 66
  refine (rng_yes _ _ _ _ (by omega) (by omega)).mono ?_
  rintro e w1 ⟨rfl, rfl⟩
  go_wp2_with fail
  go_at_call 118
  refine (implPower_yes _ _ HP.out).mono ?_
  rintro e w2 ⟨rfl, hd⟩
  have HD := Lib.hid hd
  clear hd
  go_wp2
  go_ret
  exact ⟨rfl, HD.out⟩

theorem implPay_no (n : Int) (W : World) (h : ¬ IsPay n) : Calls Try.prog 84 #[.int .i64 n] W (Ans (.bool false) W) := by
  by_cases hb : 1 ≤ n ∧ n ≤ 8
  · have HP := Lib.hid (fun q : IsPow n => h (pow_isPay q hb.2))
    clear h
    go_enter Try.func84, Try.ntmps84
    go_wp2_with fail
    go_at_call 66
    refine (rng_yes _ _ _ _ (by omega) (by omega)).mono ?_
    rintro e w1 ⟨rfl, rfl⟩
    go_wp2_with fail
    go_at_call 118
    refine (implPower_no _ _ HP.out).mono ?_
    rintro e w2 ⟨rfl, hd⟩
    have HD := Lib.hid hd
    clear hd
    go_wp2
    go_ret
    exact ⟨rfl, HD.out⟩
  · clear h
    go_enter Try.func84, Try.ntmps84
    go_wp2_with fail
    go_at_call 66
    refine (rng_no _ _ _ _ (by omega)).mono ?_
    rintro e w1 ⟨rfl, rfl⟩
    go_wp2
    go_ret
    exact ⟨rfl, Drew.refl _⟩

/-- the cells of a piece -/
def cPc (x : DPiece) : List Value := [.int .i64 x.f0, .int .i64 x.f1]

theorem piecesF_len (f : Nat) (a l p : Int) : (piecesF f a l p).length ≤ f := by
  induction f generalizing a l with
  | zero => exact Nat.le_refl _
  | succ f ih =>
    unfold piecesF
    split
    · exact Nat.zero_le _
    · have := ih (a + pieceLen a l p) (l - pieceLen a l p)
      simp; omega

theorem piecesF_end (f : Nat) (a p : Int) : piecesF f a 0 p = [] := by cases f <;> simp [piecesF]

set_option maxRecDepth 8000 in
set_option maxHeartbeats 2000000 in
theorem implSplit_yes (a l p : Int) (W : World) (h : CanSplit a l p) : Calls Try.prog 38 #[.int .i64 a, .int .i64 l, .int .i64 p] W (ResISplitRange (piecesF 64 a l p) W) := by
  obtain ⟨hp, ⟨hl1, hl2⟩, ha1, ha2⟩ := h
  obtain ⟨i0, hi0, hz0, hz1, hz2⟩ := info_parts infoPieceS
  have HP := Lib.hid hp
  have hp8 : 1 ≤ p ∧ p ≤ 8 := by rcases hp with rfl | rfl | rfl | rfl <;> omega
  clear hp
  go_enter Try.func38, Try.ntmps38
  go_wp2_with fail
  go_at_call 84
  refine (implPay_yes _ _ HP.out).mono ?_
  rintro e w1 ⟨rfl, hd⟩
  have HD := Lib.hid (hd.gby none)
  clear hd
  go_wp2_with fail
  go_at_call 66
  refine (rng_yes _ _ _ _ (by omega) (by omega)).mono ?_
  rintro e w2 ⟨rfl, rfl⟩
  go_wp2_with fail
  go_at_call 66
  refine (rng_yes _ _ _ _ (by omega) (by omega)).mono ?_
  rintro e w2 ⟨rfl, rfl⟩
  go_wp2
  go_loopw [0, 7, 9] (fun q v n wr => ∃ (a' l' : Int) (k : Nat) (xs : List DPiece) (f : Nat), q = .int .i64 a' ∧ (∃ y, n = y) ∧ 0 ≤ a' ∧ 0 ≤ l' ∧ l' ≤ (f : Int) ∧ a' + l' = a + l ∧ xs.length = k ∧ (k : Int) + l' ≤ 64 ∧ xs ++ piecesF f a' l' p = piecesF 64 a l p ∧ wr.ownsRow W.heap.size 53 2 v k (xs.flatMap cPc) ∧ W.grownBy wr none) (fun q _ _ _ => (a + l - intOf q).toNat)
  case atStart => exact ⟨a, l, 0, [], 64, rfl, ⟨_, rfl⟩, by omega, by omega, by omega, rfl, rfl, by omega, rfl, World.ownsRow_nil _ _ _ _, HD.out⟩
  case round =>
    obtain ⟨a', l', k, xs, f, rfl, ⟨nn, rfl⟩, b1, b2, b3, b4, hk, b5, hx, hown, hg⟩ := hrel
    have HO := Lib.hid hown
    have HG := Lib.hid hg
    have HX := Lib.hid hx
    have HK := Lib.hid hk
    have hsz := hg.size
    clear hown hg hx hk
    by_cases hlt : 0 < l'
    · obtain ⟨f, rfl⟩ : ∃ g, f = g + 1 := ⟨f - 1, by omega⟩
      obtain ⟨c1, c2, c3, c4, c5, _, _⟩ := piece_bounds (a := a') (l := l') (p := p) HP.out b1 hlt
      have hgt : a' < a + l := by omega
      have hup := piece_up (a := a') (l := l') (p := p) HP.out b1 hlt
      have hxs : (xs ++ [(⟨a', pieceLen a' l' p⟩ : DPiece)]) ++ piecesF f (a' + pieceLen a' l' p) (l' - pieceLen a' l' p) p = piecesF 64 a l p := by
        rw [← HX.out, List.append_assoc]
        congr 1
        conv => rhs; unfold piecesF
        rw [if_neg (by omega)]; rfl
      have HXS := Lib.hid hxs
      clear hxs
      generalize pieceLen a' l' p = n at c1 c2 c3 hup HXS
      have HUP := Lib.hid hup
      clear hup
      go_wp2_with fail
      go_at_call 85
      refine (implRound_in _ _ _ (by omega) (by omega) (isPay_pow HP.out)).mono ?_
      rintro e w3 ⟨rfl, hd⟩
      have HO3 := Lib.hid (HO.out.grown (hd.gby none))
      have HG3 := Lib.hid (gby_trans HG.out (hd.gby none))
      have hs3 := HG3.out.size
      clear hd
      have hup := HUP.out
      generalize upTo (a' + 1) p = u at hup ⊢
      have hmin : (if a + l < u then a + l else u) = a' + n := by rw [← hup, b4]; split <;> split <;> omega
      clear hup
      go_wp2_with (at_builtin; refine wpList_append_lies _ (by rfl) _ _ _ (by rfl) W.heap.size 53 i0 _ 2 16 Try.underlying50 hi0 hz0 hz1 hz2 rfl (by omega) _ k (xs.flatMap cPc) (by rfl) (HO3.out.alloc _) ⟨w3.heap.size, 0, none⟩ 1 1 _ (by rfl) (by rfl) (World.news_of_block (t := 53) (fr := (0, 0)) (heap_alloc_new w3 _)) (by simp [Value.oneCell']) (by omega) (by unfold maxLen; omega) (by omega) (by simp; omega) (w3.heap.size + 1) (by simp) ?_; intro gg cap2 w5 hown5 hgrow5 hat hlt1; have HO5 := Lib.hid hown5; have HG5 := Lib.hid hgrow5; clear hown5 hgrow5 hat hlt1)
      refine ⟨⟨a' + n, l' - n, k + 1, xs ++ [⟨a', n⟩], f, by go_num, ⟨_, rfl⟩, by omega, by omega, by omega, by omega, by have := HK.out; simp [this], by omega, HXS.out, ?_, ?_⟩, by simp [intOf]; omega⟩
      · rw [flat_snoc]
        have q := HO5.out
        rw [show a' + n - a' = n by omega] at q
        exact q
      · exact gby_new (gby_alloc HG3.out _) HG5.out (fun b hb => own_from HO3.out b hb)
    · have hgt : ¬ a' < a + l := by omega
      obtain rfl : l' = 0 := by omega
      go_wp2
      go_ret
      have hx := HX.out
      rw [piecesF_end, List.append_nil] at hx
      have hk := HK.out
      subst hk
      refine ⟨_, rfl, ?_, HG.out⟩
      rw [← hx]
      exact OwU.one (owP_row (s := shPiece) cPc (fun _ => rfl) (fun _ _ _ _ => rfl) (by omega) HO.out)

end Go.Proofs.Ytdieobfkdbeiiaa
