/-
  Contracts of the program's chapter 5: AreBytes, SplitWord, splitWords, joinWords.
-/
import Derived.Test.YtokpmbagidokkacChg
import Derived.Test.YtokpmbagidokkacWireNum
import Derived.Test.YtokpmbagidokkacAppendInts
import Derived.Test.YtokpmbagidokkacWireEnc
namespace Go.Proofs.Ytokpmbagidokkac
open Go Go.RowKit

set_option maxHeartbeats 1000000 in
theorem implBytes_any (W : World) (a : Option Addr) (len cap : Nat) (xs : List Int) (H : ISl W a len xs) (hl : len ≤ 9223372036854775807) :
    Calls Try.prog 88 #[.slice a len cap] W (fun e w' => e = .returned (.bool (decide (AreB xs))) ∧ W = w') := by
  obtain ⟨e, H2⟩ := H
  have HC := Lib.hid H2
  have HE := Lib.hid e
  clear H2 e
  by_cases hbig : (40 : Int) < (len : Int)
  · go_enter Try.func88, Try.ntmps88
    go_wp2
    go_ret
    have hnot : ¬ AreB xs := fun h => by have := h.2; have := HE.out; omega
    exact ⟨ret_bool (by simp [hnot]), rfl⟩
  go_enter Try.func88, Try.ntmps88
  go_wp2
  go_loopw [10] (fun i wr => ∃ k : Nat, k ≤ len ∧ i = .int .i64 (k : Int) ∧ (∀ j, j < k → 0 ≤ xs.getD j 0 ∧ xs.getD j 0 ≤ 255) ∧ W = wr) (fun i _ => len - (intOf i).toNat)
  case atStart => exact ⟨0, Nat.zero_le _, rfl, fun j hj => absurd hj (Nat.not_lt_zero _), rfl⟩
  case round =>
    obtain ⟨k, hk, rfl, hn, rfl⟩ := hrel
    have HN := Lib.hid hn
    clear hn
    by_cases hlt : k < len
    · have hki : (k : Int) < (len : Int) := by omega
      obtain ⟨b, off, rfl, hcell⟩ := HC.out.resolve_left (by omega)
      have hc := hcell k hlt
      clear hcell
      obtain ⟨x, hx⟩ : ∃ x : Int, x = xs.getD k 0 := ⟨_, rfl⟩
      rw [← hx] at hc
      have HX := Lib.hid hx
      clear hx
      by_cases hg : 0 ≤ x ∧ x ≤ 255
      · obtain ⟨g1, g2⟩ := hg
        go_wp2_with (first | (go_at_call 87; refine (rng_yes _ _ _ _ g1 g2).mono ?_; rintro e w' ⟨rfl, rfl⟩) | go_in)
        refine ⟨⟨k + 1, by omega, by go_num, ?_, by trivial⟩, by simp [intOf]; omega⟩
        intro j hj
        by_cases e : j = k
        · subst e; rw [← HX.out]; exact ⟨g1, g2⟩
        · exact HN.out j (by omega)
      · have HG := Lib.hid hg
        clear hg
        go_wp2_with (first | (go_at_call 87; refine (rng_no _ _ _ _ (by have := HG.out; omega)).mono ?_; rintro e w' ⟨rfl, rfl⟩) | go_in)
        go_ret
        have hnot : ¬ AreB xs := areB_bad (k := k) (by have := HE.out; omega) (by have h := HG.out; rw [HX.out] at h; omega)
        exact ⟨ret_bool (by simp [hnot]), rfl⟩
    · have hki : ¬ (k : Int) < (len : Int) := by omega
      have hyes : AreB xs := ⟨areB_all (fun j hj => HN.out j (by have := HE.out; omega)), by have := HE.out; omega⟩
      go_wp2
      go_ret
      exact ⟨ret_bool (by simp), rfl⟩

theorem implSplit_in (x : Int) (W : World) (h0 : 0 ≤ x) (h1 : x ≤ 65535) : Calls Try.prog 89 #[.int .i64 x] W (Ans (.tuple #[.int .i64 (x / 256), .int .i64 (x % 256)]) W) := by
  go_enter Try.func89, Try.ntmps89
  go_wp2_with (go_at_call 107; refine (word_yes _ _ h0 h1).mono ?_; rintro e w' ⟨rfl, rfl⟩)
  go_ret2
  exact ⟨rfl, Drew.refl _⟩

theorem implSplit_out (x : Int) (W : World) (h : x < 0 ∨ 65535 < x) : Calls Try.prog 89 #[.int .i64 x] W (Ans (.tuple #[.int .i64 0, .int .i64 0]) W) := by
  have H := Lib.hid h
  clear h
  go_enter Try.func89, Try.ntmps89
  go_wp2_with (go_at_call 107; refine (word_no _ _ H.out).mono ?_; rintro e w' ⟨rfl, rfl⟩)
  go_ret2
  exact ⟨rfl, Drew.refl _⟩

theorem join_any (h l : Int) (W : World) (h0 : 0 ≤ h) (h1 : h ≤ 255) (h2 : 0 ≤ l) (h3 : l ≤ 255) : Calls Try.prog 115 #[.int .i64 h, .int .i64 l] W (Ans (.int .i64 (h * 256 + l)) W) := by
  go_enter Try.func115, Try.ntmps115
  go_wp2
  go_ret
  exact ⟨rfl, Drew.refl _⟩

set_option maxHeartbeats 2000000 in
theorem splitW_any (W : World) (a : Option Addr) (len cap : Nat) (xs : List Int) (H : ISl W a len xs) (hl : len ≤ 1048576) (hw : AreW xs) :
    Calls Try.prog 109 #[.slice a len cap] W (RowG W.heap.size (2 * len) (halves xs) W) := by
  obtain ⟨i0, hi0, hz0, hz1, hz2⟩ := info_parts infoInt
  have HX := Lib.hid H
  have HW := Lib.hid hw
  clear H hw
  go_enter Try.func109, Try.ntmps109
  go_wp2_with (at_make; refine wpList_make_own _ rfl _ _ 22 rfl W.heap.size 3 i0 (.int .i64 0) 1 Try.underlying22 hi0 hz0 hz1 .i64 .i64 _ (2 * len) rfl rfl (by simp) (by rw [hz2]; omega) (by unfold maxLen; omega) (Nat.le_refl _) ?_; intro w0 hown0 hgrow0; have HO0 := Lib.hid hown0; have HG0 := Lib.hid hgrow0; clear hown0 hgrow0)
  go_loopw [3, 14] (fun v i wr => ∃ n : Nat, n ≤ len ∧ i = .int .i64 (n : Int) ∧ wr.ownsRow W.heap.size 3 1 v (2 * n) (i64s (halves (xs.take n))) ∧ W.grownBy wr none) (fun _ i _ => len - (intOf i).toNat)
  case atStart => exact ⟨0, Nat.zero_le _, rfl, HO0.out, HG0.out⟩
  case round =>
    obtain ⟨n, hn, rfl, hown, hg⟩ := hrel
    have hsz := hg.size
    have HO := Lib.hid hown
    have HG := Lib.hid hg
    clear hown hg
    by_cases hlt : n < len
    · have hki : (n : Int) < (len : Int) := by omega
      have hi0' : (0 : Int) ≤ (n : Int) := by omega
      obtain ⟨b, off, rfl, hcell⟩ := (HX.out.kept HG.out).2.resolve_left (by omega)
      have hc := hcell n hlt
      clear hcell
      have htn : ((n : Int)).toNat = n := by omega
      obtain ⟨x, hx⟩ : ∃ x : Int, x = xs.getD n 0 := ⟨_, rfl⟩
      rw [← hx] at hc
      have hxb : 0 ≤ x ∧ x ≤ 65535 := hx ▸ areW_at HW.out (by have := HX.out.1; omega)
      have HXX := Lib.hid hx
      clear hx
      go_wp2_with fail
      go_at_call 89
      refine (implSplit_in x _ hxb.1 hxb.2).mono ?_
      rintro e w2 ⟨rfl, d2⟩
      have HG2 := Lib.hid (gby_trans HG.out (d2.gby none))
      have HO2 := Lib.hid (HO.out.grown (d2.gby none))
      have hs2 := HG2.out.size
      clear d2
      go_wp2_with (at_builtin; refine wpList_append_lies _ (by rfl) _ _ _ (by rfl) W.heap.size 3 i0 _ 1 8 Try.underlying22 hi0 hz0 hz1 hz2 rfl (by omega) _ (2 * n) _ (by rfl) (HO2.out.alloc _) ⟨w2.heap.size, 0, none⟩ 2 2 _ (by rfl) (by rfl) (World.news_of_block (t := 3) (fr := (0, 0)) (heap_alloc_new w2 _)) (by simp [Value.oneCell']) (by omega) (by unfold maxLen; omega) (by omega) (by simp; omega) (w2.heap.size + 1) (by simp) ?_; intro gg cap2 w5 hown5 hgrow5 hat hlt1; have HO5 := Lib.hid hown5; have HG5 := Lib.hid hgrow5; clear hown5 hgrow5 hat hlt1)
      refine ⟨⟨n + 1, by omega, by go_num, ?_, ?_⟩, by simp [intOf]; omega⟩
      · have q := HO5.out
        have ht : xs.take (n + 1) = xs.take n ++ [x] := by
          have hlx := HX.out.1
          rw [HXX.out, List.take_succ_eq_append_getElem (by omega), List.getD_eq_getElem?_getD, List.getElem?_eq_getElem (by omega)]; rfl
        rw [ht, halves_snoc, i64s_append]
        exact q
      · exact gby_new (gby_alloc HG2.out _) HG5.out (fun i hi => own_from HO2.out i hi)
    · have hki : ¬ (n : Int) < (len : Int) := by omega
      obtain rfl : n = len := by omega
      go_wp2
      go_ret
      have q := HO.out
      rw [List.take_of_length_le (by have := HX.out.1; omega)] at q
      exact ⟨_, rfl, q, HG.out⟩

end Go.Proofs.Ytokpmbagidokkac
