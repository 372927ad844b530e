/-
  Contracts of the program's chapter 6: FlipBit, DistanceOf.
-/
import Derived.Test.YtokpmbagidokkaaChkSpec
import Derived.Test.YtokpmbagidokkaaClone
import Derived.Test.YtokpmbagidokkaaWireImpl
import Derived.Test.YtokpmbagidokkaaBits4Impl
import Derived.StillTailTactics
namespace Go.Proofs.Ytokpmbagidokkaa
open Go Go.RowKit

/-- a row of the call's own that holds a number at k: what is read and written there -/
theorem OwI.at {w : World} {lo hi : Nat} {v : Value} {xs : List Int} (h : OwI w lo hi v xs) {k : Nat} (hk : k < xs.length) : ∃ b off cap, v = .slice (some ⟨b, off, none⟩) xs.length cap ∧ lo ≤ b ∧ b < hi ∧ w.cell? ⟨b, off + k, none⟩ = some (.int .i64 (xs.getD k 0)) ∧ w.frozen? ⟨b, off + k, none⟩ = false ∧
    ∀ x, OwI (w.setCell ⟨b, off + k, none⟩ (.int .i64 x)) lo hi v (xs.set k x) := by
  obtain ⟨a, cap, rfl, ⟨h1, h2⟩, h3, h4⟩ := h
  obtain ⟨b, off, rfl, hb1, C, t, hb, hC⟩ := h2.resolve_left (by omega)
  have hc1 := cell_of_row w b (off + k) C t _ hb
  rw [hC k hk] at hc1
  have hsz : off + k < C.size := by
    have := hC k hk
    rcases Nat.lt_or_ge (off + k) C.size with q | q
    · exact q
    · rw [Array.getElem?_eq_none q] at this; cases this
  refine ⟨b, off, cap, rfl, hb1, (h3 _ rfl).2, hc1, frozen_of_row w b (off + k) C t hb, fun x => ⟨_, cap, by rw [List.length_set], ⟨rfl, .inr ⟨b, off, rfl, hb1, C.setIfInBounds (off + k) (.int .i64 x), t, heap_setCell_same w b (off + k) C t _ hb, fun j hj => ?_⟩⟩, h3, by rw [List.length_set]; exact h4⟩⟩
  rw [List.length_set] at hj
  rw [Array.getElem?_setIfInBounds, List.getD_eq_getElem?_getD, List.getElem?_set]
  by_cases e : k = j
  · subst e
    rw [if_pos rfl, if_pos hsz, if_pos rfl, if_pos (by omega)]; rfl
  · rw [if_neg (by omega), if_neg e, ← List.getD_eq_getElem?_getD]
    exact hC j hj

set_option maxRecDepth 4000 in
set_option maxHeartbeats 1000000 in
theorem implFlip_any (W : World) (v : Value) (xs : List Int) (q : Int) (H : RdI W v xs) (hl : xs.length ≤ 1048576) :
    Calls Try.prog 40 #[v, .int .i64 q] W (RowI (flipOr xs q) W) := by
  have HR := Lib.hid H
  obtain ⟨a, cap, rfl, hi, hcap⟩ := H
  have HX := Lib.hid hi
  clear hi hcap
  go_enter Try.func40, Try.ntmps40
  go_wp2_with fail
  go_at_call 63
  refine (clone_any _ _ xs HR.out hl).mono ?_
  rintro e w2 ⟨v2, rfl, o2, g2⟩
  have HO2 := Lib.hid o2
  have HG2 := Lib.hid g2
  clear o2 g2
  go_wp2_with fail
  go_at_call 22
  refine (implBytes_any _ _ _ _ xs (HX.out.kept HG2.out) (by omega)).mono ?_
  rintro e w3 ⟨rfl, rfl⟩
  by_cases hb : AreB xs
  · have hd : decide (AreB xs) = true := decide_eq_true hb
    rw [hd]
    go_wp2_with fail
    go_at_call 58
    by_cases hq : 0 ≤ q ∧ q ≤ 8 * (xs.length : Int) - 1
    · refine (rng_yes _ _ _ _ hq.1 hq.2).mono ?_
      rintro e w4 ⟨rfl, rfl⟩
      obtain ⟨p, rfl⟩ : ∃ p : Nat, q = (p : Int) := ⟨q.toNat, by omega⟩
      have hp8 : p / 8 < xs.length := by omega
      obtain ⟨b, off, cp, rfl, hb1, hb2, hc, hf, hset⟩ := HO2.out.at hp8
      have hy0 := areB_at hb hp8
      obtain ⟨y, hy⟩ : ∃ y : Nat, xs.getD (p / 8) 0 = (y : Int) := ⟨_, (Int.toNat_of_nonneg hy0.1).symm⟩
      rw [hy] at hc hy0
      have hx : bits .xor .i64 (y : Int) (wrap64 (2 ^ (p % 8))) = ((y ^^^ 2 ^ (p % 8) : Nat) : Int) := by
        rw [pow_val _ (by omega)]
        exact xor_nat _ _ (by omega) (by have := bit_lt p; omega)
      have i0 : (0 : Int) ≤ (p : Int) / 8 := by omega
      have i1 : (p : Int) / 8 < (xs.length : Int) := by omega
      have i2 : ((p : Int) / 8).toNat = p / 8 := by omega
      have i3 : (0 : Int) ≤ (p : Int) % 8 := by omega
      have i4 : ((p : Int) % 8).toNat = p % 8 := by omega
      have iw : IntKind.i64.wrap ((p : Int) / 8) = (p : Int) / 8 := wrap_small _ (by omega) (by omega)
      have im : (p : Int).tmod 8 = (p : Int) % 8 := Int.tmod_eq_emod_of_nonneg (by omega)
      have i5 : (p : Int) % 8 ≤ 64 := by omega
      have HY := Lib.hid hy
      have HQ := Lib.hid hq
      have HBB := Lib.hid hb
      have HS := Lib.hid hset
      clear hy hq hb hy0 hset
      go_wp2
      go_still_tail 10, (by kernel_rfl)
      go_wp2
      go_ret
      refine ⟨_, rfl, ?_, gby_drew (gby_setnew HG2.out _ hb1 _)⟩
      have e : flipOr xs (p : Int) = xs.set (p / 8) ((y ^^^ 2 ^ (p % 8) : Nat) : Int) := by
        unfold flipOr
        rw [if_pos ⟨HBB.out, HQ.out⟩]
        unfold flipI
        rw [show ((p : Int)).toNat = p by omega, HY.out]
        rfl
      rw [e, hx]
      exact ((HS.out ((y ^^^ 2 ^ (p % 8) : Nat) : Int)).wide (Nat.le_refl _) (by simp)).grow (gby_drew (gby_refl _ _))
    · refine (rng_no _ _ _ _ (by omega)).mono ?_
      rintro e w4 ⟨rfl, rfl⟩
      go_wp2
      go_ret
      refine ⟨_, rfl, ?_, HG2.out⟩
      unfold flipOr
      rw [if_neg (fun h => hq h.2)]
      exact HO2.out
  · have hd : decide (AreB xs) = false := decide_eq_false hb
    rw [hd]
    go_wp2
    go_ret
    refine ⟨_, rfl, ?_, HG2.out⟩
    unfold flipOr
    rw [if_neg (fun h => hb h.1)]
    exact HO2.out

theorem xor_byte {x y : Nat} (hx : x < 256) (hy : y < 256) : x ^^^ y < 256 := Nat.xor_lt_two_pow (n := 8) hx hy
theorem toN_at {xs : List Int} {k : Nat} {z : Nat} (h : xs.getD k 0 = (z : Int)) : (toN xs).getD k 0 = z := by
  unfold toN
  rw [List.getD_eq_getElem?_getD, List.getElem?_map]
  rw [List.getD_eq_getElem?_getD] at h
  cases hq : xs[k]? with
  | none => rw [hq] at h; simp at h ⊢; omega
  | some c => rw [hq] at h; simp at h ⊢; omega

set_option maxRecDepth 4000 in
set_option maxHeartbeats 1000000 in
theorem specDist_in (W : World) (v1 v2 : Value) (xs ys : List Int) (H1 : RdI W v1 xs) (H2 : RdI W v2 ys) (hb1 : AreB xs) (hb2 : AreB ys) (hl : ys.length = xs.length) :
    Calls Try.prog 48 #[v1, v2] W (Ans (.int .i64 (distTo (toN xs) (toN ys) xs.length : Int)) W) := by
  obtain ⟨a, cap, rfl, hi1, _⟩ := H1
  obtain ⟨b, cap2, rfl, hi2, _⟩ := H2
  rw [hl] at hi2 ⊢
  have hd1 : decide (AreB xs) = true := decide_eq_true hb1
  have hd2 : decide (AreB ys) = true := decide_eq_true hb2
  have h40 := hb1.2
  obtain ⟨len, hlen⟩ : ∃ n, n = xs.length := ⟨_, rfl⟩
  rw [← hlen] at hi1 hi2 h40 ⊢
  have X1 := Lib.hid hi1
  have X2 := Lib.hid hi2
  have B1 := Lib.hid hb1
  have B2 := Lib.hid hb2
  clear hi1 hi2 hb1 hb2 hl hlen
  go_enter Try.func48, Try.ntmps48
  go_wp2_with fail
  go_at_call 35
  refine (specBytes_any _ _ _ _ xs X1.out (by omega)).mono ?_
  rintro e w1 ⟨rfl, rfl⟩
  rw [hd1]
  go_wp2_with fail
  go_at_call 35
  refine (specBytes_any _ _ _ _ ys X2.out (by omega)).mono ?_
  rintro e w1 ⟨rfl, rfl⟩
  rw [hd2]
  clear hd1 hd2
  go_wp2
  go_loopw [5, 6] (fun n i wr => ∃ k : Nat, k ≤ len ∧ i = .int .i64 (k : Int) ∧ n = .int .i64 (distTo (toN xs) (toN ys) k : Int) ∧ Drew W wr) (fun _ i _ => len - (intOf i).toNat)
  case atStart => exact ⟨0, Nat.zero_le _, rfl, rfl, Drew.refl _⟩
  case round =>
    obtain ⟨k, hk, rfl, rfl, hdr⟩ := hrel
    have HD := Lib.hid hdr
    clear hdr
    have hdl := distTo_le (toN xs) (toN ys) k
    by_cases hlt : k < len
    · have hki : (k : Int) < (len : Int) := by omega
      have hk0 : (0 : Int) ≤ (k : Int) := by omega
      have htn : ((k : Int)).toNat = k := by omega
      have kx : k < xs.length := by have := X1.out.1; omega
      have ky : k < ys.length := by have := X2.out.1; omega
      obtain ⟨b1, off1, rfl, hc1⟩ := X1.out.2.resolve_left (by omega)
      obtain ⟨b2, off2, rfl, hc2⟩ := X2.out.2.resolve_left (by omega)
      have c1 := (HD.out.gby none).cell (hc1 k hlt) (by simp)
      have c2 := (HD.out.gby none).cell (hc2 k hlt) (by simp)
      have r1 := areB_at B1.out kx
      have r2 := areB_at B2.out ky
      obtain ⟨x, hx⟩ : ∃ x : Nat, xs.getD k 0 = (x : Int) := ⟨_, (Int.toNat_of_nonneg r1.1).symm⟩
      obtain ⟨y, hy⟩ : ∃ y : Nat, ys.getD k 0 = (y : Int) := ⟨_, (Int.toNat_of_nonneg r2.1).symm⟩
      rw [hx] at c1 r1
      rw [hy] at c2 r2
      have hxy := xor_nat x y (by omega) (by omega)
      have hz := xor_byte (x := x) (y := y) (by omega) (by omega)
      have HT := Lib.hid (show distTo (toN xs) (toN ys) (k + 1) = distTo (toN xs) (toN ys) k + onesTo (x ^^^ y) 16 by
        show _ + onesTo ((toN xs).getD k 0 ^^^ (toN ys).getD k 0) 16 = _
        rw [toN_at hx, toN_at hy])
      have ho := onesTo_le (x ^^^ y) 16
      obtain ⟨z, hzz⟩ : ∃ z, z = x ^^^ y := ⟨_, rfl⟩
      rw [← hzz] at hxy hz HT ho
      have HC := Lib.hid (fun W => specCount_in z W (by omega))
      obtain ⟨d, hd⟩ : ∃ d, d = distTo (toN xs) (toN ys) k := ⟨_, rfl⟩
      rw [← hd] at HT hdl ⊢
      obtain ⟨o, hoo⟩ : ∃ o, o = onesTo z 16 := ⟨_, rfl⟩
      rw [← hoo] at HT ho HC
      clear hc1 hc2 hx hy hzz hd r1 r2 hoo
      go_wp2_with fail
      go_quiet ((go_at_call 69; exact ans_quiet HC.out))
      go_wp2
      exact ⟨⟨k + 1, by omega, by go_num, by rw [HT.out]; rfl, by repeat (first | exact HD.out | apply Drew.drewN)⟩, by simp [intOf]; omega⟩
    · have hki : ¬ (k : Int) < (len : Int) := by omega
      obtain rfl : k = len := by omega
      go_wp2
      go_ret
      exact ⟨rfl, HD.out⟩

set_option maxHeartbeats 1000000 in
theorem specDist_out (W : World) (v1 v2 : Value) (xs ys : List Int) (H1 : RdI W v1 xs) (H2 : RdI W v2 ys) (l1 : xs.length ≤ 1048576) (l2 : ys.length ≤ 1048576) (h : ¬ (AreB xs ∧ AreB ys ∧ ys.length = xs.length)) :
    Calls Try.prog 48 #[v1, v2] W (Ans (.int .i64 (-1)) W) := by
  obtain ⟨a, cap, rfl, hi1, _⟩ := H1
  obtain ⟨b, cap2, rfl, hi2, _⟩ := H2
  have X1 := Lib.hid hi1
  have X2 := Lib.hid hi2
  clear hi1 hi2
  have three : decide (AreB xs) = false ∨ (decide (AreB xs) = true ∧ decide (AreB ys) = false) ∨ (decide (AreB xs) = true ∧ decide (AreB ys) = true ∧ ((xs.length : Int) != (ys.length : Int)) = true) := by
    by_cases hb1 : AreB xs
    · by_cases hb2 : AreB ys
      · have : ys.length ≠ xs.length := fun e => h ⟨hb1, hb2, e⟩
        exact .inr (.inr ⟨decide_eq_true hb1, decide_eq_true hb2, by simp; omega⟩)
      · exact .inr (.inl ⟨decide_eq_true hb1, decide_eq_false hb2⟩)
    · exact .inl (decide_eq_false hb1)
  rcases three with hd1 | ⟨hd1, hd2⟩ | ⟨hd1, hd2, hne⟩
  all_goals
    clear h
    go_enter Try.func48, Try.ntmps48
    go_wp2_with fail
    go_at_call 35
    refine (specBytes_any _ _ _ _ xs X1.out (by omega)).mono ?_
    rintro e w1 ⟨rfl, rfl⟩
    rw [hd1]
    first
      | (go_wp2_with fail
         go_at_call 35
         refine (specBytes_any _ _ _ _ ys X2.out (by omega)).mono ?_
         rintro e w1 ⟨rfl, rfl⟩
         rw [hd2])
      | skip
    go_wp2
    go_ret
    exact ⟨rfl, Drew.refl _⟩

set_option maxHeartbeats 1000000 in
theorem implDist_out (W : World) (v1 v2 : Value) (xs ys : List Int) (H1 : RdI W v1 xs) (H2 : RdI W v2 ys) (l1 : xs.length ≤ 1048576) (l2 : ys.length ≤ 1048576) (h : ¬ (AreB xs ∧ AreB ys ∧ ys.length = xs.length)) :
    Calls Try.prog 41 #[v1, v2] W (Ans (.int .i64 (-1)) W) := by
  obtain ⟨a, cap, rfl, hi1, _⟩ := H1
  obtain ⟨b, cap2, rfl, hi2, _⟩ := H2
  have X1 := Lib.hid hi1
  have X2 := Lib.hid hi2
  clear hi1 hi2
  have three : decide (AreB xs) = false ∨ (decide (AreB xs) = true ∧ decide (AreB ys) = false) ∨ (decide (AreB xs) = true ∧ decide (AreB ys) = true ∧ ((xs.length : Int) != (ys.length : Int)) = true) := by
    by_cases hb1 : AreB xs
    · by_cases hb2 : AreB ys
      · have : ys.length ≠ xs.length := fun e => h ⟨hb1, hb2, e⟩
        exact .inr (.inr ⟨decide_eq_true hb1, decide_eq_true hb2, by simp; omega⟩)
      · exact .inr (.inl ⟨decide_eq_true hb1, decide_eq_false hb2⟩)
    · exact .inl (decide_eq_false hb1)
  rcases three with hd1 | ⟨hd1, hd2⟩ | ⟨hd1, hd2, hne⟩
  all_goals
    clear h
    go_enter Try.func41, Try.ntmps41
    go_wp2_with fail
    go_at_call 22
    refine (implBytes_any _ _ _ _ xs X1.out (by omega)).mono ?_
    rintro e w1 ⟨rfl, rfl⟩
    rw [hd1]
    first
      | (go_wp2_with fail
         go_at_call 22
         refine (implBytes_any _ _ _ _ ys X2.out (by omega)).mono ?_
         rintro e w1 ⟨rfl, rfl⟩
         rw [hd2])
      | skip
    go_wp2
    go_ret
    exact ⟨rfl, Drew.refl _⟩

set_option maxRecDepth 4000 in
set_option maxHeartbeats 1000000 in
theorem implDist_in (W : World) (v1 v2 : Value) (xs ys : List Int) (H1 : RdI W v1 xs) (H2 : RdI W v2 ys) (hb1 : AreB xs) (hb2 : AreB ys) (hl : ys.length = xs.length) :
    Calls Try.prog 41 #[v1, v2] W (Ans (.int .i64 (distTo (toN xs) (toN ys) xs.length : Int)) W) := by
  obtain ⟨a, cap, rfl, hi1, _⟩ := H1
  obtain ⟨b, cap2, rfl, hi2, _⟩ := H2
  rw [hl] at hi2 ⊢
  have hd1 : decide (AreB xs) = true := decide_eq_true hb1
  have hd2 : decide (AreB ys) = true := decide_eq_true hb2
  have h40 := hb1.2
  obtain ⟨len, hlen⟩ : ∃ n, n = xs.length := ⟨_, rfl⟩
  rw [← hlen] at hi1 hi2 h40 ⊢
  have X1 := Lib.hid hi1
  have X2 := Lib.hid hi2
  have B1 := Lib.hid hb1
  have B2 := Lib.hid hb2
  have hne : ((len : Int) != (len : Int)) = false := by simp
  clear hi1 hi2 hb1 hb2 hl hlen
  go_enter Try.func41, Try.ntmps41
  go_wp2_with fail
  go_at_call 22
  refine (implBytes_any _ _ _ _ xs X1.out (by omega)).mono ?_
  rintro e w1 ⟨rfl, rfl⟩
  rw [hd1]
  go_wp2_with fail
  go_at_call 22
  refine (implBytes_any _ _ _ _ ys X2.out (by omega)).mono ?_
  rintro e w1 ⟨rfl, rfl⟩
  rw [hd2]
  clear hd1 hd2
  go_wp2
  go_loopw [5, 24] (fun n i wr => ∃ k : Nat, k ≤ len ∧ i = .int .i64 (k : Int) ∧ n = .int .i64 (distTo (toN xs) (toN ys) k : Int) ∧ Drew W wr) (fun _ i _ => len - (intOf i).toNat)
  case atStart => exact ⟨0, Nat.zero_le _, rfl, rfl, Drew.refl _⟩
  case round =>
    obtain ⟨k, hk, rfl, rfl, hdr⟩ := hrel
    have HD := Lib.hid hdr
    clear hdr
    have hdl := distTo_le (toN xs) (toN ys) k
    by_cases hlt : k < len
    · have hki : (k : Int) < (len : Int) := by omega
      have hk0 : (0 : Int) ≤ (k : Int) := by omega
      have htn : ((k : Int)).toNat = k := by omega
      have kx : k < xs.length := by have := X1.out.1; omega
      have ky : k < ys.length := by have := X2.out.1; omega
      obtain ⟨b1, off1, rfl, hc1⟩ := X1.out.2.resolve_left (by omega)
      obtain ⟨b2, off2, rfl, hc2⟩ := X2.out.2.resolve_left (by omega)
      have c1 := (HD.out.gby none).cell (hc1 k hlt) (by simp)
      have c2 := (HD.out.gby none).cell (hc2 k hlt) (by simp)
      have r1 := areB_at B1.out kx
      have r2 := areB_at B2.out ky
      obtain ⟨x, hx⟩ : ∃ x : Nat, xs.getD k 0 = (x : Int) := ⟨_, (Int.toNat_of_nonneg r1.1).symm⟩
      obtain ⟨y, hy⟩ : ∃ y : Nat, ys.getD k 0 = (y : Int) := ⟨_, (Int.toNat_of_nonneg r2.1).symm⟩
      rw [hx] at c1 r1
      rw [hy] at c2 r2
      have hxy := xor_nat x y (by omega) (by omega)
      have hz := xor_byte (x := x) (y := y) (by omega) (by omega)
      have HT := Lib.hid (show distTo (toN xs) (toN ys) (k + 1) = distTo (toN xs) (toN ys) k + onesTo (x ^^^ y) 16 by
        show _ + onesTo ((toN xs).getD k 0 ^^^ (toN ys).getD k 0) 16 = _
        rw [toN_at hx, toN_at hy])
      have ho := onesTo_le (x ^^^ y) 16
      obtain ⟨z, hzz⟩ : ∃ z, z = x ^^^ y := ⟨_, rfl⟩
      rw [← hzz] at hxy hz HT ho
      have HC := Lib.hid (fun W => implCount_in z W (by omega))
      obtain ⟨d, hd⟩ : ∃ d, d = distTo (toN xs) (toN ys) k := ⟨_, rfl⟩
      rw [← hd] at HT hdl ⊢
      obtain ⟨o, hoo⟩ : ∃ o, o = onesTo z 16 := ⟨_, rfl⟩
      rw [← hoo] at HT ho HC
      clear hc1 hc2 hx hy hzz hd r1 r2 hoo
      go_wp2_with fail
      go_quiet ((go_at_call 64; exact ans_quiet HC.out))
      go_wp2
      exact ⟨⟨k + 1, by omega, by go_num, by rw [HT.out]; rfl, by repeat (first | exact HD.out | apply Drew.drewN)⟩, by simp [intOf]; omega⟩
    · have hki : ¬ (k : Int) < (len : Int) := by omega
      obtain rfl : k = len := by omega
      go_wp2
      go_ret
      exact ⟨rfl, HD.out⟩

end Go.Proofs.Ytokpmbagidokkaa
