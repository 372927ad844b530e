/-
  Contracts of the program's chapter 6: FlipBit, DistanceOf.
-/
import Derived.Test.YtokpmbagidokkacChkSpec
import Derived.Test.YtokpmbagidokkacClone
import Derived.Test.YtokpmbagidokkacWireImpl
import Derived.Test.YtokpmbagidokkacBits4Impl
import Derived.StillTailTactics
namespace Go.Proofs.Ytokpmbagidokkac
open Go Go.RowKit

/-- a row of the call's own that holds a number at k: what is read and written there -/
theorem OwI.at {w : World} {lo hi : Nat} {v : Value} {xs : List Int} (h : OwI w lo hi v xs) {k : Nat} (hk : k < xs.length) : ∃ b off cap, v = .slice (some ⟨b, off, none⟩) xs.length cap ∧ lo ≤ b ∧ b < hi ∧ w.cell? ⟨b, off + k, none⟩ = some (.int .i64 (xs.getD k 0)) ∧ w.frozen? ⟨b, off + k, none⟩ = false ∧
    ∀ x, OwI (w.setCell ⟨b, off + k, none⟩ (.int .i64 x)) lo hi v (xs.set k x) := by
  obtain ⟨a, cap, rfl, ⟨h1, h2⟩, h3, h4⟩ := h
  obtain ⟨b, off, rfl, hb1, C, t, hb, hC⟩ := h2.resolve_left (by omega)
  have hc1 := cell_of_row w b (off + k) C t _ hb
  rw [hC k hk] at hc1
  have hsz : off + k < C.size := by
    have := hC k hk
    rcases Nat.lt_or_ge (off + k) C.size with q | q
    · exact q
    · rw [Array.getElem?_eq_none q] at this; cases this
  refine ⟨b, off, cap, rfl, hb1, (h3 _ rfl).2, hc1, frozen_of_row w b (off + k) C t hb, fun x => ⟨_, cap, by rw [List.length_set], ⟨rfl, .inr ⟨b, off, rfl, hb1, C.setIfInBounds (off + k) (.int .i64 x), t, heap_setCell_same w b (off + k) C t _ hb, fun j hj => ?_⟩⟩, h3, by rw [List.length_set]; exact h4⟩⟩
  rw [List.length_set] at hj
  rw [Array.getElem?_setIfInBounds, List.getD_eq_getElem?_getD, List.getElem?_set]
  by_cases e : k = j
  · subst e
    rw [if_pos rfl, if_pos hsz, if_pos rfl, if_pos (by omega)]; rfl
  · rw [if_neg (by omega), if_neg e, ← List.getD_eq_getElem?_getD]
    exact hC j hj

set_option maxRecDepth 4000 in
set_option maxHeartbeats 1000000 in
theorem implFlip_any (W : World) (v : Value) (xs : List Int) (q : Int) (H : RdI W v xs) (hl : xs.length ≤ 1048576) :
    Calls Try.prog 124 #[v, .int .i64 q] W (RowI (flipOr xs q) W) := by
  have HR := Lib.hid H
  obtain ⟨a, cap, rfl, hi, hcap⟩ := H
  have HX := Lib.hid hi
  clear hi hcap
  go_enter Try.func124, Try.ntmps124
  go_wp2_with fail
  go_at_call 91
  refine (clone_any _ _ xs HR.out hl).mono ?_
  rintro e w2 ⟨v2, rfl, o2, g2⟩
  have HO2 := Lib.hid o2
  have HG2 := Lib.hid g2
  clear o2 g2
  go_wp2_with fail
  go_at_call 88
  refine (implBytes_any _ _ _ _ xs (HX.out.kept HG2.out) (by omega)).mono ?_
  rintro e w3 ⟨rfl, rfl⟩
  by_cases hb : AreB xs
  · have hd : decide (AreB xs) = true := decide_eq_true hb
    rw [hd]
    go_wp2_with fail
    go_at_call 87
    by_cases hq : 0 ≤ q ∧ q ≤ 8 * (xs.length : Int) - 1
    · refine (rng_yes _ _ _ _ hq.1 hq.2).mono ?_
      rintro e w4 ⟨rfl, rfl⟩
      obtain ⟨p, rfl⟩ : ∃ p : Nat, q = (p : Int) := ⟨q.toNat, by omega⟩
      have hp8 : p / 8 < xs.length := by omega
      obtain ⟨b, off, cp, rfl, hb1, hb2, hc, hf, hset⟩ := HO2.out.at hp8
      have hy0 := areB_at hb hp8
      obtain ⟨y, hy⟩ : ∃ y : Nat, xs.getD (p / 8) 0 = (y : Int) := ⟨_, (Int.toNat_of_nonneg hy0.1).symm⟩
      rw [hy] at hc hy0
      have hx : bits .xor .i64 (y : Int) (wrap64 (2 ^ (p % 8))) = ((y ^^^ 2 ^ (p % 8) : Nat) : Int) := by
        rw [pow_val _ (by omega)]
        exact xor_nat _ _ (by omega) (by have := bit_lt p; omega)
      have i0 : (0 : Int) ≤ (p : Int) / 8 := by omega
      have i1 : (p : Int) / 8 < (xs.length : Int) := by omega
      have i2 : ((p : Int) / 8).toNat = p / 8 := by omega
      have i3 : (0 : Int) ≤ (p : Int) % 8 := by omega
      have i4 : ((p : Int) % 8).toNat = p % 8 := by omega
      have iw : IntKind.i64.wrap ((p : Int) / 8) = (p : Int) / 8 := wrap_small _ (by omega) (by omega)
      have im : (p : Int).tmod 8 = (p : Int) % 8 := Int.tmod_eq_emod_of_nonneg (by omega)
      have i5 : (p : Int) % 8 ≤ 64 := by omega
      have HY := Lib.hid hy
      have HQ := Lib.hid hq
      have HBB := Lib.hid hb
      have HS := Lib.hid hset
      clear hy hq hb hy0 hset
      go_wp2
      go_still_tail 10, (by kernel_rfl)
      go_wp2
      go_ret
      refine ⟨_, rfl, ?_, gby_drew (gby_setnew HG2.out _ hb1 _)⟩
      have e : flipOr xs (p : Int) = xs.set (p / 8) ((y ^^^ 2 ^ (p % 8) : Nat) : Int) := by
        unfold flipOr
        rw [if_pos ⟨HBB.out, HQ.out⟩]
        unfold flipI
        rw [show ((p : Int)).toNat = p by omega, HY.out]
        rfl
      rw [e, hx]
      exact ((HS.out ((y ^^^ 2 ^ (p % 8) : Nat) : Int)).wide (Nat.le_refl _) (by simp)).grow (gby_drew (gby_refl _ _))
    · refine (rng_no _ _ _ _ (by omega)).mono ?_
      rintro e w4 ⟨rfl, rfl⟩
      go_wp2
      go_ret
      refine ⟨_, rfl, ?_, HG2.out⟩
      unfold flipOr
      rw [if_neg (fun h => hq h.2)]
      exact HO2.out
  · have hd : decide (AreB xs) = false := decide_eq_false hb
    rw [hd]
    go_wp2
    go_ret
    refine ⟨_, rfl, ?_, HG2.out⟩
    unfold flipOr
    rw [if_neg (fun h => hb h.1)]
    exact HO2.out

theorem xor_byte {x y : Nat} (hx : x < 256) (hy : y < 256) : x ^^^ y < 256 := Nat.xor_lt_two_pow (n := 8) hx hy
theorem toN_at {xs : List Int} {k : Nat} {z : Nat} (h : xs.getD k 0 = (z : Int)) : (toN xs).getD k 0 = z := by
  unfold toN
  rw [List.getD_eq_getElem?_getD, List.getElem?_map]
  rw [List.getD_eq_getElem?_getD] at h
  cases hq : xs[k]? with
  | none => rw [hq] at h; simp at h ⊢; omega
  | some c => rw [hq] at h; simp at h ⊢; omega

end Go.Proofs.Ytokpmbagidokkac
