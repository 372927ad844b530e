/-
  Data that has come to the cells, on both sides.
-/
import Derived.Test.YtjkjodcgpdhldabShpI
import Derived.Test.YtjkjodcgpdhldabBPost0
import Derived.Test.YtjkjodcgpdhldabIntsEq
import Derived.Test.YtjkjodcgpdhldabBits2Impl
import Derived.Test.YtjkjodcgpdhldabRIsDelivered
namespace Go.Proofs.Ytjkjodcgpdhldab
open Go Go.RowKit
set_option linter.unusedVariables false

/-- the data lies at the address -/
def DelP (xs : List Int) (k : Int) (ys : List Int) : Prop := xs.length = 64 ∧ (0 ≤ k ∧ k ≤ 64 - (ys.length : Int)) ∧ ∀ j, j < ys.length → xs.getD (k.toNat + j) 0 = ys.getD j 0
theorem iff_no {p : Prop} (h : ¬ p) : false = true ↔ p := ⟨fun q => (by cases q), fun q => absurd q h⟩
theorem iff_yes {p : Prop} (h : p) : true = true ↔ p := ⟨fun _ => h, fun _ => rfl⟩
theorem inr_or (x a b : Int) : (a ≤ x ∧ x ≤ b) ∨ (x < a ∨ b < x) := by omega

set_option maxRecDepth 8000 in
set_option maxHeartbeats 2000000 in
theorem specDel (W : World) (v u : Value) (xs ys : List Int) (k : Int) (H : RdL shI W v xs) (H1 : RdL shI W u ys) (hl : szL shI xs ≤ 1048576) (hl1 : szL shI ys ≤ 1048576) : Calls Try.prog 15 #[v, .int .i64 k, u] W (BPost (DelP xs k ys) W) := by
  rw [szL_I] at hl hl1
  obtain ⟨a0, c0, rfl, hc0, hi⟩ := rdI1_in H
  obtain ⟨a1, c1, rfl, hc1, hi1⟩ := rdI1_in H1
  have HA := Lib.hid hi
  have HA1 := Lib.hid hi1
  obtain ⟨n0, hn0⟩ : ∃ n, n = xs.length := ⟨_, rfl⟩
  obtain ⟨n1, hn1⟩ : ∃ n, n = ys.length := ⟨_, rfl⟩
  have HE := Lib.hid hn0
  have HE1 := Lib.hid hn1
  have hcap := hc0.2
  unfold RdN1 at HA HA1
  rw [← hn0] at HA hl hcap ⊢
  rw [← hn1] at HA1 hl1 ⊢
  clear H H1 hi hi1 hn0 hn1 hc0 hc1
  have hw1 : IntKind.i64.wrap (64 - (n1 : Int)) = 64 - (n1 : Int) := IntWalk.i64_in _ (by omega)
  by_cases h64 : n0 = 64
  rotate_left
  · have hb : ((n0 : Int) != 64) = true := by simp; omega
    have HN := Lib.hid h64
    clear h64
    go_enter Try.func15, Try.ntmps15
    go_wp2
    go_ret
    exact ⟨false, rfl, iff_no (fun q => HN.out (HE.out.trans q.1)), (gby_refl _ _)⟩
  subst h64
  rcases inr_or k 0 (64 - (n1 : Int)) with ⟨k1, k2⟩ | hb
  rotate_left
  · have HB := Lib.hid hb
    clear hb
    go_enter Try.func15, Try.ntmps15
    go_wp2_with fail
    go_at_call 51
    refine (in_no _ _ _ _ HB.out).mono ?_
    rintro e w1_ ⟨rfl, rfl⟩
    go_wp2
    go_ret
    exact ⟨false, rfl, iff_no (fun q => by have q_ := q.2.1; have := HE1.out; have := HB.out; omega), (gby_refl _ _)⟩
  obtain ⟨m, rfl⟩ : ∃ m : Nat, k = (m : Int) := ⟨k.toNat, by omega⟩
  have htm : ((m : Int)).toNat = m := by omega
  obtain ⟨b, off, rfl, hcell⟩ := HA.out.resolve_left (by omega)
  have HC := Lib.hid hcell
  clear hcell
  go_enter Try.func15, Try.ntmps15
  go_wp2_with fail
  go_at_call 51
  refine (in_yes _ _ _ _ (by omega) (by omega)).mono ?_
  rintro e w1_ ⟨rfl, rfl⟩
  go_wp2
  go_loopw [7] (fun i wr => ∃ n : Nat, n ≤ n1 ∧ i = .int .i64 (n : Int) ∧ (∀ j, j < n → xs.getD (m + j) 0 = ys.getD j 0) ∧ (W).grownBy wr none) (fun i _ => n1 - (intOf i).toNat)
  case atStart => exact ⟨0, by omega, rfl, fun j h => absurd h (Nat.not_lt_zero _), gby_refl _ _⟩
  case round =>
    obtain ⟨n, hn, rfl, hj, hg⟩ := hrel
    have szrwr := hg.size
    try simp only [World.size_alloc] at szrwr
    try simp only [World.size_setCell] at szrwr
    have szr_ := szrwr
    have G1_ := Lib.hid (show (W).grownBy (wr) none from gby_trans (gby_refl _ _) hg)
    have HTB_ := Lib.hid hg
    clear hg
    have HJ := Lib.hid hj
    clear hj
    have hn0 : (0 : Int) ≤ (n : Int) := by omega
    have htn : ((n : Int)).toNat = n := by omega
    by_cases hlt : n < n1
    · have hki : (n : Int) < (n1 : Int) := by omega
      have hs1 : IntKind.i64.wrap ((m : Int) + (n : Int)) = (m : Int) + (n : Int) := IntWalk.i64_in _ (by omega)
      have hs2 : ((m : Int) + (n : Int)).toNat = m + n := by omega
      have hs3 : (0 : Int) ≤ (m : Int) + (n : Int) := by omega
      have hs4 : (m : Int) + (n : Int) < 64 := by omega
      obtain ⟨b1, off1, rfl, hcell1⟩ := HA1.out.resolve_left (by omega)
      obtain ⟨x, hx⟩ : ∃ x, x = xs.getD (m + n) 0 := ⟨_, rfl⟩
      have hxc := HC.out (m + n) (by omega)
      rw [← hx] at hxc
      have HX := Lib.hid hx
      obtain ⟨y, hy⟩ : ∃ y, y = ys.getD n 0 := ⟨_, rfl⟩
      have hyc := hcell1 n (by omega)
      rw [← hy] at hyc
      have HY := Lib.hid hy
      clear hx hy hcell1
      have HXC := Lib.hid hxc
      have HYC := Lib.hid hyc
      clear hxc hyc
      have x_ := (G1_.out).cell HXC.out (by simp)
      have y_ := (G1_.out).cell HYC.out (by simp)
      by_cases hxy : x = y
      · subst hxy
        have hbq : (x != x) = false := by simp
        have hbq2 : (x == x) = true := by simp
        go_wp2_with fail
        go_quiet (fail)
        go_wp2
        refine ⟨⟨n + 1, by omega, by go_num, fun j hj => ?_, by repeat (first | exact HTB_.out | with_reducible refine gby_drewN ?_ _)⟩, by simp [intOf]; omega⟩
        by_cases e : j = n
        · subst e; rw [← HX.out, ← HY.out]
        · exact HJ.out j (by omega)
      · have hbq : (x != y) = true := by simpa using hxy
        have hbq2 : (x == y) = false := by simpa using hxy
        have HN := Lib.hid hxy
        clear hxy
        go_wp2_with fail
        go_quiet (fail)
        go_wp2
        go_ret
        exact ⟨false, rfl, iff_no (fun q => HN.out (by have q_ := q.2.2 n (by have := HE1.out; omega); simp only [Int.toNat_natCast] at q_; rw [HX.out, HY.out]; exact q_)), by repeat (first | exact G1_.out | with_reducible refine gby_drewN ?_ _)⟩
    · obtain rfl : n = n1 := by omega
      have hki : ¬ (n : Int) < (n : Int) := by omega
      go_wp2
      go_ret
      exact ⟨true, rfl, iff_yes ⟨HE.out.symm, ⟨by omega, by have := HE1.out; omega⟩, fun j hj => by simp only [Int.toNat_natCast]; exact HJ.out j (by have := HE1.out; omega)⟩, G1_.out⟩

set_option maxRecDepth 8000 in
set_option maxHeartbeats 2000000 in
theorem implDel (W : World) (v u : Value) (xs ys : List Int) (k : Int) (H : RdL shI W v xs) (H1 : RdL shI W u ys) (hl : szL shI xs ≤ 1048576) (hl1 : szL shI ys ≤ 1048576) : Calls Try.prog 17 #[v, .int .i64 k, u] W (BPost (DelP xs k ys) W) := by
  rw [szL_I] at hl hl1
  obtain ⟨a0, c0, rfl, hc0, hi⟩ := rdI1_in H
  obtain ⟨a1, c1, rfl, hc1, hi1⟩ := rdI1_in H1
  have HA := Lib.hid hi
  have HA1 := Lib.hid hi1
  obtain ⟨n0, hn0⟩ : ∃ n, n = xs.length := ⟨_, rfl⟩
  obtain ⟨n1, hn1⟩ : ∃ n, n = ys.length := ⟨_, rfl⟩
  have HE := Lib.hid hn0
  have HE1 := Lib.hid hn1
  have hcap := hc0.2
  unfold RdN1 at HA HA1
  rw [← hn0] at HA hl hcap ⊢
  rw [← hn1] at HA1 hl1 ⊢
  clear H H1 hi hi1 hn0 hn1 hc0 hc1
  have hw1 : IntKind.i64.wrap (64 - (n1 : Int)) = 64 - (n1 : Int) := IntWalk.i64_in _ (by omega)
  by_cases h64 : n0 = 64
  rotate_left
  · have hb : ((n0 : Int) == 64) = false := by simp; omega
    have HN := Lib.hid h64
    clear h64
    go_enter Try.func17, Try.ntmps17
    go_wp2
    go_ret
    exact ⟨false, rfl, iff_no (fun q => HN.out (HE.out.trans q.1)), (gby_refl _ _)⟩
  subst h64
  rcases inr_or k 0 (64 - (n1 : Int)) with ⟨k1, k2⟩ | hb
  rotate_left
  · have HB := Lib.hid hb
    clear hb
    go_enter Try.func17, Try.ntmps17
    go_wp2_with fail
    go_at_call 52
    refine (rng_no _ _ _ _ HB.out).mono ?_
    rintro e w1_ ⟨rfl, rfl⟩
    go_wp2
    go_ret
    exact ⟨false, rfl, iff_no (fun q => by have q_ := q.2.1; have := HE1.out; have := HB.out; omega), (gby_refl _ _)⟩
  obtain ⟨m, rfl⟩ : ∃ m : Nat, k = (m : Int) := ⟨k.toNat, by omega⟩
  have htm : ((m : Int)).toNat = m := by omega
  obtain ⟨b, off, rfl, hcell⟩ := HA.out.resolve_left (by omega)
  have HC := Lib.hid hcell
  clear hcell
  go_enter Try.func17, Try.ntmps17
  go_wp2_with fail
  go_at_call 52
  refine (rng_yes _ _ _ _ (by omega) (by omega)).mono ?_
  rintro e w1_ ⟨rfl, rfl⟩
  have hs1 : IntKind.i64.wrap ((m : Int) + (n1 : Int)) = (m : Int) + (n1 : Int) := IntWalk.i64_in _ (by omega)
  have hs2 : ((m : Int) + (n1 : Int)).toNat = m + n1 := by omega
  have hs3 : (0 : Int) ≤ (m : Int) + (n1 : Int) := by omega
  have hs4 : (m : Int) + (n1 : Int) ≤ (c0 : Int) := by omega
  have hs5 : (m : Int) ≤ (m : Int) + (n1 : Int) := by omega
  obtain ⟨L, hL⟩ : ∃ L, L = (xs.drop m).take n1 := ⟨_, rfl⟩
  have hLl : n1 = L.length := by rw [hL, List.length_take, List.length_drop, ← HE.out]; omega
  have hLj : ∀ j, j < n1 → L.getD j 0 = xs.getD (m + j) 0 := by
    intro j hj
    rw [hL, List.getD_eq_getElem?_getD, List.getD_eq_getElem?_getD, List.getElem?_take, if_pos hj, List.getElem?_drop]
  have HIF := Lib.hid (show decide (L = ys) = true ↔ DelP xs (m : Int) ys from by
    rw [decide_eq_true_iff]
    constructor
    · intro e
      refine ⟨HE.out.symm, ⟨by omega, by have := HE1.out; omega⟩, fun j hj => ?_⟩
      have hj2 : j < n1 := by have := HE1.out; omega
      simp only [Int.toNat_natCast]
      rw [← hLj j hj2, e]
    · intro q
      refine lists_eq (by have := HE1.out; omega) (fun j hj => ?_)
      rw [hLj j (by omega)]
      have q_ := q.2.2 j (by have := HE1.out; omega)
      simp only [Int.toNat_natCast] at q_
      exact q_)
  have HLL := Lib.hid hLl
  have HLJ := Lib.hid hLj
  clear hL hLl hLj
  obtain ⟨r, hr⟩ : ∃ r, r = decide (L = ys) := ⟨_, rfl⟩
  rw [← hr] at HIF
  have HR := Lib.hid hr
  clear hr
  by_cases hcm : c0 = m
  · have hn00 : n1 = 0 := by omega
    have HN0 := Lib.hid hn00
    clear hn00
    go_wp2_with fail
    go_at_call 53
    refine (equal_any _ _ a1 _ n1 _ c1 L ys ⟨HLL.out, .inl HN0.out⟩ (ISl.kept ⟨HE1.out, HA1.out⟩ (gby_refl _ _)) (by omega) (by omega)).mono ?_
    rintro e w2 ⟨he, hd⟩
    have g := hd.gby none
    clear hd
    have szw2 := g.size
    try simp only [World.size_alloc] at szw2
    try simp only [World.size_setCell] at szw2
    have G1_ := Lib.hid (show (W).grownBy (w2) none from gby_trans (gby_refl _ _) g)
    clear g
    rw [← HR.out] at he
    subst he
    go_wp2
    go_ret
    exact ⟨r, rfl, HIF.out, G1_.out⟩
  · skip
    go_wp2_with fail
    go_at_call 53
    refine (equal_any _ _ a1 _ n1 _ c1 L ys (ISl.kept ⟨HLL.out, .inr ⟨b, off + m, rfl, fun j hj => by rw [HLJ.out j hj, Nat.add_assoc]; exact HC.out (m + j) (by omega)⟩⟩ (gby_refl _ _)) (ISl.kept ⟨HE1.out, HA1.out⟩ (gby_refl _ _)) (by omega) (by omega)).mono ?_
    rintro e w2 ⟨he, hd⟩
    have g := hd.gby none
    clear hd
    have szw2 := g.size
    try simp only [World.size_alloc] at szw2
    try simp only [World.size_setCell] at szw2
    have G1_ := Lib.hid (show (W).grownBy (w2) none from gby_trans (gby_refl _ _) g)
    clear g
    rw [← HR.out] at he
    subst he
    go_wp2
    go_ret
    exact ⟨r, rfl, HIF.out, G1_.out⟩

theorem isDelivered_both (xs0 : List Int) (i1 : Int) (xs2 : List Int) (h0 : szL shI xs0 ≤ 1048576) (h2 : szL shI xs2 ≤ 1048576) : ∃ br0 : Bool, (∀ (W : World), ∀ u0 u2, RdL shI W u0 xs0 → RdL shI W u2 xs2 → Calls Try.prog 15 #[u0, .int .i64 i1, u2] W (ResSIsDelivered br0 W)) ∧ ∀ (W : World), ∀ u0 u2, RdL shI W u0 xs0 → RdL shI W u2 xs2 → Calls Try.prog 17 #[u0, .int .i64 i1, u2] W (ResIIsDelivered br0 W) := by
  by_cases h : DelP xs0 i1 xs2
  · exact ⟨true, fun W u0 u2 H0 H2 => (specDel W u0 u2 _ _ i1 H0 H2 h0 h2).mono (bpost_yes h), fun W u0 u2 H0 H2 => (implDel W u0 u2 _ _ i1 H0 H2 h0 h2).mono (bpost_yes h)⟩
  · exact ⟨false, fun W u0 u2 H0 H2 => (specDel W u0 u2 _ _ i1 H0 H2 h0 h2).mono (bpost_no h), fun W u0 u2 H0 H2 => (implDel W u0 u2 _ _ i1 H0 H2 h0 h2).mono (bpost_no h)⟩

end Go.Proofs.Ytjkjodcgpdhldab
