/-
  Logs of errors, on both sides: valid or not.
-/
import Derived.Test.YtgagbhkidponnadQLog
import Derived.Test.YtgagbhkidponnadRLogOk
import Derived.Test.YtgagbhkidponnadBits3Impl
namespace Go.Proofs.Ytgagbhkidponnad
open Go Go.RowKit
set_option linter.unusedVariables false

/-- is the bit set -/
def bitB (x k : Nat) : Bool := x / 2 ^ k % 2 == 1
/-- a valid log -/
def LOk (st ma fi : Int) (xs : List Int) : Prop := (0 ≤ st ∧ st ≤ 65535) ∧ (0 ≤ ma ∧ ma ≤ 65535) ∧ xs.length = 16 ∧ (∀ k, k < 16 → 0 ≤ xs.getD k 0 ∧ xs.getD k 0 ≤ 2) ∧ (st = 0 → fi = -1) ∧ (¬ st = 0 → 0 ≤ fi ∧ fi ≤ 15 ∧ bitB st.toNat fi.toNat = true)
def LPost (st ma fi : Int) (xs : List Int) (W : World) (e : Ending) (w' : World) : Prop := ∃ r : Bool, e = .returned (.bool r) ∧ (r = true ↔ LOk st ma fi xs) ∧ W.grownBy w' none
theorem iff_no {p : Prop} (h : ¬ p) : false = true ↔ p := ⟨fun q => (by cases q), fun q => absurd q h⟩
theorem iff_yes {p : Prop} (h : p) : true = true ↔ p := ⟨fun _ => h, fun _ => rfl⟩
theorem inr_or (x a b : Int) : (a ≤ x ∧ x ≤ b) ∨ (x < a ∨ b < x) := by omega
theorem bit_and1 (x k : Nat) (hx : x ≤ 65535) (h : bitB x k = true) : bits .and .i64 ((x : Int) / 2 ^ k) 1 = 1 := by
  rw [bit_val x k hx]; unfold bitB at h; simp at h; omega
theorem bit_and0 (x k : Nat) (hx : x ≤ 65535) (h : bitB x k = false) : bits .and .i64 ((x : Int) / 2 ^ k) 1 = 0 := by
  rw [bit_val x k hx]; unfold bitB at h; simp at h; omega

theorem hasErr_in (x k : Nat) (W : World) (hx : x ≤ 65535) (hk : k ≤ 15) : Calls Try.prog 51 #[.int .i64 (x : Int), .int .i64 (k : Int)] W (Ans (.bool (bitB x k)) W) := by
  have HF := Lib.hid (fun W => implFieldOf_in x k 1 W hx hk (by omega) (by omega))
  have hg : getF x k 1 = x / 2 ^ k % 2 := rfl
  cases hb : bitB x k with
  | true =>
    have hv : getF x k 1 = 1 := by rw [hg]; unfold bitB at hb; simpa using hb
    rw [hv] at HF
    clear hb hg hv
    go_enter Try.func51, Try.ntmps51
    go_wp2_with fail
    go_at_call 64
    refine (HF.out _).mono ?_
    rintro e w1 ⟨rfl, hd⟩
    have HD := Lib.hid hd
    clear hd
    go_wp2
    go_ret
    exact ⟨rfl, HD.out⟩
  | false =>
    have hv : getF x k 1 = 0 := by rw [hg]; unfold bitB at hb; simp at hb; omega
    rw [hv] at HF
    clear hb hg hv
    go_enter Try.func51, Try.ntmps51
    go_wp2_with fail
    go_at_call 64
    refine (HF.out _).mono ?_
    rintro e w1 ⟨rfl, hd⟩
    have HD := Lib.hid hd
    clear hd
    go_wp2
    go_ret
    exact ⟨rfl, HD.out⟩
theorem hasErr_out (x k : Int) (W : World) (h : k < 0 ∨ 15 < k) : Calls Try.prog 51 #[.int .i64 x, .int .i64 k] W (Ans (.bool false) W) := by
  have HF := Lib.hid (fun W => implFieldOf_out x k 1 W (by unfold FitsF; omega))
  clear h
  go_enter Try.func51, Try.ntmps51
  go_wp2_with fail
  go_at_call 64
  refine (HF.out _).mono ?_
  rintro e w1 ⟨rfl, hd⟩
  have HD := Lib.hid hd
  clear hd
  go_wp2
  go_ret
  exact ⟨rfl, HD.out⟩

set_option maxRecDepth 8000 in
set_option maxHeartbeats 2000000 in
theorem specLog (W : World) (st ma fi : Int) (v : Value) (xs : List Int) (H : RdL shI W v xs) (hl : szL shI xs ≤ 1048576) : Calls Try.prog 46 #[vLog st ma fi v] W (LPost st ma fi xs W) := by
  rw [szL_I] at hl
  obtain ⟨a0, cap, rfl, hi, _⟩ := rdI_in H
  obtain ⟨_, hi⟩ := hi
  obtain ⟨len, hlen⟩ : ∃ len, len = xs.length := ⟨_, rfl⟩
  have HE := Lib.hid hlen
  rw [← hlen] at hl hi ⊢
  have HA := Lib.hid hi
  clear H hi hlen
  unfold vLog
  rcases inr_or st 0 65535 with ⟨s1, s2⟩ | hn
  rotate_left
  · have HN := Lib.hid hn
    clear hn
    go_enter Try.func46, Try.ntmps46
    have rA1_ := Lib.hid (show ((W.alloc (.cells #[.int .i64 st, .int .i64 ma, .int .i64 fi, .slice a0 len cap] 26))).heap[W.heap.size]? = some (.cells #[.int .i64 st, .int .i64 ma, .int .i64 fi, .slice a0 len cap] 26 (0, 0)) from by exact heap_alloc_new _ _)
    have G2_ := Lib.hid (show (W).grownBy ((W.alloc (.cells #[.int .i64 st, .int .i64 ma, .int .i64 fi, .slice a0 len cap] 26))) none from (gby_alloc (gby_refl _ _) _))
    have A_0_ : ((W.alloc (.cells #[.int .i64 st, .int .i64 ma, .int .i64 fi, .slice a0 len cap] 26))).cell? ⟨W.heap.size, 0, none⟩ = some (.int .i64 st) := cell_of_row _ _ 0 _ _ _ rA1_.out
    have A_1_ : ((W.alloc (.cells #[.int .i64 st, .int .i64 ma, .int .i64 fi, .slice a0 len cap] 26))).cell? ⟨W.heap.size, 1, none⟩ = some (.int .i64 ma) := cell_of_row _ _ 1 _ _ _ rA1_.out
    have A_2_ : ((W.alloc (.cells #[.int .i64 st, .int .i64 ma, .int .i64 fi, .slice a0 len cap] 26))).cell? ⟨W.heap.size, 2, none⟩ = some (.int .i64 fi) := cell_of_row _ _ 2 _ _ _ rA1_.out
    have A_3_ : ((W.alloc (.cells #[.int .i64 st, .int .i64 ma, .int .i64 fi, .slice a0 len cap] 26))).cell? ⟨W.heap.size, 3, none⟩ = some (.slice a0 len cap) := cell_of_row _ _ 3 _ _ _ rA1_.out
    go_wp2_with fail
    go_at_call 47
    refine (in_no _ _ _ _ HN.out).mono ?_
    rintro e w1_ ⟨rfl, rfl⟩
    go_wp2
    go_ret
    exact ⟨false, rfl, iff_no (fun q => absurd q.1 (by have := HN.out; omega)), G2_.out⟩
  rcases inr_or ma 0 65535 with ⟨m1, m2⟩ | hn
  rotate_left
  · have HN := Lib.hid hn
    clear hn
    go_enter Try.func46, Try.ntmps46
    have rA1_ := Lib.hid (show ((W.alloc (.cells #[.int .i64 st, .int .i64 ma, .int .i64 fi, .slice a0 len cap] 26))).heap[W.heap.size]? = some (.cells #[.int .i64 st, .int .i64 ma, .int .i64 fi, .slice a0 len cap] 26 (0, 0)) from by exact heap_alloc_new _ _)
    have G2_ := Lib.hid (show (W).grownBy ((W.alloc (.cells #[.int .i64 st, .int .i64 ma, .int .i64 fi, .slice a0 len cap] 26))) none from (gby_alloc (gby_refl _ _) _))
    have A_0_ : ((W.alloc (.cells #[.int .i64 st, .int .i64 ma, .int .i64 fi, .slice a0 len cap] 26))).cell? ⟨W.heap.size, 0, none⟩ = some (.int .i64 st) := cell_of_row _ _ 0 _ _ _ rA1_.out
    have A_1_ : ((W.alloc (.cells #[.int .i64 st, .int .i64 ma, .int .i64 fi, .slice a0 len cap] 26))).cell? ⟨W.heap.size, 1, none⟩ = some (.int .i64 ma) := cell_of_row _ _ 1 _ _ _ rA1_.out
    have A_2_ : ((W.alloc (.cells #[.int .i64 st, .int .i64 ma, .int .i64 fi, .slice a0 len cap] 26))).cell? ⟨W.heap.size, 2, none⟩ = some (.int .i64 fi) := cell_of_row _ _ 2 _ _ _ rA1_.out
    have A_3_ : ((W.alloc (.cells #[.int .i64 st, .int .i64 ma, .int .i64 fi, .slice a0 len cap] 26))).cell? ⟨W.heap.size, 3, none⟩ = some (.slice a0 len cap) := cell_of_row _ _ 3 _ _ _ rA1_.out
    go_wp2_with fail
    go_at_call 47
    refine (in_yes _ _ _ _ (by omega) (by omega)).mono ?_
    rintro e w1_ ⟨rfl, rfl⟩
    go_wp2_with fail
    go_at_call 47
    refine (in_no _ _ _ _ HN.out).mono ?_
    rintro e w2_ ⟨rfl, rfl⟩
    go_wp2
    go_ret
    exact ⟨false, rfl, iff_no (fun q => absurd q.2.1 (by have := HN.out; omega)), G2_.out⟩
  by_cases hl : len = 16
  rotate_left
  · have hne : ((len : Int) != 16) = true := by simp; omega
    have HN := Lib.hid hl
    clear hl
    go_enter Try.func46, Try.ntmps46
    have rA1_ := Lib.hid (show ((W.alloc (.cells #[.int .i64 st, .int .i64 ma, .int .i64 fi, .slice a0 len cap] 26))).heap[W.heap.size]? = some (.cells #[.int .i64 st, .int .i64 ma, .int .i64 fi, .slice a0 len cap] 26 (0, 0)) from by exact heap_alloc_new _ _)
    have G2_ := Lib.hid (show (W).grownBy ((W.alloc (.cells #[.int .i64 st, .int .i64 ma, .int .i64 fi, .slice a0 len cap] 26))) none from (gby_alloc (gby_refl _ _) _))
    have A_0_ : ((W.alloc (.cells #[.int .i64 st, .int .i64 ma, .int .i64 fi, .slice a0 len cap] 26))).cell? ⟨W.heap.size, 0, none⟩ = some (.int .i64 st) := cell_of_row _ _ 0 _ _ _ rA1_.out
    have A_1_ : ((W.alloc (.cells #[.int .i64 st, .int .i64 ma, .int .i64 fi, .slice a0 len cap] 26))).cell? ⟨W.heap.size, 1, none⟩ = some (.int .i64 ma) := cell_of_row _ _ 1 _ _ _ rA1_.out
    have A_2_ : ((W.alloc (.cells #[.int .i64 st, .int .i64 ma, .int .i64 fi, .slice a0 len cap] 26))).cell? ⟨W.heap.size, 2, none⟩ = some (.int .i64 fi) := cell_of_row _ _ 2 _ _ _ rA1_.out
    have A_3_ : ((W.alloc (.cells #[.int .i64 st, .int .i64 ma, .int .i64 fi, .slice a0 len cap] 26))).cell? ⟨W.heap.size, 3, none⟩ = some (.slice a0 len cap) := cell_of_row _ _ 3 _ _ _ rA1_.out
    go_wp2_with fail
    go_at_call 47
    refine (in_yes _ _ _ _ (by omega) (by omega)).mono ?_
    rintro e w1_ ⟨rfl, rfl⟩
    go_wp2_with fail
    go_at_call 47
    refine (in_yes _ _ _ _ (by omega) (by omega)).mono ?_
    rintro e w2_ ⟨rfl, rfl⟩
    go_wp2
    go_ret
    exact ⟨false, rfl, iff_no (fun q => HN.out (HE.out ▸ q.2.2.1)), G2_.out⟩
  subst hl
  obtain ⟨b, off, rfl, hcell⟩ := HA.out.resolve_left (by omega)
  have HC := Lib.hid hcell
  clear hcell
  go_enter Try.func46, Try.ntmps46
  have rA1_ := Lib.hid (show ((W.alloc (.cells #[.int .i64 st, .int .i64 ma, .int .i64 fi, .slice (some ⟨b, off, none⟩) 16 cap] 26))).heap[W.heap.size]? = some (.cells #[.int .i64 st, .int .i64 ma, .int .i64 fi, .slice (some ⟨b, off, none⟩) 16 cap] 26 (0, 0)) from by exact heap_alloc_new _ _)
  have G2_ := Lib.hid (show (W).grownBy ((W.alloc (.cells #[.int .i64 st, .int .i64 ma, .int .i64 fi, .slice (some ⟨b, off, none⟩) 16 cap] 26))) none from (gby_alloc (gby_refl _ _) _))
  have A_0_ : ((W.alloc (.cells #[.int .i64 st, .int .i64 ma, .int .i64 fi, .slice (some ⟨b, off, none⟩) 16 cap] 26))).cell? ⟨W.heap.size, 0, none⟩ = some (.int .i64 st) := cell_of_row _ _ 0 _ _ _ rA1_.out
  have A_1_ : ((W.alloc (.cells #[.int .i64 st, .int .i64 ma, .int .i64 fi, .slice (some ⟨b, off, none⟩) 16 cap] 26))).cell? ⟨W.heap.size, 1, none⟩ = some (.int .i64 ma) := cell_of_row _ _ 1 _ _ _ rA1_.out
  have A_2_ : ((W.alloc (.cells #[.int .i64 st, .int .i64 ma, .int .i64 fi, .slice (some ⟨b, off, none⟩) 16 cap] 26))).cell? ⟨W.heap.size, 2, none⟩ = some (.int .i64 fi) := cell_of_row _ _ 2 _ _ _ rA1_.out
  have A_3_ : ((W.alloc (.cells #[.int .i64 st, .int .i64 ma, .int .i64 fi, .slice (some ⟨b, off, none⟩) 16 cap] 26))).cell? ⟨W.heap.size, 3, none⟩ = some (.slice (some ⟨b, off, none⟩) 16 cap) := cell_of_row _ _ 3 _ _ _ rA1_.out
  go_wp2_with fail
  go_at_call 47
  refine (in_yes _ _ _ _ (by omega) (by omega)).mono ?_
  rintro e w1_ ⟨rfl, rfl⟩
  go_wp2_with fail
  go_at_call 47
  refine (in_yes _ _ _ _ (by omega) (by omega)).mono ?_
  rintro e w2_ ⟨rfl, rfl⟩
  go_wp2
  go_loopw [3] (fun i wr => ∃ n : Nat, n ≤ 16 ∧ i = .int .i64 (n : Int) ∧ (∀ j : Nat, j < n → 0 ≤ xs.getD j 0 ∧ xs.getD j 0 ≤ 2) ∧ ((W.alloc (.cells #[.int .i64 st, .int .i64 ma, .int .i64 fi, .slice (some ⟨b, off, none⟩) 16 cap] 26))).grownBy wr none) (fun i _ => 16 - (intOf i).toNat)
  case atStart => exact ⟨0, by omega, rfl, fun j hj => absurd hj (Nat.not_lt_zero _), gby_refl _ _⟩
  case round =>
    clear A_0_ A_1_ A_2_ A_3_
    obtain ⟨n, hn, rfl, hj, hg⟩ := hrel
    have szr_ := hg.size
    try simp only [World.size_alloc] at szr_
    have rA3_ := Lib.hid (show (wr).heap[W.heap.size]? = some (.cells #[.int .i64 st, .int .i64 ma, .int .i64 fi, .slice (some ⟨b, off, none⟩) 16 cap] 26 (0, 0)) from row_held hg rA1_.out)
    clear rA1_
    have G4_ := Lib.hid (show (W).grownBy (wr) none from gby_trans G2_.out hg)
    have HTB_ := Lib.hid hg
    clear hg
    have A_0_ : (wr).cell? ⟨W.heap.size, 0, none⟩ = some (.int .i64 st) := cell_of_row _ _ 0 _ _ _ rA3_.out
    have A_1_ : (wr).cell? ⟨W.heap.size, 1, none⟩ = some (.int .i64 ma) := cell_of_row _ _ 1 _ _ _ rA3_.out
    have A_2_ : (wr).cell? ⟨W.heap.size, 2, none⟩ = some (.int .i64 fi) := cell_of_row _ _ 2 _ _ _ rA3_.out
    have A_3_ : (wr).cell? ⟨W.heap.size, 3, none⟩ = some (.slice (some ⟨b, off, none⟩) 16 cap) := cell_of_row _ _ 3 _ _ _ rA3_.out
    have HJ := Lib.hid hj
    clear hj
    have hn0 : (0 : Int) ≤ (n : Int) := by omega
    have htn : ((n : Int)).toNat = n := by omega
    by_cases hlt : n < 16
    · have hki : (n : Int) < 16 := by omega
      have hx_ := (G4_.out).cell (HC.out n hlt) (by simp)
      obtain ⟨x, hx⟩ : ∃ x, x = xs.getD n 0 := ⟨_, rfl⟩
      rw [← hx] at hx_
      have HX := Lib.hid hx
      clear hx
      rcases inr_or x 0 2 with ⟨x1, x2⟩ | hb
      · skip
        go_wp2_with fail
        go_at_call 47
        refine (in_yes _ _ _ _ (by omega) (by omega)).mono ?_
        rintro e w3_ ⟨rfl, rfl⟩
        go_wp2
        refine ⟨⟨n + 1, by omega, by go_num, fun j hj => ?_, HTB_.out⟩, by simp [intOf]; omega⟩
        by_cases e : j = n
        · subst e; rw [← HX.out]; exact ⟨x1, x2⟩
        · exact HJ.out j (by omega)
      · have HB := Lib.hid hb
        clear hb
        go_wp2_with fail
        go_at_call 47
        refine (in_no _ _ _ _ HB.out).mono ?_
        rintro e w3_ ⟨rfl, rfl⟩
        go_wp2
        go_ret
        exact ⟨false, rfl, iff_no (fun q => absurd (q.2.2.2.1 n hlt) (by rw [← HX.out]; have := HB.out; omega)), G4_.out⟩
    · obtain rfl : n = 16 := by omega
      have hki : ¬ ((16 : Nat) : Int) < 16 := by omega
      by_cases hs0 : st = 0
      · have hsb : (st == 0) = true := by simpa using hs0
        by_cases hf : fi = -1
        · have hfb : (fi == -1) = true := by simpa using hf
          have HS0 := Lib.hid hs0
          have HF0 := Lib.hid hf
          clear hs0 hf
          go_wp2
          go_ret
          exact ⟨true, rfl, iff_yes ⟨⟨s1, s2⟩, ⟨m1, m2⟩, HE.out.symm, HJ.out, fun _ => HF0.out, fun q => absurd HS0.out q⟩, G4_.out⟩
        · have hfb : (fi == -1) = false := by simpa using hf
          have HS0 := Lib.hid hs0
          have HF0 := Lib.hid hf
          clear hs0 hf
          go_wp2
          go_ret
          exact ⟨false, rfl, iff_no (fun q => HF0.out (q.2.2.2.2.1 HS0.out)), G4_.out⟩
      · have hsb : (st == 0) = false := by simpa using hs0
        have HS0 := Lib.hid hs0
        clear hs0
        rcases inr_or fi 0 15 with ⟨f1, f2⟩ | hb
        · obtain ⟨x, rfl⟩ : ∃ x : Nat, st = (x : Int) := ⟨st.toNat, by omega⟩
          obtain ⟨f, rfl⟩ : ∃ f : Nat, fi = (f : Int) := ⟨fi.toNat, by omega⟩
          have htf : ((f : Int)).toNat = f := by omega
          have htx : ((x : Int)).toNat = x := by omega
          have hf64 : (f : Int) ≤ 64 := by omega
          cases hbit : bitB x f with
          | true =>
            have HBIT := Lib.hid hbit
            have hand := bit_and1 x f (by omega) hbit
            clear hbit htx
            go_wp2_with fail
            go_at_call 47
            refine (in_yes _ _ _ _ (by omega) (by omega)).mono ?_
            rintro e w3_ ⟨rfl, rfl⟩
            go_wp2
            go_ret
            exact ⟨true, rfl, iff_yes ⟨⟨s1, s2⟩, ⟨m1, m2⟩, HE.out.symm, HJ.out, fun q => absurd q HS0.out, fun _ => ⟨f1, f2, by simpa using HBIT.out⟩⟩, G4_.out⟩
          | false =>
            have HBIT := Lib.hid hbit
            have hand := bit_and0 x f (by omega) hbit
            clear hbit htx
            go_wp2_with fail
            go_at_call 47
            refine (in_yes _ _ _ _ (by omega) (by omega)).mono ?_
            rintro e w3_ ⟨rfl, rfl⟩
            go_wp2
            go_ret
            exact ⟨false, rfl, iff_no (fun q => by have q1 := (q.2.2.2.2.2 HS0.out).2.2; simp only [Int.toNat_natCast] at q1; rw [HBIT.out] at q1; cases q1), G4_.out⟩
        · have HB := Lib.hid hb
          clear hb
          go_wp2_with fail
          go_at_call 47
          refine (in_no _ _ _ _ HB.out).mono ?_
          rintro e w3_ ⟨rfl, rfl⟩
          go_wp2
          go_ret
          exact ⟨false, rfl, iff_no (fun q => by have := q.2.2.2.2.2 HS0.out; have := HB.out; omega), G4_.out⟩

set_option maxRecDepth 8000 in
set_option maxHeartbeats 2000000 in
theorem implLog (W : World) (st ma fi : Int) (v : Value) (xs : List Int) (H : RdL shI W v xs) (hl : szL shI xs ≤ 1048576) : Calls Try.prog 23 #[vLog st ma fi v] W (LPost st ma fi xs W) := by
  rw [szL_I] at hl
  obtain ⟨a0, cap, rfl, hi, _⟩ := rdI_in H
  obtain ⟨_, hi⟩ := hi
  obtain ⟨len, hlen⟩ : ∃ len, len = xs.length := ⟨_, rfl⟩
  have HE := Lib.hid hlen
  rw [← hlen] at hl hi ⊢
  have HA := Lib.hid hi
  clear H hi hlen
  unfold vLog
  rcases inr_or st 0 65535 with ⟨s1, s2⟩ | hn
  rotate_left
  · have HN := Lib.hid hn
    clear hn
    go_enter Try.func23, Try.ntmps23
    have rA1_ := Lib.hid (show ((W.alloc (.cells #[.int .i64 st, .int .i64 ma, .int .i64 fi, .slice a0 len cap] 26))).heap[W.heap.size]? = some (.cells #[.int .i64 st, .int .i64 ma, .int .i64 fi, .slice a0 len cap] 26 (0, 0)) from by exact heap_alloc_new _ _)
    have G2_ := Lib.hid (show (W).grownBy ((W.alloc (.cells #[.int .i64 st, .int .i64 ma, .int .i64 fi, .slice a0 len cap] 26))) none from (gby_alloc (gby_refl _ _) _))
    have A_0_ : ((W.alloc (.cells #[.int .i64 st, .int .i64 ma, .int .i64 fi, .slice a0 len cap] 26))).cell? ⟨W.heap.size, 0, none⟩ = some (.int .i64 st) := cell_of_row _ _ 0 _ _ _ rA1_.out
    have A_1_ : ((W.alloc (.cells #[.int .i64 st, .int .i64 ma, .int .i64 fi, .slice a0 len cap] 26))).cell? ⟨W.heap.size, 1, none⟩ = some (.int .i64 ma) := cell_of_row _ _ 1 _ _ _ rA1_.out
    have A_2_ : ((W.alloc (.cells #[.int .i64 st, .int .i64 ma, .int .i64 fi, .slice a0 len cap] 26))).cell? ⟨W.heap.size, 2, none⟩ = some (.int .i64 fi) := cell_of_row _ _ 2 _ _ _ rA1_.out
    have A_3_ : ((W.alloc (.cells #[.int .i64 st, .int .i64 ma, .int .i64 fi, .slice a0 len cap] 26))).cell? ⟨W.heap.size, 3, none⟩ = some (.slice a0 len cap) := cell_of_row _ _ 3 _ _ _ rA1_.out
    go_wp2_with fail
    go_at_call 52
    refine (word_no _ _ HN.out).mono ?_
    rintro e w1_ ⟨rfl, rfl⟩
    go_wp2
    go_ret
    exact ⟨false, rfl, iff_no (fun q => absurd q.1 (by have := HN.out; omega)), G2_.out⟩
  rcases inr_or ma 0 65535 with ⟨m1, m2⟩ | hn
  rotate_left
  · have HN := Lib.hid hn
    clear hn
    go_enter Try.func23, Try.ntmps23
    have rA1_ := Lib.hid (show ((W.alloc (.cells #[.int .i64 st, .int .i64 ma, .int .i64 fi, .slice a0 len cap] 26))).heap[W.heap.size]? = some (.cells #[.int .i64 st, .int .i64 ma, .int .i64 fi, .slice a0 len cap] 26 (0, 0)) from by exact heap_alloc_new _ _)
    have G2_ := Lib.hid (show (W).grownBy ((W.alloc (.cells #[.int .i64 st, .int .i64 ma, .int .i64 fi, .slice a0 len cap] 26))) none from (gby_alloc (gby_refl _ _) _))
    have A_0_ : ((W.alloc (.cells #[.int .i64 st, .int .i64 ma, .int .i64 fi, .slice a0 len cap] 26))).cell? ⟨W.heap.size, 0, none⟩ = some (.int .i64 st) := cell_of_row _ _ 0 _ _ _ rA1_.out
    have A_1_ : ((W.alloc (.cells #[.int .i64 st, .int .i64 ma, .int .i64 fi, .slice a0 len cap] 26))).cell? ⟨W.heap.size, 1, none⟩ = some (.int .i64 ma) := cell_of_row _ _ 1 _ _ _ rA1_.out
    have A_2_ : ((W.alloc (.cells #[.int .i64 st, .int .i64 ma, .int .i64 fi, .slice a0 len cap] 26))).cell? ⟨W.heap.size, 2, none⟩ = some (.int .i64 fi) := cell_of_row _ _ 2 _ _ _ rA1_.out
    have A_3_ : ((W.alloc (.cells #[.int .i64 st, .int .i64 ma, .int .i64 fi, .slice a0 len cap] 26))).cell? ⟨W.heap.size, 3, none⟩ = some (.slice a0 len cap) := cell_of_row _ _ 3 _ _ _ rA1_.out
    go_wp2_with fail
    go_at_call 52
    refine (word_yes _ _ (by omega) (by omega)).mono ?_
    rintro e w1_ ⟨rfl, rfl⟩
    go_wp2_with fail
    go_at_call 52
    refine (word_no _ _ HN.out).mono ?_
    rintro e w2_ ⟨rfl, rfl⟩
    go_wp2
    go_ret
    exact ⟨false, rfl, iff_no (fun q => absurd q.2.1 (by have := HN.out; omega)), G2_.out⟩
  by_cases hl : len = 16
  rotate_left
  · have hne : ((len : Int) != 16) = true := by simp; omega
    have HN := Lib.hid hl
    clear hl
    go_enter Try.func23, Try.ntmps23
    have rA1_ := Lib.hid (show ((W.alloc (.cells #[.int .i64 st, .int .i64 ma, .int .i64 fi, .slice a0 len cap] 26))).heap[W.heap.size]? = some (.cells #[.int .i64 st, .int .i64 ma, .int .i64 fi, .slice a0 len cap] 26 (0, 0)) from by exact heap_alloc_new _ _)
    have G2_ := Lib.hid (show (W).grownBy ((W.alloc (.cells #[.int .i64 st, .int .i64 ma, .int .i64 fi, .slice a0 len cap] 26))) none from (gby_alloc (gby_refl _ _) _))
    have A_0_ : ((W.alloc (.cells #[.int .i64 st, .int .i64 ma, .int .i64 fi, .slice a0 len cap] 26))).cell? ⟨W.heap.size, 0, none⟩ = some (.int .i64 st) := cell_of_row _ _ 0 _ _ _ rA1_.out
    have A_1_ : ((W.alloc (.cells #[.int .i64 st, .int .i64 ma, .int .i64 fi, .slice a0 len cap] 26))).cell? ⟨W.heap.size, 1, none⟩ = some (.int .i64 ma) := cell_of_row _ _ 1 _ _ _ rA1_.out
    have A_2_ : ((W.alloc (.cells #[.int .i64 st, .int .i64 ma, .int .i64 fi, .slice a0 len cap] 26))).cell? ⟨W.heap.size, 2, none⟩ = some (.int .i64 fi) := cell_of_row _ _ 2 _ _ _ rA1_.out
    have A_3_ : ((W.alloc (.cells #[.int .i64 st, .int .i64 ma, .int .i64 fi, .slice a0 len cap] 26))).cell? ⟨W.heap.size, 3, none⟩ = some (.slice a0 len cap) := cell_of_row _ _ 3 _ _ _ rA1_.out
    go_wp2_with fail
    go_at_call 52
    refine (word_yes _ _ (by omega) (by omega)).mono ?_
    rintro e w1_ ⟨rfl, rfl⟩
    go_wp2_with fail
    go_at_call 52
    refine (word_yes _ _ (by omega) (by omega)).mono ?_
    rintro e w2_ ⟨rfl, rfl⟩
    go_wp2
    go_ret
    exact ⟨false, rfl, iff_no (fun q => HN.out (HE.out ▸ q.2.2.1)), G2_.out⟩
  subst hl
  obtain ⟨b, off, rfl, hcell⟩ := HA.out.resolve_left (by omega)
  have HC := Lib.hid hcell
  clear hcell
  go_enter Try.func23, Try.ntmps23
  have rA1_ := Lib.hid (show ((W.alloc (.cells #[.int .i64 st, .int .i64 ma, .int .i64 fi, .slice (some ⟨b, off, none⟩) 16 cap] 26))).heap[W.heap.size]? = some (.cells #[.int .i64 st, .int .i64 ma, .int .i64 fi, .slice (some ⟨b, off, none⟩) 16 cap] 26 (0, 0)) from by exact heap_alloc_new _ _)
  have G2_ := Lib.hid (show (W).grownBy ((W.alloc (.cells #[.int .i64 st, .int .i64 ma, .int .i64 fi, .slice (some ⟨b, off, none⟩) 16 cap] 26))) none from (gby_alloc (gby_refl _ _) _))
  have A_0_ : ((W.alloc (.cells #[.int .i64 st, .int .i64 ma, .int .i64 fi, .slice (some ⟨b, off, none⟩) 16 cap] 26))).cell? ⟨W.heap.size, 0, none⟩ = some (.int .i64 st) := cell_of_row _ _ 0 _ _ _ rA1_.out
  have A_1_ : ((W.alloc (.cells #[.int .i64 st, .int .i64 ma, .int .i64 fi, .slice (some ⟨b, off, none⟩) 16 cap] 26))).cell? ⟨W.heap.size, 1, none⟩ = some (.int .i64 ma) := cell_of_row _ _ 1 _ _ _ rA1_.out
  have A_2_ : ((W.alloc (.cells #[.int .i64 st, .int .i64 ma, .int .i64 fi, .slice (some ⟨b, off, none⟩) 16 cap] 26))).cell? ⟨W.heap.size, 2, none⟩ = some (.int .i64 fi) := cell_of_row _ _ 2 _ _ _ rA1_.out
  have A_3_ : ((W.alloc (.cells #[.int .i64 st, .int .i64 ma, .int .i64 fi, .slice (some ⟨b, off, none⟩) 16 cap] 26))).cell? ⟨W.heap.size, 3, none⟩ = some (.slice (some ⟨b, off, none⟩) 16 cap) := cell_of_row _ _ 3 _ _ _ rA1_.out
  go_wp2_with fail
  go_at_call 52
  refine (word_yes _ _ (by omega) (by omega)).mono ?_
  rintro e w1_ ⟨rfl, rfl⟩
  go_wp2_with fail
  go_at_call 52
  refine (word_yes _ _ (by omega) (by omega)).mono ?_
  rintro e w2_ ⟨rfl, rfl⟩
  go_wp2
  go_loopw [4, 24] (fun z i wr => ∃ n : Nat, n ≤ 16 ∧ (∃ q, z = q) ∧ i = .int .i64 (n : Int) ∧ (∀ j : Nat, j < n → 0 ≤ xs.getD j 0 ∧ xs.getD j 0 ≤ 2) ∧ ((W.alloc (.cells #[.int .i64 st, .int .i64 ma, .int .i64 fi, .slice (some ⟨b, off, none⟩) 16 cap] 26))).grownBy wr none) (fun _ i _ => 16 - (intOf i).toNat)
  case atStart => exact ⟨0, by omega, ⟨_, rfl⟩, rfl, fun j hj => absurd hj (Nat.not_lt_zero _), gby_refl _ _⟩
  case round =>
    clear A_0_ A_1_ A_2_ A_3_
    obtain ⟨n, hn, ⟨z, rfl⟩, rfl, hj, hg⟩ := hrel
    have szr_ := hg.size
    try simp only [World.size_alloc] at szr_
    have rA3_ := Lib.hid (show (wr).heap[W.heap.size]? = some (.cells #[.int .i64 st, .int .i64 ma, .int .i64 fi, .slice (some ⟨b, off, none⟩) 16 cap] 26 (0, 0)) from row_held hg rA1_.out)
    clear rA1_
    have G4_ := Lib.hid (show (W).grownBy (wr) none from gby_trans G2_.out hg)
    have HTB_ := Lib.hid hg
    clear hg
    have A_0_ : (wr).cell? ⟨W.heap.size, 0, none⟩ = some (.int .i64 st) := cell_of_row _ _ 0 _ _ _ rA3_.out
    have A_1_ : (wr).cell? ⟨W.heap.size, 1, none⟩ = some (.int .i64 ma) := cell_of_row _ _ 1 _ _ _ rA3_.out
    have A_2_ : (wr).cell? ⟨W.heap.size, 2, none⟩ = some (.int .i64 fi) := cell_of_row _ _ 2 _ _ _ rA3_.out
    have A_3_ : (wr).cell? ⟨W.heap.size, 3, none⟩ = some (.slice (some ⟨b, off, none⟩) 16 cap) := cell_of_row _ _ 3 _ _ _ rA3_.out
    have HJ := Lib.hid hj
    clear hj
    have hn0 : (0 : Int) ≤ (n : Int) := by omega
    have htn : ((n : Int)).toNat = n := by omega
    by_cases hlt : n < 16
    · have hki : (n : Int) < 16 := by omega
      have hx_ := (G4_.out).cell (HC.out n hlt) (by simp)
      obtain ⟨x, hx⟩ : ∃ x, x = xs.getD n 0 := ⟨_, rfl⟩
      rw [← hx] at hx_
      have HX := Lib.hid hx
      clear hx
      rcases inr_or x 0 2 with ⟨x1, x2⟩ | hb
      · skip
        go_wp2_with fail
        go_at_call 50
        refine (rng_yes _ _ _ _ (by omega) (by omega)).mono ?_
        rintro e w3_ ⟨rfl, rfl⟩
        go_wp2
        refine ⟨⟨n + 1, by omega, ⟨_, rfl⟩, by go_num, fun j hj => ?_, HTB_.out⟩, by simp [intOf]; omega⟩
        by_cases e : j = n
        · subst e; rw [← HX.out]; exact ⟨x1, x2⟩
        · exact HJ.out j (by omega)
      · have HB := Lib.hid hb
        clear hb
        go_wp2_with fail
        go_at_call 50
        refine (rng_no _ _ _ _ HB.out).mono ?_
        rintro e w3_ ⟨rfl, rfl⟩
        go_wp2
        go_ret
        exact ⟨false, rfl, iff_no (fun q => absurd (q.2.2.2.1 n hlt) (by rw [← HX.out]; have := HB.out; omega)), G4_.out⟩
    · obtain rfl : n = 16 := by omega
      have hki : ¬ ((16 : Nat) : Int) < 16 := by omega
      by_cases hs0 : st = 0
      · have hsb : (st == 0) = true := by simpa using hs0
        by_cases hf : fi = -1
        · have hfb : (fi == -1) = true := by simpa using hf
          have HS0 := Lib.hid hs0
          have HF0 := Lib.hid hf
          clear hs0 hf
          go_wp2
          go_ret
          exact ⟨true, rfl, iff_yes ⟨⟨s1, s2⟩, ⟨m1, m2⟩, HE.out.symm, HJ.out, fun _ => HF0.out, fun q => absurd HS0.out q⟩, G4_.out⟩
        · have hfb : (fi == -1) = false := by simpa using hf
          have HS0 := Lib.hid hs0
          have HF0 := Lib.hid hf
          clear hs0 hf
          go_wp2
          go_ret
          exact ⟨false, rfl, iff_no (fun q => HF0.out (q.2.2.2.2.1 HS0.out)), G4_.out⟩
      · have hsb : (st == 0) = false := by simpa using hs0
        have HS0 := Lib.hid hs0
        clear hs0
        rcases inr_or fi 0 15 with ⟨f1, f2⟩ | hb
        · obtain ⟨x, rfl⟩ : ∃ x : Nat, st = (x : Int) := ⟨st.toNat, by omega⟩
          obtain ⟨f, rfl⟩ : ∃ f : Nat, fi = (f : Int) := ⟨fi.toNat, by omega⟩
          have htf : ((f : Int)).toNat = f := by omega
          have htx : ((x : Int)).toNat = x := by omega
          have hf64 : (f : Int) ≤ 64 := by omega
          cases hbit : bitB x f with
          | true =>
            have HBIT := Lib.hid hbit
            have HHE := Lib.hid (fun W => hasErr_in x f W (by omega) (by omega))
            rw [hbit] at HHE
            clear hbit htx
            go_wp2_with fail
            go_at_call 51
            refine (HHE.out _).mono ?_
            rintro e w3 ⟨rfl, hd⟩
            have g := hd.gby none
            clear hd
            have szw3 := g.size
            try simp only [World.size_alloc] at szw3
            clear A_0_ A_1_ A_2_ A_3_
            have rA5_ := Lib.hid (show (w3).heap[W.heap.size]? = some (.cells #[.int .i64 (x : Int), .int .i64 ma, .int .i64 (f : Int), .slice (some ⟨b, off, none⟩) 16 cap] 26 (0, 0)) from row_held g rA3_.out)
            clear rA3_
            have G6_ := Lib.hid (show (W).grownBy (w3) none from gby_trans G4_.out g)
            have HTB7_ := Lib.hid (show ((W.alloc (.cells #[.int .i64 (x : Int), .int .i64 ma, .int .i64 (f : Int), .slice (some ⟨b, off, none⟩) 16 cap] 26))).grownBy (w3) none from gby_trans HTB_.out g)
            clear HTB_
            clear g
            have A_0_ : (w3).cell? ⟨W.heap.size, 0, none⟩ = some (.int .i64 (x : Int)) := cell_of_row _ _ 0 _ _ _ rA5_.out
            have A_1_ : (w3).cell? ⟨W.heap.size, 1, none⟩ = some (.int .i64 ma) := cell_of_row _ _ 1 _ _ _ rA5_.out
            have A_2_ : (w3).cell? ⟨W.heap.size, 2, none⟩ = some (.int .i64 (f : Int)) := cell_of_row _ _ 2 _ _ _ rA5_.out
            have A_3_ : (w3).cell? ⟨W.heap.size, 3, none⟩ = some (.slice (some ⟨b, off, none⟩) 16 cap) := cell_of_row _ _ 3 _ _ _ rA5_.out
            go_wp2
            go_ret
            exact ⟨true, rfl, iff_yes ⟨⟨s1, s2⟩, ⟨m1, m2⟩, HE.out.symm, HJ.out, fun q => absurd q HS0.out, fun _ => ⟨f1, f2, by simpa using HBIT.out⟩⟩, G6_.out⟩
          | false =>
            have HBIT := Lib.hid hbit
            have HHE := Lib.hid (fun W => hasErr_in x f W (by omega) (by omega))
            rw [hbit] at HHE
            clear hbit htx
            go_wp2_with fail
            go_at_call 51
            refine (HHE.out _).mono ?_
            rintro e w3 ⟨rfl, hd⟩
            have g := hd.gby none
            clear hd
            have szw3 := g.size
            try simp only [World.size_alloc] at szw3
            clear A_0_ A_1_ A_2_ A_3_
            have rA5_ := Lib.hid (show (w3).heap[W.heap.size]? = some (.cells #[.int .i64 (x : Int), .int .i64 ma, .int .i64 (f : Int), .slice (some ⟨b, off, none⟩) 16 cap] 26 (0, 0)) from row_held g rA3_.out)
            clear rA3_
            have G6_ := Lib.hid (show (W).grownBy (w3) none from gby_trans G4_.out g)
            have HTB7_ := Lib.hid (show ((W.alloc (.cells #[.int .i64 (x : Int), .int .i64 ma, .int .i64 (f : Int), .slice (some ⟨b, off, none⟩) 16 cap] 26))).grownBy (w3) none from gby_trans HTB_.out g)
            clear HTB_
            clear g
            have A_0_ : (w3).cell? ⟨W.heap.size, 0, none⟩ = some (.int .i64 (x : Int)) := cell_of_row _ _ 0 _ _ _ rA5_.out
            have A_1_ : (w3).cell? ⟨W.heap.size, 1, none⟩ = some (.int .i64 ma) := cell_of_row _ _ 1 _ _ _ rA5_.out
            have A_2_ : (w3).cell? ⟨W.heap.size, 2, none⟩ = some (.int .i64 (f : Int)) := cell_of_row _ _ 2 _ _ _ rA5_.out
            have A_3_ : (w3).cell? ⟨W.heap.size, 3, none⟩ = some (.slice (some ⟨b, off, none⟩) 16 cap) := cell_of_row _ _ 3 _ _ _ rA5_.out
            go_wp2
            go_ret
            exact ⟨false, rfl, iff_no (fun q => by have q1 := (q.2.2.2.2.2 HS0.out).2.2; simp only [Int.toNat_natCast] at q1; rw [HBIT.out] at q1; cases q1), G6_.out⟩
        · have HB := Lib.hid hb
          clear hb
          go_wp2_with fail
          go_at_call 51
          refine (hasErr_out _ _ _ HB.out).mono ?_
          rintro e w3 ⟨rfl, hd⟩
          have g := hd.gby none
          clear hd
          have szw3 := g.size
          try simp only [World.size_alloc] at szw3
          clear A_0_ A_1_ A_2_ A_3_
          have rA5_ := Lib.hid (show (w3).heap[W.heap.size]? = some (.cells #[.int .i64 st, .int .i64 ma, .int .i64 fi, .slice (some ⟨b, off, none⟩) 16 cap] 26 (0, 0)) from row_held g rA3_.out)
          clear rA3_
          have G6_ := Lib.hid (show (W).grownBy (w3) none from gby_trans G4_.out g)
          have HTB7_ := Lib.hid (show ((W.alloc (.cells #[.int .i64 st, .int .i64 ma, .int .i64 fi, .slice (some ⟨b, off, none⟩) 16 cap] 26))).grownBy (w3) none from gby_trans HTB_.out g)
          clear HTB_
          clear g
          have A_0_ : (w3).cell? ⟨W.heap.size, 0, none⟩ = some (.int .i64 st) := cell_of_row _ _ 0 _ _ _ rA5_.out
          have A_1_ : (w3).cell? ⟨W.heap.size, 1, none⟩ = some (.int .i64 ma) := cell_of_row _ _ 1 _ _ _ rA5_.out
          have A_2_ : (w3).cell? ⟨W.heap.size, 2, none⟩ = some (.int .i64 fi) := cell_of_row _ _ 2 _ _ _ rA5_.out
          have A_3_ : (w3).cell? ⟨W.heap.size, 3, none⟩ = some (.slice (some ⟨b, off, none⟩) 16 cap) := cell_of_row _ _ 3 _ _ _ rA5_.out
          go_wp2
          go_ret
          exact ⟨false, rfl, iff_no (fun q => by have := q.2.2.2.2.2 HS0.out; have := HB.out; omega), G6_.out⟩

theorem specLog_yes (W : World) (st ma fi : Int) (v : Value) (xs : List Int) (H : RdL shI W v xs) (hl : szL shI xs ≤ 1048576) (h : LOk st ma fi xs) : Calls Try.prog 46 #[vLog st ma fi v] W (AnsN (.bool true) W) :=
  (specLog W st ma fi v xs H hl).mono (by rintro e w ⟨r, rfl, hr, g⟩; rw [hr.2 h]; exact ⟨rfl, g⟩)
theorem specLog_no (W : World) (st ma fi : Int) (v : Value) (xs : List Int) (H : RdL shI W v xs) (hl : szL shI xs ≤ 1048576) (h : ¬ LOk st ma fi xs) : Calls Try.prog 46 #[vLog st ma fi v] W (AnsN (.bool false) W) :=
  (specLog W st ma fi v xs H hl).mono (by
    rintro e w ⟨r, rfl, hr, g⟩
    cases r with
    | false => exact ⟨rfl, g⟩
    | true => exact absurd (hr.1 rfl) h)

theorem implLog_yes (W : World) (st ma fi : Int) (v : Value) (xs : List Int) (H : RdL shI W v xs) (hl : szL shI xs ≤ 1048576) (h : LOk st ma fi xs) : Calls Try.prog 23 #[vLog st ma fi v] W (AnsN (.bool true) W) :=
  (implLog W st ma fi v xs H hl).mono (by rintro e w ⟨r, rfl, hr, g⟩; rw [hr.2 h]; exact ⟨rfl, g⟩)
theorem implLog_no (W : World) (st ma fi : Int) (v : Value) (xs : List Int) (H : RdL shI W v xs) (hl : szL shI xs ≤ 1048576) (h : ¬ LOk st ma fi xs) : Calls Try.prog 23 #[vLog st ma fi v] W (AnsN (.bool false) W) :=
  (implLog W st ma fi v xs H hl).mono (by
    rintro e w ⟨r, rfl, hr, g⟩
    cases r with
    | false => exact ⟨rfl, g⟩
    | true => exact absurd (hr.1 rfl) h)

theorem logOk_both (i0_0 i0_1 i0_2 : Int) (xs0_3 : List Int) (h0 : szL shI xs0_3 ≤ 1048576) : ∃ br0 : Bool, (∀ (W : World), ∀ u0_3, RdL shI W u0_3 xs0_3 → Calls Try.prog 46 #[.agg #[.int .i64 i0_0, .int .i64 i0_1, .int .i64 i0_2, u0_3]] W (ResSLogOk br0 W)) ∧ ∀ (W : World), ∀ u0_3, RdL shI W u0_3 xs0_3 → Calls Try.prog 23 #[.agg #[.int .i64 i0_0, .int .i64 i0_1, .int .i64 i0_2, u0_3]] W (ResILogOk br0 W) := by
  by_cases h : LOk i0_0 i0_1 i0_2 xs0_3
  · exact ⟨true, fun W u H => specLog_yes W _ _ _ u _ H h0 h, fun W u H => implLog_yes W _ _ _ u _ H h0 h⟩
  · exact ⟨false, fun W u H => specLog_no W _ _ _ u _ H h0 h, fun W u H => implLog_no W _ _ _ u _ H h0 h⟩

end Go.Proofs.Ytgagbhkidponnad
