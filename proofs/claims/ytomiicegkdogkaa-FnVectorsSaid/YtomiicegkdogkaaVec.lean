/-
  Vectors on both sides: those that are pending; valid or not.
-/
import Derived.Test.YtomiicegkdogkaaCloneB
import Derived.Test.YtomiicegkdogkaaQVectors
import Derived.Test.YtomiicegkdogkaaRPendingOf
import Derived.Test.YtomiicegkdogkaaRVectorsOk
import Derived.Test.YtomiicegkdogkaaBitsSpec
import Derived.Test.YtomiicegkdogkaaBits2Impl
namespace Go.Proofs.Ytomiicegkdogkaa
open Go Go.RowKit
set_option linter.unusedVariables false

/-- the pending ones of the first k -/
def pendL (xs : List Bool) : Nat → List Int
  | 0 => []
  | k + 1 => pendL xs k ++ (if xs.getD k false then [(k : Int)] else [])
theorem pendL_len (xs : List Bool) : ∀ k, (pendL xs k).length ≤ k
  | 0 => Nat.le_refl _
  | k + 1 => by
    have := pendL_len xs k
    unfold pendL
    rw [List.length_append]
    split <;> simp <;> omega

set_option maxHeartbeats 2000000 in
theorem implPend (W : World) (i0 : Int) (v1 v2 : Value) (xs : List Bool) (H : RdL shB W v2 xs) (hl : szL shB xs ≤ 1048576) : Calls Try.prog 29 #[vVectors i0 v1 v2] W (ResIPendingOf (pendL xs xs.length) W) := by
  rw [szL_B] at hl
  obtain ⟨i1, hi1, hz0, hz1, hz2⟩ := info_parts infoInt
  obtain ⟨a, cap, rfl, _, h1⟩ := rdB_in H
  have HA := Lib.hid h1
  obtain ⟨len, hlen⟩ : ∃ len, len = xs.length := ⟨_, rfl⟩
  have HE := Lib.hid hlen
  rw [← hlen] at hl ⊢
  clear H h1 hlen
  unfold vVectors
  have k0 : (W.alloc (.cells #[.int .i64 i0, v1, .slice a len cap] 26)).cell? ⟨W.heap.size, 2, none⟩ = some (.slice a len cap) := cell_of_row _ _ 2 _ _ _ (heap_alloc_new W (.cells #[.int .i64 i0, v1, .slice a len cap] 26))
  go_enter Try.func29, Try.ntmps29
  go_wp2
  go_loopw [3, 4, 5, 9] (fun v z y i wr => ∃ k : Nat, k ≤ len ∧ (∃ q, z = q) ∧ (∃ q, y = q) ∧ i = .int .i64 (k : Int) ∧ wr.ownsRow (W.heap.size + 1) 3 1 v (pendL xs k).length (i64s (pendL xs k)) ∧ (W.alloc (.cells #[.int .i64 i0, v1, .slice a len cap] 26)).grownBy wr none) (fun _ _ _ i _ => len - (intOf i).toNat)
  case atStart => exact ⟨0, Nat.zero_le _, ⟨_, rfl⟩, ⟨_, rfl⟩, rfl, World.ownsRow_nil _ _ _ _, gby_refl _ _⟩
  case round =>
    obtain ⟨k, hk, ⟨z, rfl⟩, ⟨y, rfl⟩, rfl, hown, hg⟩ := hrel
    have HG := Lib.hid hg
    have HO := Lib.hid hown
    have k1 := hg.cell k0 (by simp)
    have hsz := hg.size
    simp only [World.size_alloc] at hsz
    have hpl := pendL_len xs k
    clear hg hown
    by_cases hlt : k < len
    · have hki : (k : Int) < (len : Int) := by omega
      have hk0 : (0 : Int) ≤ (k : Int) := by omega
      have htn : ((k : Int)).toNat = k := by omega
      have hke : k < xs.length := by have := HE.out; omega
      obtain ⟨b, off, rfl, hcell⟩ := HA.out.resolve_left (by omega)
      have k2 := HG.out.cell (show (W.alloc (.cells #[.int .i64 i0, v1, .slice (some ⟨b, off, none⟩) len cap] 26)).cell? ⟨b, off + k, none⟩ = _ from (gby_alloc (gby_refl W none) _).cell (hcell k hke) (by simp)) (by simp)
      obtain ⟨x, hx⟩ : ∃ x, x = xs.getD k false := ⟨_, rfl⟩
      rw [← hx] at k2
      have HX := Lib.hid hx
      clear hcell hx
      cases x
      · go_wp2
        exact ⟨⟨k + 1, by omega, ⟨_, rfl⟩, ⟨_, rfl⟩, by go_num, by unfold pendL; rw [← HX.out]; simpa using HO.out, HG.out⟩, by simp [intOf]; omega⟩
      · obtain ⟨m, hm⟩ : ∃ m, m = (pendL xs k).length := ⟨_, rfl⟩
        have HO2 := Lib.hid (show wr.ownsRow (W.heap.size + 1) 3 1 _ m (i64s (pendL xs k)) from by rw [hm]; exact HO.out)
        have hm1 : m ≤ k := by omega
        have HM := Lib.hid hm
        clear hpl hm
        go_wp2_with (at_builtin; refine wpList_append_lies _ (by rfl) _ _ _ (by rfl) (W.heap.size + 1) 3 i1 _ 1 8 Try.underlying27 hi1 hz0 hz1 hz2 rfl (by omega) _ m (i64s (pendL xs k)) (by rfl) (HO2.out.alloc _) ⟨wr.heap.size, 0, none⟩ 1 1 _ (by rfl) (by rfl) (World.news_of_block (t := 3) (fr := (0, 0)) (heap_alloc_new wr _)) (by simp [Value.oneCell']) (by omega) (by unfold maxLen; omega) (by omega) (by simp; omega) (wr.heap.size + 1) (by simp) ?_; intro gg cap2 w5 hown5 hgrow5 hat hlt1; have HO5 := Lib.hid hown5; have HG5 := Lib.hid hgrow5; clear hown5 hgrow5 hat hlt1)
        refine ⟨⟨k + 1, by omega, ⟨_, rfl⟩, ⟨_, rfl⟩, by go_num, ?_, ?_⟩, by simp [intOf]; omega⟩
        · unfold pendL
          rw [← HX.out, if_pos rfl, List.length_append, ← HM.out, i64s_append]
          exact HO5.out
        · exact gby_new (gby_alloc HG.out _) HG5.out (fun b hb => by have := own_from HO2.out b hb; simp; omega)
    · have hki : ¬ (k : Int) < (len : Int) := by omega
      obtain rfl : k = len := by omega
      go_wp2
      go_ret
      exact ⟨_, rfl, OwU.one (OwL.wide (owI_out (by omega) (owI_row HO.out)) (by omega) (Nat.le_refl _)), gby_trans (gby_alloc (gby_refl W none) _) HG.out⟩

set_option maxHeartbeats 2000000 in
theorem specVecLen1 (W : World) (i0 : Int) (a1 a2 : Option Addr) (n1 c1 n2 c2 : Nat) (h : n1 < 1 ∨ 8 < n1) : Calls Try.prog 104 #[vVectors i0 (.slice a1 n1 c1) (.slice a2 n2 c2)] W (AnsN (.bool false) W) := by
  unfold vVectors
  have k0 : (W.alloc (.cells #[.int .i64 i0, .slice a1 n1 c1, .slice a2 n2 c2] 26)).cell? ⟨W.heap.size, 0, none⟩ = some (.int .i64 i0) := cell_of_row _ _ 0 _ _ _ (heap_alloc_new W (.cells #[.int .i64 i0, .slice a1 n1 c1, .slice a2 n2 c2] 26))
  have k1 : (W.alloc (.cells #[.int .i64 i0, .slice a1 n1 c1, .slice a2 n2 c2] 26)).cell? ⟨W.heap.size, 1, none⟩ = some (.slice a1 n1 c1) := cell_of_row _ _ 1 _ _ _ (heap_alloc_new W (.cells #[.int .i64 i0, .slice a1 n1 c1, .slice a2 n2 c2] 26))
  have k2 : (W.alloc (.cells #[.int .i64 i0, .slice a1 n1 c1, .slice a2 n2 c2] 26)).cell? ⟨W.heap.size, 2, none⟩ = some (.slice a2 n2 c2) := cell_of_row _ _ 2 _ _ _ (heap_alloc_new W (.cells #[.int .i64 i0, .slice a1 n1 c1, .slice a2 n2 c2] 26))
  go_enter Try.func104, Try.ntmps104
  go_wp2_with fail
  go_at_call 106
  refine (in_no _ _ _ _ (by omega)).mono ?_
  rintro e w1 ⟨rfl, rfl⟩
  go_wp2
  go_ret
  exact ⟨rfl, gby_alloc (gby_refl W none) _⟩

set_option maxHeartbeats 2000000 in
theorem specVecLen2 (W : World) (i0 : Int) (a1 a2 : Option Addr) (n1 c1 n2 c2 : Nat) (h1 : 1 ≤ n1) (h2 : n1 ≤ 8) (hne : ((n1 : Int) != (n2 : Int)) = true) (hne2 : ((n2 : Int) != (n1 : Int)) = true) : Calls Try.prog 104 #[vVectors i0 (.slice a1 n1 c1) (.slice a2 n2 c2)] W (AnsN (.bool false) W) := by
  unfold vVectors
  have k0 : (W.alloc (.cells #[.int .i64 i0, .slice a1 n1 c1, .slice a2 n2 c2] 26)).cell? ⟨W.heap.size, 0, none⟩ = some (.int .i64 i0) := cell_of_row _ _ 0 _ _ _ (heap_alloc_new W (.cells #[.int .i64 i0, .slice a1 n1 c1, .slice a2 n2 c2] 26))
  have k1 : (W.alloc (.cells #[.int .i64 i0, .slice a1 n1 c1, .slice a2 n2 c2] 26)).cell? ⟨W.heap.size, 1, none⟩ = some (.slice a1 n1 c1) := cell_of_row _ _ 1 _ _ _ (heap_alloc_new W (.cells #[.int .i64 i0, .slice a1 n1 c1, .slice a2 n2 c2] 26))
  have k2 : (W.alloc (.cells #[.int .i64 i0, .slice a1 n1 c1, .slice a2 n2 c2] 26)).cell? ⟨W.heap.size, 2, none⟩ = some (.slice a2 n2 c2) := cell_of_row _ _ 2 _ _ _ (heap_alloc_new W (.cells #[.int .i64 i0, .slice a1 n1 c1, .slice a2 n2 c2] 26))
  go_enter Try.func104, Try.ntmps104
  go_wp2_with fail
  go_at_call 106
  refine (in_yes _ _ _ _ (by omega) (by omega)).mono ?_
  rintro e w1 ⟨rfl, rfl⟩
  go_wp2
  go_ret
  exact ⟨rfl, gby_alloc (gby_refl W none) _⟩

set_option maxHeartbeats 2000000 in
theorem specVecAddr (W : World) (i0 : Int) (a1 a2 : Option Addr) (n1 c1 n2 c2 : Nat) (h1 : 1 ≤ n1) (h2 : n1 ≤ 8) (he : n2 = n1) (h : i0 < 0 ∨ 65535 < i0) : Calls Try.prog 104 #[vVectors i0 (.slice a1 n1 c1) (.slice a2 n2 c2)] W (AnsN (.bool false) W) := by
  subst n2
  have hne : ((n1 : Int) != (n1 : Int)) = false := by simp
  unfold vVectors
  have k0 : (W.alloc (.cells #[.int .i64 i0, .slice a1 n1 c1, .slice a2 n1 c2] 26)).cell? ⟨W.heap.size, 0, none⟩ = some (.int .i64 i0) := cell_of_row _ _ 0 _ _ _ (heap_alloc_new W (.cells #[.int .i64 i0, .slice a1 n1 c1, .slice a2 n1 c2] 26))
  have k1 : (W.alloc (.cells #[.int .i64 i0, .slice a1 n1 c1, .slice a2 n1 c2] 26)).cell? ⟨W.heap.size, 1, none⟩ = some (.slice a1 n1 c1) := cell_of_row _ _ 1 _ _ _ (heap_alloc_new W (.cells #[.int .i64 i0, .slice a1 n1 c1, .slice a2 n1 c2] 26))
  have k2 : (W.alloc (.cells #[.int .i64 i0, .slice a1 n1 c1, .slice a2 n1 c2] 26)).cell? ⟨W.heap.size, 2, none⟩ = some (.slice a2 n1 c2) := cell_of_row _ _ 2 _ _ _ (heap_alloc_new W (.cells #[.int .i64 i0, .slice a1 n1 c1, .slice a2 n1 c2] 26))
  go_enter Try.func104, Try.ntmps104
  go_wp2_with fail
  go_at_call 106
  refine (in_yes _ _ _ _ (by omega) (by omega)).mono ?_
  rintro e w1 ⟨rfl, rfl⟩
  go_wp2_with fail
  go_at_call 106
  refine (in_no _ _ _ _ (by omega)).mono ?_
  rintro e w1 ⟨rfl, rfl⟩
  go_wp2
  go_ret
  exact ⟨rfl, gby_alloc (gby_refl W none) _⟩

set_option maxHeartbeats 2000000 in
theorem specVecBad (W : World) (i0 : Int) (a1 a2 : Option Addr) (n1 c1 n2 c2 : Nat) (xs ys : List Bool) (hx : xs.length = n1) (hy : ys.length = n1) (H1 : RdB W a1 xs) (H2 : RdB W a2 ys) (h1 : 1 ≤ n1) (h2 : n1 ≤ 8) (he : n2 = n1) (ha0 : 0 ≤ i0) (ha1 : i0 ≤ 65535) (k0 : Nat) (hk0 : k0 < n1) (hq : ys.getD k0 false = true ∧ xs.getD k0 false = false ∧ ∀ j, j < k0 → ys.getD j false = true → xs.getD j false = true) : Calls Try.prog 104 #[vVectors i0 (.slice a1 n1 c1) (.slice a2 n2 c2)] W (AnsN (.bool false) W) := by
  subst n2
  have hne : ((n1 : Int) != (n1 : Int)) = false := by simp
  have HQ := Lib.hid hq
  have HX := Lib.hid hx
  have HY := Lib.hid hy
  have R1 := Lib.hid H1
  have R2 := Lib.hid H2
  clear hq hx hy H1 H2
  unfold vVectors
  have e0 : (W.alloc (.cells #[.int .i64 i0, .slice a1 n1 c1, .slice a2 n1 c2] 26)).cell? ⟨W.heap.size, 0, none⟩ = some (.int .i64 i0) := cell_of_row _ _ 0 _ _ _ (heap_alloc_new W (.cells #[.int .i64 i0, .slice a1 n1 c1, .slice a2 n1 c2] 26))
  have e1 : (W.alloc (.cells #[.int .i64 i0, .slice a1 n1 c1, .slice a2 n1 c2] 26)).cell? ⟨W.heap.size, 1, none⟩ = some (.slice a1 n1 c1) := cell_of_row _ _ 1 _ _ _ (heap_alloc_new W (.cells #[.int .i64 i0, .slice a1 n1 c1, .slice a2 n1 c2] 26))
  have e2 : (W.alloc (.cells #[.int .i64 i0, .slice a1 n1 c1, .slice a2 n1 c2] 26)).cell? ⟨W.heap.size, 2, none⟩ = some (.slice a2 n1 c2) := cell_of_row _ _ 2 _ _ _ (heap_alloc_new W (.cells #[.int .i64 i0, .slice a1 n1 c1, .slice a2 n1 c2] 26))
  go_enter Try.func104, Try.ntmps104
  go_wp2_with fail
  go_at_call 106
  refine (in_yes _ _ _ _ (by omega) (by omega)).mono ?_
  rintro e w1 ⟨rfl, rfl⟩
  go_wp2_with fail
  go_at_call 106
  refine (in_yes _ _ _ _ (by omega) (by omega)).mono ?_
  rintro e w1 ⟨rfl, rfl⟩
  go_wp2
  go_loopw [3] (fun i wr => ∃ k : Nat, k ≤ k0 ∧ i = .int .i64 (k : Int) ∧ (W.alloc (.cells #[.int .i64 i0, .slice a1 n1 c1, .slice a2 n1 c2] 26)).grownBy wr none) (fun i _ => n1 - (intOf i).toNat)
  case atStart => exact ⟨0, Nat.zero_le _, rfl, gby_refl _ _⟩
  case round =>
    obtain ⟨k, hk, rfl, hg⟩ := hrel
    have HG := Lib.hid hg
    have f0 := hg.cell e0 (by simp)
    have f1 := hg.cell e1 (by simp)
    have f2 := hg.cell e2 (by simp)
    clear hg
    by_cases hlt : k < k0
    · skip
      have hki : (k : Int) < (n1 : Int) := by omega
      have hk0' : (0 : Int) ≤ (k : Int) := by omega
      have htn : ((k : Int)).toNat = k := by omega
      have hq := HQ.out
      obtain ⟨b1, o1, ha1_, hc1⟩ := R1.out.resolve_left (by have := HX.out; omega)
      obtain ⟨b2, o2, ha2_, hc2⟩ := R2.out.resolve_left (by have := HY.out; omega)
      have g1 := HG.out.cell ((gby_alloc (gby_refl W none) _).cell (hc1 k (by have := HX.out; omega)) (by simp)) (by simp)
      have g2 := HG.out.cell ((gby_alloc (gby_refl W none) _).cell (hc2 k (by have := HY.out; omega)) (by simp)) (by simp)
      rw [ha1_] at f1
      rw [ha2_] at f2
      clear hc1 hc2
      cases hy0 : ys.getD k false with
      | false =>
        rw [hy0] at g2
        clear hq hy0
        go_wp2
        try go_quiet (fail)
        try go_wp2
        exact ⟨⟨k + 1, by omega, by go_num, by repeat (first | exact HG.out | with_reducible refine gby_drewN ?_ _)⟩, by simp [intOf]; omega⟩
      | true =>
        have hx0 : xs.getD k false = true := hq.2.2 k hlt hy0
        rw [hy0] at g2
        rw [hx0] at g1
        clear hq hy0 hx0
        go_wp2
        try go_quiet (fail)
        try go_wp2
        exact ⟨⟨k + 1, by omega, by go_num, by repeat (first | exact HG.out | with_reducible refine gby_drewN ?_ _)⟩, by simp [intOf]; omega⟩
    · obtain rfl : k = k0 := by omega
      have hki : (k : Int) < (n1 : Int) := by omega
      have hk0' : (0 : Int) ≤ (k : Int) := by omega
      have htn : ((k : Int)).toNat = k := by omega
      have hq := HQ.out
      obtain ⟨b1, o1, ha1_, hc1⟩ := R1.out.resolve_left (by have := HX.out; omega)
      obtain ⟨b2, o2, ha2_, hc2⟩ := R2.out.resolve_left (by have := HY.out; omega)
      have g1 := HG.out.cell ((gby_alloc (gby_refl W none) _).cell (hc1 k (by have := HX.out; omega)) (by simp)) (by simp)
      have g2 := HG.out.cell ((gby_alloc (gby_refl W none) _).cell (hc2 k (by have := HY.out; omega)) (by simp)) (by simp)
      rw [ha1_] at f1
      rw [ha2_] at f2
      clear hc1 hc2
      rw [hq.1] at g2
      rw [hq.2.1] at g1
      clear hq
      go_wp2
      try go_quiet (fail)
      try go_wp2
      go_ret
      exact ⟨rfl, by repeat (first | exact gby_trans (gby_alloc (gby_refl W none) _) HG.out | with_reducible refine gby_drewN ?_ _)⟩

set_option maxHeartbeats 2000000 in
theorem specVecGood (W : World) (i0 : Int) (a1 a2 : Option Addr) (n1 c1 n2 c2 : Nat) (xs ys : List Bool) (hx : xs.length = n1) (hy : ys.length = n1) (H1 : RdB W a1 xs) (H2 : RdB W a2 ys) (h1 : 1 ≤ n1) (h2 : n1 ≤ 8) (he : n2 = n1) (ha0 : 0 ≤ i0) (ha1 : i0 ≤ 65535) (hq : ∀ j, j < n1 → ys.getD j false = true → xs.getD j false = true) : Calls Try.prog 104 #[vVectors i0 (.slice a1 n1 c1) (.slice a2 n2 c2)] W (AnsN (.bool true) W) := by
  subst n2
  have hne : ((n1 : Int) != (n1 : Int)) = false := by simp
  have HQ := Lib.hid hq
  have HX := Lib.hid hx
  have HY := Lib.hid hy
  have R1 := Lib.hid H1
  have R2 := Lib.hid H2
  clear hq hx hy H1 H2
  unfold vVectors
  have e0 : (W.alloc (.cells #[.int .i64 i0, .slice a1 n1 c1, .slice a2 n1 c2] 26)).cell? ⟨W.heap.size, 0, none⟩ = some (.int .i64 i0) := cell_of_row _ _ 0 _ _ _ (heap_alloc_new W (.cells #[.int .i64 i0, .slice a1 n1 c1, .slice a2 n1 c2] 26))
  have e1 : (W.alloc (.cells #[.int .i64 i0, .slice a1 n1 c1, .slice a2 n1 c2] 26)).cell? ⟨W.heap.size, 1, none⟩ = some (.slice a1 n1 c1) := cell_of_row _ _ 1 _ _ _ (heap_alloc_new W (.cells #[.int .i64 i0, .slice a1 n1 c1, .slice a2 n1 c2] 26))
  have e2 : (W.alloc (.cells #[.int .i64 i0, .slice a1 n1 c1, .slice a2 n1 c2] 26)).cell? ⟨W.heap.size, 2, none⟩ = some (.slice a2 n1 c2) := cell_of_row _ _ 2 _ _ _ (heap_alloc_new W (.cells #[.int .i64 i0, .slice a1 n1 c1, .slice a2 n1 c2] 26))
  go_enter Try.func104, Try.ntmps104
  go_wp2_with fail
  go_at_call 106
  refine (in_yes _ _ _ _ (by omega) (by omega)).mono ?_
  rintro e w1 ⟨rfl, rfl⟩
  go_wp2_with fail
  go_at_call 106
  refine (in_yes _ _ _ _ (by omega) (by omega)).mono ?_
  rintro e w1 ⟨rfl, rfl⟩
  go_wp2
  go_loopw [3] (fun i wr => ∃ k : Nat, k ≤ n1 ∧ i = .int .i64 (k : Int) ∧ (W.alloc (.cells #[.int .i64 i0, .slice a1 n1 c1, .slice a2 n1 c2] 26)).grownBy wr none) (fun i _ => n1 - (intOf i).toNat)
  case atStart => exact ⟨0, Nat.zero_le _, rfl, gby_refl _ _⟩
  case round =>
    obtain ⟨k, hk, rfl, hg⟩ := hrel
    have HG := Lib.hid hg
    have f0 := hg.cell e0 (by simp)
    have f1 := hg.cell e1 (by simp)
    have f2 := hg.cell e2 (by simp)
    clear hg
    by_cases hlt : k < n1
    · skip
      have hki : (k : Int) < (n1 : Int) := by omega
      have hk0' : (0 : Int) ≤ (k : Int) := by omega
      have htn : ((k : Int)).toNat = k := by omega
      have hq := HQ.out
      obtain ⟨b1, o1, ha1_, hc1⟩ := R1.out.resolve_left (by have := HX.out; omega)
      obtain ⟨b2, o2, ha2_, hc2⟩ := R2.out.resolve_left (by have := HY.out; omega)
      have g1 := HG.out.cell ((gby_alloc (gby_refl W none) _).cell (hc1 k (by have := HX.out; omega)) (by simp)) (by simp)
      have g2 := HG.out.cell ((gby_alloc (gby_refl W none) _).cell (hc2 k (by have := HY.out; omega)) (by simp)) (by simp)
      rw [ha1_] at f1
      rw [ha2_] at f2
      clear hc1 hc2
      cases hy0 : ys.getD k false with
      | false =>
        rw [hy0] at g2
        clear hq hy0
        go_wp2
        try go_quiet (fail)
        try go_wp2
        exact ⟨⟨k + 1, by omega, by go_num, by repeat (first | exact HG.out | with_reducible refine gby_drewN ?_ _)⟩, by simp [intOf]; omega⟩
      | true =>
        have hx0 : xs.getD k false = true := hq k hlt hy0
        rw [hy0] at g2
        rw [hx0] at g1
        clear hq hy0 hx0
        go_wp2
        try go_quiet (fail)
        try go_wp2
        exact ⟨⟨k + 1, by omega, by go_num, by repeat (first | exact HG.out | with_reducible refine gby_drewN ?_ _)⟩, by simp [intOf]; omega⟩
    · have hki : ¬ (k : Int) < (n1 : Int) := by omega
      go_wp2
      go_ret
      exact ⟨rfl, gby_trans (gby_alloc (gby_refl W none) _) HG.out⟩

set_option maxHeartbeats 2000000 in
theorem implVecLen1 (W : World) (i0 : Int) (a1 a2 : Option Addr) (n1 c1 n2 c2 : Nat) (h : n1 < 1 ∨ 8 < n1) : Calls Try.prog 26 #[vVectors i0 (.slice a1 n1 c1) (.slice a2 n2 c2)] W (AnsN (.bool false) W) := by
  unfold vVectors
  have k0 : (W.alloc (.cells #[.int .i64 i0, .slice a1 n1 c1, .slice a2 n2 c2] 26)).cell? ⟨W.heap.size, 0, none⟩ = some (.int .i64 i0) := cell_of_row _ _ 0 _ _ _ (heap_alloc_new W (.cells #[.int .i64 i0, .slice a1 n1 c1, .slice a2 n2 c2] 26))
  have k1 : (W.alloc (.cells #[.int .i64 i0, .slice a1 n1 c1, .slice a2 n2 c2] 26)).cell? ⟨W.heap.size, 1, none⟩ = some (.slice a1 n1 c1) := cell_of_row _ _ 1 _ _ _ (heap_alloc_new W (.cells #[.int .i64 i0, .slice a1 n1 c1, .slice a2 n2 c2] 26))
  have k2 : (W.alloc (.cells #[.int .i64 i0, .slice a1 n1 c1, .slice a2 n2 c2] 26)).cell? ⟨W.heap.size, 2, none⟩ = some (.slice a2 n2 c2) := cell_of_row _ _ 2 _ _ _ (heap_alloc_new W (.cells #[.int .i64 i0, .slice a1 n1 c1, .slice a2 n2 c2] 26))
  go_enter Try.func26, Try.ntmps26
  go_wp2_with fail
  go_at_call 76
  refine (rng_no _ _ _ _ (by omega)).mono ?_
  rintro e w1 ⟨rfl, rfl⟩
  go_wp2
  go_ret
  exact ⟨rfl, gby_alloc (gby_refl W none) _⟩

set_option maxHeartbeats 2000000 in
theorem implVecLen2 (W : World) (i0 : Int) (a1 a2 : Option Addr) (n1 c1 n2 c2 : Nat) (h1 : 1 ≤ n1) (h2 : n1 ≤ 8) (hne : ((n1 : Int) != (n2 : Int)) = true) (hne2 : ((n2 : Int) != (n1 : Int)) = true) : Calls Try.prog 26 #[vVectors i0 (.slice a1 n1 c1) (.slice a2 n2 c2)] W (AnsN (.bool false) W) := by
  unfold vVectors
  have k0 : (W.alloc (.cells #[.int .i64 i0, .slice a1 n1 c1, .slice a2 n2 c2] 26)).cell? ⟨W.heap.size, 0, none⟩ = some (.int .i64 i0) := cell_of_row _ _ 0 _ _ _ (heap_alloc_new W (.cells #[.int .i64 i0, .slice a1 n1 c1, .slice a2 n2 c2] 26))
  have k1 : (W.alloc (.cells #[.int .i64 i0, .slice a1 n1 c1, .slice a2 n2 c2] 26)).cell? ⟨W.heap.size, 1, none⟩ = some (.slice a1 n1 c1) := cell_of_row _ _ 1 _ _ _ (heap_alloc_new W (.cells #[.int .i64 i0, .slice a1 n1 c1, .slice a2 n2 c2] 26))
  have k2 : (W.alloc (.cells #[.int .i64 i0, .slice a1 n1 c1, .slice a2 n2 c2] 26)).cell? ⟨W.heap.size, 2, none⟩ = some (.slice a2 n2 c2) := cell_of_row _ _ 2 _ _ _ (heap_alloc_new W (.cells #[.int .i64 i0, .slice a1 n1 c1, .slice a2 n2 c2] 26))
  go_enter Try.func26, Try.ntmps26
  go_wp2_with fail
  go_at_call 76
  refine (rng_yes _ _ _ _ (by omega) (by omega)).mono ?_
  rintro e w1 ⟨rfl, rfl⟩
  go_wp2
  go_ret
  exact ⟨rfl, gby_alloc (gby_refl W none) _⟩

set_option maxHeartbeats 2000000 in
theorem implVecBad (W : World) (i0 : Int) (a1 a2 : Option Addr) (n1 c1 n2 c2 : Nat) (xs ys : List Bool) (hx : xs.length = n1) (hy : ys.length = n1) (H1 : RdB W a1 xs) (H2 : RdB W a2 ys) (h1 : 1 ≤ n1) (h2 : n1 ≤ 8) (he : n2 = n1) (k0 : Nat) (hk0 : k0 < n1) (hq : ys.getD k0 false = true ∧ xs.getD k0 false = false ∧ ∀ j, j < k0 → ys.getD j false = true → xs.getD j false = true) : Calls Try.prog 26 #[vVectors i0 (.slice a1 n1 c1) (.slice a2 n2 c2)] W (AnsN (.bool false) W) := by
  subst n2
  have hne : ((n1 : Int) != (n1 : Int)) = false := by simp
  have HQ := Lib.hid hq
  have HX := Lib.hid hx
  have HY := Lib.hid hy
  have R1 := Lib.hid H1
  have R2 := Lib.hid H2
  clear hq hx hy H1 H2
  unfold vVectors
  have e0 : (W.alloc (.cells #[.int .i64 i0, .slice a1 n1 c1, .slice a2 n1 c2] 26)).cell? ⟨W.heap.size, 0, none⟩ = some (.int .i64 i0) := cell_of_row _ _ 0 _ _ _ (heap_alloc_new W (.cells #[.int .i64 i0, .slice a1 n1 c1, .slice a2 n1 c2] 26))
  have e1 : (W.alloc (.cells #[.int .i64 i0, .slice a1 n1 c1, .slice a2 n1 c2] 26)).cell? ⟨W.heap.size, 1, none⟩ = some (.slice a1 n1 c1) := cell_of_row _ _ 1 _ _ _ (heap_alloc_new W (.cells #[.int .i64 i0, .slice a1 n1 c1, .slice a2 n1 c2] 26))
  have e2 : (W.alloc (.cells #[.int .i64 i0, .slice a1 n1 c1, .slice a2 n1 c2] 26)).cell? ⟨W.heap.size, 2, none⟩ = some (.slice a2 n1 c2) := cell_of_row _ _ 2 _ _ _ (heap_alloc_new W (.cells #[.int .i64 i0, .slice a1 n1 c1, .slice a2 n1 c2] 26))
  go_enter Try.func26, Try.ntmps26
  go_wp2_with fail
  go_at_call 76
  refine (rng_yes _ _ _ _ (by omega) (by omega)).mono ?_
  rintro e w1 ⟨rfl, rfl⟩
  go_wp2
  go_loopw [3, 4, 22] (fun z y i wr => ∃ k : Nat, k ≤ k0 ∧ (∃ q, z = q) ∧ (∃ q, y = q) ∧ i = .int .i64 (k : Int) ∧ (W.alloc (.cells #[.int .i64 i0, .slice a1 n1 c1, .slice a2 n1 c2] 26)).grownBy wr none) (fun _ _ i _ => n1 - (intOf i).toNat)
  case atStart => exact ⟨0, Nat.zero_le _, ⟨_, rfl⟩, ⟨_, rfl⟩, rfl, gby_refl _ _⟩
  case round =>
    obtain ⟨k, hk, ⟨z, rfl⟩, ⟨y, rfl⟩, rfl, hg⟩ := hrel
    have HG := Lib.hid hg
    have f0 := hg.cell e0 (by simp)
    have f1 := hg.cell e1 (by simp)
    have f2 := hg.cell e2 (by simp)
    clear hg
    by_cases hlt : k < k0
    · skip
      have hki : (k : Int) < (n1 : Int) := by omega
      have hk0' : (0 : Int) ≤ (k : Int) := by omega
      have htn : ((k : Int)).toNat = k := by omega
      have hq := HQ.out
      obtain ⟨b1, o1, ha1_, hc1⟩ := R1.out.resolve_left (by have := HX.out; omega)
      obtain ⟨b2, o2, ha2_, hc2⟩ := R2.out.resolve_left (by have := HY.out; omega)
      have g1 := HG.out.cell ((gby_alloc (gby_refl W none) _).cell (hc1 k (by have := HX.out; omega)) (by simp)) (by simp)
      have g2 := HG.out.cell ((gby_alloc (gby_refl W none) _).cell (hc2 k (by have := HY.out; omega)) (by simp)) (by simp)
      rw [ha1_] at f1
      rw [ha2_] at f2
      clear hc1 hc2
      cases hy0 : ys.getD k false with
      | false =>
        rw [hy0] at g2
        clear hq hy0
        go_wp2
        try go_quiet (fail)
        try go_wp2
        exact ⟨⟨k + 1, by omega, ⟨_, rfl⟩, ⟨_, rfl⟩, by go_num, by repeat (first | exact HG.out | with_reducible refine gby_drewN ?_ _)⟩, by simp [intOf]; omega⟩
      | true =>
        have hx0 : xs.getD k false = true := hq.2.2 k hlt hy0
        rw [hy0] at g2
        rw [hx0] at g1
        clear hq hy0 hx0
        go_wp2
        try go_quiet (fail)
        try go_wp2
        exact ⟨⟨k + 1, by omega, ⟨_, rfl⟩, ⟨_, rfl⟩, by go_num, by repeat (first | exact HG.out | with_reducible refine gby_drewN ?_ _)⟩, by simp [intOf]; omega⟩
    · obtain rfl : k = k0 := by omega
      have hki : (k : Int) < (n1 : Int) := by omega
      have hk0' : (0 : Int) ≤ (k : Int) := by omega
      have htn : ((k : Int)).toNat = k := by omega
      have hq := HQ.out
      obtain ⟨b1, o1, ha1_, hc1⟩ := R1.out.resolve_left (by have := HX.out; omega)
      obtain ⟨b2, o2, ha2_, hc2⟩ := R2.out.resolve_left (by have := HY.out; omega)
      have g1 := HG.out.cell ((gby_alloc (gby_refl W none) _).cell (hc1 k (by have := HX.out; omega)) (by simp)) (by simp)
      have g2 := HG.out.cell ((gby_alloc (gby_refl W none) _).cell (hc2 k (by have := HY.out; omega)) (by simp)) (by simp)
      rw [ha1_] at f1
      rw [ha2_] at f2
      clear hc1 hc2
      rw [hq.1] at g2
      rw [hq.2.1] at g1
      clear hq
      go_wp2
      try go_quiet (fail)
      try go_wp2
      go_ret
      exact ⟨rfl, by repeat (first | exact gby_trans (gby_alloc (gby_refl W none) _) HG.out | with_reducible refine gby_drewN ?_ _)⟩

set_option maxHeartbeats 2000000 in
theorem implVecGood (W : World) (i0 : Int) (a1 a2 : Option Addr) (n1 c1 n2 c2 : Nat) (xs ys : List Bool) (hx : xs.length = n1) (hy : ys.length = n1) (H1 : RdB W a1 xs) (H2 : RdB W a2 ys) (h1 : 1 ≤ n1) (h2 : n1 ≤ 8) (he : n2 = n1) (ha0 : 0 ≤ i0) (ha1 : i0 ≤ 65535) (hq : ∀ j, j < n1 → ys.getD j false = true → xs.getD j false = true) : Calls Try.prog 26 #[vVectors i0 (.slice a1 n1 c1) (.slice a2 n2 c2)] W (AnsN (.bool true) W) := by
  subst n2
  have hne : ((n1 : Int) != (n1 : Int)) = false := by simp
  have HQ := Lib.hid hq
  have HX := Lib.hid hx
  have HY := Lib.hid hy
  have R1 := Lib.hid H1
  have R2 := Lib.hid H2
  clear hq hx hy H1 H2
  unfold vVectors
  have e0 : (W.alloc (.cells #[.int .i64 i0, .slice a1 n1 c1, .slice a2 n1 c2] 26)).cell? ⟨W.heap.size, 0, none⟩ = some (.int .i64 i0) := cell_of_row _ _ 0 _ _ _ (heap_alloc_new W (.cells #[.int .i64 i0, .slice a1 n1 c1, .slice a2 n1 c2] 26))
  have e1 : (W.alloc (.cells #[.int .i64 i0, .slice a1 n1 c1, .slice a2 n1 c2] 26)).cell? ⟨W.heap.size, 1, none⟩ = some (.slice a1 n1 c1) := cell_of_row _ _ 1 _ _ _ (heap_alloc_new W (.cells #[.int .i64 i0, .slice a1 n1 c1, .slice a2 n1 c2] 26))
  have e2 : (W.alloc (.cells #[.int .i64 i0, .slice a1 n1 c1, .slice a2 n1 c2] 26)).cell? ⟨W.heap.size, 2, none⟩ = some (.slice a2 n1 c2) := cell_of_row _ _ 2 _ _ _ (heap_alloc_new W (.cells #[.int .i64 i0, .slice a1 n1 c1, .slice a2 n1 c2] 26))
  go_enter Try.func26, Try.ntmps26
  go_wp2_with fail
  go_at_call 76
  refine (rng_yes _ _ _ _ (by omega) (by omega)).mono ?_
  rintro e w1 ⟨rfl, rfl⟩
  go_wp2
  go_loopw [3, 4, 22] (fun z y i wr => ∃ k : Nat, k ≤ n1 ∧ (∃ q, z = q) ∧ (∃ q, y = q) ∧ i = .int .i64 (k : Int) ∧ (W.alloc (.cells #[.int .i64 i0, .slice a1 n1 c1, .slice a2 n1 c2] 26)).grownBy wr none) (fun _ _ i _ => n1 - (intOf i).toNat)
  case atStart => exact ⟨0, Nat.zero_le _, ⟨_, rfl⟩, ⟨_, rfl⟩, rfl, gby_refl _ _⟩
  case round =>
    obtain ⟨k, hk, ⟨z, rfl⟩, ⟨y, rfl⟩, rfl, hg⟩ := hrel
    have HG := Lib.hid hg
    have f0 := hg.cell e0 (by simp)
    have f1 := hg.cell e1 (by simp)
    have f2 := hg.cell e2 (by simp)
    clear hg
    by_cases hlt : k < n1
    · skip
      have hki : (k : Int) < (n1 : Int) := by omega
      have hk0' : (0 : Int) ≤ (k : Int) := by omega
      have htn : ((k : Int)).toNat = k := by omega
      have hq := HQ.out
      obtain ⟨b1, o1, ha1_, hc1⟩ := R1.out.resolve_left (by have := HX.out; omega)
      obtain ⟨b2, o2, ha2_, hc2⟩ := R2.out.resolve_left (by have := HY.out; omega)
      have g1 := HG.out.cell ((gby_alloc (gby_refl W none) _).cell (hc1 k (by have := HX.out; omega)) (by simp)) (by simp)
      have g2 := HG.out.cell ((gby_alloc (gby_refl W none) _).cell (hc2 k (by have := HY.out; omega)) (by simp)) (by simp)
      rw [ha1_] at f1
      rw [ha2_] at f2
      clear hc1 hc2
      cases hy0 : ys.getD k false with
      | false =>
        rw [hy0] at g2
        clear hq hy0
        go_wp2
        try go_quiet (fail)
        try go_wp2
        exact ⟨⟨k + 1, by omega, ⟨_, rfl⟩, ⟨_, rfl⟩, by go_num, by repeat (first | exact HG.out | with_reducible refine gby_drewN ?_ _)⟩, by simp [intOf]; omega⟩
      | true =>
        have hx0 : xs.getD k false = true := hq k hlt hy0
        rw [hy0] at g2
        rw [hx0] at g1
        clear hq hy0 hx0
        go_wp2
        try go_quiet (fail)
        try go_wp2
        exact ⟨⟨k + 1, by omega, ⟨_, rfl⟩, ⟨_, rfl⟩, by go_num, by repeat (first | exact HG.out | with_reducible refine gby_drewN ?_ _)⟩, by simp [intOf]; omega⟩
    · have hki : ¬ (k : Int) < (n1 : Int) := by omega
      go_wp2_with fail
      go_at_call 76
      refine (rng_yes _ _ _ _ (by omega) (by omega)).mono ?_
      rintro e w1 ⟨rfl, rfl⟩
      go_wp2
      go_ret
      exact ⟨rfl, gby_trans (gby_alloc (gby_refl W none) _) HG.out⟩

set_option maxHeartbeats 2000000 in
theorem implVecGoodBad (W : World) (i0 : Int) (a1 a2 : Option Addr) (n1 c1 n2 c2 : Nat) (xs ys : List Bool) (hx : xs.length = n1) (hy : ys.length = n1) (H1 : RdB W a1 xs) (H2 : RdB W a2 ys) (h1 : 1 ≤ n1) (h2 : n1 ≤ 8) (he : n2 = n1) (ha : i0 < 0 ∨ 65535 < i0) (hq : ∀ j, j < n1 → ys.getD j false = true → xs.getD j false = true) : Calls Try.prog 26 #[vVectors i0 (.slice a1 n1 c1) (.slice a2 n2 c2)] W (AnsN (.bool false) W) := by
  subst n2
  have hne : ((n1 : Int) != (n1 : Int)) = false := by simp
  have HQ := Lib.hid hq
  have HX := Lib.hid hx
  have HY := Lib.hid hy
  have R1 := Lib.hid H1
  have R2 := Lib.hid H2
  clear hq hx hy H1 H2
  unfold vVectors
  have e0 : (W.alloc (.cells #[.int .i64 i0, .slice a1 n1 c1, .slice a2 n1 c2] 26)).cell? ⟨W.heap.size, 0, none⟩ = some (.int .i64 i0) := cell_of_row _ _ 0 _ _ _ (heap_alloc_new W (.cells #[.int .i64 i0, .slice a1 n1 c1, .slice a2 n1 c2] 26))
  have e1 : (W.alloc (.cells #[.int .i64 i0, .slice a1 n1 c1, .slice a2 n1 c2] 26)).cell? ⟨W.heap.size, 1, none⟩ = some (.slice a1 n1 c1) := cell_of_row _ _ 1 _ _ _ (heap_alloc_new W (.cells #[.int .i64 i0, .slice a1 n1 c1, .slice a2 n1 c2] 26))
  have e2 : (W.alloc (.cells #[.int .i64 i0, .slice a1 n1 c1, .slice a2 n1 c2] 26)).cell? ⟨W.heap.size, 2, none⟩ = some (.slice a2 n1 c2) := cell_of_row _ _ 2 _ _ _ (heap_alloc_new W (.cells #[.int .i64 i0, .slice a1 n1 c1, .slice a2 n1 c2] 26))
  go_enter Try.func26, Try.ntmps26
  go_wp2_with fail
  go_at_call 76
  refine (rng_yes _ _ _ _ (by omega) (by omega)).mono ?_
  rintro e w1 ⟨rfl, rfl⟩
  go_wp2
  go_loopw [3, 4, 22] (fun z y i wr => ∃ k : Nat, k ≤ n1 ∧ (∃ q, z = q) ∧ (∃ q, y = q) ∧ i = .int .i64 (k : Int) ∧ (W.alloc (.cells #[.int .i64 i0, .slice a1 n1 c1, .slice a2 n1 c2] 26)).grownBy wr none) (fun _ _ i _ => n1 - (intOf i).toNat)
  case atStart => exact ⟨0, Nat.zero_le _, ⟨_, rfl⟩, ⟨_, rfl⟩, rfl, gby_refl _ _⟩
  case round =>
    obtain ⟨k, hk, ⟨z, rfl⟩, ⟨y, rfl⟩, rfl, hg⟩ := hrel
    have HG := Lib.hid hg
    have f0 := hg.cell e0 (by simp)
    have f1 := hg.cell e1 (by simp)
    have f2 := hg.cell e2 (by simp)
    clear hg
    by_cases hlt : k < n1
    · skip
      have hki : (k : Int) < (n1 : Int) := by omega
      have hk0' : (0 : Int) ≤ (k : Int) := by omega
      have htn : ((k : Int)).toNat = k := by omega
      have hq := HQ.out
      obtain ⟨b1, o1, ha1_, hc1⟩ := R1.out.resolve_left (by have := HX.out; omega)
      obtain ⟨b2, o2, ha2_, hc2⟩ := R2.out.resolve_left (by have := HY.out; omega)
      have g1 := HG.out.cell ((gby_alloc (gby_refl W none) _).cell (hc1 k (by have := HX.out; omega)) (by simp)) (by simp)
      have g2 := HG.out.cell ((gby_alloc (gby_refl W none) _).cell (hc2 k (by have := HY.out; omega)) (by simp)) (by simp)
      rw [ha1_] at f1
      rw [ha2_] at f2
      clear hc1 hc2
      cases hy0 : ys.getD k false with
      | false =>
        rw [hy0] at g2
        clear hq hy0
        go_wp2
        try go_quiet (fail)
        try go_wp2
        exact ⟨⟨k + 1, by omega, ⟨_, rfl⟩, ⟨_, rfl⟩, by go_num, by repeat (first | exact HG.out | with_reducible refine gby_drewN ?_ _)⟩, by simp [intOf]; omega⟩
      | true =>
        have hx0 : xs.getD k false = true := hq k hlt hy0
        rw [hy0] at g2
        rw [hx0] at g1
        clear hq hy0 hx0
        go_wp2
        try go_quiet (fail)
        try go_wp2
        exact ⟨⟨k + 1, by omega, ⟨_, rfl⟩, ⟨_, rfl⟩, by go_num, by repeat (first | exact HG.out | with_reducible refine gby_drewN ?_ _)⟩, by simp [intOf]; omega⟩
    · have hki : ¬ (k : Int) < (n1 : Int) := by omega
      go_wp2_with fail
      go_at_call 76
      refine (rng_no _ _ _ _ (by omega)).mono ?_
      rintro e w1 ⟨rfl, rfl⟩
      go_wp2
      go_ret
      exact ⟨rfl, gby_trans (gby_alloc (gby_refl W none) _) HG.out⟩

theorem bad_or (xs ys : List Bool) : ∀ n, (∃ k, k < n ∧ ys.getD k false = true ∧ xs.getD k false = false ∧ ∀ j, j < k → ys.getD j false = true → xs.getD j false = true) ∨ ∀ j, j < n → ys.getD j false = true → xs.getD j false = true
  | 0 => .inr (fun j hj => absurd hj (Nat.not_lt_zero _))
  | n + 1 => by
    rcases bad_or xs ys n with ⟨k, h1, h2⟩ | h
    · exact .inl ⟨k, by omega, h2⟩
    · by_cases hy : ys.getD n false = true
      · cases hx : xs.getD n false with
        | false => exact .inl ⟨n, by omega, hy, hx, h⟩
        | true => exact .inr (fun j hj hyj => by
            by_cases e : j = n
            · subst e; exact hx
            · exact h j (by omega) hyj)
      · exact .inr (fun j hj hyj => by
          by_cases e : j = n
          · subst e; exact absurd hyj hy
          · exact h j (by omega) hyj)

theorem vectorsOk_both (i0_0 : Int) (xs0_1 xs0_2 : List Bool) (_ : szL shB xs0_1 ≤ 1048576) (_ : szL shB xs0_2 ≤ 1048576) : ∃ (br0 : Bool), (∀ (W : World), ∀ u0_1 u0_2, RdL shB W u0_1 xs0_1 → RdL shB W u0_2 xs0_2 → Calls Try.prog 104 #[.agg #[.int .i64 i0_0, u0_1, u0_2]] W (ResSVectorsOk br0 W)) ∧ ∀ (W : World), ∀ u0_1 u0_2, RdL shB W u0_1 xs0_1 → RdL shB W u0_2 xs0_2 → Calls Try.prog 26 #[.agg #[.int .i64 i0_0, u0_1, u0_2]] W (ResIVectorsOk br0 W) := by
  by_cases hl : xs0_1.length < 1 ∨ 8 < xs0_1.length
  · refine ⟨false, fun W u1 u2 H1 H2 => ?_, fun W u1 u2 H1 H2 => ?_⟩
    · obtain ⟨a1, c1, rfl, _, _⟩ := rdB_in H1
      obtain ⟨a2, c2, rfl, _, _⟩ := rdB_in H2
      exact specVecLen1 W _ a1 a2 _ c1 _ c2 hl
    · obtain ⟨a1, c1, rfl, _, _⟩ := rdB_in H1
      obtain ⟨a2, c2, rfl, _, _⟩ := rdB_in H2
      exact implVecLen1 W _ a1 a2 _ c1 _ c2 hl
  · by_cases he : xs0_2.length = xs0_1.length
    · rcases bad_or xs0_1 xs0_2 xs0_1.length with ⟨k, hk, hq⟩ | hq
      · refine ⟨false, fun W u1 u2 H1 H2 => ?_, fun W u1 u2 H1 H2 => ?_⟩
        · obtain ⟨a1, c1, rfl, _, r1⟩ := rdB_in H1
          obtain ⟨a2, c2, rfl, _, r2⟩ := rdB_in H2
          by_cases ha : 0 ≤ i0_0 ∧ i0_0 ≤ 65535
          · exact specVecBad W _ a1 a2 _ c1 _ c2 xs0_1 xs0_2 rfl he r1 r2 (by omega) (by omega) he ha.1 ha.2 k hk hq
          · exact specVecAddr W _ a1 a2 _ c1 _ c2 (by omega) (by omega) he (by omega)
        · obtain ⟨a1, c1, rfl, _, r1⟩ := rdB_in H1
          obtain ⟨a2, c2, rfl, _, r2⟩ := rdB_in H2
          exact implVecBad W _ a1 a2 _ c1 _ c2 xs0_1 xs0_2 rfl he r1 r2 (by omega) (by omega) he k hk hq
      · by_cases ha : 0 ≤ i0_0 ∧ i0_0 ≤ 65535
        · refine ⟨true, fun W u1 u2 H1 H2 => ?_, fun W u1 u2 H1 H2 => ?_⟩
          · obtain ⟨a1, c1, rfl, _, r1⟩ := rdB_in H1
            obtain ⟨a2, c2, rfl, _, r2⟩ := rdB_in H2
            exact specVecGood W _ a1 a2 _ c1 _ c2 xs0_1 xs0_2 rfl he r1 r2 (by omega) (by omega) he ha.1 ha.2 hq
          · obtain ⟨a1, c1, rfl, _, r1⟩ := rdB_in H1
            obtain ⟨a2, c2, rfl, _, r2⟩ := rdB_in H2
            exact implVecGood W _ a1 a2 _ c1 _ c2 xs0_1 xs0_2 rfl he r1 r2 (by omega) (by omega) he ha.1 ha.2 hq
        · refine ⟨false, fun W u1 u2 H1 H2 => ?_, fun W u1 u2 H1 H2 => ?_⟩
          · obtain ⟨a1, c1, rfl, _, _⟩ := rdB_in H1
            obtain ⟨a2, c2, rfl, _, _⟩ := rdB_in H2
            exact specVecAddr W _ a1 a2 _ c1 _ c2 (by omega) (by omega) he (by omega)
          · obtain ⟨a1, c1, rfl, _, r1⟩ := rdB_in H1
            obtain ⟨a2, c2, rfl, _, r2⟩ := rdB_in H2
            exact implVecGoodBad W _ a1 a2 _ c1 _ c2 xs0_1 xs0_2 rfl he r1 r2 (by omega) (by omega) he (by omega) hq
    · refine ⟨false, fun W u1 u2 H1 H2 => ?_, fun W u1 u2 H1 H2 => ?_⟩
      · obtain ⟨a1, c1, rfl, _, _⟩ := rdB_in H1
        obtain ⟨a2, c2, rfl, _, _⟩ := rdB_in H2
        exact specVecLen2 W _ a1 a2 _ c1 _ c2 (by omega) (by omega) (by simp; omega) (by simp; omega)
      · obtain ⟨a1, c1, rfl, _, _⟩ := rdB_in H1
        obtain ⟨a2, c2, rfl, _, _⟩ := rdB_in H2
        exact implVecLen2 W _ a1 a2 _ c1 _ c2 (by omega) (by omega) (by simp; omega) (by simp; omega)

end Go.Proofs.Ytomiicegkdogkaa
