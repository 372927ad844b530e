/-
  StateAfter and PeriodOf, the program's side.
-/
import Derived.Test.YtgmpehccklifdaaStates
import Derived.Test.YtgmpehccklifdaaOrb
namespace Go.Proofs.Ytgmpehccklifdaa
open Go Go.RowKit
set_option linter.unusedVariables false
attribute [local go_sem] Oper.semAt_some

theorem own_grown {W A B : World} {row : Option Nat} {s : Nat} (h : W.grownBy A none) (hs : W.heap.size ≤ s) (g : A.grownBy B row) (hr : ∀ r, row = some r → s ≤ r ∧ ∃ o : Obj, A.heap[r]? = some o ∧ o.isCells = false) : W.grownBy B none :=
  gby_new h g (fun r e => Nat.le_trans hs (hr r e).1)

set_option maxRecDepth 8000 in
set_option maxHeartbeats 1000000 in
theorem implAfter_in (s n : Int) (h1 : 1 ≤ s) (h2 : s ≤ 255) (h3 : 0 ≤ n) (h4 : n ≤ 1000) (W : World) :
    Calls Try.prog 41 #[.int .i64 s, .int .i64 n] W (AnsN (.int .i64 (st s n.toNat)) W) := by
  refine (callsIn_wide (n := 3)).1 ?_
  refine callsIn_of_wp_marks Try.func41 rfl trivial ?_ rfl
  simp only [Try.ntmps41, List.size_toArray, List.length_cons, List.length_nil, Nat.reduceAdd, Nat.reduceSub, Array.replicate_succ, Array.replicate_zero, List.push_toArray, List.append_toArray, List.nil_append, List.cons_append]
  gi_wp2_with (refine ⟨trivial, ?_⟩; first
    | (gi_at_call 56; refine (callsIn_wide.2 (isSt_yes _ _ h1 h2)).mono ?_; rintro e w' ⟨rfl, rfl⟩)
    | (gi_at_call 48; refine (callsIn_wide.2 (rng_yes _ _ _ _ h3 h4)).mono ?_; rintro e w' ⟨rfl, rfl⟩)
    | (gi_at_call 60; refine (callsIn_wide.2 (states_any _ _)).mono ?_; rintro e w' ⟨rfl, rfl⟩))
  obtain ⟨V, hV⟩ : ∃ V, ((W.alloc (.cells #[.int .i64 n] 3)).alloc (.cells #[.int .i64 0] 3)).alloc (.cells #[.int .i64 s] 3) = V := ⟨_, rfl⟩
  have q0 : V.heap.size = W.heap.size + 3 := by rw [← hV]; simp
  have z1 := heap_alloc_new W (.cells #[.int .i64 n] 3)
  have z2 := heap_alloc_new (W.alloc (.cells #[.int .i64 n] 3)) (.cells #[.int .i64 0] 3)
  have z3 := heap_alloc_new ((W.alloc (.cells #[.int .i64 n] 3)).alloc (.cells #[.int .i64 0] 3)) (.cells #[.int .i64 s] 3)
  simp only [World.size_alloc] at z2 z3
  have y1 := held_block (gby_alloc (gby_alloc (gby_refl _ none) (.cells #[.int .i64 0] 3)) (.cells #[.int .i64 s] 3)) z1
  have y2 := held_block (gby_alloc (gby_refl _ none) (.cells #[.int .i64 s] 3)) z2
  rw [hV] at y1 y2 z3
  have q1 : V.cell? ⟨W.heap.size, 0, none⟩ = some (.int .i64 n) := cell_of_row V _ 0 _ _ _ y1
  have q2 : V.cell? ⟨W.heap.size + 1, 0, none⟩ = some (.int .i64 0) := cell_of_row V _ 0 _ _ _ y2
  have q3 : V.frozen? ⟨W.heap.size + 1, 0, none⟩ = false := frozen_of_row V _ 0 _ _ y2
  have q4 : V.cell? ⟨W.heap.size + 1 + 1, 0, none⟩ = some (.int .i64 s) := cell_of_row V _ 0 _ _ _ z3
  have q5 : W.grownBy V none := by rw [← hV]; exact gby_alloc (gby_alloc (gby_alloc (gby_refl _ _) _) _) _
  rw [hV]
  clear hV z1 z2 z3 y1 y2
  refine rangeUps (by omega) (gf := 70) (lb := #[.pointer (some ⟨W.heap.size + 1 + 1, 0, none⟩)]) rfl (enters_of Try.func70 (by kernel_rfl) rfl) (states_ups 2 (W.heap.size + 1 + 1) (by omega) s V (by omega) q4) (Below.refl _ _) (fun _ => rfl) (n.toNat + 1) (by omega) (by omega)
    (fun k A => k ≤ n.toNat ∧ A.cell? ⟨W.heap.size, 0, none⟩ = some (.int .i64 n) ∧ A.cell? ⟨W.heap.size + 1, 0, none⟩ = some (.int .i64 0) ∧ A.frozen? ⟨W.heap.size + 1, 0, none⟩ = false ∧ W.grownBy A none)
    (fun c A => c = .ret ∧ A.cell? ⟨W.heap.size + 1, 0, none⟩ = some (.int .i64 (st s n.toNat)) ∧ W.grownBy A none)
    (fun k A B row hs hg hr => ⟨hs.1, cell_kept hs.2.1 hg (fun r e => (hr r e).2), cell_kept hs.2.2.1 hg (fun r e => (hr r e).2), (frozen_kept hs.2.2.1 hg (fun r e => (hr r e).2)).trans hs.2.2.2.1, own_grown hs.2.2.2.2 (by omega) hg hr⟩)
    (fun c A B row hs hg hr => ⟨hs.1, cell_kept hs.2.1 hg (fun r e => (hr r e).2), own_grown hs.2.2 (by omega) hg hr⟩)
    ⟨Nat.zero_le _, q1, q2, q3, q5⟩
    (fun k => { tmps := #[.int .i64 s, .int .i64 n, undef, .pointer (some ⟨W.heap.size, 0, none⟩), .pointer (some ⟨W.heap.size + 1, 0, none⟩), .int .i64 (k : Int), .int .i64 (st s k), .int .i64 s, .bool true, .bool true, .int .i64 n, .bool true, .bool true, .int .i64 s, .func (.func 70) #[] #[.pointer (some ⟨W.heap.size + 1 + 1, 0, none⟩)], .int .i64 (k : Int), .int .i64 (st s k), undef, undef, undef, undef], defers := [] }) ?assign ?body ?stop
  case assign =>
    intro l k A K hK
    simp only [stVals]
    gi_wp2
    exact hK
  case body =>
    rintro l k A ⟨hk, hcn, hcr, hfr, hg⟩ hkN
    by_cases e : (k : Int) = n
    · have hb : ((k : Int) == n) = true := by simpa using e
      have hv : st s k = st s n.toNat := by rw [show n.toNat = k by omega]
      gi_wp2
      exact ⟨(KeepsOthers.setCell _ _ _).from _, rfl, by rw [← hv]; exact World.cell?_setCell_same' _ _ _ (by rw [hcr]; rfl), gby_setnew hg _ (by simp) _⟩
    · have hb : ((k : Int) == n) = false := by simpa using e
      gi_wp2
      exact ⟨(KeepsOthers.refl _).from _, ⟨by omega, hcn, hcr, hfr, hg⟩, by omega⟩
  case stop =>
    rintro d c A hd ⟨rfl, hc, hg⟩ hD
    rw [q0] at hd
    gi_wp2
    refine ⟨by simp, .inl ⟨_, _, rfl, run_takeDeferred hD, ?_⟩⟩
    have hc5 := cell_kept hc (grownBy_putObj' _ d (.deferred none)) (fun r e => by cases e; exact ⟨_, hD, rfl⟩)
    exact ⟨.int .i64 (st s n.toNat), by simp [results, go_sem, hc5], rfl, gby_new hg (grownBy_putObj' _ d _) (fun r e => by cases e; omega)⟩

set_option maxRecDepth 8000 in
theorem implAfter_out (s n : Int) (h : ¬ (1 ≤ s ∧ s ≤ 255 ∧ 0 ≤ n ∧ n ≤ 1000)) (W : World) :
    Calls Try.prog 41 #[.int .i64 s, .int .i64 n] W (AnsN (.int .i64 0) W) := by
  by_cases hs : 1 ≤ s ∧ s ≤ 255
  · have hn : n < 0 ∨ 1000 < n := by omega
    have HN := Lib.hid hn
    clear h hn
    go_enter Try.func41, Try.ntmps41
    go_wp2_with (first
      | (go_at_call 56; refine (isSt_yes _ _ hs.1 hs.2).mono ?_; rintro e w' ⟨rfl, rfl⟩)
      | (go_at_call 48; refine (rng_no _ _ _ _ HN.out).mono ?_; rintro e w' ⟨rfl, rfl⟩))
    refine bodyPost_ret (v := .int .i64 0) (by simp [results, go_sem]) rfl ⟨rfl, ?_⟩
    repeat (first | exact gby_alloc (gby_alloc (gby_refl _ _) _) _ | with_reducible refine gby_setnew ?_ _ (by dsimp only; omega) _)
  · have hn : s < 1 ∨ 255 < s := by omega
    have HN := Lib.hid hn
    clear h hn hs
    go_enter Try.func41, Try.ntmps41
    go_wp2_with (go_at_call 56; refine (isSt_no _ _ HN.out).mono ?_; rintro e w' ⟨rfl, rfl⟩)
    refine bodyPost_ret (v := .int .i64 0) (by simp [results, go_sem]) rfl ⟨rfl, ?_⟩
    repeat (first | exact gby_alloc (gby_alloc (gby_refl _ _) _) _ | with_reducible refine gby_setnew ?_ _ (by dsimp only; omega) _)

set_option maxRecDepth 8000 in
set_option maxHeartbeats 1000000 in
theorem implPer_in (s : Int) (h1 : 1 ≤ s) (h2 : s ≤ 255) (p : Nat) (hp0 : 0 < p) (hp1 : p ≤ 255) (hp2 : st s p = s) (hp3 : ∀ k, 0 < k → k < p → st s k ≠ s) (W : World) :
    Calls Try.prog 43 #[.int .i64 s] W (AnsN (.int .i64 (p : Int)) W) := by
  refine (callsIn_wide (n := 3)).1 ?_
  refine callsIn_of_wp_marks Try.func43 rfl trivial ?_ rfl
  simp only [Try.ntmps43, List.size_toArray, List.length_cons, List.length_nil, Nat.reduceAdd, Nat.reduceSub, Array.replicate_succ, Array.replicate_zero, List.push_toArray, List.append_toArray, List.nil_append, List.cons_append]
  gi_wp2_with (refine ⟨trivial, ?_⟩; first
    | (gi_at_call 56; refine (callsIn_wide.2 (isSt_yes _ _ h1 h2)).mono ?_; rintro e w' ⟨rfl, rfl⟩)
    | (gi_at_call 60; refine (callsIn_wide.2 (states_any _ _)).mono ?_; rintro e w' ⟨rfl, rfl⟩))
  obtain ⟨V, hV⟩ : ∃ V, ((W.alloc (.cells #[.int .i64 s] 3)).alloc (.cells #[.int .i64 0] 3)).alloc (.cells #[.int .i64 s] 3) = V := ⟨_, rfl⟩
  have q0 : V.heap.size = W.heap.size + 3 := by rw [← hV]; simp
  have z1 := heap_alloc_new W (.cells #[.int .i64 s] 3)
  have z2 := heap_alloc_new (W.alloc (.cells #[.int .i64 s] 3)) (.cells #[.int .i64 0] 3)
  have z3 := heap_alloc_new ((W.alloc (.cells #[.int .i64 s] 3)).alloc (.cells #[.int .i64 0] 3)) (.cells #[.int .i64 s] 3)
  simp only [World.size_alloc] at z2 z3
  have y1 := held_block (gby_alloc (gby_alloc (gby_refl _ none) (.cells #[.int .i64 0] 3)) (.cells #[.int .i64 s] 3)) z1
  have y2 := held_block (gby_alloc (gby_refl _ none) (.cells #[.int .i64 s] 3)) z2
  rw [hV] at y1 y2 z3
  have q1 : V.cell? ⟨W.heap.size, 0, none⟩ = some (.int .i64 s) := cell_of_row V _ 0 _ _ _ y1
  have q2 : V.cell? ⟨W.heap.size + 1, 0, none⟩ = some (.int .i64 0) := cell_of_row V _ 0 _ _ _ y2
  have q3 : V.frozen? ⟨W.heap.size + 1, 0, none⟩ = false := frozen_of_row V _ 0 _ _ y2
  have q4 : V.cell? ⟨W.heap.size + 1 + 1, 0, none⟩ = some (.int .i64 s) := cell_of_row V _ 0 _ _ _ z3
  have q5 : W.grownBy V none := by rw [← hV]; exact gby_alloc (gby_alloc (gby_alloc (gby_refl _ _) _) _) _
  rw [hV]
  clear hV z1 z2 z3 y1 y2
  refine rangeUps (by omega) (gf := 70) (lb := #[.pointer (some ⟨W.heap.size + 1 + 1, 0, none⟩)]) rfl (enters_of Try.func70 (by kernel_rfl) rfl) (states_ups 2 (W.heap.size + 1 + 1) (by omega) s V (by omega) q4) (Below.refl _ _) (fun _ => rfl) (p + 1) (by omega) (by omega)
    (fun k A => (k ≤ p) ∧ A.cell? ⟨W.heap.size, 0, none⟩ = some (.int .i64 s) ∧ A.cell? ⟨W.heap.size + 1, 0, none⟩ = some (.int .i64 0) ∧ A.frozen? ⟨W.heap.size + 1, 0, none⟩ = false ∧ W.grownBy A none)
    (fun c A => c = .ret ∧ A.cell? ⟨W.heap.size + 1, 0, none⟩ = some (.int .i64 (p : Int)) ∧ W.grownBy A none)
    (fun k A B row hs hg hr => ⟨hs.1, cell_kept hs.2.1 hg (fun r e => (hr r e).2), cell_kept hs.2.2.1 hg (fun r e => (hr r e).2), (frozen_kept hs.2.2.1 hg (fun r e => (hr r e).2)).trans hs.2.2.2.1, own_grown hs.2.2.2.2 (by omega) hg hr⟩)
    (fun c A B row hs hg hr => ⟨hs.1, cell_kept hs.2.1 hg (fun r e => (hr r e).2), own_grown hs.2.2 (by omega) hg hr⟩)
    ⟨Nat.zero_le _, q1, q2, q3, q5⟩
    (fun k => { tmps := #[.int .i64 s, .pointer (some ⟨W.heap.size, 0, none⟩), .pointer (some ⟨W.heap.size + 1, 0, none⟩), .int .i64 (k : Int), .int .i64 (st s k), .int .i64 s, .bool true, .int .i64 s, .func (.func 70) #[] #[.pointer (some ⟨W.heap.size + 1 + 1, 0, none⟩)], .int .i64 (k : Int), .int .i64 (st s k), undef, undef, undef, undef, undef, undef, undef, undef], defers := [] }) ?assign ?body ?stop
  case assign =>
    intro l k A K hK
    simp only [stVals]
    gi_wp2
    exact hK
  case body =>
    rintro l k A ⟨hk, hcn, hcr, hfr, hg⟩ hkN
    by_cases h0 : 0 < k
    · have h0' : (0 : Int) < (k : Int) := by omega
      by_cases e : k = p
      · subst e
        have hb : (st s k == s) = true := by simpa using hp2
        gi_wp2
        exact ⟨(KeepsOthers.setCell _ _ _).from _, rfl, World.cell?_setCell_same' _ _ _ (by rw [hcr]; rfl), gby_setnew hg _ (by simp) _⟩
      · have hb : (st s k == s) = false := by simpa using hp3 k h0 (by omega)
        gi_wp2
        exact ⟨(KeepsOthers.refl _).from _, ⟨by omega, hcn, hcr, hfr, hg⟩, by omega⟩
    · have h0' : ¬ (0 : Int) < (k : Int) := by omega
      have hd0 : decide ((0 : Int) < (k : Int)) = false := decide_eq_false h0'
      gi_wp2
      exact ⟨(KeepsOthers.refl _).from _, ⟨by omega, hcn, hcr, hfr, hg⟩, by omega⟩
  case stop =>
    rintro d c A hd ⟨rfl, hc, hg⟩ hD
    rw [q0] at hd
    gi_wp2
    refine ⟨by simp, .inl ⟨_, _, rfl, run_takeDeferred hD, ?_⟩⟩
    have hc5 := cell_kept hc (grownBy_putObj' _ d (.deferred none)) (fun r e => by cases e; exact ⟨_, hD, rfl⟩)
    exact ⟨.int .i64 (p : Int), by simp [results, go_sem, hc5], rfl, gby_new hg (grownBy_putObj' _ d _) (fun r e => by cases e; omega)⟩

end Go.Proofs.Ytgmpehccklifdaa
