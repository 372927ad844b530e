/-
  Contracts of TakeWire, the model's and the program's.
-/
import Derived.Test.YtokpmbagidokkacFrOwn
import Derived.Test.YtokpmbagidokkacTake2
import Derived.Handy
import Derived.StillTailTactics
namespace Go.Proofs.Ytokpmbagidokkac
open Go Go.RowKit

/-- a frame with bytes of its own, and a bool -/
def FrB (q : Int) (xs : List Int) (b : Bool) (W : World) (e : Ending) (w' : World) : Prop := ∃ d cap, e = .returned (.tuple #[frV q d xs.length cap, .bool b]) ∧ OwI w' W.heap.size w'.heap.size (.slice d xs.length cap) xs ∧ W.grownBy w' none

/-- the rest of a row of the call's own -/
theorem owI_tail {w : World} {lo hi b off n cap : Nat} {y : Int} {xs : List Int} (h : OwI w lo hi (.slice (some ⟨b, off, none⟩) (n + 1) cap) (y :: xs)) : OwI w lo hi (.slice (some ⟨b, off + 1, none⟩) n (cap - 1)) xs := by
  obtain ⟨a, c, hv, ⟨h1, h2⟩, h3, h4⟩ := h
  injection hv with e1 e2 e3
  subst e1
  subst e3
  have hl : n = xs.length := by simpa using e2
  refine ⟨_, cap - 1, by rw [hl], ⟨rfl, ?_⟩, ?_, ?_⟩
  · obtain ⟨b', off', e, hl', C, t, hb, hC⟩ := h2.resolve_left (by simp)
    injection e with e
    injection e with e4 e5
    subst e4 e5
    refine .inr ⟨b, off + 1, rfl, hl', C, t, hb, fun k hk => ?_⟩
    have := hC (k + 1) (by simp; omega)
    rw [show off + 1 + k = off + (k + 1) by omega, this]
    simp
  · intro p hp
    injection hp with hp
    subst hp
    exact h3 ⟨b, off, none⟩ rfl
  · exact ⟨(fun e => by cases e), by have := h4.2; simp at this; omega⟩

theorem owI_tail0 {w : World} {lo hi b off cap : Nat} {y : Int} (h : OwI w lo hi (.slice (some ⟨b, off, none⟩) 1 cap) [y]) : OwI w lo hi (.slice (some ⟨b, off, none⟩) 0 (cap - 1)) [] := by
  obtain ⟨a, c, hv, _, h3, h4⟩ := h
  injection hv with e1 e2 e3
  subst e1
  subst e3
  exact ⟨_, cap - 1, rfl, ⟨rfl, .inl rfl⟩, h3, (fun e => by cases e), Nat.zero_le _⟩

/-- two stores into the result's block, and a draw -/
theorem owI_after {W w : World} {lo hi : Nat} {v : Value} {xs : List Int} (h : OwI w lo hi v xs) (h1 : W.heap.size + 1 ≤ lo) (h2 : hi ≤ w.heap.size) (x y : Value) :
    OwI ((w.setCell ⟨W.heap.size, 0, none⟩ x).setCell ⟨W.heap.size, 1, none⟩ y).drew W.heap.size ((w.setCell ⟨W.heap.size, 0, none⟩ x).setCell ⟨W.heap.size, 1, none⟩ y).drew.heap.size v xs := by
  have c1 := chg_set (chg_gby (gby_refl w none) W.heap.size (W.heap.size + 1)) ⟨W.heap.size, 0, none⟩ (Nat.le_refl _) (Nat.lt_succ_self _) x
  have c2 := chg_set c1 ⟨W.heap.size, 1, none⟩ (Nat.le_refl _) (Nat.lt_succ_self _) y
  have k := h.kept c2 (.inr h1)
  exact (k.grow (gby_drew (gby_refl _ none))).wide (Nat.le_of_succ_le h1) (Nat.le_trans h2 c2.size)

theorem owI_head {w : World} {lo hi : Nat} {d : Option Addr} {n cap : Nat} {y : Int} {xs : List Int} (h : OwI w lo hi (.slice d n cap) (y :: xs)) : n = xs.length + 1 ∧ n ≤ cap ∧ ∃ b off, d = some ⟨b, off, none⟩ ∧ w.cell? ⟨b, off, none⟩ = some (.int .i64 y) := by
  have hi := h.isl
  have hc := h.rds.2.2
  obtain ⟨b, off, rfl, hcell⟩ := hi.2.resolve_left (by have := hi.1; simp at this; omega)
  have hl : n = xs.length + 1 := by have := hi.1; simpa using this
  exact ⟨hl, hc, b, off, rfl, hcell 0 (by omega)⟩

set_option maxRecDepth 4000 in
set_option maxHeartbeats 1000000 in
theorem implTW_bad (W : World) (v : Value) (xs : List Int) (H : RdI W v xs) (hl : xs.length ≤ 1048576) (h : ¬ FrameOk xs) :
    Calls Try.prog 22 #[v] W (FrB 0 [] false W) := by
  have HR := Lib.hid H
  clear H
  go_enter Try.func22, Try.ntmps22
  go_wp2_with fail
  go_at_call 54
  refine (implTake_no _ _ xs (HR.out.kept (gby_alloc (gby_refl _ _) _)) hl h).mono ?_
  rintro e w1 ⟨v1, rfl, o1, g1⟩
  have hz := row_on g1 (heap_alloc_new W _)
  have G1 := Lib.hid (gby_trans (gby_alloc (gby_refl W none) _) g1)
  obtain ⟨a1, c1, rfl, _⟩ := o1
  have z0 : w1.cell? ⟨W.heap.size, 0, none⟩ = some (.int .i64 0) := cell_of_row _ _ 0 _ _ _ hz
  have z1 : w1.cell? ⟨W.heap.size, 1, none⟩ = some (.slice none 0 0) := cell_of_row _ _ 1 _ _ _ hz
  have f0 := frozen_of_row _ _ 0 _ _ hz
  have f1 := frozen_of_row _ _ 1 _ _ hz
  clear hz g1
  go_wp2
  refine bodyPost_ret (v := .tuple #[frV 0 none 0 0, .bool false]) (by simp [results, go_sem, frV, z0, z1]) rfl ⟨none, 0, rfl, owI_row (World.ownsRow_nil _ _ _ _), ?_⟩
  iterate 2 (with_reducible refine gby_setnew ?_ _ (Nat.le_refl _) _)
  exact G1.out

set_option maxRecDepth 4000 in
set_option maxHeartbeats 1000000 in
theorem implTW_none (W : World) (v : Value) (xs : List Int) (H : RdI W v xs) (h : FrameOk xs) (hy : xs.take (xs.length - 2) = []) :
    Calls Try.prog 22 #[v] W (FrB 0 [] false W) := by
  have HR := Lib.hid H
  clear H
  go_enter Try.func22, Try.ntmps22
  go_wp2_with fail
  go_at_call 54
  refine (implTake_yes _ _ xs (HR.out.kept (gby_alloc (gby_refl _ _) _)) h).mono ?_
  rw [hy]
  rintro e w1 ⟨v1, rfl, o1, g1⟩
  have hz := row_on g1 (heap_alloc_new W _)
  have G1 := Lib.hid (gby_trans (gby_alloc (gby_refl W none) _) g1)
  obtain ⟨a1, c1, rfl, _⟩ := o1
  have z0 : w1.cell? ⟨W.heap.size, 0, none⟩ = some (.int .i64 0) := cell_of_row _ _ 0 _ _ _ hz
  have z1 : w1.cell? ⟨W.heap.size, 1, none⟩ = some (.slice none 0 0) := cell_of_row _ _ 1 _ _ _ hz
  have f0 := frozen_of_row _ _ 0 _ _ hz
  have f1 := frozen_of_row _ _ 1 _ _ hz
  clear hz g1 hy
  go_wp2
  refine bodyPost_ret (v := .tuple #[frV 0 none 0 0, .bool false]) (by simp [results, go_sem, frV, z0, z1]) rfl ⟨none, 0, rfl, owI_row (World.ownsRow_nil _ _ _ _), ?_⟩
  iterate 2 (with_reducible refine gby_setnew ?_ _ (Nat.le_refl _) _)
  exact G1.out

set_option maxRecDepth 4000 in
set_option maxHeartbeats 1000000 in
theorem implTW_far (W : World) (v : Value) (xs : List Int) (y : Int) (ys : List Int) (H : RdI W v xs) (h : FrameOk xs) (hy : xs.take (xs.length - 2) = y :: ys) (hq : ¬ IsQ y) :
    Calls Try.prog 22 #[v] W (FrB 0 [] false W) := by
  have HR := Lib.hid H
  clear H
  go_enter Try.func22, Try.ntmps22
  go_wp2_with fail
  go_at_call 54
  refine (implTake_yes _ _ xs (HR.out.kept (gby_alloc (gby_refl _ _) _)) h).mono ?_
  rw [hy]
  rintro e w1 ⟨v1, rfl, o1, g1⟩
  have hz := row_on g1 (heap_alloc_new W _)
  have G1 := Lib.hid (gby_trans (gby_alloc (gby_refl W none) _) g1)
  obtain ⟨d1, c1, rfl, _⟩ := id o1
  obtain ⟨_, hc1, b1, off1, rfl, hh⟩ := owI_head o1
  have hln : (y :: ys).length = ys.length + 1 := rfl
  rw [hln] at o1 hc1 ⊢
  have hdq : decide (IsQ y) = false := decide_eq_false hq
  have O1 := Lib.hid o1
  have HZ := Lib.hid hz
  have s1 := G1.out.size
  have ssz : W.heap.size + 1 ≤ w1.heap.size := by have := g1.size; simpa using this
  clear g1 hy o1 hln hz
  have l0 : ¬ ((ys.length : Int) + 1 = 0) := by omega
  have l1 : (0 : Int) < (ys.length : Int) + 1 := by omega
  have l2 : (1 : Int) ≤ (ys.length : Int) + 1 := by omega
  have l3 : (ys.length : Int) + 1 ≤ (c1 : Int) := by omega
  have l4 : 0 < ys.length + 1 := by omega
  go_wp2_with fail
  go_at_call 51
  refine (implSeq_any y _).mono ?_
  rw [hdq]
  rintro e w2 ⟨rfl, d2⟩
  have hz := row_on (d2.gby none) HZ.out
  have hh2 := (d2.gby none).cell hh (by simp)
  have d2s := (d2.gby none).size
  have G2 := Lib.hid (gby_trans G1.out (d2.gby none))
  have O2 := Lib.hid (O1.out.grow (d2.gby none))
  have z0 : w2.cell? ⟨W.heap.size, 0, none⟩ = some (.int .i64 0) := cell_of_row _ _ 0 _ _ _ hz
  have z1 : w2.cell? ⟨W.heap.size, 1, none⟩ = some (.slice none 0 0) := cell_of_row _ _ 1 _ _ _ hz
  have f0 := frozen_of_row _ _ 0 _ _ hz
  have f1 := frozen_of_row _ _ 1 _ _ hz
  clear hz d2 hh
  go_wp2
  refine bodyPost_ret (v := .tuple #[frV 0 none 0 0, .bool false]) (by simp [results, go_sem, frV, z0, z1]) rfl ⟨none, 0, rfl, owI_row (World.ownsRow_nil _ _ _ _), ?_⟩
  iterate 2 (with_reducible refine gby_setnew ?_ _ (Nat.le_refl _) _)
  exact G2.out

set_option maxRecDepth 4000 in
set_option maxHeartbeats 1000000 in
theorem implTW_yes (W : World) (v : Value) (xs : List Int) (y : Int) (ys : List Int) (H : RdI W v xs) (h : FrameOk xs) (hy : xs.take (xs.length - 2) = y :: ys) (hq : IsQ y) :
    Calls Try.prog 22 #[v] W (FrB y ys true W) := by
  have HR := Lib.hid H
  clear H
  go_enter Try.func22, Try.ntmps22
  go_wp2_with fail
  go_at_call 54
  refine (implTake_yes _ _ xs (HR.out.kept (gby_alloc (gby_refl _ _) _)) h).mono ?_
  rw [hy]
  rintro e w1 ⟨v1, rfl, o1, g1⟩
  have hz := row_on g1 (heap_alloc_new W _)
  have G1 := Lib.hid (gby_trans (gby_alloc (gby_refl W none) _) g1)
  obtain ⟨d1, c1, rfl, _⟩ := id o1
  obtain ⟨_, hc1, b1, off1, rfl, hh⟩ := owI_head o1
  have hln : (y :: ys).length = ys.length + 1 := rfl
  rw [hln] at o1 hc1 ⊢
  have hdq : decide (IsQ y) = true := decide_eq_true hq
  have O1 := Lib.hid o1
  have HZ := Lib.hid hz
  have s1 := G1.out.size
  have ssz : W.heap.size + 1 ≤ w1.heap.size := by have := g1.size; simpa using this
  clear g1 hy o1 hln hz
  have l0 : ¬ ((ys.length : Int) + 1 = 0) := by omega
  have l1 : (0 : Int) < (ys.length : Int) + 1 := by omega
  have l2 : (1 : Int) ≤ (ys.length : Int) + 1 := by omega
  have l3 : (ys.length : Int) + 1 ≤ (c1 : Int) := by omega
  have l4 : 0 < ys.length + 1 := by omega
  go_wp2_with fail
  go_at_call 51
  refine (implSeq_any y _).mono ?_
  rw [hdq]
  rintro e w2 ⟨rfl, d2⟩
  have hz := row_on (d2.gby none) HZ.out
  have hh2 := (d2.gby none).cell hh (by simp)
  have d2s := (d2.gby none).size
  have G2 := Lib.hid (gby_trans G1.out (d2.gby none))
  have O2 := Lib.hid (O1.out.grow (d2.gby none))
  have z0 : w2.cell? ⟨W.heap.size, 0, none⟩ = some (.int .i64 0) := cell_of_row _ _ 0 _ _ _ hz
  have z1 : w2.cell? ⟨W.heap.size, 1, none⟩ = some (.slice none 0 0) := cell_of_row _ _ 1 _ _ _ hz
  have f0 := frozen_of_row _ _ 0 _ _ hz
  have f1 := frozen_of_row _ _ 1 _ _ hz
  clear hz d2 hh hdq
  have hs3 := G2.out.size
  have hsw : w1.heap.size ≤ w2.heap.size := d2s
  by_cases hc : c1 = 1
  · subst hc
    obtain rfl : ys = [] := List.eq_nil_of_length_eq_zero (by omega)
    have O3 := Lib.hid (owI_tail0 O2.out)
    go_wp2_with fail
    go_still_tail 6, (by kernel_rfl)
    go_wp2
    refine bodyPost_ret (v := .tuple #[frV y (some ⟨b1, off1, none⟩) 0 0, .bool true]) (by simp [results, go_sem, frV, z0, z1]) rfl ⟨_, _, rfl, ?_, ?_⟩
    · exact owI_after O3.out (by simp) hsw _ _
    · refine gby_drew ?_
      iterate 2 (with_reducible refine gby_setnew ?_ _ (Nat.le_refl _) _)
      exact G2.out
  · have O3 := Lib.hid (owI_tail O2.out)
    go_wp2_with fail
    go_still_tail 6, (by kernel_rfl)
    go_wp2
    refine bodyPost_ret (v := .tuple #[frV y (some ⟨b1, off1 + 1, none⟩) ys.length (c1 - 1), .bool true]) (by simp [results, go_sem, frV, z0, z1]) rfl ⟨_, _, rfl, ?_, ?_⟩
    · exact owI_after O3.out (by simp) hsw _ _
    · refine gby_drew ?_
      iterate 2 (with_reducible refine gby_setnew ?_ _ (Nat.le_refl _) _)
      exact G2.out

set_option maxRecDepth 4000 in
set_option maxHeartbeats 1000000 in
theorem specTW_bad (W : World) (v : Value) (xs : List Int) (H : RdI W v xs) (hl : xs.length ≤ 1048576) (h : ¬ FrameOk xs) :
    Calls Try.prog 20 #[v] W (FrB 0 [] false W) := by
  have HR := Lib.hid H
  clear H
  go_enter Try.func20, Try.ntmps20
  go_wp2_with fail
  go_at_call 53
  refine (specTake_fail _ _ xs (HR.out.kept (gby_alloc (gby_refl _ _) _)) hl h).mono ?_
  rintro e w1 ⟨v1, rfl, o1, g1⟩
  have hz := row_on g1 (heap_alloc_new W _)
  have G1 := Lib.hid (gby_trans (gby_alloc (gby_refl W none) _) g1)
  obtain ⟨a1, c1, rfl, _⟩ := o1
  have z0 : w1.cell? ⟨W.heap.size, 0, none⟩ = some (.int .i64 0) := cell_of_row _ _ 0 _ _ _ hz
  have z1 : w1.cell? ⟨W.heap.size, 1, none⟩ = some (.slice none 0 0) := cell_of_row _ _ 1 _ _ _ hz
  have f0 := frozen_of_row _ _ 0 _ _ hz
  have f1 := frozen_of_row _ _ 1 _ _ hz
  clear hz g1
  go_wp2
  refine bodyPost_ret (v := .tuple #[frV 0 none 0 0, .bool false]) (by simp [results, go_sem, frV, z0, z1]) rfl ⟨none, 0, rfl, owI_row (World.ownsRow_nil _ _ _ _), ?_⟩
  iterate 2 (with_reducible refine gby_setnew ?_ _ (Nat.le_refl _) _)
  exact G1.out

set_option maxRecDepth 4000 in
set_option maxHeartbeats 1000000 in
theorem specTW_none (W : World) (v : Value) (xs : List Int) (H : RdI W v xs) (h : FrameOk xs) (hy : xs.take (xs.length - 2) = []) :
    Calls Try.prog 20 #[v] W (FrB 0 [] false W) := by
  have HR := Lib.hid H
  clear H
  go_enter Try.func20, Try.ntmps20
  go_wp2_with fail
  go_at_call 53
  refine (specTake_yes _ _ xs (HR.out.kept (gby_alloc (gby_refl _ _) _)) h).mono ?_
  rw [hy]
  rintro e w1 ⟨v1, rfl, o1, g1⟩
  have hz := row_on g1 (heap_alloc_new W _)
  have G1 := Lib.hid (gby_trans (gby_alloc (gby_refl W none) _) g1)
  obtain ⟨a1, c1, rfl, _⟩ := o1
  have z0 : w1.cell? ⟨W.heap.size, 0, none⟩ = some (.int .i64 0) := cell_of_row _ _ 0 _ _ _ hz
  have z1 : w1.cell? ⟨W.heap.size, 1, none⟩ = some (.slice none 0 0) := cell_of_row _ _ 1 _ _ _ hz
  have f0 := frozen_of_row _ _ 0 _ _ hz
  have f1 := frozen_of_row _ _ 1 _ _ hz
  clear hz g1 hy
  go_wp2
  refine bodyPost_ret (v := .tuple #[frV 0 none 0 0, .bool false]) (by simp [results, go_sem, frV, z0, z1]) rfl ⟨none, 0, rfl, owI_row (World.ownsRow_nil _ _ _ _), ?_⟩
  iterate 2 (with_reducible refine gby_setnew ?_ _ (Nat.le_refl _) _)
  exact G1.out

set_option maxRecDepth 4000 in
set_option maxHeartbeats 1000000 in
theorem specTW_far (W : World) (v : Value) (xs : List Int) (y : Int) (ys : List Int) (H : RdI W v xs) (h : FrameOk xs) (hy : xs.take (xs.length - 2) = y :: ys) (hq : ¬ IsQ y) :
    Calls Try.prog 20 #[v] W (FrB 0 [] false W) := by
  have HR := Lib.hid H
  clear H
  go_enter Try.func20, Try.ntmps20
  go_wp2_with fail
  go_at_call 53
  refine (specTake_yes _ _ xs (HR.out.kept (gby_alloc (gby_refl _ _) _)) h).mono ?_
  rw [hy]
  rintro e w1 ⟨v1, rfl, o1, g1⟩
  have hz := row_on g1 (heap_alloc_new W _)
  have G1 := Lib.hid (gby_trans (gby_alloc (gby_refl W none) _) g1)
  obtain ⟨d1, c1, rfl, _⟩ := id o1
  obtain ⟨_, hc1, b1, off1, rfl, hh⟩ := owI_head o1
  have hln : (y :: ys).length = ys.length + 1 := rfl
  rw [hln] at o1 hc1 ⊢
  have hdq : decide (IsQ y) = false := decide_eq_false hq
  have O1 := Lib.hid o1
  have HZ := Lib.hid hz
  have s1 := G1.out.size
  have ssz : W.heap.size + 1 ≤ w1.heap.size := by have := g1.size; simpa using this
  clear g1 hy o1 hln hz
  have l0 : ¬ ((ys.length : Int) + 1 = 0) := by omega
  have l1 : (0 : Int) < (ys.length : Int) + 1 := by omega
  have l2 : (1 : Int) ≤ (ys.length : Int) + 1 := by omega
  have l3 : (ys.length : Int) + 1 ≤ (c1 : Int) := by omega
  have l4 : 0 < ys.length + 1 := by omega
  go_wp2_with fail
  go_at_call 49
  refine (specSeq_any y _).mono ?_
  rw [hdq]
  rintro e w2 ⟨rfl, d2⟩
  have hz := row_on (d2.gby none) HZ.out
  have hh2 := (d2.gby none).cell hh (by simp)
  have d2s := (d2.gby none).size
  have G2 := Lib.hid (gby_trans G1.out (d2.gby none))
  have O2 := Lib.hid (O1.out.grow (d2.gby none))
  have z0 : w2.cell? ⟨W.heap.size, 0, none⟩ = some (.int .i64 0) := cell_of_row _ _ 0 _ _ _ hz
  have z1 : w2.cell? ⟨W.heap.size, 1, none⟩ = some (.slice none 0 0) := cell_of_row _ _ 1 _ _ _ hz
  have f0 := frozen_of_row _ _ 0 _ _ hz
  have f1 := frozen_of_row _ _ 1 _ _ hz
  clear hz d2 hh
  go_wp2
  refine bodyPost_ret (v := .tuple #[frV 0 none 0 0, .bool false]) (by simp [results, go_sem, frV, z0, z1]) rfl ⟨none, 0, rfl, owI_row (World.ownsRow_nil _ _ _ _), ?_⟩
  iterate 2 (with_reducible refine gby_setnew ?_ _ (Nat.le_refl _) _)
  exact G2.out

set_option maxRecDepth 4000 in
set_option maxHeartbeats 1000000 in
theorem specTW_yes (W : World) (v : Value) (xs : List Int) (y : Int) (ys : List Int) (H : RdI W v xs) (h : FrameOk xs) (hy : xs.take (xs.length - 2) = y :: ys) (hq : IsQ y) :
    Calls Try.prog 20 #[v] W (FrB y ys true W) := by
  have HR := Lib.hid H
  clear H
  go_enter Try.func20, Try.ntmps20
  go_wp2_with fail
  go_at_call 53
  refine (specTake_yes _ _ xs (HR.out.kept (gby_alloc (gby_refl _ _) _)) h).mono ?_
  rw [hy]
  rintro e w1 ⟨v1, rfl, o1, g1⟩
  have hz := row_on g1 (heap_alloc_new W _)
  have G1 := Lib.hid (gby_trans (gby_alloc (gby_refl W none) _) g1)
  obtain ⟨d1, c1, rfl, _⟩ := id o1
  obtain ⟨_, hc1, b1, off1, rfl, hh⟩ := owI_head o1
  have hln : (y :: ys).length = ys.length + 1 := rfl
  rw [hln] at o1 hc1 ⊢
  have hdq : decide (IsQ y) = true := decide_eq_true hq
  have O1 := Lib.hid o1
  have HZ := Lib.hid hz
  have s1 := G1.out.size
  have ssz : W.heap.size + 1 ≤ w1.heap.size := by have := g1.size; simpa using this
  clear g1 hy o1 hln hz
  have l0 : ¬ ((ys.length : Int) + 1 = 0) := by omega
  have l1 : (0 : Int) < (ys.length : Int) + 1 := by omega
  have l2 : (1 : Int) ≤ (ys.length : Int) + 1 := by omega
  have l3 : (ys.length : Int) + 1 ≤ (c1 : Int) := by omega
  have l4 : 0 < ys.length + 1 := by omega
  go_wp2_with fail
  go_at_call 49
  refine (specSeq_any y _).mono ?_
  rw [hdq]
  rintro e w2 ⟨rfl, d2⟩
  have hz := row_on (d2.gby none) HZ.out
  have hh2 := (d2.gby none).cell hh (by simp)
  have d2s := (d2.gby none).size
  have G2 := Lib.hid (gby_trans G1.out (d2.gby none))
  have O2 := Lib.hid (O1.out.grow (d2.gby none))
  have z0 : w2.cell? ⟨W.heap.size, 0, none⟩ = some (.int .i64 0) := cell_of_row _ _ 0 _ _ _ hz
  have z1 : w2.cell? ⟨W.heap.size, 1, none⟩ = some (.slice none 0 0) := cell_of_row _ _ 1 _ _ _ hz
  have f0 := frozen_of_row _ _ 0 _ _ hz
  have f1 := frozen_of_row _ _ 1 _ _ hz
  clear hz d2 hh hdq
  have hs3 := G2.out.size
  have hsw : w1.heap.size ≤ w2.heap.size := d2s
  by_cases hc : c1 = 1
  · subst hc
    obtain rfl : ys = [] := List.eq_nil_of_length_eq_zero (by omega)
    have O3 := Lib.hid (owI_tail0 O2.out)
    go_wp2_with fail
    go_still_tail 6, (by kernel_rfl)
    go_wp2
    refine bodyPost_ret (v := .tuple #[frV y (some ⟨b1, off1, none⟩) 0 0, .bool true]) (by simp [results, go_sem, frV, z0, z1]) rfl ⟨_, _, rfl, ?_, ?_⟩
    · exact owI_after O3.out (by simp) hsw _ _
    · refine gby_drew ?_
      iterate 2 (with_reducible refine gby_setnew ?_ _ (Nat.le_refl _) _)
      exact G2.out
  · have O3 := Lib.hid (owI_tail O2.out)
    go_wp2_with fail
    go_still_tail 6, (by kernel_rfl)
    go_wp2
    refine bodyPost_ret (v := .tuple #[frV y (some ⟨b1, off1 + 1, none⟩) ys.length (c1 - 1), .bool true]) (by simp [results, go_sem, frV, z0, z1]) rfl ⟨_, _, rfl, ?_, ?_⟩
    · exact owI_after O3.out (by simp) hsw _ _
    · refine gby_drew ?_
      iterate 2 (with_reducible refine gby_setnew ?_ _ (Nat.le_refl _) _)
      exact G2.out

end Go.Proofs.Ytokpmbagidokkac
