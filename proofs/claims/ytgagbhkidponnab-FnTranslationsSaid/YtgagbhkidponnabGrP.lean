/-
  Grants that are valid; the model's side.
-/
import Derived.Test.YtgagbhkidponnabRev
import Derived.Test.YtgagbhkidponnabIdNum
import Derived.Test.YtgagbhkidponnabBPost
import Derived.Test.YtgagbhkidponnabBits2Impl
import Derived.Deep.QuietTactic
namespace Go.Proofs.Ytgagbhkidponnab
open Go Go.RowKit
set_option linter.unusedVariables false

/-- the numbers of a grant are in range -/
def InG (x : DPageGrant) : Prop := (0 ≤ x.f0 ∧ x.f0 ≤ 255) ∧ (0 ≤ x.f1 ∧ x.f1 ≤ 255) ∧ (0 ≤ x.f2 ∧ x.f2 ≤ 255)
/-- two grants for one page of one function -/
def SameK (x y : DPageGrant) : Prop := x.f0 = y.f0 ∧ x.f1 = y.f1
/-- the first n are for different pages -/
def Apart (xs : List DPageGrant) (n : Nat) : Prop := ∀ k, k < n → ∀ i, i < k → ¬ SameK (pg xs i) (pg xs k)
def GOk (xs : List DPageGrant) : Prop := xs.length ≤ 40 ∧ (∀ k, k < xs.length → InG (pg xs k)) ∧ Apart xs xs.length
theorem apart_zero (xs : List DPageGrant) : Apart xs 0 := fun k hk => by omega
theorem apart_succ {xs : List DPageGrant} {n : Nat} (h : Apart xs n) (hn : ∀ i, i < n → ¬ SameK (pg xs i) (pg xs n)) : Apart xs (n + 1) := fun k hk i hi => by
  by_cases e : k = n
  · subst e; exact hn i hi
  · exact h k (by omega) i hi
theorem inG_step {xs : List DPageGrant} {n : Nat} (h : ∀ k, k < n → InG (pg xs k)) (hn : InG (pg xs n)) : ∀ k, k < n + 1 → InG (pg xs k) := fun k hk => by
  by_cases e : k = n
  · subst e; exact hn
  · exact h k (by omega)

theorem inr_or2 (x a b : Int) : (a ≤ x ∧ x ≤ b) ∨ (x < a ∨ b < x) := by omega
theorem iff_no2 {p : Prop} (h : ¬ p) : false = true ↔ p := ⟨fun q => (by cases q), fun q => absurd q h⟩
theorem iff_yes2 {p : Prop} (h : p) : true = true ↔ p := ⟨fun _ => h, fun _ => rfl⟩
theorem ina_yes {x a b : Int} (h1 : a ≤ x) (h2 : x ≤ b) (W : World) : Calls Try.prog 38 #[.int .i64 x, .int .i64 a, .int .i64 b] W (Ans (.bool true) W) :=
  (in_yes _ _ _ _ h1 h2).mono (by rintro e w ⟨rfl, rfl⟩; exact ⟨rfl, Drew.refl _⟩)
theorem ina_no {x a b : Int} (h : x < a ∨ b < x) (W : World) : Calls Try.prog 38 #[.int .i64 x, .int .i64 a, .int .i64 b] W (Ans (.bool false) W) :=
  (in_no _ _ _ _ h).mono (by rintro e w ⟨rfl, rfl⟩; exact ⟨rfl, Drew.refl _⟩)
theorem page_yes {x : Int} (h1 : 0 ≤ x) (h2 : x ≤ 255) (W : World) : Calls Try.prog 41 #[.int .i64 x] W (Ans (.bool true) W) := by
  go_enter Try.func41, Try.ntmps41
  go_wp2_with fail
  go_at_call 45
  refine (rng_yes _ _ _ _ h1 h2).mono ?_
  rintro e w ⟨rfl, rfl⟩
  go_wp2
  go_ret
  exact ⟨rfl, Drew.refl _⟩
theorem page_no {x : Int} (h : x < 0 ∨ 255 < x) (W : World) : Calls Try.prog 41 #[.int .i64 x] W (Ans (.bool false) W) := by
  have HB := Lib.hid h
  clear h
  go_enter Try.func41, Try.ntmps41
  go_wp2_with fail
  go_at_call 45
  refine (rng_no _ _ _ _ HB.out).mono ?_
  rintro e w ⟨rfl, rfl⟩
  go_wp2
  go_ret
  exact ⟨rfl, Drew.refl _⟩

set_option maxRecDepth 8000 in
set_option maxHeartbeats 2000000 in
theorem specGOk (W : World) (v : Value) (xs : List DPageGrant) (H : RdL shPageGrant W v xs) (hl : szL shPageGrant xs ≤ 1048576) : Calls Try.prog 12 #[v] W (BPost (GOk xs) W) := by
  have HT := Lib.hid H
  have HLZ := Lib.hid hl
  rw [szL_size0 (fun _ => rfl)] at hl
  obtain ⟨a0, cap, rfl, hcap, hi⟩ := rdG_in H
  have HA := Lib.hid hi
  obtain ⟨len, hlen⟩ : ∃ len, len = xs.length := ⟨_, rfl⟩
  have HE := Lib.hid hlen
  unfold RdG at HA
  rw [← hlen] at hl HA HT ⊢
  clear H hi hlen hcap
  go_enter Try.func12, Try.ntmps12
  have HTM1_ := Lib.hid (gby_refl (W) none)
  have MG2_ := Lib.hid (show (W).grownBy (W) none from (gby_refl _ _))
  go_wp2
  go_loopw [3] (fun i wr => ∃ n : Nat, n ≤ len ∧ i = .int .i64 (n : Int) ∧ (∀ k, k < n → InG (pg xs k)) ∧ Apart xs n ∧ (W).grownBy wr none) (fun i _ => len - (intOf i).toNat)
  case atStart => exact ⟨0, by omega, rfl, fun k hk => absurd hk (Nat.not_lt_zero _), apart_zero _, HTM1_.out⟩
  case round =>
    clear HTM1_
    obtain ⟨n, hn, rfl, hin, hap, hg⟩ := hrel
    have szr_ := hg.size
    try simp only [World.size_alloc, World.size_setCell] at szr_
    have G3_ := Lib.hid (show (W).grownBy (wr) none from gby_trans MG2_.out hg)
    have HTM4_ := Lib.hid hg
    clear hg
    obtain ⟨wo, hwo_⟩ : ∃ w_, w_ = wr := ⟨_, rfl⟩
    subst hwo_
    have HIN := Lib.hid hin
    have HAP := Lib.hid hap
    clear hin hap
    have hn0 : (0 : Int) ≤ (n : Int) := by omega
    have htn : ((n : Int)).toNat = n := by omega
    by_cases hlt : n < len
    rotate_left
    · obtain rfl : n = len := by omega
      have hki : ¬ (n : Int) < (n : Int) := by omega
      by_cases h40 : n ≤ 40
      · have hd : (n : Int) ≤ 40 := by omega
        have hd2 : decide ((n : Int) ≤ 40) = true := decide_eq_true hd
        go_wp2
        go_ret
        exact ⟨true, rfl, iff_yes2 ⟨by rw [← HE.out]; exact h40, fun k hk => HIN.out k (by rw [HE.out]; exact hk), by rw [← HE.out]; exact HAP.out⟩, G3_.out⟩
      · have hd : ¬ (n : Int) ≤ 40 := by omega
        have hd2 : decide ((n : Int) ≤ 40) = false := decide_eq_false hd
        go_wp2
        go_ret
        exact ⟨false, rfl, iff_no2 (fun q => h40 (by rw [HE.out]; exact q.1)), G3_.out⟩
    have hki : (n : Int) < (len : Int) := by omega
    obtain ⟨b, off, rfl, hcell⟩ := HA.out.resolve_left (by omega)
    obtain ⟨y_, hy_⟩ : ∃ y_, y_ = pg xs n := ⟨_, rfl⟩
    have hyc_ := hcell n (by omega)
    rw [← hy_] at hyc_
    obtain ⟨y0, y1, y2, y3⟩ := y_
    dsimp only at hyc_
    have Hy := Lib.hid hy_
    have Hy0 := Lib.hid hyc_.1
    have Hy1 := Lib.hid hyc_.2.1
    have Hy2 := Lib.hid hyc_.2.2.1
    have Hy3 := Lib.hid hyc_.2.2.2
    clear hyc_ hy_ hcell
    have qy0_ := (G3_.out).cell Hy0.out (by simp)
    have qy1_ := (G3_.out).cell Hy1.out (by simp)
    have qy2_ := (G3_.out).cell Hy2.out (by simp)
    have qy3_ := (G3_.out).cell Hy3.out (by simp)
    have al_ : (wo).grownBy ((wo).alloc (.cells #[.int .i64 y0, .int .i64 y1, .int .i64 y2, .bool y3] 59)) none := gby_alloc (gby_refl _ _) _
    have G5_ := Lib.hid (show (W).grownBy ((wo.alloc (.cells #[.int .i64 y0, .int .i64 y1, .int .i64 y2, .bool y3] 59))) none from gby_trans G3_.out al_)
    have HTM6_ := Lib.hid (show (W).grownBy ((wo.alloc (.cells #[.int .i64 y0, .int .i64 y1, .int .i64 y2, .bool y3] 59))) none from gby_trans HTM4_.out al_)
    clear HTM4_
    have rGb7_ := Lib.hid (show ((wo.alloc (.cells #[.int .i64 y0, .int .i64 y1, .int .i64 y2, .bool y3] 59))).heap[wo.heap.size]? = some (.cells #[.int .i64 y0, .int .i64 y1, .int .i64 y2, .bool y3] 59 (0, 0)) from by first | exact heap_alloc_new _ _ | exact heap_pair _ _ _ | exact heap_trip _ _ _ _)
    clear al_
    have Gb_0_ : ((wo.alloc (.cells #[.int .i64 y0, .int .i64 y1, .int .i64 y2, .bool y3] 59))).cell? ⟨wo.heap.size, 0, none⟩ = some (.int .i64 y0) := cell_of_row _ _ 0 _ _ _ rGb7_.out
    have Gb_1_ : ((wo.alloc (.cells #[.int .i64 y0, .int .i64 y1, .int .i64 y2, .bool y3] 59))).cell? ⟨wo.heap.size, 1, none⟩ = some (.int .i64 y1) := cell_of_row _ _ 1 _ _ _ rGb7_.out
    have Gb_2_ : ((wo.alloc (.cells #[.int .i64 y0, .int .i64 y1, .int .i64 y2, .bool y3] 59))).cell? ⟨wo.heap.size, 2, none⟩ = some (.int .i64 y2) := cell_of_row _ _ 2 _ _ _ rGb7_.out
    have Gb_3_ : ((wo.alloc (.cells #[.int .i64 y0, .int .i64 y1, .int .i64 y2, .bool y3] 59))).cell? ⟨wo.heap.size, 3, none⟩ = some (.bool y3) := cell_of_row _ _ 3 _ _ _ rGb7_.out
    rcases inr_or2 y0 0 255 with ⟨hy0a, hy0b⟩ | hb
    rotate_left
    · have HB := Lib.hid hb
      clear hb
      go_wp2_with fail
      go_at_call 37
      refine (isId_no y0 _ HB.out).mono ?_
      rintro e w1 ⟨rfl, hd⟩
      have g := hd.gby none
      clear hd
      have szw1 := g.size
      try simp only [World.size_alloc] at szw1
      try simp only [World.size_setCell] at szw1
      clear Gb_0_ Gb_1_ Gb_2_ Gb_3_
      have rGb8_ := Lib.hid (show (w1).heap[wo.heap.size]? = some (.cells #[.int .i64 y0, .int .i64 y1, .int .i64 y2, .bool y3] 59 (0, 0)) from row_held g rGb7_.out)
      clear rGb7_
      have G9_ := Lib.hid (show (W).grownBy (w1) none from gby_trans G5_.out g)
      have HTM10_ := Lib.hid (show (W).grownBy (w1) none from gby_trans HTM6_.out g)
      clear HTM6_
      clear g
      have Gb_0_ : (w1).cell? ⟨wo.heap.size, 0, none⟩ = some (.int .i64 y0) := cell_of_row _ _ 0 _ _ _ rGb8_.out
      have Gb_1_ : (w1).cell? ⟨wo.heap.size, 1, none⟩ = some (.int .i64 y1) := cell_of_row _ _ 1 _ _ _ rGb8_.out
      have Gb_2_ : (w1).cell? ⟨wo.heap.size, 2, none⟩ = some (.int .i64 y2) := cell_of_row _ _ 2 _ _ _ rGb8_.out
      have Gb_3_ : (w1).cell? ⟨wo.heap.size, 3, none⟩ = some (.bool y3) := cell_of_row _ _ 3 _ _ _ rGb8_.out
      go_wp2
      go_ret
      exact ⟨false, rfl, iff_no2 (fun q => by have q2 := (q.2.1 n (by rw [← HE.out]; exact hlt)).1; rw [← Hy.out] at q2; dsimp only at q2; have := HB.out; omega), G9_.out⟩
    rcases inr_or2 y1 0 255 with ⟨hy1a, hy1b⟩ | hb
    rotate_left
    · have HB := Lib.hid hb
      clear hb
      go_wp2_with fail
      go_at_call 37
      refine (isId_yes y0 _ hy0a hy0b).mono ?_
      rintro e w1 ⟨rfl, hd⟩
      have g := hd.gby none
      clear hd
      have szw1 := g.size
      try simp only [World.size_alloc] at szw1
      try simp only [World.size_setCell] at szw1
      clear Gb_0_ Gb_1_ Gb_2_ Gb_3_
      have rGb8_ := Lib.hid (show (w1).heap[wo.heap.size]? = some (.cells #[.int .i64 y0, .int .i64 y1, .int .i64 y2, .bool y3] 59 (0, 0)) from row_held g rGb7_.out)
      clear rGb7_
      have G9_ := Lib.hid (show (W).grownBy (w1) none from gby_trans G5_.out g)
      have HTM10_ := Lib.hid (show (W).grownBy (w1) none from gby_trans HTM6_.out g)
      clear HTM6_
      clear g
      have Gb_0_ : (w1).cell? ⟨wo.heap.size, 0, none⟩ = some (.int .i64 y0) := cell_of_row _ _ 0 _ _ _ rGb8_.out
      have Gb_1_ : (w1).cell? ⟨wo.heap.size, 1, none⟩ = some (.int .i64 y1) := cell_of_row _ _ 1 _ _ _ rGb8_.out
      have Gb_2_ : (w1).cell? ⟨wo.heap.size, 2, none⟩ = some (.int .i64 y2) := cell_of_row _ _ 2 _ _ _ rGb8_.out
      have Gb_3_ : (w1).cell? ⟨wo.heap.size, 3, none⟩ = some (.bool y3) := cell_of_row _ _ 3 _ _ _ rGb8_.out
      go_wp2_with fail
      go_at_call 38
      refine (ina_no HB.out _).mono ?_
      rintro e w2 ⟨rfl, hd⟩
      have g := hd.gby none
      clear hd
      have szw2 := g.size
      try simp only [World.size_alloc] at szw2
      try simp only [World.size_setCell] at szw2
      clear Gb_0_ Gb_1_ Gb_2_ Gb_3_
      have rGb11_ := Lib.hid (show (w2).heap[wo.heap.size]? = some (.cells #[.int .i64 y0, .int .i64 y1, .int .i64 y2, .bool y3] 59 (0, 0)) from row_held g rGb8_.out)
      clear rGb8_
      have G12_ := Lib.hid (show (W).grownBy (w2) none from gby_trans G9_.out g)
      have HTM13_ := Lib.hid (show (W).grownBy (w2) none from gby_trans HTM10_.out g)
      clear HTM10_
      clear g
      have Gb_0_ : (w2).cell? ⟨wo.heap.size, 0, none⟩ = some (.int .i64 y0) := cell_of_row _ _ 0 _ _ _ rGb11_.out
      have Gb_1_ : (w2).cell? ⟨wo.heap.size, 1, none⟩ = some (.int .i64 y1) := cell_of_row _ _ 1 _ _ _ rGb11_.out
      have Gb_2_ : (w2).cell? ⟨wo.heap.size, 2, none⟩ = some (.int .i64 y2) := cell_of_row _ _ 2 _ _ _ rGb11_.out
      have Gb_3_ : (w2).cell? ⟨wo.heap.size, 3, none⟩ = some (.bool y3) := cell_of_row _ _ 3 _ _ _ rGb11_.out
      go_wp2
      go_ret
      exact ⟨false, rfl, iff_no2 (fun q => by have q2 := (q.2.1 n (by rw [← HE.out]; exact hlt)).2.1; rw [← Hy.out] at q2; dsimp only at q2; have := HB.out; omega), G12_.out⟩
    rcases inr_or2 y2 0 255 with ⟨hy2a, hy2b⟩ | hb
    rotate_left
    · have HB := Lib.hid hb
      clear hb
      go_wp2_with fail
      go_at_call 37
      refine (isId_yes y0 _ hy0a hy0b).mono ?_
      rintro e w1 ⟨rfl, hd⟩
      have g := hd.gby none
      clear hd
      have szw1 := g.size
      try simp only [World.size_alloc] at szw1
      try simp only [World.size_setCell] at szw1
      clear Gb_0_ Gb_1_ Gb_2_ Gb_3_
      have rGb8_ := Lib.hid (show (w1).heap[wo.heap.size]? = some (.cells #[.int .i64 y0, .int .i64 y1, .int .i64 y2, .bool y3] 59 (0, 0)) from row_held g rGb7_.out)
      clear rGb7_
      have G9_ := Lib.hid (show (W).grownBy (w1) none from gby_trans G5_.out g)
      have HTM10_ := Lib.hid (show (W).grownBy (w1) none from gby_trans HTM6_.out g)
      clear HTM6_
      clear g
      have Gb_0_ : (w1).cell? ⟨wo.heap.size, 0, none⟩ = some (.int .i64 y0) := cell_of_row _ _ 0 _ _ _ rGb8_.out
      have Gb_1_ : (w1).cell? ⟨wo.heap.size, 1, none⟩ = some (.int .i64 y1) := cell_of_row _ _ 1 _ _ _ rGb8_.out
      have Gb_2_ : (w1).cell? ⟨wo.heap.size, 2, none⟩ = some (.int .i64 y2) := cell_of_row _ _ 2 _ _ _ rGb8_.out
      have Gb_3_ : (w1).cell? ⟨wo.heap.size, 3, none⟩ = some (.bool y3) := cell_of_row _ _ 3 _ _ _ rGb8_.out
      go_wp2_with fail
      go_at_call 38
      refine (ina_yes hy1a hy1b _).mono ?_
      rintro e w2 ⟨rfl, hd⟩
      have g := hd.gby none
      clear hd
      have szw2 := g.size
      try simp only [World.size_alloc] at szw2
      try simp only [World.size_setCell] at szw2
      clear Gb_0_ Gb_1_ Gb_2_ Gb_3_
      have rGb11_ := Lib.hid (show (w2).heap[wo.heap.size]? = some (.cells #[.int .i64 y0, .int .i64 y1, .int .i64 y2, .bool y3] 59 (0, 0)) from row_held g rGb8_.out)
      clear rGb8_
      have G12_ := Lib.hid (show (W).grownBy (w2) none from gby_trans G9_.out g)
      have HTM13_ := Lib.hid (show (W).grownBy (w2) none from gby_trans HTM10_.out g)
      clear HTM10_
      clear g
      have Gb_0_ : (w2).cell? ⟨wo.heap.size, 0, none⟩ = some (.int .i64 y0) := cell_of_row _ _ 0 _ _ _ rGb11_.out
      have Gb_1_ : (w2).cell? ⟨wo.heap.size, 1, none⟩ = some (.int .i64 y1) := cell_of_row _ _ 1 _ _ _ rGb11_.out
      have Gb_2_ : (w2).cell? ⟨wo.heap.size, 2, none⟩ = some (.int .i64 y2) := cell_of_row _ _ 2 _ _ _ rGb11_.out
      have Gb_3_ : (w2).cell? ⟨wo.heap.size, 3, none⟩ = some (.bool y3) := cell_of_row _ _ 3 _ _ _ rGb11_.out
      go_wp2_with fail
      go_at_call 38
      refine (ina_no HB.out _).mono ?_
      rintro e w3 ⟨rfl, hd⟩
      have g := hd.gby none
      clear hd
      have szw3 := g.size
      try simp only [World.size_alloc] at szw3
      try simp only [World.size_setCell] at szw3
      clear Gb_0_ Gb_1_ Gb_2_ Gb_3_
      have rGb14_ := Lib.hid (show (w3).heap[wo.heap.size]? = some (.cells #[.int .i64 y0, .int .i64 y1, .int .i64 y2, .bool y3] 59 (0, 0)) from row_held g rGb11_.out)
      clear rGb11_
      have G15_ := Lib.hid (show (W).grownBy (w3) none from gby_trans G12_.out g)
      have HTM16_ := Lib.hid (show (W).grownBy (w3) none from gby_trans HTM13_.out g)
      clear HTM13_
      clear g
      have Gb_0_ : (w3).cell? ⟨wo.heap.size, 0, none⟩ = some (.int .i64 y0) := cell_of_row _ _ 0 _ _ _ rGb14_.out
      have Gb_1_ : (w3).cell? ⟨wo.heap.size, 1, none⟩ = some (.int .i64 y1) := cell_of_row _ _ 1 _ _ _ rGb14_.out
      have Gb_2_ : (w3).cell? ⟨wo.heap.size, 2, none⟩ = some (.int .i64 y2) := cell_of_row _ _ 2 _ _ _ rGb14_.out
      have Gb_3_ : (w3).cell? ⟨wo.heap.size, 3, none⟩ = some (.bool y3) := cell_of_row _ _ 3 _ _ _ rGb14_.out
      go_wp2
      go_ret
      exact ⟨false, rfl, iff_no2 (fun q => by have q2 := (q.2.1 n (by rw [← HE.out]; exact hlt)).2.2; rw [← Hy.out] at q2; dsimp only at q2; have := HB.out; omega), G15_.out⟩
    go_wp2_with fail
    go_at_call 37
    refine (isId_yes y0 _ hy0a hy0b).mono ?_
    rintro e w1 ⟨rfl, hd⟩
    have g := hd.gby none
    clear hd
    have szw1 := g.size
    try simp only [World.size_alloc] at szw1
    try simp only [World.size_setCell] at szw1
    clear Gb_0_ Gb_1_ Gb_2_ Gb_3_
    have rGb8_ := Lib.hid (show (w1).heap[wo.heap.size]? = some (.cells #[.int .i64 y0, .int .i64 y1, .int .i64 y2, .bool y3] 59 (0, 0)) from row_held g rGb7_.out)
    clear rGb7_
    have G9_ := Lib.hid (show (W).grownBy (w1) none from gby_trans G5_.out g)
    have HTM10_ := Lib.hid (show (W).grownBy (w1) none from gby_trans HTM6_.out g)
    clear HTM6_
    clear g
    have Gb_0_ : (w1).cell? ⟨wo.heap.size, 0, none⟩ = some (.int .i64 y0) := cell_of_row _ _ 0 _ _ _ rGb8_.out
    have Gb_1_ : (w1).cell? ⟨wo.heap.size, 1, none⟩ = some (.int .i64 y1) := cell_of_row _ _ 1 _ _ _ rGb8_.out
    have Gb_2_ : (w1).cell? ⟨wo.heap.size, 2, none⟩ = some (.int .i64 y2) := cell_of_row _ _ 2 _ _ _ rGb8_.out
    have Gb_3_ : (w1).cell? ⟨wo.heap.size, 3, none⟩ = some (.bool y3) := cell_of_row _ _ 3 _ _ _ rGb8_.out
    go_wp2_with fail
    go_at_call 38
    refine (ina_yes hy1a hy1b _).mono ?_
    rintro e w2 ⟨rfl, hd⟩
    have g := hd.gby none
    clear hd
    have szw2 := g.size
    try simp only [World.size_alloc] at szw2
    try simp only [World.size_setCell] at szw2
    clear Gb_0_ Gb_1_ Gb_2_ Gb_3_
    have rGb11_ := Lib.hid (show (w2).heap[wo.heap.size]? = some (.cells #[.int .i64 y0, .int .i64 y1, .int .i64 y2, .bool y3] 59 (0, 0)) from row_held g rGb8_.out)
    clear rGb8_
    have G12_ := Lib.hid (show (W).grownBy (w2) none from gby_trans G9_.out g)
    have HTM13_ := Lib.hid (show (W).grownBy (w2) none from gby_trans HTM10_.out g)
    clear HTM10_
    clear g
    have Gb_0_ : (w2).cell? ⟨wo.heap.size, 0, none⟩ = some (.int .i64 y0) := cell_of_row _ _ 0 _ _ _ rGb11_.out
    have Gb_1_ : (w2).cell? ⟨wo.heap.size, 1, none⟩ = some (.int .i64 y1) := cell_of_row _ _ 1 _ _ _ rGb11_.out
    have Gb_2_ : (w2).cell? ⟨wo.heap.size, 2, none⟩ = some (.int .i64 y2) := cell_of_row _ _ 2 _ _ _ rGb11_.out
    have Gb_3_ : (w2).cell? ⟨wo.heap.size, 3, none⟩ = some (.bool y3) := cell_of_row _ _ 3 _ _ _ rGb11_.out
    go_wp2_with fail
    go_at_call 38
    refine (ina_yes hy2a hy2b _).mono ?_
    rintro e w3 ⟨rfl, hd⟩
    have g := hd.gby none
    clear hd
    have szw3 := g.size
    try simp only [World.size_alloc] at szw3
    try simp only [World.size_setCell] at szw3
    clear Gb_0_ Gb_1_ Gb_2_ Gb_3_
    have rGb14_ := Lib.hid (show (w3).heap[wo.heap.size]? = some (.cells #[.int .i64 y0, .int .i64 y1, .int .i64 y2, .bool y3] 59 (0, 0)) from row_held g rGb11_.out)
    clear rGb11_
    have G15_ := Lib.hid (show (W).grownBy (w3) none from gby_trans G12_.out g)
    have HTM16_ := Lib.hid (show (W).grownBy (w3) none from gby_trans HTM13_.out g)
    clear HTM13_
    clear g
    have Gb_0_ : (w3).cell? ⟨wo.heap.size, 0, none⟩ = some (.int .i64 y0) := cell_of_row _ _ 0 _ _ _ rGb14_.out
    have Gb_1_ : (w3).cell? ⟨wo.heap.size, 1, none⟩ = some (.int .i64 y1) := cell_of_row _ _ 1 _ _ _ rGb14_.out
    have Gb_2_ : (w3).cell? ⟨wo.heap.size, 2, none⟩ = some (.int .i64 y2) := cell_of_row _ _ 2 _ _ _ rGb14_.out
    have Gb_3_ : (w3).cell? ⟨wo.heap.size, 3, none⟩ = some (.bool y3) := cell_of_row _ _ 3 _ _ _ rGb14_.out
    have HING := Lib.hid (show InG (pg xs n) from by rw [← Hy.out]; exact ⟨⟨hy0a, hy0b⟩, ⟨hy1a, hy1b⟩, hy2a, hy2b⟩)
    clear hy0a hy0b hy1a hy1b hy2a hy2b
    go_wp2
    have HTN17_ := Lib.hid (gby_refl (w3) none)
    have MG18_ := Lib.hid (show (W).grownBy (w3) none from G15_.out)
    have MR19_ := Lib.hid rGb14_.out
    go_loopw [5] (fun ii wr => ∃ j : Nat, j ≤ n ∧ ii = .int .i64 (j : Int) ∧ (∀ i, i < j → ¬ SameK (pg xs i) (pg xs n)) ∧ (w3).grownBy wr none) (fun ii _ => n - (intOf ii).toNat)
    case atStart => exact ⟨0, by omega, rfl, fun k hk => absurd hk (Nat.not_lt_zero _), HTN17_.out⟩
    case round =>
      clear Gb_0_ Gb_1_ Gb_2_ Gb_3_
      clear rGb14_
      clear HTM16_
      clear HTN17_
      obtain ⟨j, hj, rfl, hne, hg⟩ := hrel
      have szr_ := hg.size
      try simp only [World.size_alloc, World.size_setCell] at szr_
      have G20_ := Lib.hid (show (W).grownBy (wr) none from gby_trans MG18_.out hg)
      have rGb21_ := Lib.hid (show (wr).heap[wo.heap.size]? = some (.cells #[.int .i64 y0, .int .i64 y1, .int .i64 y2, .bool y3] 59 (0, 0)) from row_held hg MR19_.out)
      have HTN22_ := Lib.hid hg
      clear hg
      have Gb_0_ : (wr).cell? ⟨wo.heap.size, 0, none⟩ = some (.int .i64 y0) := cell_of_row _ _ 0 _ _ _ rGb21_.out
      have Gb_1_ : (wr).cell? ⟨wo.heap.size, 1, none⟩ = some (.int .i64 y1) := cell_of_row _ _ 1 _ _ _ rGb21_.out
      have Gb_2_ : (wr).cell? ⟨wo.heap.size, 2, none⟩ = some (.int .i64 y2) := cell_of_row _ _ 2 _ _ _ rGb21_.out
      have Gb_3_ : (wr).cell? ⟨wo.heap.size, 3, none⟩ = some (.bool y3) := cell_of_row _ _ 3 _ _ _ rGb21_.out
      have HNE := Lib.hid hne
      clear hne
      have hj0 : (0 : Int) ≤ (j : Int) := by omega
      have htj : ((j : Int)).toNat = j := by omega
      by_cases hlj : j < n
      rotate_left
      · obtain rfl : j = n := by omega
        have hji : ¬ (j : Int) < (j : Int) := by omega
        go_wp2
        refine ⟨⟨j + 1, by omega, by go_num, inG_step HIN.out HING.out, apart_succ HAP.out HNE.out, by repeat (first | exact G20_.out | with_reducible refine gby_drewN ?_ _)⟩, by simp [intOf]; omega⟩
      have hji : (j : Int) < (n : Int) := by omega
      have hjl : (j : Int) < (len : Int) := by omega
      obtain ⟨x_, hx_⟩ : ∃ x_, x_ = pg xs j := ⟨_, rfl⟩
      have hxc_ := (HA.out.resolve_left (by omega))
      obtain ⟨b2, off2, e_, hcell2⟩ := hxc_
      injection e_ with e_
      injection e_ with e1 e2
      subst e1 e2
      have hxc_ := hcell2 j (by omega)
      rw [← hx_] at hxc_
      obtain ⟨x0, x1, x2, x3⟩ := x_
      dsimp only at hxc_
      have Hx := Lib.hid hx_
      have Hx0 := Lib.hid hxc_.1
      have Hx1 := Lib.hid hxc_.2.1
      clear hxc_ hx_ hcell2
      have x0_ := (G20_.out).cell Hx0.out (by simp)
      have x1_ := (G20_.out).cell Hx1.out (by simp)
      by_cases h0 : x0 = y0
      rotate_left
      · have hb0 : (x0 == y0) = false := beq_eq_false_iff_ne.2 h0
        have HB := Lib.hid h0
        clear h0
        go_wp2_with fail
        go_quiet (fail)
        go_wp2
        refine ⟨⟨j + 1, by omega, by go_num, fun i hi => ?_, by repeat (first | exact HTN22_.out | with_reducible refine gby_drewN ?_ _)⟩, by simp [intOf]; omega⟩
        by_cases e : i = j
        · subst e; rw [← Hx.out, ← Hy.out]; exact fun q => HB.out q.1
        · exact HNE.out i (by omega)
      subst h0
      have hb0 : (x0 == x0) = true := by simp
      by_cases h1 : x1 = y1
      rotate_left
      · have hb1 : (x1 == y1) = false := beq_eq_false_iff_ne.2 h1
        have HB := Lib.hid h1
        clear h1
        go_wp2_with fail
        go_quiet (fail)
        go_wp2
        refine ⟨⟨j + 1, by omega, by go_num, fun i hi => ?_, by repeat (first | exact HTN22_.out | with_reducible refine gby_drewN ?_ _)⟩, by simp [intOf]; omega⟩
        by_cases e : i = j
        · subst e; rw [← Hx.out, ← Hy.out]; exact fun q => HB.out q.2
        · exact HNE.out i (by omega)
      subst h1
      have hb1 : (x1 == x1) = true := by simp
      go_wp2_with fail
      go_quiet (fail)
      go_wp2
      go_ret
      exact ⟨false, rfl, iff_no2 (fun q => q.2.2 n (by rw [← HE.out]; exact hlt) j hlj (by rw [← Hx.out, ← Hy.out]; exact ⟨rfl, rfl⟩)), by repeat (first | exact G20_.out | with_reducible refine gby_drewN ?_ _)⟩

end Go.Proofs.Ytgagbhkidponnab
