/-
  Registers that overlap; offsets in windows: both sides.
-/
import Derived.Test.YtoedgncidoldaaaCov
import Derived.Test.YtoedgncidoldaaaRBarsOverlap
import Derived.Test.YtoedgncidoldaaaROffsetOf
import Derived.Test.YtoedgncidoldaaaQSBar
namespace Go.Proofs.Ytoedgncidoldaaa
open Go Go.RowKit
set_option linter.unusedVariables false

theorem spans_yes {s b x : Int} (W : World) (h : SpansP s b x) : Calls Try.prog 55 #[.agg #[.int .i64 s, .int .i64 b], .int .i64 x] W (AnsN (.bool true) W) := by
  have := implSpans s b x W
  rwa [decide_eq_true h] at this
theorem spans_no {s b x : Int} (W : World) (h : ¬ SpansP s b x) : Calls Try.prog 55 #[.agg #[.int .i64 s, .int .i64 b], .int .i64 x] W (AnsN (.bool false) W) := by
  have := implSpans s b x W
  rwa [decide_eq_false h] at this
theorem cov_yes {s b x : Int} (W : World) (h : SpansP s b x) : Calls Try.prog 60 #[.agg #[.int .i64 s, .int .i64 b], .int .i64 x] W (AnsN (.bool true) W) := by
  have := specCov s b x W
  rwa [decide_eq_true h] at this
theorem cov_no {s b x : Int} (W : World) (h : ¬ SpansP s b x) : Calls Try.prog 60 #[.agg #[.int .i64 s, .int .i64 b], .int .i64 x] W (AnsN (.bool false) W) := by
  have := specCov s b x W
  rwa [decide_eq_false h] at this

/-- two windows have a common address -/
def OvP (s b t c : Int) : Prop := 0 < s ∧ 0 < t ∧ (SpansP s b c ∨ SpansP t c b)
instance (s b t c : Int) : Decidable (OvP s b t c) := by unfold OvP; infer_instance

set_option maxHeartbeats 2000000 in
theorem implOv (s b t c : Int) (W : World) : Calls Try.prog 56 #[.agg #[.int .i64 s, .int .i64 b], .agg #[.int .i64 t, .int .i64 c]] W (AnsN (.bool (decide (OvP s b t c))) W) := by
  by_cases h1 : 0 < s
  · by_cases h2 : 0 < t
    · by_cases h3 : SpansP s b c
      · rw [show decide (OvP s b t c) = true from decide_eq_true ⟨h1, h2, .inl h3⟩]
        have H3 := Lib.hid h3
        clear h3
        go_enter Try.func56, Try.ntmps56
        have rA1_ := Lib.hid (show (((W.alloc (.cells #[.int .i64 s, .int .i64 b] 30)).alloc (.cells #[.int .i64 t, .int .i64 c] 30))).heap[W.heap.size]? = some (.cells #[.int .i64 s, .int .i64 b] 30 (0, 0)) from by rw [heap_alloc_old _ _ (by simp only [World.size_alloc]; omega)]; exact heap_alloc_new _ _)
        have rB2_ := Lib.hid (show (((W.alloc (.cells #[.int .i64 s, .int .i64 b] 30)).alloc (.cells #[.int .i64 t, .int .i64 c] 30))).heap[W.heap.size + 1]? = some (.cells #[.int .i64 t, .int .i64 c] 30 (0, 0)) from by exact heap_pair _ _ _)
        have G3_ := Lib.hid (show (W).grownBy (((W.alloc (.cells #[.int .i64 s, .int .i64 b] 30)).alloc (.cells #[.int .i64 t, .int .i64 c] 30))) none from (gby_alloc (gby_alloc (gby_refl _ _) _) _))
        have A_0_ : (((W.alloc (.cells #[.int .i64 s, .int .i64 b] 30)).alloc (.cells #[.int .i64 t, .int .i64 c] 30))).cell? ⟨W.heap.size, 0, none⟩ = some (.int .i64 s) := cell_of_row _ _ 0 _ _ _ rA1_.out
        have A_1_ : (((W.alloc (.cells #[.int .i64 s, .int .i64 b] 30)).alloc (.cells #[.int .i64 t, .int .i64 c] 30))).cell? ⟨W.heap.size, 1, none⟩ = some (.int .i64 b) := cell_of_row _ _ 1 _ _ _ rA1_.out
        have B_0_ : (((W.alloc (.cells #[.int .i64 s, .int .i64 b] 30)).alloc (.cells #[.int .i64 t, .int .i64 c] 30))).cell? ⟨W.heap.size + 1, 0, none⟩ = some (.int .i64 t) := cell_of_row _ _ 0 _ _ _ rB2_.out
        have B_1_ : (((W.alloc (.cells #[.int .i64 s, .int .i64 b] 30)).alloc (.cells #[.int .i64 t, .int .i64 c] 30))).cell? ⟨W.heap.size + 1, 1, none⟩ = some (.int .i64 c) := cell_of_row _ _ 1 _ _ _ rB2_.out
        go_wp2_with fail
        go_at_call 55
        refine (spans_yes _ H3.out).mono ?_
        rintro e w1 ⟨rfl, hd⟩
        have g := hd
        clear hd
        clear A_0_ A_1_ B_0_ B_1_
        have rA4_ := Lib.hid (show (w1).heap[W.heap.size]? = some (.cells #[.int .i64 s, .int .i64 b] 30 (0, 0)) from row_held g rA1_.out)
        clear rA1_
        have rB5_ := Lib.hid (show (w1).heap[W.heap.size + 1]? = some (.cells #[.int .i64 t, .int .i64 c] 30 (0, 0)) from row_held g rB2_.out)
        clear rB2_
        have G6_ := Lib.hid (show (W).grownBy (w1) none from gby_trans G3_.out g)
        clear g
        have A_0_ : (w1).cell? ⟨W.heap.size, 0, none⟩ = some (.int .i64 s) := cell_of_row _ _ 0 _ _ _ rA4_.out
        have A_1_ : (w1).cell? ⟨W.heap.size, 1, none⟩ = some (.int .i64 b) := cell_of_row _ _ 1 _ _ _ rA4_.out
        have B_0_ : (w1).cell? ⟨W.heap.size + 1, 0, none⟩ = some (.int .i64 t) := cell_of_row _ _ 0 _ _ _ rB5_.out
        have B_1_ : (w1).cell? ⟨W.heap.size + 1, 1, none⟩ = some (.int .i64 c) := cell_of_row _ _ 1 _ _ _ rB5_.out
        go_wp2
        go_ret
        exact ⟨rfl, G6_.out⟩
      · have H3 := Lib.hid h3
        by_cases h4 : SpansP t c b
        · rw [show decide (OvP s b t c) = true from decide_eq_true ⟨h1, h2, .inr h4⟩]
          have H4 := Lib.hid h4
          clear h3 h4
          go_enter Try.func56, Try.ntmps56
          have rA1_ := Lib.hid (show (((W.alloc (.cells #[.int .i64 s, .int .i64 b] 30)).alloc (.cells #[.int .i64 t, .int .i64 c] 30))).heap[W.heap.size]? = some (.cells #[.int .i64 s, .int .i64 b] 30 (0, 0)) from by rw [heap_alloc_old _ _ (by simp only [World.size_alloc]; omega)]; exact heap_alloc_new _ _)
          have rB2_ := Lib.hid (show (((W.alloc (.cells #[.int .i64 s, .int .i64 b] 30)).alloc (.cells #[.int .i64 t, .int .i64 c] 30))).heap[W.heap.size + 1]? = some (.cells #[.int .i64 t, .int .i64 c] 30 (0, 0)) from by exact heap_pair _ _ _)
          have G3_ := Lib.hid (show (W).grownBy (((W.alloc (.cells #[.int .i64 s, .int .i64 b] 30)).alloc (.cells #[.int .i64 t, .int .i64 c] 30))) none from (gby_alloc (gby_alloc (gby_refl _ _) _) _))
          have A_0_ : (((W.alloc (.cells #[.int .i64 s, .int .i64 b] 30)).alloc (.cells #[.int .i64 t, .int .i64 c] 30))).cell? ⟨W.heap.size, 0, none⟩ = some (.int .i64 s) := cell_of_row _ _ 0 _ _ _ rA1_.out
          have A_1_ : (((W.alloc (.cells #[.int .i64 s, .int .i64 b] 30)).alloc (.cells #[.int .i64 t, .int .i64 c] 30))).cell? ⟨W.heap.size, 1, none⟩ = some (.int .i64 b) := cell_of_row _ _ 1 _ _ _ rA1_.out
          have B_0_ : (((W.alloc (.cells #[.int .i64 s, .int .i64 b] 30)).alloc (.cells #[.int .i64 t, .int .i64 c] 30))).cell? ⟨W.heap.size + 1, 0, none⟩ = some (.int .i64 t) := cell_of_row _ _ 0 _ _ _ rB2_.out
          have B_1_ : (((W.alloc (.cells #[.int .i64 s, .int .i64 b] 30)).alloc (.cells #[.int .i64 t, .int .i64 c] 30))).cell? ⟨W.heap.size + 1, 1, none⟩ = some (.int .i64 c) := cell_of_row _ _ 1 _ _ _ rB2_.out
          go_wp2_with fail
          go_at_call 55
          refine (spans_no _ H3.out).mono ?_
          rintro e w1 ⟨rfl, hd⟩
          have g := hd
          clear hd
          clear A_0_ A_1_ B_0_ B_1_
          have rA4_ := Lib.hid (show (w1).heap[W.heap.size]? = some (.cells #[.int .i64 s, .int .i64 b] 30 (0, 0)) from row_held g rA1_.out)
          clear rA1_
          have rB5_ := Lib.hid (show (w1).heap[W.heap.size + 1]? = some (.cells #[.int .i64 t, .int .i64 c] 30 (0, 0)) from row_held g rB2_.out)
          clear rB2_
          have G6_ := Lib.hid (show (W).grownBy (w1) none from gby_trans G3_.out g)
          clear g
          have A_0_ : (w1).cell? ⟨W.heap.size, 0, none⟩ = some (.int .i64 s) := cell_of_row _ _ 0 _ _ _ rA4_.out
          have A_1_ : (w1).cell? ⟨W.heap.size, 1, none⟩ = some (.int .i64 b) := cell_of_row _ _ 1 _ _ _ rA4_.out
          have B_0_ : (w1).cell? ⟨W.heap.size + 1, 0, none⟩ = some (.int .i64 t) := cell_of_row _ _ 0 _ _ _ rB5_.out
          have B_1_ : (w1).cell? ⟨W.heap.size + 1, 1, none⟩ = some (.int .i64 c) := cell_of_row _ _ 1 _ _ _ rB5_.out
          go_wp2_with fail
          go_at_call 55
          refine (spans_yes _ H4.out).mono ?_
          rintro e w2 ⟨rfl, hd⟩
          have g := hd
          clear hd
          clear A_0_ A_1_ B_0_ B_1_
          have rA7_ := Lib.hid (show (w2).heap[W.heap.size]? = some (.cells #[.int .i64 s, .int .i64 b] 30 (0, 0)) from row_held g rA4_.out)
          clear rA4_
          have rB8_ := Lib.hid (show (w2).heap[W.heap.size + 1]? = some (.cells #[.int .i64 t, .int .i64 c] 30 (0, 0)) from row_held g rB5_.out)
          clear rB5_
          have G9_ := Lib.hid (show (W).grownBy (w2) none from gby_trans G6_.out g)
          clear g
          have A_0_ : (w2).cell? ⟨W.heap.size, 0, none⟩ = some (.int .i64 s) := cell_of_row _ _ 0 _ _ _ rA7_.out
          have A_1_ : (w2).cell? ⟨W.heap.size, 1, none⟩ = some (.int .i64 b) := cell_of_row _ _ 1 _ _ _ rA7_.out
          have B_0_ : (w2).cell? ⟨W.heap.size + 1, 0, none⟩ = some (.int .i64 t) := cell_of_row _ _ 0 _ _ _ rB8_.out
          have B_1_ : (w2).cell? ⟨W.heap.size + 1, 1, none⟩ = some (.int .i64 c) := cell_of_row _ _ 1 _ _ _ rB8_.out
          go_wp2
          go_ret
          exact ⟨rfl, G9_.out⟩
        · rw [show decide (OvP s b t c) = false from decide_eq_false (fun q => q.2.2.elim h3 h4)]
          have H4 := Lib.hid h4
          clear h3 h4
          go_enter Try.func56, Try.ntmps56
          have rA1_ := Lib.hid (show (((W.alloc (.cells #[.int .i64 s, .int .i64 b] 30)).alloc (.cells #[.int .i64 t, .int .i64 c] 30))).heap[W.heap.size]? = some (.cells #[.int .i64 s, .int .i64 b] 30 (0, 0)) from by rw [heap_alloc_old _ _ (by simp only [World.size_alloc]; omega)]; exact heap_alloc_new _ _)
          have rB2_ := Lib.hid (show (((W.alloc (.cells #[.int .i64 s, .int .i64 b] 30)).alloc (.cells #[.int .i64 t, .int .i64 c] 30))).heap[W.heap.size + 1]? = some (.cells #[.int .i64 t, .int .i64 c] 30 (0, 0)) from by exact heap_pair _ _ _)
          have G3_ := Lib.hid (show (W).grownBy (((W.alloc (.cells #[.int .i64 s, .int .i64 b] 30)).alloc (.cells #[.int .i64 t, .int .i64 c] 30))) none from (gby_alloc (gby_alloc (gby_refl _ _) _) _))
          have A_0_ : (((W.alloc (.cells #[.int .i64 s, .int .i64 b] 30)).alloc (.cells #[.int .i64 t, .int .i64 c] 30))).cell? ⟨W.heap.size, 0, none⟩ = some (.int .i64 s) := cell_of_row _ _ 0 _ _ _ rA1_.out
          have A_1_ : (((W.alloc (.cells #[.int .i64 s, .int .i64 b] 30)).alloc (.cells #[.int .i64 t, .int .i64 c] 30))).cell? ⟨W.heap.size, 1, none⟩ = some (.int .i64 b) := cell_of_row _ _ 1 _ _ _ rA1_.out
          have B_0_ : (((W.alloc (.cells #[.int .i64 s, .int .i64 b] 30)).alloc (.cells #[.int .i64 t, .int .i64 c] 30))).cell? ⟨W.heap.size + 1, 0, none⟩ = some (.int .i64 t) := cell_of_row _ _ 0 _ _ _ rB2_.out
          have B_1_ : (((W.alloc (.cells #[.int .i64 s, .int .i64 b] 30)).alloc (.cells #[.int .i64 t, .int .i64 c] 30))).cell? ⟨W.heap.size + 1, 1, none⟩ = some (.int .i64 c) := cell_of_row _ _ 1 _ _ _ rB2_.out
          go_wp2_with fail
          go_at_call 55
          refine (spans_no _ H3.out).mono ?_
          rintro e w1 ⟨rfl, hd⟩
          have g := hd
          clear hd
          clear A_0_ A_1_ B_0_ B_1_
          have rA4_ := Lib.hid (show (w1).heap[W.heap.size]? = some (.cells #[.int .i64 s, .int .i64 b] 30 (0, 0)) from row_held g rA1_.out)
          clear rA1_
          have rB5_ := Lib.hid (show (w1).heap[W.heap.size + 1]? = some (.cells #[.int .i64 t, .int .i64 c] 30 (0, 0)) from row_held g rB2_.out)
          clear rB2_
          have G6_ := Lib.hid (show (W).grownBy (w1) none from gby_trans G3_.out g)
          clear g
          have A_0_ : (w1).cell? ⟨W.heap.size, 0, none⟩ = some (.int .i64 s) := cell_of_row _ _ 0 _ _ _ rA4_.out
          have A_1_ : (w1).cell? ⟨W.heap.size, 1, none⟩ = some (.int .i64 b) := cell_of_row _ _ 1 _ _ _ rA4_.out
          have B_0_ : (w1).cell? ⟨W.heap.size + 1, 0, none⟩ = some (.int .i64 t) := cell_of_row _ _ 0 _ _ _ rB5_.out
          have B_1_ : (w1).cell? ⟨W.heap.size + 1, 1, none⟩ = some (.int .i64 c) := cell_of_row _ _ 1 _ _ _ rB5_.out
          go_wp2_with fail
          go_at_call 55
          refine (spans_no _ H4.out).mono ?_
          rintro e w2 ⟨rfl, hd⟩
          have g := hd
          clear hd
          clear A_0_ A_1_ B_0_ B_1_
          have rA7_ := Lib.hid (show (w2).heap[W.heap.size]? = some (.cells #[.int .i64 s, .int .i64 b] 30 (0, 0)) from row_held g rA4_.out)
          clear rA4_
          have rB8_ := Lib.hid (show (w2).heap[W.heap.size + 1]? = some (.cells #[.int .i64 t, .int .i64 c] 30 (0, 0)) from row_held g rB5_.out)
          clear rB5_
          have G9_ := Lib.hid (show (W).grownBy (w2) none from gby_trans G6_.out g)
          clear g
          have A_0_ : (w2).cell? ⟨W.heap.size, 0, none⟩ = some (.int .i64 s) := cell_of_row _ _ 0 _ _ _ rA7_.out
          have A_1_ : (w2).cell? ⟨W.heap.size, 1, none⟩ = some (.int .i64 b) := cell_of_row _ _ 1 _ _ _ rA7_.out
          have B_0_ : (w2).cell? ⟨W.heap.size + 1, 0, none⟩ = some (.int .i64 t) := cell_of_row _ _ 0 _ _ _ rB8_.out
          have B_1_ : (w2).cell? ⟨W.heap.size + 1, 1, none⟩ = some (.int .i64 c) := cell_of_row _ _ 1 _ _ _ rB8_.out
          go_wp2
          go_ret
          exact ⟨rfl, G9_.out⟩
    · rw [show decide (OvP s b t c) = false from decide_eq_false (fun q => h2 q.2.1)]
      go_enter Try.func56, Try.ntmps56
      have rA1_ := Lib.hid (show (((W.alloc (.cells #[.int .i64 s, .int .i64 b] 30)).alloc (.cells #[.int .i64 t, .int .i64 c] 30))).heap[W.heap.size]? = some (.cells #[.int .i64 s, .int .i64 b] 30 (0, 0)) from by rw [heap_alloc_old _ _ (by simp only [World.size_alloc]; omega)]; exact heap_alloc_new _ _)
      have rB2_ := Lib.hid (show (((W.alloc (.cells #[.int .i64 s, .int .i64 b] 30)).alloc (.cells #[.int .i64 t, .int .i64 c] 30))).heap[W.heap.size + 1]? = some (.cells #[.int .i64 t, .int .i64 c] 30 (0, 0)) from by exact heap_pair _ _ _)
      have G3_ := Lib.hid (show (W).grownBy (((W.alloc (.cells #[.int .i64 s, .int .i64 b] 30)).alloc (.cells #[.int .i64 t, .int .i64 c] 30))) none from (gby_alloc (gby_alloc (gby_refl _ _) _) _))
      have A_0_ : (((W.alloc (.cells #[.int .i64 s, .int .i64 b] 30)).alloc (.cells #[.int .i64 t, .int .i64 c] 30))).cell? ⟨W.heap.size, 0, none⟩ = some (.int .i64 s) := cell_of_row _ _ 0 _ _ _ rA1_.out
      have A_1_ : (((W.alloc (.cells #[.int .i64 s, .int .i64 b] 30)).alloc (.cells #[.int .i64 t, .int .i64 c] 30))).cell? ⟨W.heap.size, 1, none⟩ = some (.int .i64 b) := cell_of_row _ _ 1 _ _ _ rA1_.out
      have B_0_ : (((W.alloc (.cells #[.int .i64 s, .int .i64 b] 30)).alloc (.cells #[.int .i64 t, .int .i64 c] 30))).cell? ⟨W.heap.size + 1, 0, none⟩ = some (.int .i64 t) := cell_of_row _ _ 0 _ _ _ rB2_.out
      have B_1_ : (((W.alloc (.cells #[.int .i64 s, .int .i64 b] 30)).alloc (.cells #[.int .i64 t, .int .i64 c] 30))).cell? ⟨W.heap.size + 1, 1, none⟩ = some (.int .i64 c) := cell_of_row _ _ 1 _ _ _ rB2_.out
      go_wp2
      go_ret
      exact ⟨rfl, G3_.out⟩
  · rw [show decide (OvP s b t c) = false from decide_eq_false (fun q => h1 q.1)]
    go_enter Try.func56, Try.ntmps56
    have rA1_ := Lib.hid (show (((W.alloc (.cells #[.int .i64 s, .int .i64 b] 30)).alloc (.cells #[.int .i64 t, .int .i64 c] 30))).heap[W.heap.size]? = some (.cells #[.int .i64 s, .int .i64 b] 30 (0, 0)) from by rw [heap_alloc_old _ _ (by simp only [World.size_alloc]; omega)]; exact heap_alloc_new _ _)
    have rB2_ := Lib.hid (show (((W.alloc (.cells #[.int .i64 s, .int .i64 b] 30)).alloc (.cells #[.int .i64 t, .int .i64 c] 30))).heap[W.heap.size + 1]? = some (.cells #[.int .i64 t, .int .i64 c] 30 (0, 0)) from by exact heap_pair _ _ _)
    have G3_ := Lib.hid (show (W).grownBy (((W.alloc (.cells #[.int .i64 s, .int .i64 b] 30)).alloc (.cells #[.int .i64 t, .int .i64 c] 30))) none from (gby_alloc (gby_alloc (gby_refl _ _) _) _))
    have A_0_ : (((W.alloc (.cells #[.int .i64 s, .int .i64 b] 30)).alloc (.cells #[.int .i64 t, .int .i64 c] 30))).cell? ⟨W.heap.size, 0, none⟩ = some (.int .i64 s) := cell_of_row _ _ 0 _ _ _ rA1_.out
    have A_1_ : (((W.alloc (.cells #[.int .i64 s, .int .i64 b] 30)).alloc (.cells #[.int .i64 t, .int .i64 c] 30))).cell? ⟨W.heap.size, 1, none⟩ = some (.int .i64 b) := cell_of_row _ _ 1 _ _ _ rA1_.out
    have B_0_ : (((W.alloc (.cells #[.int .i64 s, .int .i64 b] 30)).alloc (.cells #[.int .i64 t, .int .i64 c] 30))).cell? ⟨W.heap.size + 1, 0, none⟩ = some (.int .i64 t) := cell_of_row _ _ 0 _ _ _ rB2_.out
    have B_1_ : (((W.alloc (.cells #[.int .i64 s, .int .i64 b] 30)).alloc (.cells #[.int .i64 t, .int .i64 c] 30))).cell? ⟨W.heap.size + 1, 1, none⟩ = some (.int .i64 c) := cell_of_row _ _ 1 _ _ _ rB2_.out
    go_wp2
    go_ret
    exact ⟨rfl, G3_.out⟩

theorem bok_bounds {s b : Int} (h : BOk s b) : (s = 0 ∧ b = 0) ∨ (16 ≤ s ∧ s ≤ 32768 ∧ 0 ≤ b ∧ b ≤ 65536 - s) := by
  rcases h with q | ⟨q, ⟨q1, q2⟩, _⟩
  · exact .inl q
  · exact .inr ⟨q.2.1, q.2.2, q1, q2⟩

set_option maxHeartbeats 2000000 in
theorem specOv_ok (s b t c : Int) (W : World) (hb : BOk s b) (hc : BOk t c) : Calls Try.prog 31 #[.agg #[.int .i64 s, .int .i64 b], .agg #[.int .i64 t, .int .i64 c]] W (AnsN (.bool (decide (OvP s b t c))) W) := by
  have HB := Lib.hid hb
  have HC := Lib.hid hc
  have b1 := bok_bounds hb
  have b2 := bok_bounds hc
  have k1 := spans_in (s := s) (b := b) (x := c) (by omega) (by omega) (by unfold I64; omega)
  have k2 := spans_in (s := t) (b := c) (x := b) (by omega) (by omega) (by unfold I64; omega)
  have key : OvP s b t c ↔ 0 < s ∧ 0 < t ∧ b < c + t ∧ c < b + s := by
    unfold OvP
    rw [k1, k2]
    omega
  clear k1 k2 hb hc
  by_cases h1 : 0 < s
  · by_cases h2 : 0 < t
    · by_cases h3 : b < c + t
      · by_cases h4 : c < b + s
        · rw [show decide (OvP s b t c) = true from decide_eq_true (key.2 ⟨h1, h2, h3, h4⟩)]
          clear key
          go_enter Try.func31, Try.ntmps31
          have rA1_ := Lib.hid (show (((W.alloc (.cells #[.int .i64 s, .int .i64 b] 30)).alloc (.cells #[.int .i64 t, .int .i64 c] 30))).heap[W.heap.size]? = some (.cells #[.int .i64 s, .int .i64 b] 30 (0, 0)) from by rw [heap_alloc_old _ _ (by simp only [World.size_alloc]; omega)]; exact heap_alloc_new _ _)
          have rB2_ := Lib.hid (show (((W.alloc (.cells #[.int .i64 s, .int .i64 b] 30)).alloc (.cells #[.int .i64 t, .int .i64 c] 30))).heap[W.heap.size + 1]? = some (.cells #[.int .i64 t, .int .i64 c] 30 (0, 0)) from by exact heap_pair _ _ _)
          have G3_ := Lib.hid (show (W).grownBy (((W.alloc (.cells #[.int .i64 s, .int .i64 b] 30)).alloc (.cells #[.int .i64 t, .int .i64 c] 30))) none from (gby_alloc (gby_alloc (gby_refl _ _) _) _))
          have A_0_ : (((W.alloc (.cells #[.int .i64 s, .int .i64 b] 30)).alloc (.cells #[.int .i64 t, .int .i64 c] 30))).cell? ⟨W.heap.size, 0, none⟩ = some (.int .i64 s) := cell_of_row _ _ 0 _ _ _ rA1_.out
          have A_1_ : (((W.alloc (.cells #[.int .i64 s, .int .i64 b] 30)).alloc (.cells #[.int .i64 t, .int .i64 c] 30))).cell? ⟨W.heap.size, 1, none⟩ = some (.int .i64 b) := cell_of_row _ _ 1 _ _ _ rA1_.out
          have B_0_ : (((W.alloc (.cells #[.int .i64 s, .int .i64 b] 30)).alloc (.cells #[.int .i64 t, .int .i64 c] 30))).cell? ⟨W.heap.size + 1, 0, none⟩ = some (.int .i64 t) := cell_of_row _ _ 0 _ _ _ rB2_.out
          have B_1_ : (((W.alloc (.cells #[.int .i64 s, .int .i64 b] 30)).alloc (.cells #[.int .i64 t, .int .i64 c] 30))).cell? ⟨W.heap.size + 1, 1, none⟩ = some (.int .i64 c) := cell_of_row _ _ 1 _ _ _ rB2_.out
          go_wp2_with fail
          go_at_call 21
          refine (specBarOk_yes _ _ _ HB.out).mono ?_
          rintro e w1 ⟨rfl, hd⟩
          have g := hd
          clear hd
          clear A_0_ A_1_ B_0_ B_1_
          have rA4_ := Lib.hid (show (w1).heap[W.heap.size]? = some (.cells #[.int .i64 s, .int .i64 b] 30 (0, 0)) from row_held g rA1_.out)
          clear rA1_
          have rB5_ := Lib.hid (show (w1).heap[W.heap.size + 1]? = some (.cells #[.int .i64 t, .int .i64 c] 30 (0, 0)) from row_held g rB2_.out)
          clear rB2_
          have G6_ := Lib.hid (show (W).grownBy (w1) none from gby_trans G3_.out g)
          clear g
          have A_0_ : (w1).cell? ⟨W.heap.size, 0, none⟩ = some (.int .i64 s) := cell_of_row _ _ 0 _ _ _ rA4_.out
          have A_1_ : (w1).cell? ⟨W.heap.size, 1, none⟩ = some (.int .i64 b) := cell_of_row _ _ 1 _ _ _ rA4_.out
          have B_0_ : (w1).cell? ⟨W.heap.size + 1, 0, none⟩ = some (.int .i64 t) := cell_of_row _ _ 0 _ _ _ rB5_.out
          have B_1_ : (w1).cell? ⟨W.heap.size + 1, 1, none⟩ = some (.int .i64 c) := cell_of_row _ _ 1 _ _ _ rB5_.out
          go_wp2_with fail
          go_at_call 21
          refine (specBarOk_yes _ _ _ HC.out).mono ?_
          rintro e w2 ⟨rfl, hd⟩
          have g := hd
          clear hd
          clear A_0_ A_1_ B_0_ B_1_
          have rA7_ := Lib.hid (show (w2).heap[W.heap.size]? = some (.cells #[.int .i64 s, .int .i64 b] 30 (0, 0)) from row_held g rA4_.out)
          clear rA4_
          have rB8_ := Lib.hid (show (w2).heap[W.heap.size + 1]? = some (.cells #[.int .i64 t, .int .i64 c] 30 (0, 0)) from row_held g rB5_.out)
          clear rB5_
          have G9_ := Lib.hid (show (W).grownBy (w2) none from gby_trans G6_.out g)
          clear g
          have A_0_ : (w2).cell? ⟨W.heap.size, 0, none⟩ = some (.int .i64 s) := cell_of_row _ _ 0 _ _ _ rA7_.out
          have A_1_ : (w2).cell? ⟨W.heap.size, 1, none⟩ = some (.int .i64 b) := cell_of_row _ _ 1 _ _ _ rA7_.out
          have B_0_ : (w2).cell? ⟨W.heap.size + 1, 0, none⟩ = some (.int .i64 t) := cell_of_row _ _ 0 _ _ _ rB8_.out
          have B_1_ : (w2).cell? ⟨W.heap.size + 1, 1, none⟩ = some (.int .i64 c) := cell_of_row _ _ 1 _ _ _ rB8_.out
          go_wp2
          go_ret
          exact ⟨rfl, G9_.out⟩
        · rw [show decide (OvP s b t c) = false from decide_eq_false (fun q => h4 (key.1 q).2.2.2)]
          have H4 := Lib.hid (show decide (c < b + s) = false from decide_eq_false h4)
          clear key
          go_enter Try.func31, Try.ntmps31
          have rA1_ := Lib.hid (show (((W.alloc (.cells #[.int .i64 s, .int .i64 b] 30)).alloc (.cells #[.int .i64 t, .int .i64 c] 30))).heap[W.heap.size]? = some (.cells #[.int .i64 s, .int .i64 b] 30 (0, 0)) from by rw [heap_alloc_old _ _ (by simp only [World.size_alloc]; omega)]; exact heap_alloc_new _ _)
          have rB2_ := Lib.hid (show (((W.alloc (.cells #[.int .i64 s, .int .i64 b] 30)).alloc (.cells #[.int .i64 t, .int .i64 c] 30))).heap[W.heap.size + 1]? = some (.cells #[.int .i64 t, .int .i64 c] 30 (0, 0)) from by exact heap_pair _ _ _)
          have G3_ := Lib.hid (show (W).grownBy (((W.alloc (.cells #[.int .i64 s, .int .i64 b] 30)).alloc (.cells #[.int .i64 t, .int .i64 c] 30))) none from (gby_alloc (gby_alloc (gby_refl _ _) _) _))
          have A_0_ : (((W.alloc (.cells #[.int .i64 s, .int .i64 b] 30)).alloc (.cells #[.int .i64 t, .int .i64 c] 30))).cell? ⟨W.heap.size, 0, none⟩ = some (.int .i64 s) := cell_of_row _ _ 0 _ _ _ rA1_.out
          have A_1_ : (((W.alloc (.cells #[.int .i64 s, .int .i64 b] 30)).alloc (.cells #[.int .i64 t, .int .i64 c] 30))).cell? ⟨W.heap.size, 1, none⟩ = some (.int .i64 b) := cell_of_row _ _ 1 _ _ _ rA1_.out
          have B_0_ : (((W.alloc (.cells #[.int .i64 s, .int .i64 b] 30)).alloc (.cells #[.int .i64 t, .int .i64 c] 30))).cell? ⟨W.heap.size + 1, 0, none⟩ = some (.int .i64 t) := cell_of_row _ _ 0 _ _ _ rB2_.out
          have B_1_ : (((W.alloc (.cells #[.int .i64 s, .int .i64 b] 30)).alloc (.cells #[.int .i64 t, .int .i64 c] 30))).cell? ⟨W.heap.size + 1, 1, none⟩ = some (.int .i64 c) := cell_of_row _ _ 1 _ _ _ rB2_.out
          go_wp2_with fail
          go_at_call 21
          refine (specBarOk_yes _ _ _ HB.out).mono ?_
          rintro e w1 ⟨rfl, hd⟩
          have g := hd
          clear hd
          clear A_0_ A_1_ B_0_ B_1_
          have rA4_ := Lib.hid (show (w1).heap[W.heap.size]? = some (.cells #[.int .i64 s, .int .i64 b] 30 (0, 0)) from row_held g rA1_.out)
          clear rA1_
          have rB5_ := Lib.hid (show (w1).heap[W.heap.size + 1]? = some (.cells #[.int .i64 t, .int .i64 c] 30 (0, 0)) from row_held g rB2_.out)
          clear rB2_
          have G6_ := Lib.hid (show (W).grownBy (w1) none from gby_trans G3_.out g)
          clear g
          have A_0_ : (w1).cell? ⟨W.heap.size, 0, none⟩ = some (.int .i64 s) := cell_of_row _ _ 0 _ _ _ rA4_.out
          have A_1_ : (w1).cell? ⟨W.heap.size, 1, none⟩ = some (.int .i64 b) := cell_of_row _ _ 1 _ _ _ rA4_.out
          have B_0_ : (w1).cell? ⟨W.heap.size + 1, 0, none⟩ = some (.int .i64 t) := cell_of_row _ _ 0 _ _ _ rB5_.out
          have B_1_ : (w1).cell? ⟨W.heap.size + 1, 1, none⟩ = some (.int .i64 c) := cell_of_row _ _ 1 _ _ _ rB5_.out
          go_wp2_with fail
          go_at_call 21
          refine (specBarOk_yes _ _ _ HC.out).mono ?_
          rintro e w2 ⟨rfl, hd⟩
          have g := hd
          clear hd
          clear A_0_ A_1_ B_0_ B_1_
          have rA7_ := Lib.hid (show (w2).heap[W.heap.size]? = some (.cells #[.int .i64 s, .int .i64 b] 30 (0, 0)) from row_held g rA4_.out)
          clear rA4_
          have rB8_ := Lib.hid (show (w2).heap[W.heap.size + 1]? = some (.cells #[.int .i64 t, .int .i64 c] 30 (0, 0)) from row_held g rB5_.out)
          clear rB5_
          have G9_ := Lib.hid (show (W).grownBy (w2) none from gby_trans G6_.out g)
          clear g
          have A_0_ : (w2).cell? ⟨W.heap.size, 0, none⟩ = some (.int .i64 s) := cell_of_row _ _ 0 _ _ _ rA7_.out
          have A_1_ : (w2).cell? ⟨W.heap.size, 1, none⟩ = some (.int .i64 b) := cell_of_row _ _ 1 _ _ _ rA7_.out
          have B_0_ : (w2).cell? ⟨W.heap.size + 1, 0, none⟩ = some (.int .i64 t) := cell_of_row _ _ 0 _ _ _ rB8_.out
          have B_1_ : (w2).cell? ⟨W.heap.size + 1, 1, none⟩ = some (.int .i64 c) := cell_of_row _ _ 1 _ _ _ rB8_.out
          go_wp2
          go_ret
          exact ⟨ret_bool (by first | rfl | exact H4.out), G9_.out⟩
      · rw [show decide (OvP s b t c) = false from decide_eq_false (fun q => h3 (key.1 q).2.2.1)]
        clear key
        go_enter Try.func31, Try.ntmps31
        have rA1_ := Lib.hid (show (((W.alloc (.cells #[.int .i64 s, .int .i64 b] 30)).alloc (.cells #[.int .i64 t, .int .i64 c] 30))).heap[W.heap.size]? = some (.cells #[.int .i64 s, .int .i64 b] 30 (0, 0)) from by rw [heap_alloc_old _ _ (by simp only [World.size_alloc]; omega)]; exact heap_alloc_new _ _)
        have rB2_ := Lib.hid (show (((W.alloc (.cells #[.int .i64 s, .int .i64 b] 30)).alloc (.cells #[.int .i64 t, .int .i64 c] 30))).heap[W.heap.size + 1]? = some (.cells #[.int .i64 t, .int .i64 c] 30 (0, 0)) from by exact heap_pair _ _ _)
        have G3_ := Lib.hid (show (W).grownBy (((W.alloc (.cells #[.int .i64 s, .int .i64 b] 30)).alloc (.cells #[.int .i64 t, .int .i64 c] 30))) none from (gby_alloc (gby_alloc (gby_refl _ _) _) _))
        have A_0_ : (((W.alloc (.cells #[.int .i64 s, .int .i64 b] 30)).alloc (.cells #[.int .i64 t, .int .i64 c] 30))).cell? ⟨W.heap.size, 0, none⟩ = some (.int .i64 s) := cell_of_row _ _ 0 _ _ _ rA1_.out
        have A_1_ : (((W.alloc (.cells #[.int .i64 s, .int .i64 b] 30)).alloc (.cells #[.int .i64 t, .int .i64 c] 30))).cell? ⟨W.heap.size, 1, none⟩ = some (.int .i64 b) := cell_of_row _ _ 1 _ _ _ rA1_.out
        have B_0_ : (((W.alloc (.cells #[.int .i64 s, .int .i64 b] 30)).alloc (.cells #[.int .i64 t, .int .i64 c] 30))).cell? ⟨W.heap.size + 1, 0, none⟩ = some (.int .i64 t) := cell_of_row _ _ 0 _ _ _ rB2_.out
        have B_1_ : (((W.alloc (.cells #[.int .i64 s, .int .i64 b] 30)).alloc (.cells #[.int .i64 t, .int .i64 c] 30))).cell? ⟨W.heap.size + 1, 1, none⟩ = some (.int .i64 c) := cell_of_row _ _ 1 _ _ _ rB2_.out
        go_wp2_with fail
        go_at_call 21
        refine (specBarOk_yes _ _ _ HB.out).mono ?_
        rintro e w1 ⟨rfl, hd⟩
        have g := hd
        clear hd
        clear A_0_ A_1_ B_0_ B_1_
        have rA4_ := Lib.hid (show (w1).heap[W.heap.size]? = some (.cells #[.int .i64 s, .int .i64 b] 30 (0, 0)) from row_held g rA1_.out)
        clear rA1_
        have rB5_ := Lib.hid (show (w1).heap[W.heap.size + 1]? = some (.cells #[.int .i64 t, .int .i64 c] 30 (0, 0)) from row_held g rB2_.out)
        clear rB2_
        have G6_ := Lib.hid (show (W).grownBy (w1) none from gby_trans G3_.out g)
        clear g
        have A_0_ : (w1).cell? ⟨W.heap.size, 0, none⟩ = some (.int .i64 s) := cell_of_row _ _ 0 _ _ _ rA4_.out
        have A_1_ : (w1).cell? ⟨W.heap.size, 1, none⟩ = some (.int .i64 b) := cell_of_row _ _ 1 _ _ _ rA4_.out
        have B_0_ : (w1).cell? ⟨W.heap.size + 1, 0, none⟩ = some (.int .i64 t) := cell_of_row _ _ 0 _ _ _ rB5_.out
        have B_1_ : (w1).cell? ⟨W.heap.size + 1, 1, none⟩ = some (.int .i64 c) := cell_of_row _ _ 1 _ _ _ rB5_.out
        go_wp2_with fail
        go_at_call 21
        refine (specBarOk_yes _ _ _ HC.out).mono ?_
        rintro e w2 ⟨rfl, hd⟩
        have g := hd
        clear hd
        clear A_0_ A_1_ B_0_ B_1_
        have rA7_ := Lib.hid (show (w2).heap[W.heap.size]? = some (.cells #[.int .i64 s, .int .i64 b] 30 (0, 0)) from row_held g rA4_.out)
        clear rA4_
        have rB8_ := Lib.hid (show (w2).heap[W.heap.size + 1]? = some (.cells #[.int .i64 t, .int .i64 c] 30 (0, 0)) from row_held g rB5_.out)
        clear rB5_
        have G9_ := Lib.hid (show (W).grownBy (w2) none from gby_trans G6_.out g)
        clear g
        have A_0_ : (w2).cell? ⟨W.heap.size, 0, none⟩ = some (.int .i64 s) := cell_of_row _ _ 0 _ _ _ rA7_.out
        have A_1_ : (w2).cell? ⟨W.heap.size, 1, none⟩ = some (.int .i64 b) := cell_of_row _ _ 1 _ _ _ rA7_.out
        have B_0_ : (w2).cell? ⟨W.heap.size + 1, 0, none⟩ = some (.int .i64 t) := cell_of_row _ _ 0 _ _ _ rB8_.out
        have B_1_ : (w2).cell? ⟨W.heap.size + 1, 1, none⟩ = some (.int .i64 c) := cell_of_row _ _ 1 _ _ _ rB8_.out
        go_wp2
        go_ret
        exact ⟨rfl, G9_.out⟩
    · rw [show decide (OvP s b t c) = false from decide_eq_false (fun q => h2 q.2.1)]
      clear key
      go_enter Try.func31, Try.ntmps31
      have rA1_ := Lib.hid (show (((W.alloc (.cells #[.int .i64 s, .int .i64 b] 30)).alloc (.cells #[.int .i64 t, .int .i64 c] 30))).heap[W.heap.size]? = some (.cells #[.int .i64 s, .int .i64 b] 30 (0, 0)) from by rw [heap_alloc_old _ _ (by simp only [World.size_alloc]; omega)]; exact heap_alloc_new _ _)
      have rB2_ := Lib.hid (show (((W.alloc (.cells #[.int .i64 s, .int .i64 b] 30)).alloc (.cells #[.int .i64 t, .int .i64 c] 30))).heap[W.heap.size + 1]? = some (.cells #[.int .i64 t, .int .i64 c] 30 (0, 0)) from by exact heap_pair _ _ _)
      have G3_ := Lib.hid (show (W).grownBy (((W.alloc (.cells #[.int .i64 s, .int .i64 b] 30)).alloc (.cells #[.int .i64 t, .int .i64 c] 30))) none from (gby_alloc (gby_alloc (gby_refl _ _) _) _))
      have A_0_ : (((W.alloc (.cells #[.int .i64 s, .int .i64 b] 30)).alloc (.cells #[.int .i64 t, .int .i64 c] 30))).cell? ⟨W.heap.size, 0, none⟩ = some (.int .i64 s) := cell_of_row _ _ 0 _ _ _ rA1_.out
      have A_1_ : (((W.alloc (.cells #[.int .i64 s, .int .i64 b] 30)).alloc (.cells #[.int .i64 t, .int .i64 c] 30))).cell? ⟨W.heap.size, 1, none⟩ = some (.int .i64 b) := cell_of_row _ _ 1 _ _ _ rA1_.out
      have B_0_ : (((W.alloc (.cells #[.int .i64 s, .int .i64 b] 30)).alloc (.cells #[.int .i64 t, .int .i64 c] 30))).cell? ⟨W.heap.size + 1, 0, none⟩ = some (.int .i64 t) := cell_of_row _ _ 0 _ _ _ rB2_.out
      have B_1_ : (((W.alloc (.cells #[.int .i64 s, .int .i64 b] 30)).alloc (.cells #[.int .i64 t, .int .i64 c] 30))).cell? ⟨W.heap.size + 1, 1, none⟩ = some (.int .i64 c) := cell_of_row _ _ 1 _ _ _ rB2_.out
      go_wp2_with fail
      go_at_call 21
      refine (specBarOk_yes _ _ _ HB.out).mono ?_
      rintro e w1 ⟨rfl, hd⟩
      have g := hd
      clear hd
      clear A_0_ A_1_ B_0_ B_1_
      have rA4_ := Lib.hid (show (w1).heap[W.heap.size]? = some (.cells #[.int .i64 s, .int .i64 b] 30 (0, 0)) from row_held g rA1_.out)
      clear rA1_
      have rB5_ := Lib.hid (show (w1).heap[W.heap.size + 1]? = some (.cells #[.int .i64 t, .int .i64 c] 30 (0, 0)) from row_held g rB2_.out)
      clear rB2_
      have G6_ := Lib.hid (show (W).grownBy (w1) none from gby_trans G3_.out g)
      clear g
      have A_0_ : (w1).cell? ⟨W.heap.size, 0, none⟩ = some (.int .i64 s) := cell_of_row _ _ 0 _ _ _ rA4_.out
      have A_1_ : (w1).cell? ⟨W.heap.size, 1, none⟩ = some (.int .i64 b) := cell_of_row _ _ 1 _ _ _ rA4_.out
      have B_0_ : (w1).cell? ⟨W.heap.size + 1, 0, none⟩ = some (.int .i64 t) := cell_of_row _ _ 0 _ _ _ rB5_.out
      have B_1_ : (w1).cell? ⟨W.heap.size + 1, 1, none⟩ = some (.int .i64 c) := cell_of_row _ _ 1 _ _ _ rB5_.out
      go_wp2_with fail
      go_at_call 21
      refine (specBarOk_yes _ _ _ HC.out).mono ?_
      rintro e w2 ⟨rfl, hd⟩
      have g := hd
      clear hd
      clear A_0_ A_1_ B_0_ B_1_
      have rA7_ := Lib.hid (show (w2).heap[W.heap.size]? = some (.cells #[.int .i64 s, .int .i64 b] 30 (0, 0)) from row_held g rA4_.out)
      clear rA4_
      have rB8_ := Lib.hid (show (w2).heap[W.heap.size + 1]? = some (.cells #[.int .i64 t, .int .i64 c] 30 (0, 0)) from row_held g rB5_.out)
      clear rB5_
      have G9_ := Lib.hid (show (W).grownBy (w2) none from gby_trans G6_.out g)
      clear g
      have A_0_ : (w2).cell? ⟨W.heap.size, 0, none⟩ = some (.int .i64 s) := cell_of_row _ _ 0 _ _ _ rA7_.out
      have A_1_ : (w2).cell? ⟨W.heap.size, 1, none⟩ = some (.int .i64 b) := cell_of_row _ _ 1 _ _ _ rA7_.out
      have B_0_ : (w2).cell? ⟨W.heap.size + 1, 0, none⟩ = some (.int .i64 t) := cell_of_row _ _ 0 _ _ _ rB8_.out
      have B_1_ : (w2).cell? ⟨W.heap.size + 1, 1, none⟩ = some (.int .i64 c) := cell_of_row _ _ 1 _ _ _ rB8_.out
      go_wp2
      go_ret
      exact ⟨rfl, G9_.out⟩
  · rw [show decide (OvP s b t c) = false from decide_eq_false (fun q => h1 q.1)]
    clear key
    go_enter Try.func31, Try.ntmps31
    have rA1_ := Lib.hid (show (((W.alloc (.cells #[.int .i64 s, .int .i64 b] 30)).alloc (.cells #[.int .i64 t, .int .i64 c] 30))).heap[W.heap.size]? = some (.cells #[.int .i64 s, .int .i64 b] 30 (0, 0)) from by rw [heap_alloc_old _ _ (by simp only [World.size_alloc]; omega)]; exact heap_alloc_new _ _)
    have rB2_ := Lib.hid (show (((W.alloc (.cells #[.int .i64 s, .int .i64 b] 30)).alloc (.cells #[.int .i64 t, .int .i64 c] 30))).heap[W.heap.size + 1]? = some (.cells #[.int .i64 t, .int .i64 c] 30 (0, 0)) from by exact heap_pair _ _ _)
    have G3_ := Lib.hid (show (W).grownBy (((W.alloc (.cells #[.int .i64 s, .int .i64 b] 30)).alloc (.cells #[.int .i64 t, .int .i64 c] 30))) none from (gby_alloc (gby_alloc (gby_refl _ _) _) _))
    have A_0_ : (((W.alloc (.cells #[.int .i64 s, .int .i64 b] 30)).alloc (.cells #[.int .i64 t, .int .i64 c] 30))).cell? ⟨W.heap.size, 0, none⟩ = some (.int .i64 s) := cell_of_row _ _ 0 _ _ _ rA1_.out
    have A_1_ : (((W.alloc (.cells #[.int .i64 s, .int .i64 b] 30)).alloc (.cells #[.int .i64 t, .int .i64 c] 30))).cell? ⟨W.heap.size, 1, none⟩ = some (.int .i64 b) := cell_of_row _ _ 1 _ _ _ rA1_.out
    have B_0_ : (((W.alloc (.cells #[.int .i64 s, .int .i64 b] 30)).alloc (.cells #[.int .i64 t, .int .i64 c] 30))).cell? ⟨W.heap.size + 1, 0, none⟩ = some (.int .i64 t) := cell_of_row _ _ 0 _ _ _ rB2_.out
    have B_1_ : (((W.alloc (.cells #[.int .i64 s, .int .i64 b] 30)).alloc (.cells #[.int .i64 t, .int .i64 c] 30))).cell? ⟨W.heap.size + 1, 1, none⟩ = some (.int .i64 c) := cell_of_row _ _ 1 _ _ _ rB2_.out
    go_wp2_with fail
    go_at_call 21
    refine (specBarOk_yes _ _ _ HB.out).mono ?_
    rintro e w1 ⟨rfl, hd⟩
    have g := hd
    clear hd
    clear A_0_ A_1_ B_0_ B_1_
    have rA4_ := Lib.hid (show (w1).heap[W.heap.size]? = some (.cells #[.int .i64 s, .int .i64 b] 30 (0, 0)) from row_held g rA1_.out)
    clear rA1_
    have rB5_ := Lib.hid (show (w1).heap[W.heap.size + 1]? = some (.cells #[.int .i64 t, .int .i64 c] 30 (0, 0)) from row_held g rB2_.out)
    clear rB2_
    have G6_ := Lib.hid (show (W).grownBy (w1) none from gby_trans G3_.out g)
    clear g
    have A_0_ : (w1).cell? ⟨W.heap.size, 0, none⟩ = some (.int .i64 s) := cell_of_row _ _ 0 _ _ _ rA4_.out
    have A_1_ : (w1).cell? ⟨W.heap.size, 1, none⟩ = some (.int .i64 b) := cell_of_row _ _ 1 _ _ _ rA4_.out
    have B_0_ : (w1).cell? ⟨W.heap.size + 1, 0, none⟩ = some (.int .i64 t) := cell_of_row _ _ 0 _ _ _ rB5_.out
    have B_1_ : (w1).cell? ⟨W.heap.size + 1, 1, none⟩ = some (.int .i64 c) := cell_of_row _ _ 1 _ _ _ rB5_.out
    go_wp2_with fail
    go_at_call 21
    refine (specBarOk_yes _ _ _ HC.out).mono ?_
    rintro e w2 ⟨rfl, hd⟩
    have g := hd
    clear hd
    clear A_0_ A_1_ B_0_ B_1_
    have rA7_ := Lib.hid (show (w2).heap[W.heap.size]? = some (.cells #[.int .i64 s, .int .i64 b] 30 (0, 0)) from row_held g rA4_.out)
    clear rA4_
    have rB8_ := Lib.hid (show (w2).heap[W.heap.size + 1]? = some (.cells #[.int .i64 t, .int .i64 c] 30 (0, 0)) from row_held g rB5_.out)
    clear rB5_
    have G9_ := Lib.hid (show (W).grownBy (w2) none from gby_trans G6_.out g)
    clear g
    have A_0_ : (w2).cell? ⟨W.heap.size, 0, none⟩ = some (.int .i64 s) := cell_of_row _ _ 0 _ _ _ rA7_.out
    have A_1_ : (w2).cell? ⟨W.heap.size, 1, none⟩ = some (.int .i64 b) := cell_of_row _ _ 1 _ _ _ rA7_.out
    have B_0_ : (w2).cell? ⟨W.heap.size + 1, 0, none⟩ = some (.int .i64 t) := cell_of_row _ _ 0 _ _ _ rB8_.out
    have B_1_ : (w2).cell? ⟨W.heap.size + 1, 1, none⟩ = some (.int .i64 c) := cell_of_row _ _ 1 _ _ _ rB8_.out
    go_wp2
    go_ret
    exact ⟨rfl, G9_.out⟩

theorem implOver_ok (s b t c : Int) (W : World) (hb : BOk s b) (hc : BOk t c) : Calls Try.prog 32 #[.agg #[.int .i64 s, .int .i64 b], .agg #[.int .i64 t, .int .i64 c]] W (AnsN (.bool (decide (OvP s b t c))) W) := by
  have HB := Lib.hid hb
  have HC := Lib.hid hc
  clear hb hc
  go_enter Try.func32, Try.ntmps32
  have rA1_ := Lib.hid (show (((W.alloc (.cells #[.int .i64 s, .int .i64 b] 30)).alloc (.cells #[.int .i64 t, .int .i64 c] 30))).heap[W.heap.size]? = some (.cells #[.int .i64 s, .int .i64 b] 30 (0, 0)) from by rw [heap_alloc_old _ _ (by simp only [World.size_alloc]; omega)]; exact heap_alloc_new _ _)
  have rB2_ := Lib.hid (show (((W.alloc (.cells #[.int .i64 s, .int .i64 b] 30)).alloc (.cells #[.int .i64 t, .int .i64 c] 30))).heap[W.heap.size + 1]? = some (.cells #[.int .i64 t, .int .i64 c] 30 (0, 0)) from by exact heap_pair _ _ _)
  have G3_ := Lib.hid (show (W).grownBy (((W.alloc (.cells #[.int .i64 s, .int .i64 b] 30)).alloc (.cells #[.int .i64 t, .int .i64 c] 30))) none from (gby_alloc (gby_alloc (gby_refl _ _) _) _))
  have A_0_ : (((W.alloc (.cells #[.int .i64 s, .int .i64 b] 30)).alloc (.cells #[.int .i64 t, .int .i64 c] 30))).cell? ⟨W.heap.size, 0, none⟩ = some (.int .i64 s) := cell_of_row _ _ 0 _ _ _ rA1_.out
  have A_1_ : (((W.alloc (.cells #[.int .i64 s, .int .i64 b] 30)).alloc (.cells #[.int .i64 t, .int .i64 c] 30))).cell? ⟨W.heap.size, 1, none⟩ = some (.int .i64 b) := cell_of_row _ _ 1 _ _ _ rA1_.out
  have B_0_ : (((W.alloc (.cells #[.int .i64 s, .int .i64 b] 30)).alloc (.cells #[.int .i64 t, .int .i64 c] 30))).cell? ⟨W.heap.size + 1, 0, none⟩ = some (.int .i64 t) := cell_of_row _ _ 0 _ _ _ rB2_.out
  have B_1_ : (((W.alloc (.cells #[.int .i64 s, .int .i64 b] 30)).alloc (.cells #[.int .i64 t, .int .i64 c] 30))).cell? ⟨W.heap.size + 1, 1, none⟩ = some (.int .i64 c) := cell_of_row _ _ 1 _ _ _ rB2_.out
  go_wp2_with fail
  go_at_call 23
  refine (implBarOk_yes _ _ _ HB.out).mono ?_
  rintro e w1 ⟨rfl, hd⟩
  have g := hd
  clear hd
  clear A_0_ A_1_ B_0_ B_1_
  have rA4_ := Lib.hid (show (w1).heap[W.heap.size]? = some (.cells #[.int .i64 s, .int .i64 b] 30 (0, 0)) from row_held g rA1_.out)
  clear rA1_
  have rB5_ := Lib.hid (show (w1).heap[W.heap.size + 1]? = some (.cells #[.int .i64 t, .int .i64 c] 30 (0, 0)) from row_held g rB2_.out)
  clear rB2_
  have G6_ := Lib.hid (show (W).grownBy (w1) none from gby_trans G3_.out g)
  clear g
  have A_0_ : (w1).cell? ⟨W.heap.size, 0, none⟩ = some (.int .i64 s) := cell_of_row _ _ 0 _ _ _ rA4_.out
  have A_1_ : (w1).cell? ⟨W.heap.size, 1, none⟩ = some (.int .i64 b) := cell_of_row _ _ 1 _ _ _ rA4_.out
  have B_0_ : (w1).cell? ⟨W.heap.size + 1, 0, none⟩ = some (.int .i64 t) := cell_of_row _ _ 0 _ _ _ rB5_.out
  have B_1_ : (w1).cell? ⟨W.heap.size + 1, 1, none⟩ = some (.int .i64 c) := cell_of_row _ _ 1 _ _ _ rB5_.out
  go_wp2_with fail
  go_at_call 23
  refine (implBarOk_yes _ _ _ HC.out).mono ?_
  rintro e w2 ⟨rfl, hd⟩
  have g := hd
  clear hd
  clear A_0_ A_1_ B_0_ B_1_
  have rA7_ := Lib.hid (show (w2).heap[W.heap.size]? = some (.cells #[.int .i64 s, .int .i64 b] 30 (0, 0)) from row_held g rA4_.out)
  clear rA4_
  have rB8_ := Lib.hid (show (w2).heap[W.heap.size + 1]? = some (.cells #[.int .i64 t, .int .i64 c] 30 (0, 0)) from row_held g rB5_.out)
  clear rB5_
  have G9_ := Lib.hid (show (W).grownBy (w2) none from gby_trans G6_.out g)
  clear g
  have A_0_ : (w2).cell? ⟨W.heap.size, 0, none⟩ = some (.int .i64 s) := cell_of_row _ _ 0 _ _ _ rA7_.out
  have A_1_ : (w2).cell? ⟨W.heap.size, 1, none⟩ = some (.int .i64 b) := cell_of_row _ _ 1 _ _ _ rA7_.out
  have B_0_ : (w2).cell? ⟨W.heap.size + 1, 0, none⟩ = some (.int .i64 t) := cell_of_row _ _ 0 _ _ _ rB8_.out
  have B_1_ : (w2).cell? ⟨W.heap.size + 1, 1, none⟩ = some (.int .i64 c) := cell_of_row _ _ 1 _ _ _ rB8_.out
  go_wp2_with fail
  go_at_call 56
  refine (implOv _ _ _ _ _).mono ?_
  rintro e w3 ⟨rfl, hd⟩
  have g := hd
  clear hd
  clear A_0_ A_1_ B_0_ B_1_
  have rA10_ := Lib.hid (show (w3).heap[W.heap.size]? = some (.cells #[.int .i64 s, .int .i64 b] 30 (0, 0)) from row_held g rA7_.out)
  clear rA7_
  have rB11_ := Lib.hid (show (w3).heap[W.heap.size + 1]? = some (.cells #[.int .i64 t, .int .i64 c] 30 (0, 0)) from row_held g rB8_.out)
  clear rB8_
  have G12_ := Lib.hid (show (W).grownBy (w3) none from gby_trans G9_.out g)
  clear g
  have A_0_ : (w3).cell? ⟨W.heap.size, 0, none⟩ = some (.int .i64 s) := cell_of_row _ _ 0 _ _ _ rA10_.out
  have A_1_ : (w3).cell? ⟨W.heap.size, 1, none⟩ = some (.int .i64 b) := cell_of_row _ _ 1 _ _ _ rA10_.out
  have B_0_ : (w3).cell? ⟨W.heap.size + 1, 0, none⟩ = some (.int .i64 t) := cell_of_row _ _ 0 _ _ _ rB11_.out
  have B_1_ : (w3).cell? ⟨W.heap.size + 1, 1, none⟩ = some (.int .i64 c) := cell_of_row _ _ 1 _ _ _ rB11_.out
  go_wp2
  go_ret
  exact ⟨rfl, G12_.out⟩
theorem implCov_ok (s b x : Int) (W : World) (h : BOk s b) : Calls Try.prog 30 #[.agg #[.int .i64 s, .int .i64 b], .int .i64 x] W (AnsN (.bool (decide (SpansP s b x))) W) := by
  have HB := Lib.hid h
  clear h
  go_enter Try.func30, Try.ntmps30
  have rA1_ := Lib.hid (show ((W.alloc (.cells #[.int .i64 s, .int .i64 b] 30))).heap[W.heap.size]? = some (.cells #[.int .i64 s, .int .i64 b] 30 (0, 0)) from by exact heap_alloc_new _ _)
  have G2_ := Lib.hid (show (W).grownBy ((W.alloc (.cells #[.int .i64 s, .int .i64 b] 30))) none from (gby_alloc (gby_refl _ _) _))
  have A_0_ : ((W.alloc (.cells #[.int .i64 s, .int .i64 b] 30))).cell? ⟨W.heap.size, 0, none⟩ = some (.int .i64 s) := cell_of_row _ _ 0 _ _ _ rA1_.out
  have A_1_ : ((W.alloc (.cells #[.int .i64 s, .int .i64 b] 30))).cell? ⟨W.heap.size, 1, none⟩ = some (.int .i64 b) := cell_of_row _ _ 1 _ _ _ rA1_.out
  go_wp2_with fail
  go_at_call 23
  refine (implBarOk_yes _ _ _ HB.out).mono ?_
  rintro e w1 ⟨rfl, hd⟩
  have g := hd
  clear hd
  clear A_0_ A_1_
  have rA3_ := Lib.hid (show (w1).heap[W.heap.size]? = some (.cells #[.int .i64 s, .int .i64 b] 30 (0, 0)) from row_held g rA1_.out)
  clear rA1_
  have G4_ := Lib.hid (show (W).grownBy (w1) none from gby_trans G2_.out g)
  clear g
  have A_0_ : (w1).cell? ⟨W.heap.size, 0, none⟩ = some (.int .i64 s) := cell_of_row _ _ 0 _ _ _ rA3_.out
  have A_1_ : (w1).cell? ⟨W.heap.size, 1, none⟩ = some (.int .i64 b) := cell_of_row _ _ 1 _ _ _ rA3_.out
  go_wp2_with fail
  go_at_call 55
  refine (implSpans _ _ _ _).mono ?_
  rintro e w2 ⟨rfl, hd⟩
  have g := hd
  clear hd
  clear A_0_ A_1_
  have rA5_ := Lib.hid (show (w2).heap[W.heap.size]? = some (.cells #[.int .i64 s, .int .i64 b] 30 (0, 0)) from row_held g rA3_.out)
  clear rA3_
  have G6_ := Lib.hid (show (W).grownBy (w2) none from gby_trans G4_.out g)
  clear g
  have A_0_ : (w2).cell? ⟨W.heap.size, 0, none⟩ = some (.int .i64 s) := cell_of_row _ _ 0 _ _ _ rA5_.out
  have A_1_ : (w2).cell? ⟨W.heap.size, 1, none⟩ = some (.int .i64 b) := cell_of_row _ _ 1 _ _ _ rA5_.out
  go_wp2
  go_ret
  exact ⟨rfl, G6_.out⟩

theorem barsOverlap_both (s b t c : Int) : ∃ r : Bool, (∀ W : World, Calls Try.prog 31 #[.agg #[.int .i64 s, .int .i64 b], .agg #[.int .i64 t, .int .i64 c]] W (AnsN (.bool r) W)) ∧ ∀ W : World, Calls Try.prog 32 #[.agg #[.int .i64 s, .int .i64 b], .agg #[.int .i64 t, .int .i64 c]] W (AnsN (.bool r) W) := by
  by_cases hb : BOk s b
  · have HB := Lib.hid hb
    by_cases hc : BOk t c
    · have HC := Lib.hid hc
      refine ⟨decide (OvP s b t c), fun W => specOv_ok s b t c W hb hc, fun W => ?_⟩
      clear hb hc
      go_enter Try.func32, Try.ntmps32
      have rA1_ := Lib.hid (show (((W.alloc (.cells #[.int .i64 s, .int .i64 b] 30)).alloc (.cells #[.int .i64 t, .int .i64 c] 30))).heap[W.heap.size]? = some (.cells #[.int .i64 s, .int .i64 b] 30 (0, 0)) from by rw [heap_alloc_old _ _ (by simp only [World.size_alloc]; omega)]; exact heap_alloc_new _ _)
      have rB2_ := Lib.hid (show (((W.alloc (.cells #[.int .i64 s, .int .i64 b] 30)).alloc (.cells #[.int .i64 t, .int .i64 c] 30))).heap[W.heap.size + 1]? = some (.cells #[.int .i64 t, .int .i64 c] 30 (0, 0)) from by exact heap_pair _ _ _)
      have G3_ := Lib.hid (show (W).grownBy (((W.alloc (.cells #[.int .i64 s, .int .i64 b] 30)).alloc (.cells #[.int .i64 t, .int .i64 c] 30))) none from (gby_alloc (gby_alloc (gby_refl _ _) _) _))
      have A_0_ : (((W.alloc (.cells #[.int .i64 s, .int .i64 b] 30)).alloc (.cells #[.int .i64 t, .int .i64 c] 30))).cell? ⟨W.heap.size, 0, none⟩ = some (.int .i64 s) := cell_of_row _ _ 0 _ _ _ rA1_.out
      have A_1_ : (((W.alloc (.cells #[.int .i64 s, .int .i64 b] 30)).alloc (.cells #[.int .i64 t, .int .i64 c] 30))).cell? ⟨W.heap.size, 1, none⟩ = some (.int .i64 b) := cell_of_row _ _ 1 _ _ _ rA1_.out
      have B_0_ : (((W.alloc (.cells #[.int .i64 s, .int .i64 b] 30)).alloc (.cells #[.int .i64 t, .int .i64 c] 30))).cell? ⟨W.heap.size + 1, 0, none⟩ = some (.int .i64 t) := cell_of_row _ _ 0 _ _ _ rB2_.out
      have B_1_ : (((W.alloc (.cells #[.int .i64 s, .int .i64 b] 30)).alloc (.cells #[.int .i64 t, .int .i64 c] 30))).cell? ⟨W.heap.size + 1, 1, none⟩ = some (.int .i64 c) := cell_of_row _ _ 1 _ _ _ rB2_.out
      go_wp2_with fail
      go_at_call 23
      refine (implBarOk_yes _ _ _ HB.out).mono ?_
      rintro e w1 ⟨rfl, hd⟩
      have g := hd
      clear hd
      clear A_0_ A_1_ B_0_ B_1_
      have rA4_ := Lib.hid (show (w1).heap[W.heap.size]? = some (.cells #[.int .i64 s, .int .i64 b] 30 (0, 0)) from row_held g rA1_.out)
      clear rA1_
      have rB5_ := Lib.hid (show (w1).heap[W.heap.size + 1]? = some (.cells #[.int .i64 t, .int .i64 c] 30 (0, 0)) from row_held g rB2_.out)
      clear rB2_
      have G6_ := Lib.hid (show (W).grownBy (w1) none from gby_trans G3_.out g)
      clear g
      have A_0_ : (w1).cell? ⟨W.heap.size, 0, none⟩ = some (.int .i64 s) := cell_of_row _ _ 0 _ _ _ rA4_.out
      have A_1_ : (w1).cell? ⟨W.heap.size, 1, none⟩ = some (.int .i64 b) := cell_of_row _ _ 1 _ _ _ rA4_.out
      have B_0_ : (w1).cell? ⟨W.heap.size + 1, 0, none⟩ = some (.int .i64 t) := cell_of_row _ _ 0 _ _ _ rB5_.out
      have B_1_ : (w1).cell? ⟨W.heap.size + 1, 1, none⟩ = some (.int .i64 c) := cell_of_row _ _ 1 _ _ _ rB5_.out
      go_wp2_with fail
      go_at_call 23
      refine (implBarOk_yes _ _ _ HC.out).mono ?_
      rintro e w2 ⟨rfl, hd⟩
      have g := hd
      clear hd
      clear A_0_ A_1_ B_0_ B_1_
      have rA7_ := Lib.hid (show (w2).heap[W.heap.size]? = some (.cells #[.int .i64 s, .int .i64 b] 30 (0, 0)) from row_held g rA4_.out)
      clear rA4_
      have rB8_ := Lib.hid (show (w2).heap[W.heap.size + 1]? = some (.cells #[.int .i64 t, .int .i64 c] 30 (0, 0)) from row_held g rB5_.out)
      clear rB5_
      have G9_ := Lib.hid (show (W).grownBy (w2) none from gby_trans G6_.out g)
      clear g
      have A_0_ : (w2).cell? ⟨W.heap.size, 0, none⟩ = some (.int .i64 s) := cell_of_row _ _ 0 _ _ _ rA7_.out
      have A_1_ : (w2).cell? ⟨W.heap.size, 1, none⟩ = some (.int .i64 b) := cell_of_row _ _ 1 _ _ _ rA7_.out
      have B_0_ : (w2).cell? ⟨W.heap.size + 1, 0, none⟩ = some (.int .i64 t) := cell_of_row _ _ 0 _ _ _ rB8_.out
      have B_1_ : (w2).cell? ⟨W.heap.size + 1, 1, none⟩ = some (.int .i64 c) := cell_of_row _ _ 1 _ _ _ rB8_.out
      go_wp2_with fail
      go_at_call 56
      refine (implOv _ _ _ _ _).mono ?_
      rintro e w3 ⟨rfl, hd⟩
      have g := hd
      clear hd
      clear A_0_ A_1_ B_0_ B_1_
      have rA10_ := Lib.hid (show (w3).heap[W.heap.size]? = some (.cells #[.int .i64 s, .int .i64 b] 30 (0, 0)) from row_held g rA7_.out)
      clear rA7_
      have rB11_ := Lib.hid (show (w3).heap[W.heap.size + 1]? = some (.cells #[.int .i64 t, .int .i64 c] 30 (0, 0)) from row_held g rB8_.out)
      clear rB8_
      have G12_ := Lib.hid (show (W).grownBy (w3) none from gby_trans G9_.out g)
      clear g
      have A_0_ : (w3).cell? ⟨W.heap.size, 0, none⟩ = some (.int .i64 s) := cell_of_row _ _ 0 _ _ _ rA10_.out
      have A_1_ : (w3).cell? ⟨W.heap.size, 1, none⟩ = some (.int .i64 b) := cell_of_row _ _ 1 _ _ _ rA10_.out
      have B_0_ : (w3).cell? ⟨W.heap.size + 1, 0, none⟩ = some (.int .i64 t) := cell_of_row _ _ 0 _ _ _ rB11_.out
      have B_1_ : (w3).cell? ⟨W.heap.size + 1, 1, none⟩ = some (.int .i64 c) := cell_of_row _ _ 1 _ _ _ rB11_.out
      go_wp2
      go_ret
      exact ⟨rfl, G12_.out⟩
    · have HC := Lib.hid hc
      clear hb hc
      refine ⟨false, fun W => ?_, fun W => ?_⟩
      · skip
        go_enter Try.func31, Try.ntmps31
        have rA1_ := Lib.hid (show (((W.alloc (.cells #[.int .i64 s, .int .i64 b] 30)).alloc (.cells #[.int .i64 t, .int .i64 c] 30))).heap[W.heap.size]? = some (.cells #[.int .i64 s, .int .i64 b] 30 (0, 0)) from by rw [heap_alloc_old _ _ (by simp only [World.size_alloc]; omega)]; exact heap_alloc_new _ _)
        have rB2_ := Lib.hid (show (((W.alloc (.cells #[.int .i64 s, .int .i64 b] 30)).alloc (.cells #[.int .i64 t, .int .i64 c] 30))).heap[W.heap.size + 1]? = some (.cells #[.int .i64 t, .int .i64 c] 30 (0, 0)) from by exact heap_pair _ _ _)
        have G3_ := Lib.hid (show (W).grownBy (((W.alloc (.cells #[.int .i64 s, .int .i64 b] 30)).alloc (.cells #[.int .i64 t, .int .i64 c] 30))) none from (gby_alloc (gby_alloc (gby_refl _ _) _) _))
        have A_0_ : (((W.alloc (.cells #[.int .i64 s, .int .i64 b] 30)).alloc (.cells #[.int .i64 t, .int .i64 c] 30))).cell? ⟨W.heap.size, 0, none⟩ = some (.int .i64 s) := cell_of_row _ _ 0 _ _ _ rA1_.out
        have A_1_ : (((W.alloc (.cells #[.int .i64 s, .int .i64 b] 30)).alloc (.cells #[.int .i64 t, .int .i64 c] 30))).cell? ⟨W.heap.size, 1, none⟩ = some (.int .i64 b) := cell_of_row _ _ 1 _ _ _ rA1_.out
        have B_0_ : (((W.alloc (.cells #[.int .i64 s, .int .i64 b] 30)).alloc (.cells #[.int .i64 t, .int .i64 c] 30))).cell? ⟨W.heap.size + 1, 0, none⟩ = some (.int .i64 t) := cell_of_row _ _ 0 _ _ _ rB2_.out
        have B_1_ : (((W.alloc (.cells #[.int .i64 s, .int .i64 b] 30)).alloc (.cells #[.int .i64 t, .int .i64 c] 30))).cell? ⟨W.heap.size + 1, 1, none⟩ = some (.int .i64 c) := cell_of_row _ _ 1 _ _ _ rB2_.out
        go_wp2_with fail
        go_at_call 21
        refine (specBarOk_yes _ _ _ HB.out).mono ?_
        rintro e w1 ⟨rfl, hd⟩
        have g := hd
        clear hd
        clear A_0_ A_1_ B_0_ B_1_
        have rA4_ := Lib.hid (show (w1).heap[W.heap.size]? = some (.cells #[.int .i64 s, .int .i64 b] 30 (0, 0)) from row_held g rA1_.out)
        clear rA1_
        have rB5_ := Lib.hid (show (w1).heap[W.heap.size + 1]? = some (.cells #[.int .i64 t, .int .i64 c] 30 (0, 0)) from row_held g rB2_.out)
        clear rB2_
        have G6_ := Lib.hid (show (W).grownBy (w1) none from gby_trans G3_.out g)
        clear g
        have A_0_ : (w1).cell? ⟨W.heap.size, 0, none⟩ = some (.int .i64 s) := cell_of_row _ _ 0 _ _ _ rA4_.out
        have A_1_ : (w1).cell? ⟨W.heap.size, 1, none⟩ = some (.int .i64 b) := cell_of_row _ _ 1 _ _ _ rA4_.out
        have B_0_ : (w1).cell? ⟨W.heap.size + 1, 0, none⟩ = some (.int .i64 t) := cell_of_row _ _ 0 _ _ _ rB5_.out
        have B_1_ : (w1).cell? ⟨W.heap.size + 1, 1, none⟩ = some (.int .i64 c) := cell_of_row _ _ 1 _ _ _ rB5_.out
        go_wp2_with fail
        go_at_call 21
        refine (specBarOk_no _ _ _ HC.out).mono ?_
        rintro e w2 ⟨rfl, hd⟩
        have g := hd
        clear hd
        clear A_0_ A_1_ B_0_ B_1_
        have rA7_ := Lib.hid (show (w2).heap[W.heap.size]? = some (.cells #[.int .i64 s, .int .i64 b] 30 (0, 0)) from row_held g rA4_.out)
        clear rA4_
        have rB8_ := Lib.hid (show (w2).heap[W.heap.size + 1]? = some (.cells #[.int .i64 t, .int .i64 c] 30 (0, 0)) from row_held g rB5_.out)
        clear rB5_
        have G9_ := Lib.hid (show (W).grownBy (w2) none from gby_trans G6_.out g)
        clear g
        have A_0_ : (w2).cell? ⟨W.heap.size, 0, none⟩ = some (.int .i64 s) := cell_of_row _ _ 0 _ _ _ rA7_.out
        have A_1_ : (w2).cell? ⟨W.heap.size, 1, none⟩ = some (.int .i64 b) := cell_of_row _ _ 1 _ _ _ rA7_.out
        have B_0_ : (w2).cell? ⟨W.heap.size + 1, 0, none⟩ = some (.int .i64 t) := cell_of_row _ _ 0 _ _ _ rB8_.out
        have B_1_ : (w2).cell? ⟨W.heap.size + 1, 1, none⟩ = some (.int .i64 c) := cell_of_row _ _ 1 _ _ _ rB8_.out
        go_wp2
        go_ret
        exact ⟨rfl, G9_.out⟩
      · skip
        go_enter Try.func32, Try.ntmps32
        have rA1_ := Lib.hid (show (((W.alloc (.cells #[.int .i64 s, .int .i64 b] 30)).alloc (.cells #[.int .i64 t, .int .i64 c] 30))).heap[W.heap.size]? = some (.cells #[.int .i64 s, .int .i64 b] 30 (0, 0)) from by rw [heap_alloc_old _ _ (by simp only [World.size_alloc]; omega)]; exact heap_alloc_new _ _)
        have rB2_ := Lib.hid (show (((W.alloc (.cells #[.int .i64 s, .int .i64 b] 30)).alloc (.cells #[.int .i64 t, .int .i64 c] 30))).heap[W.heap.size + 1]? = some (.cells #[.int .i64 t, .int .i64 c] 30 (0, 0)) from by exact heap_pair _ _ _)
        have G3_ := Lib.hid (show (W).grownBy (((W.alloc (.cells #[.int .i64 s, .int .i64 b] 30)).alloc (.cells #[.int .i64 t, .int .i64 c] 30))) none from (gby_alloc (gby_alloc (gby_refl _ _) _) _))
        have A_0_ : (((W.alloc (.cells #[.int .i64 s, .int .i64 b] 30)).alloc (.cells #[.int .i64 t, .int .i64 c] 30))).cell? ⟨W.heap.size, 0, none⟩ = some (.int .i64 s) := cell_of_row _ _ 0 _ _ _ rA1_.out
        have A_1_ : (((W.alloc (.cells #[.int .i64 s, .int .i64 b] 30)).alloc (.cells #[.int .i64 t, .int .i64 c] 30))).cell? ⟨W.heap.size, 1, none⟩ = some (.int .i64 b) := cell_of_row _ _ 1 _ _ _ rA1_.out
        have B_0_ : (((W.alloc (.cells #[.int .i64 s, .int .i64 b] 30)).alloc (.cells #[.int .i64 t, .int .i64 c] 30))).cell? ⟨W.heap.size + 1, 0, none⟩ = some (.int .i64 t) := cell_of_row _ _ 0 _ _ _ rB2_.out
        have B_1_ : (((W.alloc (.cells #[.int .i64 s, .int .i64 b] 30)).alloc (.cells #[.int .i64 t, .int .i64 c] 30))).cell? ⟨W.heap.size + 1, 1, none⟩ = some (.int .i64 c) := cell_of_row _ _ 1 _ _ _ rB2_.out
        go_wp2_with fail
        go_at_call 23
        refine (implBarOk_yes _ _ _ HB.out).mono ?_
        rintro e w1 ⟨rfl, hd⟩
        have g := hd
        clear hd
        clear A_0_ A_1_ B_0_ B_1_
        have rA4_ := Lib.hid (show (w1).heap[W.heap.size]? = some (.cells #[.int .i64 s, .int .i64 b] 30 (0, 0)) from row_held g rA1_.out)
        clear rA1_
        have rB5_ := Lib.hid (show (w1).heap[W.heap.size + 1]? = some (.cells #[.int .i64 t, .int .i64 c] 30 (0, 0)) from row_held g rB2_.out)
        clear rB2_
        have G6_ := Lib.hid (show (W).grownBy (w1) none from gby_trans G3_.out g)
        clear g
        have A_0_ : (w1).cell? ⟨W.heap.size, 0, none⟩ = some (.int .i64 s) := cell_of_row _ _ 0 _ _ _ rA4_.out
        have A_1_ : (w1).cell? ⟨W.heap.size, 1, none⟩ = some (.int .i64 b) := cell_of_row _ _ 1 _ _ _ rA4_.out
        have B_0_ : (w1).cell? ⟨W.heap.size + 1, 0, none⟩ = some (.int .i64 t) := cell_of_row _ _ 0 _ _ _ rB5_.out
        have B_1_ : (w1).cell? ⟨W.heap.size + 1, 1, none⟩ = some (.int .i64 c) := cell_of_row _ _ 1 _ _ _ rB5_.out
        go_wp2_with fail
        go_at_call 23
        refine (implBarOk_no _ _ _ HC.out).mono ?_
        rintro e w2 ⟨rfl, hd⟩
        have g := hd
        clear hd
        clear A_0_ A_1_ B_0_ B_1_
        have rA7_ := Lib.hid (show (w2).heap[W.heap.size]? = some (.cells #[.int .i64 s, .int .i64 b] 30 (0, 0)) from row_held g rA4_.out)
        clear rA4_
        have rB8_ := Lib.hid (show (w2).heap[W.heap.size + 1]? = some (.cells #[.int .i64 t, .int .i64 c] 30 (0, 0)) from row_held g rB5_.out)
        clear rB5_
        have G9_ := Lib.hid (show (W).grownBy (w2) none from gby_trans G6_.out g)
        clear g
        have A_0_ : (w2).cell? ⟨W.heap.size, 0, none⟩ = some (.int .i64 s) := cell_of_row _ _ 0 _ _ _ rA7_.out
        have A_1_ : (w2).cell? ⟨W.heap.size, 1, none⟩ = some (.int .i64 b) := cell_of_row _ _ 1 _ _ _ rA7_.out
        have B_0_ : (w2).cell? ⟨W.heap.size + 1, 0, none⟩ = some (.int .i64 t) := cell_of_row _ _ 0 _ _ _ rB8_.out
        have B_1_ : (w2).cell? ⟨W.heap.size + 1, 1, none⟩ = some (.int .i64 c) := cell_of_row _ _ 1 _ _ _ rB8_.out
        go_wp2
        go_ret
        exact ⟨rfl, G9_.out⟩
  · have HB := Lib.hid hb
    clear hb
    refine ⟨false, fun W => ?_, fun W => ?_⟩
    · skip
      go_enter Try.func31, Try.ntmps31
      have rA1_ := Lib.hid (show (((W.alloc (.cells #[.int .i64 s, .int .i64 b] 30)).alloc (.cells #[.int .i64 t, .int .i64 c] 30))).heap[W.heap.size]? = some (.cells #[.int .i64 s, .int .i64 b] 30 (0, 0)) from by rw [heap_alloc_old _ _ (by simp only [World.size_alloc]; omega)]; exact heap_alloc_new _ _)
      have rB2_ := Lib.hid (show (((W.alloc (.cells #[.int .i64 s, .int .i64 b] 30)).alloc (.cells #[.int .i64 t, .int .i64 c] 30))).heap[W.heap.size + 1]? = some (.cells #[.int .i64 t, .int .i64 c] 30 (0, 0)) from by exact heap_pair _ _ _)
      have G3_ := Lib.hid (show (W).grownBy (((W.alloc (.cells #[.int .i64 s, .int .i64 b] 30)).alloc (.cells #[.int .i64 t, .int .i64 c] 30))) none from (gby_alloc (gby_alloc (gby_refl _ _) _) _))
      have A_0_ : (((W.alloc (.cells #[.int .i64 s, .int .i64 b] 30)).alloc (.cells #[.int .i64 t, .int .i64 c] 30))).cell? ⟨W.heap.size, 0, none⟩ = some (.int .i64 s) := cell_of_row _ _ 0 _ _ _ rA1_.out
      have A_1_ : (((W.alloc (.cells #[.int .i64 s, .int .i64 b] 30)).alloc (.cells #[.int .i64 t, .int .i64 c] 30))).cell? ⟨W.heap.size, 1, none⟩ = some (.int .i64 b) := cell_of_row _ _ 1 _ _ _ rA1_.out
      have B_0_ : (((W.alloc (.cells #[.int .i64 s, .int .i64 b] 30)).alloc (.cells #[.int .i64 t, .int .i64 c] 30))).cell? ⟨W.heap.size + 1, 0, none⟩ = some (.int .i64 t) := cell_of_row _ _ 0 _ _ _ rB2_.out
      have B_1_ : (((W.alloc (.cells #[.int .i64 s, .int .i64 b] 30)).alloc (.cells #[.int .i64 t, .int .i64 c] 30))).cell? ⟨W.heap.size + 1, 1, none⟩ = some (.int .i64 c) := cell_of_row _ _ 1 _ _ _ rB2_.out
      go_wp2_with fail
      go_at_call 21
      refine (specBarOk_no _ _ _ HB.out).mono ?_
      rintro e w1 ⟨rfl, hd⟩
      have g := hd
      clear hd
      clear A_0_ A_1_ B_0_ B_1_
      have rA4_ := Lib.hid (show (w1).heap[W.heap.size]? = some (.cells #[.int .i64 s, .int .i64 b] 30 (0, 0)) from row_held g rA1_.out)
      clear rA1_
      have rB5_ := Lib.hid (show (w1).heap[W.heap.size + 1]? = some (.cells #[.int .i64 t, .int .i64 c] 30 (0, 0)) from row_held g rB2_.out)
      clear rB2_
      have G6_ := Lib.hid (show (W).grownBy (w1) none from gby_trans G3_.out g)
      clear g
      have A_0_ : (w1).cell? ⟨W.heap.size, 0, none⟩ = some (.int .i64 s) := cell_of_row _ _ 0 _ _ _ rA4_.out
      have A_1_ : (w1).cell? ⟨W.heap.size, 1, none⟩ = some (.int .i64 b) := cell_of_row _ _ 1 _ _ _ rA4_.out
      have B_0_ : (w1).cell? ⟨W.heap.size + 1, 0, none⟩ = some (.int .i64 t) := cell_of_row _ _ 0 _ _ _ rB5_.out
      have B_1_ : (w1).cell? ⟨W.heap.size + 1, 1, none⟩ = some (.int .i64 c) := cell_of_row _ _ 1 _ _ _ rB5_.out
      go_wp2
      go_ret
      exact ⟨rfl, G6_.out⟩
    · skip
      go_enter Try.func32, Try.ntmps32
      have rA1_ := Lib.hid (show (((W.alloc (.cells #[.int .i64 s, .int .i64 b] 30)).alloc (.cells #[.int .i64 t, .int .i64 c] 30))).heap[W.heap.size]? = some (.cells #[.int .i64 s, .int .i64 b] 30 (0, 0)) from by rw [heap_alloc_old _ _ (by simp only [World.size_alloc]; omega)]; exact heap_alloc_new _ _)
      have rB2_ := Lib.hid (show (((W.alloc (.cells #[.int .i64 s, .int .i64 b] 30)).alloc (.cells #[.int .i64 t, .int .i64 c] 30))).heap[W.heap.size + 1]? = some (.cells #[.int .i64 t, .int .i64 c] 30 (0, 0)) from by exact heap_pair _ _ _)
      have G3_ := Lib.hid (show (W).grownBy (((W.alloc (.cells #[.int .i64 s, .int .i64 b] 30)).alloc (.cells #[.int .i64 t, .int .i64 c] 30))) none from (gby_alloc (gby_alloc (gby_refl _ _) _) _))
      have A_0_ : (((W.alloc (.cells #[.int .i64 s, .int .i64 b] 30)).alloc (.cells #[.int .i64 t, .int .i64 c] 30))).cell? ⟨W.heap.size, 0, none⟩ = some (.int .i64 s) := cell_of_row _ _ 0 _ _ _ rA1_.out
      have A_1_ : (((W.alloc (.cells #[.int .i64 s, .int .i64 b] 30)).alloc (.cells #[.int .i64 t, .int .i64 c] 30))).cell? ⟨W.heap.size, 1, none⟩ = some (.int .i64 b) := cell_of_row _ _ 1 _ _ _ rA1_.out
      have B_0_ : (((W.alloc (.cells #[.int .i64 s, .int .i64 b] 30)).alloc (.cells #[.int .i64 t, .int .i64 c] 30))).cell? ⟨W.heap.size + 1, 0, none⟩ = some (.int .i64 t) := cell_of_row _ _ 0 _ _ _ rB2_.out
      have B_1_ : (((W.alloc (.cells #[.int .i64 s, .int .i64 b] 30)).alloc (.cells #[.int .i64 t, .int .i64 c] 30))).cell? ⟨W.heap.size + 1, 1, none⟩ = some (.int .i64 c) := cell_of_row _ _ 1 _ _ _ rB2_.out
      go_wp2_with fail
      go_at_call 23
      refine (implBarOk_no _ _ _ HB.out).mono ?_
      rintro e w1 ⟨rfl, hd⟩
      have g := hd
      clear hd
      clear A_0_ A_1_ B_0_ B_1_
      have rA4_ := Lib.hid (show (w1).heap[W.heap.size]? = some (.cells #[.int .i64 s, .int .i64 b] 30 (0, 0)) from row_held g rA1_.out)
      clear rA1_
      have rB5_ := Lib.hid (show (w1).heap[W.heap.size + 1]? = some (.cells #[.int .i64 t, .int .i64 c] 30 (0, 0)) from row_held g rB2_.out)
      clear rB2_
      have G6_ := Lib.hid (show (W).grownBy (w1) none from gby_trans G3_.out g)
      clear g
      have A_0_ : (w1).cell? ⟨W.heap.size, 0, none⟩ = some (.int .i64 s) := cell_of_row _ _ 0 _ _ _ rA4_.out
      have A_1_ : (w1).cell? ⟨W.heap.size, 1, none⟩ = some (.int .i64 b) := cell_of_row _ _ 1 _ _ _ rA4_.out
      have B_0_ : (w1).cell? ⟨W.heap.size + 1, 0, none⟩ = some (.int .i64 t) := cell_of_row _ _ 0 _ _ _ rB5_.out
      have B_1_ : (w1).cell? ⟨W.heap.size + 1, 1, none⟩ = some (.int .i64 c) := cell_of_row _ _ 1 _ _ _ rB5_.out
      go_wp2
      go_ret
      exact ⟨rfl, G6_.out⟩

/-- the place of an address in a window, or -1 -/
def offD (xs : List DBar) (i x : Int) : Int := if 0 ≤ i ∧ i ≤ (xs.length : Int) - 1 then (if SpansP (xs.getD i.toNat default).f0 (xs.getD i.toNat default).f1 x then wrap64 (x - (xs.getD i.toNat default).f1) else -1) else -1

/-- .. -/
theorem specOff (W : World) (v : Value) (xs : List DBar) (H : RdL shBar W v xs) (hl : szL shBar xs ≤ 1048576) (i x : Int) : Calls Try.prog 37 #[v, .int .i64 i, .int .i64 x] W (AnsN (.int .i64 (offD xs i x)) W) := by
  have hl1 : xs.length ≤ 1048576 := Nat.le_trans (szL_len _ _) hl
  obtain ⟨a, cap, rfl, _, _, hr⟩ := H
  obtain ⟨len, hlen⟩ : ∃ len, len = xs.length := ⟨_, rfl⟩
  have HE := Lib.hid hlen
  have HR := Lib.hid hr
  rw [← hlen] at hl1 HR ⊢
  clear hl hr hlen
  by_cases hi : 0 ≤ i ∧ i ≤ (len : Int) - 1
  · obtain ⟨k, rfl⟩ : ∃ k : Nat, i = (k : Int) := ⟨i.toNat, by omega⟩
    have hk : k < len := by omega
    have hki : (k : Int) < (len : Int) := by omega
    have hk0 : (0 : Int) ≤ (k : Int) := by omega
    have htn : ((k : Int)).toNat = k := by omega
    obtain ⟨b, off, rfl, hcell⟩ := HR.out.resolve_left (by omega)
    obtain ⟨cs, hat, hrd⟩ := hcell k hk
    have ho : offD xs (k : Int) x = if SpansP (xs.getD k default).f0 (xs.getD k default).f1 x then wrap64 (x - (xs.getD k default).f1) else -1 := by
      unfold offD
      rw [if_pos ⟨by omega, by have := HE.out; omega⟩, htn]
    rw [ho]
    clear ho
    obtain ⟨y, hy⟩ : ∃ y, y = xs.getD k default := ⟨_, rfl⟩
    rw [← hy] at hrd ⊢
    obtain rfl : cs = [.int .i64 y.f0, .int .i64 y.f1] := hrd
    have c0 : W.cell? ⟨b, off + k * 2, none⟩ = some (.int .i64 y.f0) := at_cell (j := 0) hat rfl
    have c1 : W.cell? ⟨b, off + k * 2 + 1, none⟩ = some (.int .i64 y.f1) := at_cell (j := 1) hat rfl
    generalize y.f0 = s at c0 ⊢
    generalize y.f1 = bs at c1 ⊢
    clear hcell hat hy hi
    by_cases hs : SpansP s bs x
    · rw [if_pos hs]
      have HS := Lib.hid hs
      clear hs
      go_enter Try.func37, Try.ntmps37
      go_wp2_with fail
      go_at_call 51
      refine (in_yes _ _ _ _ (by omega) (by omega)).mono ?_
      rintro e w1 ⟨rfl, rfl⟩
      go_wp2_with fail
      go_at_call 60
      refine (cov_yes _ HS.out).mono ?_
      rintro e w2 ⟨rfl, g⟩
      have d1 := g.cell c1 (by simp)
      have HG := Lib.hid g
      clear g c0 c1
      go_wp2
      go_ret
      exact ⟨rfl, HG.out⟩
    · rw [if_neg hs]
      have HS := Lib.hid hs
      clear hs
      go_enter Try.func37, Try.ntmps37
      go_wp2_with fail
      go_at_call 51
      refine (in_yes _ _ _ _ (by omega) (by omega)).mono ?_
      rintro e w1 ⟨rfl, rfl⟩
      go_wp2_with fail
      go_at_call 60
      refine (cov_no _ HS.out).mono ?_
      rintro e w2 ⟨rfl, g⟩
      have HG := Lib.hid g
      clear g c0 c1
      go_wp2
      go_ret
      exact ⟨rfl, HG.out⟩
  · have ho : offD xs i x = -1 := by
      unfold offD
      rw [if_neg (fun q => hi (by have := HE.out; omega))]
    rw [ho]
    clear ho
    go_enter Try.func37, Try.ntmps37
    go_wp2_with fail
    go_at_call 51
    refine (in_no _ _ _ _ (by omega)).mono ?_
    rintro e w1 ⟨rfl, rfl⟩
    go_wp2
    go_ret
    exact ⟨rfl, gby_refl _ _⟩

/-- .. -/
theorem implOff (W : World) (v : Value) (xs : List DBar) (H : RdL shBar W v xs) (hl : szL shBar xs ≤ 1048576) (i x : Int) : Calls Try.prog 39 #[v, .int .i64 i, .int .i64 x] W (AnsN (.int .i64 (offD xs i x)) W) := by
  have hl1 : xs.length ≤ 1048576 := Nat.le_trans (szL_len _ _) hl
  obtain ⟨a, cap, rfl, _, _, hr⟩ := H
  obtain ⟨len, hlen⟩ : ∃ len, len = xs.length := ⟨_, rfl⟩
  have HE := Lib.hid hlen
  have HR := Lib.hid hr
  rw [← hlen] at hl1 HR ⊢
  clear hl hr hlen
  by_cases hi : 0 ≤ i ∧ i ≤ (len : Int) - 1
  · obtain ⟨k, rfl⟩ : ∃ k : Nat, i = (k : Int) := ⟨i.toNat, by omega⟩
    have hk : k < len := by omega
    have hki : (k : Int) < (len : Int) := by omega
    have hk0 : (0 : Int) ≤ (k : Int) := by omega
    have htn : ((k : Int)).toNat = k := by omega
    obtain ⟨b, off, rfl, hcell⟩ := HR.out.resolve_left (by omega)
    obtain ⟨cs, hat, hrd⟩ := hcell k hk
    have ho : offD xs (k : Int) x = if SpansP (xs.getD k default).f0 (xs.getD k default).f1 x then wrap64 (x - (xs.getD k default).f1) else -1 := by
      unfold offD
      rw [if_pos ⟨by omega, by have := HE.out; omega⟩, htn]
    rw [ho]
    clear ho
    obtain ⟨y, hy⟩ : ∃ y, y = xs.getD k default := ⟨_, rfl⟩
    rw [← hy] at hrd ⊢
    obtain rfl : cs = [.int .i64 y.f0, .int .i64 y.f1] := hrd
    have c0 : W.cell? ⟨b, off + k * 2, none⟩ = some (.int .i64 y.f0) := at_cell (j := 0) hat rfl
    have c1 : W.cell? ⟨b, off + k * 2 + 1, none⟩ = some (.int .i64 y.f1) := at_cell (j := 1) hat rfl
    generalize y.f0 = s at c0 ⊢
    generalize y.f1 = bs at c1 ⊢
    clear hcell hat hy hi
    by_cases hs : SpansP s bs x
    · rw [if_pos hs]
      have HS := Lib.hid hs
      clear hs
      go_enter Try.func39, Try.ntmps39
      go_wp2_with fail
      go_at_call 53
      refine (rng_yes _ _ _ _ (by omega) (by omega)).mono ?_
      rintro e w1 ⟨rfl, rfl⟩
      go_wp2_with fail
      go_at_call 55
      refine (spans_yes _ HS.out).mono ?_
      rintro e w2 ⟨rfl, g⟩
      have d1 := g.cell c1 (by simp)
      have HG := Lib.hid g
      clear g c0 c1
      go_wp2
      go_ret
      exact ⟨rfl, HG.out⟩
    · rw [if_neg hs]
      have HS := Lib.hid hs
      clear hs
      go_enter Try.func39, Try.ntmps39
      go_wp2_with fail
      go_at_call 53
      refine (rng_yes _ _ _ _ (by omega) (by omega)).mono ?_
      rintro e w1 ⟨rfl, rfl⟩
      go_wp2_with fail
      go_at_call 55
      refine (spans_no _ HS.out).mono ?_
      rintro e w2 ⟨rfl, g⟩
      have HG := Lib.hid g
      clear g c0 c1
      go_wp2
      go_ret
      exact ⟨rfl, HG.out⟩
  · have ho : offD xs i x = -1 := by
      unfold offD
      rw [if_neg (fun q => hi (by have := HE.out; omega))]
    rw [ho]
    clear ho
    go_enter Try.func39, Try.ntmps39
    go_wp2_with fail
    go_at_call 53
    refine (rng_no _ _ _ _ (by omega)).mono ?_
    rintro e w1 ⟨rfl, rfl⟩
    go_wp2
    go_ret
    exact ⟨rfl, gby_refl _ _⟩

theorem offsetOf_both (xs0 : List DBar) (i1 i2 : Int) (h0 : szL shBar xs0 ≤ 1048576) : ∃ ir0 : Int, (∀ (W : World), ∀ u0, RdL shBar W u0 xs0 → Calls Try.prog 37 #[u0, .int .i64 i1, .int .i64 i2] W (ResSOffsetOf ir0 W)) ∧ ∀ (W : World), ∀ u0, RdL shBar W u0 xs0 → Calls Try.prog 39 #[u0, .int .i64 i1, .int .i64 i2] W (ResIOffsetOf ir0 W) :=
  ⟨_, fun W u H => specOff W u xs0 H h0 i1 i2, fun W u H => implOff W u xs0 H h0 i1 i2⟩

end Go.Proofs.Ytoedgncidoldaaa
