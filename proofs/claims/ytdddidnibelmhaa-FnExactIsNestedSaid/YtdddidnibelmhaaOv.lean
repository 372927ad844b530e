/-
  Registers that overlap; offsets in windows: both sides.
-/
import Derived.Test.YtdddidnibelmhaaCov
import Derived.Test.YtdddidnibelmhaaRBarsOverlap
import Derived.Test.YtdddidnibelmhaaROffsetOf
import Derived.Test.YtdddidnibelmhaaQSBar
namespace Go.Proofs.Ytdddidnibelmhaa
open Go Go.RowKit
set_option linter.unusedVariables false

theorem spans_yes {s b x : Int} (W : World) (h : SpansP s b x) : Calls Try.prog 42 #[.agg #[.int .i64 s, .int .i64 b], .int .i64 x] W (AnsN (.bool true) W) := by
  have := implSpans s b x W
  rwa [decide_eq_true h] at this
theorem spans_no {s b x : Int} (W : World) (h : ¬ SpansP s b x) : Calls Try.prog 42 #[.agg #[.int .i64 s, .int .i64 b], .int .i64 x] W (AnsN (.bool false) W) := by
  have := implSpans s b x W
  rwa [decide_eq_false h] at this
theorem cov_yes {s b x : Int} (W : World) (h : SpansP s b x) : Calls Try.prog 35 #[.agg #[.int .i64 s, .int .i64 b], .int .i64 x] W (AnsN (.bool true) W) := by
  have := specCov s b x W
  rwa [decide_eq_true h] at this
theorem cov_no {s b x : Int} (W : World) (h : ¬ SpansP s b x) : Calls Try.prog 35 #[.agg #[.int .i64 s, .int .i64 b], .int .i64 x] W (AnsN (.bool false) W) := by
  have := specCov s b x W
  rwa [decide_eq_false h] at this

/-- two windows have a common address -/
def OvP (s b t c : Int) : Prop := 0 < s ∧ 0 < t ∧ (SpansP s b c ∨ SpansP t c b)
instance (s b t c : Int) : Decidable (OvP s b t c) := by unfold OvP; infer_instance

set_option maxHeartbeats 2000000 in
theorem implOv (s b t c : Int) (W : World) : Calls Try.prog 44 #[.agg #[.int .i64 s, .int .i64 b], .agg #[.int .i64 t, .int .i64 c]] W (AnsN (.bool (decide (OvP s b t c))) W) := by
  by_cases h1 : 0 < s
  · by_cases h2 : 0 < t
    · by_cases h3 : SpansP s b c
      · rw [show decide (OvP s b t c) = true from decide_eq_true ⟨h1, h2, .inl h3⟩]
        have H3 := Lib.hid h3
        clear h3
        go_enter Try.func44, Try.ntmps44
        have rA1_ := Lib.hid (show (((W.alloc (.cells #[.int .i64 s, .int .i64 b] 46)).alloc (.cells #[.int .i64 t, .int .i64 c] 46))).heap[W.heap.size]? = some (.cells #[.int .i64 s, .int .i64 b] 46 (0, 0)) from by rw [heap_alloc_old _ _ (by simp only [World.size_alloc]; omega)]; exact heap_alloc_new _ _)
        have rB2_ := Lib.hid (show (((W.alloc (.cells #[.int .i64 s, .int .i64 b] 46)).alloc (.cells #[.int .i64 t, .int .i64 c] 46))).heap[W.heap.size + 1]? = some (.cells #[.int .i64 t, .int .i64 c] 46 (0, 0)) from by exact heap_pair _ _ _)
        have G3_ := Lib.hid (show (W).grownBy (((W.alloc (.cells #[.int .i64 s, .int .i64 b] 46)).alloc (.cells #[.int .i64 t, .int .i64 c] 46))) none from (gby_alloc (gby_alloc (gby_refl _ _) _) _))
        have A_0_ : (((W.alloc (.cells #[.int .i64 s, .int .i64 b] 46)).alloc (.cells #[.int .i64 t, .int .i64 c] 46))).cell? ⟨W.heap.size, 0, none⟩ = some (.int .i64 s) := cell_of_row _ _ 0 _ _ _ rA1_.out
        have A_1_ : (((W.alloc (.cells #[.int .i64 s, .int .i64 b] 46)).alloc (.cells #[.int .i64 t, .int .i64 c] 46))).cell? ⟨W.heap.size, 1, none⟩ = some (.int .i64 b) := cell_of_row _ _ 1 _ _ _ rA1_.out
        have B_0_ : (((W.alloc (.cells #[.int .i64 s, .int .i64 b] 46)).alloc (.cells #[.int .i64 t, .int .i64 c] 46))).cell? ⟨W.heap.size + 1, 0, none⟩ = some (.int .i64 t) := cell_of_row _ _ 0 _ _ _ rB2_.out
        have B_1_ : (((W.alloc (.cells #[.int .i64 s, .int .i64 b] 46)).alloc (.cells #[.int .i64 t, .int .i64 c] 46))).cell? ⟨W.heap.size + 1, 1, none⟩ = some (.int .i64 c) := cell_of_row _ _ 1 _ _ _ rB2_.out
        go_wp2_with fail
        go_at_call 42
        refine (spans_yes _ H3.out).mono ?_
        rintro e w1 ⟨rfl, hd⟩
        have g := hd
        clear hd
        clear A_0_ A_1_ B_0_ B_1_
        have rA4_ := Lib.hid (show (w1).heap[W.heap.size]? = some (.cells #[.int .i64 s, .int .i64 b] 46 (0, 0)) from row_held g rA1_.out)
        clear rA1_
        have rB5_ := Lib.hid (show (w1).heap[W.heap.size + 1]? = some (.cells #[.int .i64 t, .int .i64 c] 46 (0, 0)) from row_held g rB2_.out)
        clear rB2_
        have G6_ := Lib.hid (show (W).grownBy (w1) none from gby_trans G3_.out g)
        clear g
        have A_0_ : (w1).cell? ⟨W.heap.size, 0, none⟩ = some (.int .i64 s) := cell_of_row _ _ 0 _ _ _ rA4_.out
        have A_1_ : (w1).cell? ⟨W.heap.size, 1, none⟩ = some (.int .i64 b) := cell_of_row _ _ 1 _ _ _ rA4_.out
        have B_0_ : (w1).cell? ⟨W.heap.size + 1, 0, none⟩ = some (.int .i64 t) := cell_of_row _ _ 0 _ _ _ rB5_.out
        have B_1_ : (w1).cell? ⟨W.heap.size + 1, 1, none⟩ = some (.int .i64 c) := cell_of_row _ _ 1 _ _ _ rB5_.out
        go_wp2
        go_ret
        exact ⟨rfl, G6_.out⟩
      · have H3 := Lib.hid h3
        by_cases h4 : SpansP t c b
        · rw [show decide (OvP s b t c) = true from decide_eq_true ⟨h1, h2, .inr h4⟩]
          have H4 := Lib.hid h4
          clear h3 h4
          go_enter Try.func44, Try.ntmps44
          have rA1_ := Lib.hid (show (((W.alloc (.cells #[.int .i64 s, .int .i64 b] 46)).alloc (.cells #[.int .i64 t, .int .i64 c] 46))).heap[W.heap.size]? = some (.cells #[.int .i64 s, .int .i64 b] 46 (0, 0)) from by rw [heap_alloc_old _ _ (by simp only [World.size_alloc]; omega)]; exact heap_alloc_new _ _)
          have rB2_ := Lib.hid (show (((W.alloc (.cells #[.int .i64 s, .int .i64 b] 46)).alloc (.cells #[.int .i64 t, .int .i64 c] 46))).heap[W.heap.size + 1]? = some (.cells #[.int .i64 t, .int .i64 c] 46 (0, 0)) from by exact heap_pair _ _ _)
          have G3_ := Lib.hid (show (W).grownBy (((W.alloc (.cells #[.int .i64 s, .int .i64 b] 46)).alloc (.cells #[.int .i64 t, .int .i64 c] 46))) none from (gby_alloc (gby_alloc (gby_refl _ _) _) _))
          have A_0_ : (((W.alloc (.cells #[.int .i64 s, .int .i64 b] 46)).alloc (.cells #[.int .i64 t, .int .i64 c] 46))).cell? ⟨W.heap.size, 0, none⟩ = some (.int .i64 s) := cell_of_row _ _ 0 _ _ _ rA1_.out
          have A_1_ : (((W.alloc (.cells #[.int .i64 s, .int .i64 b] 46)).alloc (.cells #[.int .i64 t, .int .i64 c] 46))).cell? ⟨W.heap.size, 1, none⟩ = some (.int .i64 b) := cell_of_row _ _ 1 _ _ _ rA1_.out
          have B_0_ : (((W.alloc (.cells #[.int .i64 s, .int .i64 b] 46)).alloc (.cells #[.int .i64 t, .int .i64 c] 46))).cell? ⟨W.heap.size + 1, 0, none⟩ = some (.int .i64 t) := cell_of_row _ _ 0 _ _ _ rB2_.out
          have B_1_ : (((W.alloc (.cells #[.int .i64 s, .int .i64 b] 46)).alloc (.cells #[.int .i64 t, .int .i64 c] 46))).cell? ⟨W.heap.size + 1, 1, none⟩ = some (.int .i64 c) := cell_of_row _ _ 1 _ _ _ rB2_.out
          go_wp2_with fail
          go_at_call 42
          refine (spans_no _ H3.out).mono ?_
          rintro e w1 ⟨rfl, hd⟩
          have g := hd
          clear hd
          clear A_0_ A_1_ B_0_ B_1_
          have rA4_ := Lib.hid (show (w1).heap[W.heap.size]? = some (.cells #[.int .i64 s, .int .i64 b] 46 (0, 0)) from row_held g rA1_.out)
          clear rA1_
          have rB5_ := Lib.hid (show (w1).heap[W.heap.size + 1]? = some (.cells #[.int .i64 t, .int .i64 c] 46 (0, 0)) from row_held g rB2_.out)
          clear rB2_
          have G6_ := Lib.hid (show (W).grownBy (w1) none from gby_trans G3_.out g)
          clear g
          have A_0_ : (w1).cell? ⟨W.heap.size, 0, none⟩ = some (.int .i64 s) := cell_of_row _ _ 0 _ _ _ rA4_.out
          have A_1_ : (w1).cell? ⟨W.heap.size, 1, none⟩ = some (.int .i64 b) := cell_of_row _ _ 1 _ _ _ rA4_.out
          have B_0_ : (w1).cell? ⟨W.heap.size + 1, 0, none⟩ = some (.int .i64 t) := cell_of_row _ _ 0 _ _ _ rB5_.out
          have B_1_ : (w1).cell? ⟨W.heap.size + 1, 1, none⟩ = some (.int .i64 c) := cell_of_row _ _ 1 _ _ _ rB5_.out
          go_wp2_with fail
          go_at_call 42
          refine (spans_yes _ H4.out).mono ?_
          rintro e w2 ⟨rfl, hd⟩
          have g := hd
          clear hd
          clear A_0_ A_1_ B_0_ B_1_
          have rA7_ := Lib.hid (show (w2).heap[W.heap.size]? = some (.cells #[.int .i64 s, .int .i64 b] 46 (0, 0)) from row_held g rA4_.out)
          clear rA4_
          have rB8_ := Lib.hid (show (w2).heap[W.heap.size + 1]? = some (.cells #[.int .i64 t, .int .i64 c] 46 (0, 0)) from row_held g rB5_.out)
          clear rB5_
          have G9_ := Lib.hid (show (W).grownBy (w2) none from gby_trans G6_.out g)
          clear g
          have A_0_ : (w2).cell? ⟨W.heap.size, 0, none⟩ = some (.int .i64 s) := cell_of_row _ _ 0 _ _ _ rA7_.out
          have A_1_ : (w2).cell? ⟨W.heap.size, 1, none⟩ = some (.int .i64 b) := cell_of_row _ _ 1 _ _ _ rA7_.out
          have B_0_ : (w2).cell? ⟨W.heap.size + 1, 0, none⟩ = some (.int .i64 t) := cell_of_row _ _ 0 _ _ _ rB8_.out
          have B_1_ : (w2).cell? ⟨W.heap.size + 1, 1, none⟩ = some (.int .i64 c) := cell_of_row _ _ 1 _ _ _ rB8_.out
          go_wp2
          go_ret
          exact ⟨rfl, G9_.out⟩
        · rw [show decide (OvP s b t c) = false from decide_eq_false (fun q => q.2.2.elim h3 h4)]
          have H4 := Lib.hid h4
          clear h3 h4
          go_enter Try.func44, Try.ntmps44
          have rA1_ := Lib.hid (show (((W.alloc (.cells #[.int .i64 s, .int .i64 b] 46)).alloc (.cells #[.int .i64 t, .int .i64 c] 46))).heap[W.heap.size]? = some (.cells #[.int .i64 s, .int .i64 b] 46 (0, 0)) from by rw [heap_alloc_old _ _ (by simp only [World.size_alloc]; omega)]; exact heap_alloc_new _ _)
          have rB2_ := Lib.hid (show (((W.alloc (.cells #[.int .i64 s, .int .i64 b] 46)).alloc (.cells #[.int .i64 t, .int .i64 c] 46))).heap[W.heap.size + 1]? = some (.cells #[.int .i64 t, .int .i64 c] 46 (0, 0)) from by exact heap_pair _ _ _)
          have G3_ := Lib.hid (show (W).grownBy (((W.alloc (.cells #[.int .i64 s, .int .i64 b] 46)).alloc (.cells #[.int .i64 t, .int .i64 c] 46))) none from (gby_alloc (gby_alloc (gby_refl _ _) _) _))
          have A_0_ : (((W.alloc (.cells #[.int .i64 s, .int .i64 b] 46)).alloc (.cells #[.int .i64 t, .int .i64 c] 46))).cell? ⟨W.heap.size, 0, none⟩ = some (.int .i64 s) := cell_of_row _ _ 0 _ _ _ rA1_.out
          have A_1_ : (((W.alloc (.cells #[.int .i64 s, .int .i64 b] 46)).alloc (.cells #[.int .i64 t, .int .i64 c] 46))).cell? ⟨W.heap.size, 1, none⟩ = some (.int .i64 b) := cell_of_row _ _ 1 _ _ _ rA1_.out
          have B_0_ : (((W.alloc (.cells #[.int .i64 s, .int .i64 b] 46)).alloc (.cells #[.int .i64 t, .int .i64 c] 46))).cell? ⟨W.heap.size + 1, 0, none⟩ = some (.int .i64 t) := cell_of_row _ _ 0 _ _ _ rB2_.out
          have B_1_ : (((W.alloc (.cells #[.int .i64 s, .int .i64 b] 46)).alloc (.cells #[.int .i64 t, .int .i64 c] 46))).cell? ⟨W.heap.size + 1, 1, none⟩ = some (.int .i64 c) := cell_of_row _ _ 1 _ _ _ rB2_.out
          go_wp2_with fail
          go_at_call 42
          refine (spans_no _ H3.out).mono ?_
          rintro e w1 ⟨rfl, hd⟩
          have g := hd
          clear hd
          clear A_0_ A_1_ B_0_ B_1_
          have rA4_ := Lib.hid (show (w1).heap[W.heap.size]? = some (.cells #[.int .i64 s, .int .i64 b] 46 (0, 0)) from row_held g rA1_.out)
          clear rA1_
          have rB5_ := Lib.hid (show (w1).heap[W.heap.size + 1]? = some (.cells #[.int .i64 t, .int .i64 c] 46 (0, 0)) from row_held g rB2_.out)
          clear rB2_
          have G6_ := Lib.hid (show (W).grownBy (w1) none from gby_trans G3_.out g)
          clear g
          have A_0_ : (w1).cell? ⟨W.heap.size, 0, none⟩ = some (.int .i64 s) := cell_of_row _ _ 0 _ _ _ rA4_.out
          have A_1_ : (w1).cell? ⟨W.heap.size, 1, none⟩ = some (.int .i64 b) := cell_of_row _ _ 1 _ _ _ rA4_.out
          have B_0_ : (w1).cell? ⟨W.heap.size + 1, 0, none⟩ = some (.int .i64 t) := cell_of_row _ _ 0 _ _ _ rB5_.out
          have B_1_ : (w1).cell? ⟨W.heap.size + 1, 1, none⟩ = some (.int .i64 c) := cell_of_row _ _ 1 _ _ _ rB5_.out
          go_wp2_with fail
          go_at_call 42
          refine (spans_no _ H4.out).mono ?_
          rintro e w2 ⟨rfl, hd⟩
          have g := hd
          clear hd
          clear A_0_ A_1_ B_0_ B_1_
          have rA7_ := Lib.hid (show (w2).heap[W.heap.size]? = some (.cells #[.int .i64 s, .int .i64 b] 46 (0, 0)) from row_held g rA4_.out)
          clear rA4_
          have rB8_ := Lib.hid (show (w2).heap[W.heap.size + 1]? = some (.cells #[.int .i64 t, .int .i64 c] 46 (0, 0)) from row_held g rB5_.out)
          clear rB5_
          have G9_ := Lib.hid (show (W).grownBy (w2) none from gby_trans G6_.out g)
          clear g
          have A_0_ : (w2).cell? ⟨W.heap.size, 0, none⟩ = some (.int .i64 s) := cell_of_row _ _ 0 _ _ _ rA7_.out
          have A_1_ : (w2).cell? ⟨W.heap.size, 1, none⟩ = some (.int .i64 b) := cell_of_row _ _ 1 _ _ _ rA7_.out
          have B_0_ : (w2).cell? ⟨W.heap.size + 1, 0, none⟩ = some (.int .i64 t) := cell_of_row _ _ 0 _ _ _ rB8_.out
          have B_1_ : (w2).cell? ⟨W.heap.size + 1, 1, none⟩ = some (.int .i64 c) := cell_of_row _ _ 1 _ _ _ rB8_.out
          go_wp2
          go_ret
          exact ⟨rfl, G9_.out⟩
    · rw [show decide (OvP s b t c) = false from decide_eq_false (fun q => h2 q.2.1)]
      go_enter Try.func44, Try.ntmps44
      have rA1_ := Lib.hid (show (((W.alloc (.cells #[.int .i64 s, .int .i64 b] 46)).alloc (.cells #[.int .i64 t, .int .i64 c] 46))).heap[W.heap.size]? = some (.cells #[.int .i64 s, .int .i64 b] 46 (0, 0)) from by rw [heap_alloc_old _ _ (by simp only [World.size_alloc]; omega)]; exact heap_alloc_new _ _)
      have rB2_ := Lib.hid (show (((W.alloc (.cells #[.int .i64 s, .int .i64 b] 46)).alloc (.cells #[.int .i64 t, .int .i64 c] 46))).heap[W.heap.size + 1]? = some (.cells #[.int .i64 t, .int .i64 c] 46 (0, 0)) from by exact heap_pair _ _ _)
      have G3_ := Lib.hid (show (W).grownBy (((W.alloc (.cells #[.int .i64 s, .int .i64 b] 46)).alloc (.cells #[.int .i64 t, .int .i64 c] 46))) none from (gby_alloc (gby_alloc (gby_refl _ _) _) _))
      have A_0_ : (((W.alloc (.cells #[.int .i64 s, .int .i64 b] 46)).alloc (.cells #[.int .i64 t, .int .i64 c] 46))).cell? ⟨W.heap.size, 0, none⟩ = some (.int .i64 s) := cell_of_row _ _ 0 _ _ _ rA1_.out
      have A_1_ : (((W.alloc (.cells #[.int .i64 s, .int .i64 b] 46)).alloc (.cells #[.int .i64 t, .int .i64 c] 46))).cell? ⟨W.heap.size, 1, none⟩ = some (.int .i64 b) := cell_of_row _ _ 1 _ _ _ rA1_.out
      have B_0_ : (((W.alloc (.cells #[.int .i64 s, .int .i64 b] 46)).alloc (.cells #[.int .i64 t, .int .i64 c] 46))).cell? ⟨W.heap.size + 1, 0, none⟩ = some (.int .i64 t) := cell_of_row _ _ 0 _ _ _ rB2_.out
      have B_1_ : (((W.alloc (.cells #[.int .i64 s, .int .i64 b] 46)).alloc (.cells #[.int .i64 t, .int .i64 c] 46))).cell? ⟨W.heap.size + 1, 1, none⟩ = some (.int .i64 c) := cell_of_row _ _ 1 _ _ _ rB2_.out
      go_wp2
      go_ret
      exact ⟨rfl, G3_.out⟩
  · rw [show decide (OvP s b t c) = false from decide_eq_false (fun q => h1 q.1)]
    go_enter Try.func44, Try.ntmps44
    have rA1_ := Lib.hid (show (((W.alloc (.cells #[.int .i64 s, .int .i64 b] 46)).alloc (.cells #[.int .i64 t, .int .i64 c] 46))).heap[W.heap.size]? = some (.cells #[.int .i64 s, .int .i64 b] 46 (0, 0)) from by rw [heap_alloc_old _ _ (by simp only [World.size_alloc]; omega)]; exact heap_alloc_new _ _)
    have rB2_ := Lib.hid (show (((W.alloc (.cells #[.int .i64 s, .int .i64 b] 46)).alloc (.cells #[.int .i64 t, .int .i64 c] 46))).heap[W.heap.size + 1]? = some (.cells #[.int .i64 t, .int .i64 c] 46 (0, 0)) from by exact heap_pair _ _ _)
    have G3_ := Lib.hid (show (W).grownBy (((W.alloc (.cells #[.int .i64 s, .int .i64 b] 46)).alloc (.cells #[.int .i64 t, .int .i64 c] 46))) none from (gby_alloc (gby_alloc (gby_refl _ _) _) _))
    have A_0_ : (((W.alloc (.cells #[.int .i64 s, .int .i64 b] 46)).alloc (.cells #[.int .i64 t, .int .i64 c] 46))).cell? ⟨W.heap.size, 0, none⟩ = some (.int .i64 s) := cell_of_row _ _ 0 _ _ _ rA1_.out
    have A_1_ : (((W.alloc (.cells #[.int .i64 s, .int .i64 b] 46)).alloc (.cells #[.int .i64 t, .int .i64 c] 46))).cell? ⟨W.heap.size, 1, none⟩ = some (.int .i64 b) := cell_of_row _ _ 1 _ _ _ rA1_.out
    have B_0_ : (((W.alloc (.cells #[.int .i64 s, .int .i64 b] 46)).alloc (.cells #[.int .i64 t, .int .i64 c] 46))).cell? ⟨W.heap.size + 1, 0, none⟩ = some (.int .i64 t) := cell_of_row _ _ 0 _ _ _ rB2_.out
    have B_1_ : (((W.alloc (.cells #[.int .i64 s, .int .i64 b] 46)).alloc (.cells #[.int .i64 t, .int .i64 c] 46))).cell? ⟨W.heap.size + 1, 1, none⟩ = some (.int .i64 c) := cell_of_row _ _ 1 _ _ _ rB2_.out
    go_wp2
    go_ret
    exact ⟨rfl, G3_.out⟩

theorem bok_bounds {s b : Int} (h : BOk s b) : (s = 0 ∧ b = 0) ∨ (16 ≤ s ∧ s ≤ 32768 ∧ 0 ≤ b ∧ b ≤ 65536 - s) := by
  rcases h with q | ⟨q, ⟨q1, q2⟩, _⟩
  · exact .inl q
  · exact .inr ⟨q.2.1, q.2.2, q1, q2⟩

/-- the place of an address in a window, or -1 -/
def offD (xs : List DBar) (i x : Int) : Int := if 0 ≤ i ∧ i ≤ (xs.length : Int) - 1 then (if SpansP (xs.getD i.toNat default).f0 (xs.getD i.toNat default).f1 x then wrap64 (x - (xs.getD i.toNat default).f1) else -1) else -1

end Go.Proofs.Ytdddidnibelmhaa
