/-
  Registers written, read from a mask, and compared, on both sides.
-/
import Derived.Test.YtoedgncidoldaaaBar
import Derived.Test.YtoedgncidoldaaaDraw
import Derived.StillTailTactics
namespace Go.Proofs.Ytoedgncidoldaaa
open Go Go.RowKit
set_option linter.unusedVariables false

theorem specWr_no (s b v : Int) (W : World) (h : ¬ (BOk s b ∧ (0 ≤ v ∧ v ≤ 65535) ∧ s ≠ 0)) : Calls Try.prog 24 #[.agg #[.int .i64 s, .int .i64 b], .int .i64 v] W (AnsN (.agg #[.int .i64 s, .int .i64 b]) W) := by
  by_cases hb : BOk s b
  · have HB := Lib.hid hb
    by_cases hv : 0 ≤ v ∧ v ≤ 65535
    · obtain rfl : s = 0 := by
        rcases Decidable.em (s = 0) with q | q
        · exact q
        · exact absurd ⟨hb, hv, q⟩ h
      obtain rfl : b = 0 := by
        rcases hb with ⟨_, q⟩ | ⟨q, _⟩
        · exact q
        · have := q.2.1; omega
      clear h hb
      go_enter Try.func24, Try.ntmps24
      have rA1_ := Lib.hid (show (((W.alloc (.cells #[.int .i64 0, .int .i64 0] 30)).alloc (.cells #[.int .i64 0, .int .i64 0] 30))).heap[W.heap.size]? = some (.cells #[.int .i64 0, .int .i64 0] 30 (0, 0)) from by rw [heap_alloc_old _ _ (by simp only [World.size_alloc]; omega)]; exact heap_alloc_new _ _)
      have rR2_ := Lib.hid (show (((W.alloc (.cells #[.int .i64 0, .int .i64 0] 30)).alloc (.cells #[.int .i64 0, .int .i64 0] 30))).heap[W.heap.size + 1]? = some (.cells #[.int .i64 0, .int .i64 0] 30 (0, 0)) from by exact heap_pair _ _ _)
      have G3_ := Lib.hid (show (W).grownBy (((W.alloc (.cells #[.int .i64 0, .int .i64 0] 30)).alloc (.cells #[.int .i64 0, .int .i64 0] 30))) none from (gby_alloc (gby_alloc (gby_refl _ _) _) _))
      have A_0_ : (((W.alloc (.cells #[.int .i64 0, .int .i64 0] 30)).alloc (.cells #[.int .i64 0, .int .i64 0] 30))).cell? ⟨W.heap.size, 0, none⟩ = some (.int .i64 0) := cell_of_row _ _ 0 _ _ _ rA1_.out
      have A_1_ : (((W.alloc (.cells #[.int .i64 0, .int .i64 0] 30)).alloc (.cells #[.int .i64 0, .int .i64 0] 30))).cell? ⟨W.heap.size, 1, none⟩ = some (.int .i64 0) := cell_of_row _ _ 1 _ _ _ rA1_.out
      have R_0_ : (((W.alloc (.cells #[.int .i64 0, .int .i64 0] 30)).alloc (.cells #[.int .i64 0, .int .i64 0] 30))).cell? ⟨W.heap.size + 1, 0, none⟩ = some (.int .i64 0) := cell_of_row _ _ 0 _ _ _ rR2_.out
      have R_1_ : (((W.alloc (.cells #[.int .i64 0, .int .i64 0] 30)).alloc (.cells #[.int .i64 0, .int .i64 0] 30))).cell? ⟨W.heap.size + 1, 1, none⟩ = some (.int .i64 0) := cell_of_row _ _ 1 _ _ _ rR2_.out
      go_wp2_with fail
      go_at_call 21
      refine (specBarOk_yes _ _ _ HB.out).mono ?_
      rintro e w1 ⟨rfl, hd⟩
      have g := hd
      clear hd
      clear A_0_ A_1_ R_0_ R_1_
      have rA4_ := Lib.hid (show (w1).heap[W.heap.size]? = some (.cells #[.int .i64 0, .int .i64 0] 30 (0, 0)) from row_held g rA1_.out)
      clear rA1_
      have rR5_ := Lib.hid (show (w1).heap[W.heap.size + 1]? = some (.cells #[.int .i64 0, .int .i64 0] 30 (0, 0)) from row_held g rR2_.out)
      clear rR2_
      have G6_ := Lib.hid (show (W).grownBy (w1) none from gby_trans G3_.out g)
      clear g
      have A_0_ : (w1).cell? ⟨W.heap.size, 0, none⟩ = some (.int .i64 0) := cell_of_row _ _ 0 _ _ _ rA4_.out
      have A_1_ : (w1).cell? ⟨W.heap.size, 1, none⟩ = some (.int .i64 0) := cell_of_row _ _ 1 _ _ _ rA4_.out
      have R_0_ : (w1).cell? ⟨W.heap.size + 1, 0, none⟩ = some (.int .i64 0) := cell_of_row _ _ 0 _ _ _ rR5_.out
      have R_1_ : (w1).cell? ⟨W.heap.size + 1, 1, none⟩ = some (.int .i64 0) := cell_of_row _ _ 1 _ _ _ rR5_.out
      go_wp2_with fail
      go_at_call 51
      refine (in_yes _ _ _ _ (by omega) (by omega)).mono ?_
      rintro e w2 ⟨rfl, rfl⟩
      clear A_0_ A_1_ R_0_ R_1_
      have A_0_ : (w1).cell? ⟨W.heap.size, 0, none⟩ = some (.int .i64 0) := cell_of_row _ _ 0 _ _ _ rA4_.out
      have A_1_ : (w1).cell? ⟨W.heap.size, 1, none⟩ = some (.int .i64 0) := cell_of_row _ _ 1 _ _ _ rA4_.out
      have Af0_ : (w1).frozen? ⟨W.heap.size, 0, none⟩ = false := frozen_of_row _ _ 0 _ _ rA4_.out
      have Af1_ : (w1).frozen? ⟨W.heap.size, 1, none⟩ = false := frozen_of_row _ _ 1 _ _ rA4_.out
      have R_0_ : (w1).cell? ⟨W.heap.size + 1, 0, none⟩ = some (.int .i64 0) := cell_of_row _ _ 0 _ _ _ rR5_.out
      have R_1_ : (w1).cell? ⟨W.heap.size + 1, 1, none⟩ = some (.int .i64 0) := cell_of_row _ _ 1 _ _ _ rR5_.out
      have Rf0_ : (w1).frozen? ⟨W.heap.size + 1, 0, none⟩ = false := frozen_of_row _ _ 0 _ _ rR5_.out
      have Rf1_ : (w1).frozen? ⟨W.heap.size + 1, 1, none⟩ = false := frozen_of_row _ _ 1 _ _ rR5_.out
      have ZR := Lib.hid (heap_setCell_same _ _ 1 _ _ (.int .i64 0) (heap_setCell_same _ _ 0 _ _ (.int .i64 0) rR5_.out))
      have z0_ : ((w1.setCell ⟨W.heap.size + 1, 0, none⟩ (.int .i64 0)).setCell ⟨W.heap.size + 1, 1, none⟩ (.int .i64 0)).cell? ⟨W.heap.size + 1, 0, none⟩ = some (.int .i64 0) := cell_of_row _ _ 0 _ _ _ ZR.out
      have z1_ : ((w1.setCell ⟨W.heap.size + 1, 0, none⟩ (.int .i64 0)).setCell ⟨W.heap.size + 1, 1, none⟩ (.int .i64 0)).cell? ⟨W.heap.size + 1, 1, none⟩ = some (.int .i64 0) := cell_of_row _ _ 1 _ _ _ ZR.out
      go_wp2
      refine bodyPost_ret (v := .agg #[.int .i64 0, .int .i64 0]) (by simp [results, go_sem, z0_, z1_]) rfl ⟨rfl, ?_⟩
      repeat (with_reducible refine gby_setnew ?_ _ (by dsimp only; omega) _)
      exact G6_.out
    · clear h hb
      go_enter Try.func24, Try.ntmps24
      have rA1_ := Lib.hid (show (((W.alloc (.cells #[.int .i64 s, .int .i64 b] 30)).alloc (.cells #[.int .i64 0, .int .i64 0] 30))).heap[W.heap.size]? = some (.cells #[.int .i64 s, .int .i64 b] 30 (0, 0)) from by rw [heap_alloc_old _ _ (by simp only [World.size_alloc]; omega)]; exact heap_alloc_new _ _)
      have rR2_ := Lib.hid (show (((W.alloc (.cells #[.int .i64 s, .int .i64 b] 30)).alloc (.cells #[.int .i64 0, .int .i64 0] 30))).heap[W.heap.size + 1]? = some (.cells #[.int .i64 0, .int .i64 0] 30 (0, 0)) from by exact heap_pair _ _ _)
      have G3_ := Lib.hid (show (W).grownBy (((W.alloc (.cells #[.int .i64 s, .int .i64 b] 30)).alloc (.cells #[.int .i64 0, .int .i64 0] 30))) none from (gby_alloc (gby_alloc (gby_refl _ _) _) _))
      have A_0_ : (((W.alloc (.cells #[.int .i64 s, .int .i64 b] 30)).alloc (.cells #[.int .i64 0, .int .i64 0] 30))).cell? ⟨W.heap.size, 0, none⟩ = some (.int .i64 s) := cell_of_row _ _ 0 _ _ _ rA1_.out
      have A_1_ : (((W.alloc (.cells #[.int .i64 s, .int .i64 b] 30)).alloc (.cells #[.int .i64 0, .int .i64 0] 30))).cell? ⟨W.heap.size, 1, none⟩ = some (.int .i64 b) := cell_of_row _ _ 1 _ _ _ rA1_.out
      have R_0_ : (((W.alloc (.cells #[.int .i64 s, .int .i64 b] 30)).alloc (.cells #[.int .i64 0, .int .i64 0] 30))).cell? ⟨W.heap.size + 1, 0, none⟩ = some (.int .i64 0) := cell_of_row _ _ 0 _ _ _ rR2_.out
      have R_1_ : (((W.alloc (.cells #[.int .i64 s, .int .i64 b] 30)).alloc (.cells #[.int .i64 0, .int .i64 0] 30))).cell? ⟨W.heap.size + 1, 1, none⟩ = some (.int .i64 0) := cell_of_row _ _ 1 _ _ _ rR2_.out
      go_wp2_with fail
      go_at_call 21
      refine (specBarOk_yes _ _ _ HB.out).mono ?_
      rintro e w1 ⟨rfl, hd⟩
      have g := hd
      clear hd
      clear A_0_ A_1_ R_0_ R_1_
      have rA4_ := Lib.hid (show (w1).heap[W.heap.size]? = some (.cells #[.int .i64 s, .int .i64 b] 30 (0, 0)) from row_held g rA1_.out)
      clear rA1_
      have rR5_ := Lib.hid (show (w1).heap[W.heap.size + 1]? = some (.cells #[.int .i64 0, .int .i64 0] 30 (0, 0)) from row_held g rR2_.out)
      clear rR2_
      have G6_ := Lib.hid (show (W).grownBy (w1) none from gby_trans G3_.out g)
      clear g
      have A_0_ : (w1).cell? ⟨W.heap.size, 0, none⟩ = some (.int .i64 s) := cell_of_row _ _ 0 _ _ _ rA4_.out
      have A_1_ : (w1).cell? ⟨W.heap.size, 1, none⟩ = some (.int .i64 b) := cell_of_row _ _ 1 _ _ _ rA4_.out
      have R_0_ : (w1).cell? ⟨W.heap.size + 1, 0, none⟩ = some (.int .i64 0) := cell_of_row _ _ 0 _ _ _ rR5_.out
      have R_1_ : (w1).cell? ⟨W.heap.size + 1, 1, none⟩ = some (.int .i64 0) := cell_of_row _ _ 1 _ _ _ rR5_.out
      go_wp2_with fail
      go_at_call 51
      refine (in_no _ _ _ _ (by omega)).mono ?_
      rintro e w2 ⟨rfl, rfl⟩
      clear A_0_ A_1_ R_0_ R_1_
      have A_0_ : (w1).cell? ⟨W.heap.size, 0, none⟩ = some (.int .i64 s) := cell_of_row _ _ 0 _ _ _ rA4_.out
      have A_1_ : (w1).cell? ⟨W.heap.size, 1, none⟩ = some (.int .i64 b) := cell_of_row _ _ 1 _ _ _ rA4_.out
      have Af0_ : (w1).frozen? ⟨W.heap.size, 0, none⟩ = false := frozen_of_row _ _ 0 _ _ rA4_.out
      have Af1_ : (w1).frozen? ⟨W.heap.size, 1, none⟩ = false := frozen_of_row _ _ 1 _ _ rA4_.out
      have R_0_ : (w1).cell? ⟨W.heap.size + 1, 0, none⟩ = some (.int .i64 0) := cell_of_row _ _ 0 _ _ _ rR5_.out
      have R_1_ : (w1).cell? ⟨W.heap.size + 1, 1, none⟩ = some (.int .i64 0) := cell_of_row _ _ 1 _ _ _ rR5_.out
      have Rf0_ : (w1).frozen? ⟨W.heap.size + 1, 0, none⟩ = false := frozen_of_row _ _ 0 _ _ rR5_.out
      have Rf1_ : (w1).frozen? ⟨W.heap.size + 1, 1, none⟩ = false := frozen_of_row _ _ 1 _ _ rR5_.out
      have ZR := Lib.hid (heap_setCell_same _ _ 1 _ _ (.int .i64 b) (heap_setCell_same _ _ 0 _ _ (.int .i64 s) rR5_.out))
      have z0_ : ((w1.setCell ⟨W.heap.size + 1, 0, none⟩ (.int .i64 s)).setCell ⟨W.heap.size + 1, 1, none⟩ (.int .i64 b)).cell? ⟨W.heap.size + 1, 0, none⟩ = some (.int .i64 s) := cell_of_row _ _ 0 _ _ _ ZR.out
      have z1_ : ((w1.setCell ⟨W.heap.size + 1, 0, none⟩ (.int .i64 s)).setCell ⟨W.heap.size + 1, 1, none⟩ (.int .i64 b)).cell? ⟨W.heap.size + 1, 1, none⟩ = some (.int .i64 b) := cell_of_row _ _ 1 _ _ _ ZR.out
      go_wp2
      refine bodyPost_ret (v := .agg #[.int .i64 s, .int .i64 b]) (by simp [results, go_sem, z0_, z1_]) rfl ⟨rfl, ?_⟩
      repeat (with_reducible refine gby_setnew ?_ _ (by dsimp only; omega) _)
      exact G6_.out
  · have HB := Lib.hid hb
    clear h hb
    go_enter Try.func24, Try.ntmps24
    have rA1_ := Lib.hid (show (((W.alloc (.cells #[.int .i64 s, .int .i64 b] 30)).alloc (.cells #[.int .i64 0, .int .i64 0] 30))).heap[W.heap.size]? = some (.cells #[.int .i64 s, .int .i64 b] 30 (0, 0)) from by rw [heap_alloc_old _ _ (by simp only [World.size_alloc]; omega)]; exact heap_alloc_new _ _)
    have rR2_ := Lib.hid (show (((W.alloc (.cells #[.int .i64 s, .int .i64 b] 30)).alloc (.cells #[.int .i64 0, .int .i64 0] 30))).heap[W.heap.size + 1]? = some (.cells #[.int .i64 0, .int .i64 0] 30 (0, 0)) from by exact heap_pair _ _ _)
    have G3_ := Lib.hid (show (W).grownBy (((W.alloc (.cells #[.int .i64 s, .int .i64 b] 30)).alloc (.cells #[.int .i64 0, .int .i64 0] 30))) none from (gby_alloc (gby_alloc (gby_refl _ _) _) _))
    have A_0_ : (((W.alloc (.cells #[.int .i64 s, .int .i64 b] 30)).alloc (.cells #[.int .i64 0, .int .i64 0] 30))).cell? ⟨W.heap.size, 0, none⟩ = some (.int .i64 s) := cell_of_row _ _ 0 _ _ _ rA1_.out
    have A_1_ : (((W.alloc (.cells #[.int .i64 s, .int .i64 b] 30)).alloc (.cells #[.int .i64 0, .int .i64 0] 30))).cell? ⟨W.heap.size, 1, none⟩ = some (.int .i64 b) := cell_of_row _ _ 1 _ _ _ rA1_.out
    have R_0_ : (((W.alloc (.cells #[.int .i64 s, .int .i64 b] 30)).alloc (.cells #[.int .i64 0, .int .i64 0] 30))).cell? ⟨W.heap.size + 1, 0, none⟩ = some (.int .i64 0) := cell_of_row _ _ 0 _ _ _ rR2_.out
    have R_1_ : (((W.alloc (.cells #[.int .i64 s, .int .i64 b] 30)).alloc (.cells #[.int .i64 0, .int .i64 0] 30))).cell? ⟨W.heap.size + 1, 1, none⟩ = some (.int .i64 0) := cell_of_row _ _ 1 _ _ _ rR2_.out
    go_wp2_with fail
    go_at_call 21
    refine (specBarOk_no _ _ _ HB.out).mono ?_
    rintro e w1 ⟨rfl, hd⟩
    have g := hd
    clear hd
    clear A_0_ A_1_ R_0_ R_1_
    have rA4_ := Lib.hid (show (w1).heap[W.heap.size]? = some (.cells #[.int .i64 s, .int .i64 b] 30 (0, 0)) from row_held g rA1_.out)
    clear rA1_
    have rR5_ := Lib.hid (show (w1).heap[W.heap.size + 1]? = some (.cells #[.int .i64 0, .int .i64 0] 30 (0, 0)) from row_held g rR2_.out)
    clear rR2_
    have G6_ := Lib.hid (show (W).grownBy (w1) none from gby_trans G3_.out g)
    clear g
    have A_0_ : (w1).cell? ⟨W.heap.size, 0, none⟩ = some (.int .i64 s) := cell_of_row _ _ 0 _ _ _ rA4_.out
    have A_1_ : (w1).cell? ⟨W.heap.size, 1, none⟩ = some (.int .i64 b) := cell_of_row _ _ 1 _ _ _ rA4_.out
    have R_0_ : (w1).cell? ⟨W.heap.size + 1, 0, none⟩ = some (.int .i64 0) := cell_of_row _ _ 0 _ _ _ rR5_.out
    have R_1_ : (w1).cell? ⟨W.heap.size + 1, 1, none⟩ = some (.int .i64 0) := cell_of_row _ _ 1 _ _ _ rR5_.out
    clear A_0_ A_1_ R_0_ R_1_
    have A_0_ : (w1).cell? ⟨W.heap.size, 0, none⟩ = some (.int .i64 s) := cell_of_row _ _ 0 _ _ _ rA4_.out
    have A_1_ : (w1).cell? ⟨W.heap.size, 1, none⟩ = some (.int .i64 b) := cell_of_row _ _ 1 _ _ _ rA4_.out
    have Af0_ : (w1).frozen? ⟨W.heap.size, 0, none⟩ = false := frozen_of_row _ _ 0 _ _ rA4_.out
    have Af1_ : (w1).frozen? ⟨W.heap.size, 1, none⟩ = false := frozen_of_row _ _ 1 _ _ rA4_.out
    have R_0_ : (w1).cell? ⟨W.heap.size + 1, 0, none⟩ = some (.int .i64 0) := cell_of_row _ _ 0 _ _ _ rR5_.out
    have R_1_ : (w1).cell? ⟨W.heap.size + 1, 1, none⟩ = some (.int .i64 0) := cell_of_row _ _ 1 _ _ _ rR5_.out
    have Rf0_ : (w1).frozen? ⟨W.heap.size + 1, 0, none⟩ = false := frozen_of_row _ _ 0 _ _ rR5_.out
    have Rf1_ : (w1).frozen? ⟨W.heap.size + 1, 1, none⟩ = false := frozen_of_row _ _ 1 _ _ rR5_.out
    have ZR := Lib.hid (heap_setCell_same _ _ 1 _ _ (.int .i64 b) (heap_setCell_same _ _ 0 _ _ (.int .i64 s) rR5_.out))
    have z0_ : ((w1.setCell ⟨W.heap.size + 1, 0, none⟩ (.int .i64 s)).setCell ⟨W.heap.size + 1, 1, none⟩ (.int .i64 b)).cell? ⟨W.heap.size + 1, 0, none⟩ = some (.int .i64 s) := cell_of_row _ _ 0 _ _ _ ZR.out
    have z1_ : ((w1.setCell ⟨W.heap.size + 1, 0, none⟩ (.int .i64 s)).setCell ⟨W.heap.size + 1, 1, none⟩ (.int .i64 b)).cell? ⟨W.heap.size + 1, 1, none⟩ = some (.int .i64 b) := cell_of_row _ _ 1 _ _ _ ZR.out
    go_wp2
    refine bodyPost_ret (v := .agg #[.int .i64 s, .int .i64 b]) (by simp [results, go_sem, z0_, z1_]) rfl ⟨rfl, ?_⟩
    repeat (with_reducible refine gby_setnew ?_ _ (by dsimp only; omega) _)
    exact G6_.out

theorem mod_facts (v s : Int) (hv : 0 ≤ v) (hs : 0 < s) : 0 ≤ v % s ∧ v % s ≤ v ∧ Int.tdiv v s = v / s ∧ v / s * s = v - v % s ∧ Int.tmod v s = v % s ∧ 0 ≤ v / s ∧ v / s ≤ v := by
  have h1 := Int.mul_ediv_add_emod v s
  rw [Int.mul_comm] at h1
  have h2 := Int.emod_nonneg v (show s ≠ 0 by omega)
  have h3 : 0 ≤ v / s := Int.ediv_nonneg hv (by omega)
  have h4 : v / s ≤ v := Int.ediv_le_self s hv
  have h5 : 0 ≤ v / s * s := Int.mul_nonneg h3 (by omega)
  exact ⟨h2, by omega, Int.tdiv_eq_ediv_of_nonneg hv, by omega, Int.tmod_eq_emod_of_nonneg hv, h3, h4⟩

theorem specWr_yes (s b v : Int) (W : World) (hb : BOk s b) (hv0 : 0 ≤ v) (hv1 : v ≤ 65535) (hs : s ≠ 0) : Calls Try.prog 24 #[.agg #[.int .i64 s, .int .i64 b], .int .i64 v] W (AnsN (.agg #[.int .i64 s, .int .i64 (v - v % s)]) W) := by
  have HB := Lib.hid hb
  have hbs : BSz s := by
    rcases hb with ⟨q, _⟩ | ⟨q, _⟩
    · exact absurd q hs
    · exact q
  have hs1 := hbs.2.1
  have hs2 := hbs.2.2
  obtain ⟨m1, m2, m3, m4, m5, m6, m7⟩ := mod_facts v s hv0 (by omega)
  generalize v % s = m at m1 m2 m4 m5 ⊢
  generalize v / s = q at m3 m4 m6 m7
  have hne : (s == 0) = false := beq_eq_false_iff_ne.2 hs
  rw [← m4]
  clear hb hbs
  go_enter Try.func24, Try.ntmps24
  have rA1_ := Lib.hid (show (((W.alloc (.cells #[.int .i64 s, .int .i64 b] 30)).alloc (.cells #[.int .i64 0, .int .i64 0] 30))).heap[W.heap.size]? = some (.cells #[.int .i64 s, .int .i64 b] 30 (0, 0)) from by rw [heap_alloc_old _ _ (by simp only [World.size_alloc]; omega)]; exact heap_alloc_new _ _)
  have rR2_ := Lib.hid (show (((W.alloc (.cells #[.int .i64 s, .int .i64 b] 30)).alloc (.cells #[.int .i64 0, .int .i64 0] 30))).heap[W.heap.size + 1]? = some (.cells #[.int .i64 0, .int .i64 0] 30 (0, 0)) from by exact heap_pair _ _ _)
  have G3_ := Lib.hid (show (W).grownBy (((W.alloc (.cells #[.int .i64 s, .int .i64 b] 30)).alloc (.cells #[.int .i64 0, .int .i64 0] 30))) none from (gby_alloc (gby_alloc (gby_refl _ _) _) _))
  have A_0_ : (((W.alloc (.cells #[.int .i64 s, .int .i64 b] 30)).alloc (.cells #[.int .i64 0, .int .i64 0] 30))).cell? ⟨W.heap.size, 0, none⟩ = some (.int .i64 s) := cell_of_row _ _ 0 _ _ _ rA1_.out
  have A_1_ : (((W.alloc (.cells #[.int .i64 s, .int .i64 b] 30)).alloc (.cells #[.int .i64 0, .int .i64 0] 30))).cell? ⟨W.heap.size, 1, none⟩ = some (.int .i64 b) := cell_of_row _ _ 1 _ _ _ rA1_.out
  have R_0_ : (((W.alloc (.cells #[.int .i64 s, .int .i64 b] 30)).alloc (.cells #[.int .i64 0, .int .i64 0] 30))).cell? ⟨W.heap.size + 1, 0, none⟩ = some (.int .i64 0) := cell_of_row _ _ 0 _ _ _ rR2_.out
  have R_1_ : (((W.alloc (.cells #[.int .i64 s, .int .i64 b] 30)).alloc (.cells #[.int .i64 0, .int .i64 0] 30))).cell? ⟨W.heap.size + 1, 1, none⟩ = some (.int .i64 0) := cell_of_row _ _ 1 _ _ _ rR2_.out
  go_wp2_with fail
  go_at_call 21
  refine (specBarOk_yes _ _ _ HB.out).mono ?_
  rintro e w1 ⟨rfl, hd⟩
  have g := hd
  clear hd
  clear A_0_ A_1_ R_0_ R_1_
  have rA4_ := Lib.hid (show (w1).heap[W.heap.size]? = some (.cells #[.int .i64 s, .int .i64 b] 30 (0, 0)) from row_held g rA1_.out)
  clear rA1_
  have rR5_ := Lib.hid (show (w1).heap[W.heap.size + 1]? = some (.cells #[.int .i64 0, .int .i64 0] 30 (0, 0)) from row_held g rR2_.out)
  clear rR2_
  have G6_ := Lib.hid (show (W).grownBy (w1) none from gby_trans G3_.out g)
  clear g
  have A_0_ : (w1).cell? ⟨W.heap.size, 0, none⟩ = some (.int .i64 s) := cell_of_row _ _ 0 _ _ _ rA4_.out
  have A_1_ : (w1).cell? ⟨W.heap.size, 1, none⟩ = some (.int .i64 b) := cell_of_row _ _ 1 _ _ _ rA4_.out
  have R_0_ : (w1).cell? ⟨W.heap.size + 1, 0, none⟩ = some (.int .i64 0) := cell_of_row _ _ 0 _ _ _ rR5_.out
  have R_1_ : (w1).cell? ⟨W.heap.size + 1, 1, none⟩ = some (.int .i64 0) := cell_of_row _ _ 1 _ _ _ rR5_.out
  go_wp2_with fail
  go_at_call 51
  refine (in_yes _ _ _ _ (by omega) (by omega)).mono ?_
  rintro e w2 ⟨rfl, rfl⟩
  clear A_0_ A_1_ R_0_ R_1_
  have A_0_ : (w1).cell? ⟨W.heap.size, 0, none⟩ = some (.int .i64 s) := cell_of_row _ _ 0 _ _ _ rA4_.out
  have A_1_ : (w1).cell? ⟨W.heap.size, 1, none⟩ = some (.int .i64 b) := cell_of_row _ _ 1 _ _ _ rA4_.out
  have Af0_ : (w1).frozen? ⟨W.heap.size, 0, none⟩ = false := frozen_of_row _ _ 0 _ _ rA4_.out
  have Af1_ : (w1).frozen? ⟨W.heap.size, 1, none⟩ = false := frozen_of_row _ _ 1 _ _ rA4_.out
  have R_0_ : (w1).cell? ⟨W.heap.size + 1, 0, none⟩ = some (.int .i64 0) := cell_of_row _ _ 0 _ _ _ rR5_.out
  have R_1_ : (w1).cell? ⟨W.heap.size + 1, 1, none⟩ = some (.int .i64 0) := cell_of_row _ _ 1 _ _ _ rR5_.out
  have Rf0_ : (w1).frozen? ⟨W.heap.size + 1, 0, none⟩ = false := frozen_of_row _ _ 0 _ _ rR5_.out
  have Rf1_ : (w1).frozen? ⟨W.heap.size + 1, 1, none⟩ = false := frozen_of_row _ _ 1 _ _ rR5_.out
  have y10_ : ((w1.setCell ⟨W.heap.size + 1, 0, none⟩ (.int .i64 s)).setCell ⟨W.heap.size + 1, 1, none⟩ (.int .i64 (q * s))).cell? ⟨W.heap.size + 1, 0, none⟩ = some (.int .i64 s) := cell_of_row _ _ 0 _ _ _ (heap_setCell_same _ _ 1 _ _ (.int .i64 (q * s)) (heap_setCell_same _ _ 0 _ _ (.int .i64 s) rR5_.out))
  have y11_ : ((w1.setCell ⟨W.heap.size + 1, 0, none⟩ (.int .i64 s)).setCell ⟨W.heap.size + 1, 1, none⟩ (.int .i64 (q * s))).cell? ⟨W.heap.size + 1, 1, none⟩ = some (.int .i64 (q * s)) := cell_of_row _ _ 1 _ _ _ (heap_setCell_same _ _ 1 _ _ (.int .i64 (q * s)) (heap_setCell_same _ _ 0 _ _ (.int .i64 s) rR5_.out))
  go_wp2
  go_still_tail 10, (by kernel_rfl)
  go_wp2
  refine bodyPost_ret (v := .agg #[.int .i64 s, .int .i64 (q * s)]) (by simp [results, go_sem, y10_, y11_]) rfl ⟨rfl, ?_⟩
  refine gby_drew ?_
  repeat (with_reducible refine gby_setnew ?_ _ (by dsimp only; omega) _)
  exact G6_.out

theorem implWr_no (s b v : Int) (W : World) (h : ¬ (BOk s b ∧ (0 ≤ v ∧ v ≤ 65535) ∧ s ≠ 0)) : Calls Try.prog 25 #[.agg #[.int .i64 s, .int .i64 b], .int .i64 v] W (AnsN (.agg #[.int .i64 s, .int .i64 b]) W) := by
  by_cases hb : BOk s b
  · have HB := Lib.hid hb
    by_cases hv : 0 ≤ v ∧ v ≤ 65535
    · obtain rfl : s = 0 := by
        rcases Decidable.em (s = 0) with q | q
        · exact q
        · exact absurd ⟨hb, hv, q⟩ h
      obtain rfl : b = 0 := by
        rcases hb with ⟨_, q⟩ | ⟨q, _⟩
        · exact q
        · have := q.2.1; omega
      clear h hb
      go_enter Try.func25, Try.ntmps25
      have rA1_ := Lib.hid (show (((W.alloc (.cells #[.int .i64 0, .int .i64 0] 30)).alloc (.cells #[.int .i64 0, .int .i64 0] 30))).heap[W.heap.size]? = some (.cells #[.int .i64 0, .int .i64 0] 30 (0, 0)) from by rw [heap_alloc_old _ _ (by simp only [World.size_alloc]; omega)]; exact heap_alloc_new _ _)
      have rR2_ := Lib.hid (show (((W.alloc (.cells #[.int .i64 0, .int .i64 0] 30)).alloc (.cells #[.int .i64 0, .int .i64 0] 30))).heap[W.heap.size + 1]? = some (.cells #[.int .i64 0, .int .i64 0] 30 (0, 0)) from by exact heap_pair _ _ _)
      have G3_ := Lib.hid (show (W).grownBy (((W.alloc (.cells #[.int .i64 0, .int .i64 0] 30)).alloc (.cells #[.int .i64 0, .int .i64 0] 30))) none from (gby_alloc (gby_alloc (gby_refl _ _) _) _))
      have A_0_ : (((W.alloc (.cells #[.int .i64 0, .int .i64 0] 30)).alloc (.cells #[.int .i64 0, .int .i64 0] 30))).cell? ⟨W.heap.size, 0, none⟩ = some (.int .i64 0) := cell_of_row _ _ 0 _ _ _ rA1_.out
      have A_1_ : (((W.alloc (.cells #[.int .i64 0, .int .i64 0] 30)).alloc (.cells #[.int .i64 0, .int .i64 0] 30))).cell? ⟨W.heap.size, 1, none⟩ = some (.int .i64 0) := cell_of_row _ _ 1 _ _ _ rA1_.out
      have R_0_ : (((W.alloc (.cells #[.int .i64 0, .int .i64 0] 30)).alloc (.cells #[.int .i64 0, .int .i64 0] 30))).cell? ⟨W.heap.size + 1, 0, none⟩ = some (.int .i64 0) := cell_of_row _ _ 0 _ _ _ rR2_.out
      have R_1_ : (((W.alloc (.cells #[.int .i64 0, .int .i64 0] 30)).alloc (.cells #[.int .i64 0, .int .i64 0] 30))).cell? ⟨W.heap.size + 1, 1, none⟩ = some (.int .i64 0) := cell_of_row _ _ 1 _ _ _ rR2_.out
      go_wp2_with fail
      go_at_call 23
      refine (implBarOk_yes _ _ _ HB.out).mono ?_
      rintro e w1 ⟨rfl, hd⟩
      have g := hd
      clear hd
      clear A_0_ A_1_ R_0_ R_1_
      have rA4_ := Lib.hid (show (w1).heap[W.heap.size]? = some (.cells #[.int .i64 0, .int .i64 0] 30 (0, 0)) from row_held g rA1_.out)
      clear rA1_
      have rR5_ := Lib.hid (show (w1).heap[W.heap.size + 1]? = some (.cells #[.int .i64 0, .int .i64 0] 30 (0, 0)) from row_held g rR2_.out)
      clear rR2_
      have G6_ := Lib.hid (show (W).grownBy (w1) none from gby_trans G3_.out g)
      clear g
      have A_0_ : (w1).cell? ⟨W.heap.size, 0, none⟩ = some (.int .i64 0) := cell_of_row _ _ 0 _ _ _ rA4_.out
      have A_1_ : (w1).cell? ⟨W.heap.size, 1, none⟩ = some (.int .i64 0) := cell_of_row _ _ 1 _ _ _ rA4_.out
      have R_0_ : (w1).cell? ⟨W.heap.size + 1, 0, none⟩ = some (.int .i64 0) := cell_of_row _ _ 0 _ _ _ rR5_.out
      have R_1_ : (w1).cell? ⟨W.heap.size + 1, 1, none⟩ = some (.int .i64 0) := cell_of_row _ _ 1 _ _ _ rR5_.out
      go_wp2_with fail
      go_at_call 54
      refine (word_yes _ _ (by omega) (by omega)).mono ?_
      rintro e w2 ⟨rfl, rfl⟩
      clear A_0_ A_1_ R_0_ R_1_
      have A_0_ : (w1).cell? ⟨W.heap.size, 0, none⟩ = some (.int .i64 0) := cell_of_row _ _ 0 _ _ _ rA4_.out
      have A_1_ : (w1).cell? ⟨W.heap.size, 1, none⟩ = some (.int .i64 0) := cell_of_row _ _ 1 _ _ _ rA4_.out
      have Af0_ : (w1).frozen? ⟨W.heap.size, 0, none⟩ = false := frozen_of_row _ _ 0 _ _ rA4_.out
      have Af1_ : (w1).frozen? ⟨W.heap.size, 1, none⟩ = false := frozen_of_row _ _ 1 _ _ rA4_.out
      have R_0_ : (w1).cell? ⟨W.heap.size + 1, 0, none⟩ = some (.int .i64 0) := cell_of_row _ _ 0 _ _ _ rR5_.out
      have R_1_ : (w1).cell? ⟨W.heap.size + 1, 1, none⟩ = some (.int .i64 0) := cell_of_row _ _ 1 _ _ _ rR5_.out
      have Rf0_ : (w1).frozen? ⟨W.heap.size + 1, 0, none⟩ = false := frozen_of_row _ _ 0 _ _ rR5_.out
      have Rf1_ : (w1).frozen? ⟨W.heap.size + 1, 1, none⟩ = false := frozen_of_row _ _ 1 _ _ rR5_.out
      have ZR := Lib.hid (heap_setCell_same _ _ 1 _ _ (.int .i64 0) (heap_setCell_same _ _ 0 _ _ (.int .i64 0) rR5_.out))
      have z0_ : ((w1.setCell ⟨W.heap.size + 1, 0, none⟩ (.int .i64 0)).setCell ⟨W.heap.size + 1, 1, none⟩ (.int .i64 0)).cell? ⟨W.heap.size + 1, 0, none⟩ = some (.int .i64 0) := cell_of_row _ _ 0 _ _ _ ZR.out
      have z1_ : ((w1.setCell ⟨W.heap.size + 1, 0, none⟩ (.int .i64 0)).setCell ⟨W.heap.size + 1, 1, none⟩ (.int .i64 0)).cell? ⟨W.heap.size + 1, 1, none⟩ = some (.int .i64 0) := cell_of_row _ _ 1 _ _ _ ZR.out
      go_wp2
      refine bodyPost_ret (v := .agg #[.int .i64 0, .int .i64 0]) (by simp [results, go_sem, z0_, z1_]) rfl ⟨rfl, ?_⟩
      repeat (with_reducible refine gby_setnew ?_ _ (by dsimp only; omega) _)
      exact G6_.out
    · clear h hb
      go_enter Try.func25, Try.ntmps25
      have rA1_ := Lib.hid (show (((W.alloc (.cells #[.int .i64 s, .int .i64 b] 30)).alloc (.cells #[.int .i64 0, .int .i64 0] 30))).heap[W.heap.size]? = some (.cells #[.int .i64 s, .int .i64 b] 30 (0, 0)) from by rw [heap_alloc_old _ _ (by simp only [World.size_alloc]; omega)]; exact heap_alloc_new _ _)
      have rR2_ := Lib.hid (show (((W.alloc (.cells #[.int .i64 s, .int .i64 b] 30)).alloc (.cells #[.int .i64 0, .int .i64 0] 30))).heap[W.heap.size + 1]? = some (.cells #[.int .i64 0, .int .i64 0] 30 (0, 0)) from by exact heap_pair _ _ _)
      have G3_ := Lib.hid (show (W).grownBy (((W.alloc (.cells #[.int .i64 s, .int .i64 b] 30)).alloc (.cells #[.int .i64 0, .int .i64 0] 30))) none from (gby_alloc (gby_alloc (gby_refl _ _) _) _))
      have A_0_ : (((W.alloc (.cells #[.int .i64 s, .int .i64 b] 30)).alloc (.cells #[.int .i64 0, .int .i64 0] 30))).cell? ⟨W.heap.size, 0, none⟩ = some (.int .i64 s) := cell_of_row _ _ 0 _ _ _ rA1_.out
      have A_1_ : (((W.alloc (.cells #[.int .i64 s, .int .i64 b] 30)).alloc (.cells #[.int .i64 0, .int .i64 0] 30))).cell? ⟨W.heap.size, 1, none⟩ = some (.int .i64 b) := cell_of_row _ _ 1 _ _ _ rA1_.out
      have R_0_ : (((W.alloc (.cells #[.int .i64 s, .int .i64 b] 30)).alloc (.cells #[.int .i64 0, .int .i64 0] 30))).cell? ⟨W.heap.size + 1, 0, none⟩ = some (.int .i64 0) := cell_of_row _ _ 0 _ _ _ rR2_.out
      have R_1_ : (((W.alloc (.cells #[.int .i64 s, .int .i64 b] 30)).alloc (.cells #[.int .i64 0, .int .i64 0] 30))).cell? ⟨W.heap.size + 1, 1, none⟩ = some (.int .i64 0) := cell_of_row _ _ 1 _ _ _ rR2_.out
      go_wp2_with fail
      go_at_call 23
      refine (implBarOk_yes _ _ _ HB.out).mono ?_
      rintro e w1 ⟨rfl, hd⟩
      have g := hd
      clear hd
      clear A_0_ A_1_ R_0_ R_1_
      have rA4_ := Lib.hid (show (w1).heap[W.heap.size]? = some (.cells #[.int .i64 s, .int .i64 b] 30 (0, 0)) from row_held g rA1_.out)
      clear rA1_
      have rR5_ := Lib.hid (show (w1).heap[W.heap.size + 1]? = some (.cells #[.int .i64 0, .int .i64 0] 30 (0, 0)) from row_held g rR2_.out)
      clear rR2_
      have G6_ := Lib.hid (show (W).grownBy (w1) none from gby_trans G3_.out g)
      clear g
      have A_0_ : (w1).cell? ⟨W.heap.size, 0, none⟩ = some (.int .i64 s) := cell_of_row _ _ 0 _ _ _ rA4_.out
      have A_1_ : (w1).cell? ⟨W.heap.size, 1, none⟩ = some (.int .i64 b) := cell_of_row _ _ 1 _ _ _ rA4_.out
      have R_0_ : (w1).cell? ⟨W.heap.size + 1, 0, none⟩ = some (.int .i64 0) := cell_of_row _ _ 0 _ _ _ rR5_.out
      have R_1_ : (w1).cell? ⟨W.heap.size + 1, 1, none⟩ = some (.int .i64 0) := cell_of_row _ _ 1 _ _ _ rR5_.out
      go_wp2_with fail
      go_at_call 54
      refine (word_no _ _ (by omega)).mono ?_
      rintro e w2 ⟨rfl, rfl⟩
      clear A_0_ A_1_ R_0_ R_1_
      have A_0_ : (w1).cell? ⟨W.heap.size, 0, none⟩ = some (.int .i64 s) := cell_of_row _ _ 0 _ _ _ rA4_.out
      have A_1_ : (w1).cell? ⟨W.heap.size, 1, none⟩ = some (.int .i64 b) := cell_of_row _ _ 1 _ _ _ rA4_.out
      have Af0_ : (w1).frozen? ⟨W.heap.size, 0, none⟩ = false := frozen_of_row _ _ 0 _ _ rA4_.out
      have Af1_ : (w1).frozen? ⟨W.heap.size, 1, none⟩ = false := frozen_of_row _ _ 1 _ _ rA4_.out
      have R_0_ : (w1).cell? ⟨W.heap.size + 1, 0, none⟩ = some (.int .i64 0) := cell_of_row _ _ 0 _ _ _ rR5_.out
      have R_1_ : (w1).cell? ⟨W.heap.size + 1, 1, none⟩ = some (.int .i64 0) := cell_of_row _ _ 1 _ _ _ rR5_.out
      have Rf0_ : (w1).frozen? ⟨W.heap.size + 1, 0, none⟩ = false := frozen_of_row _ _ 0 _ _ rR5_.out
      have Rf1_ : (w1).frozen? ⟨W.heap.size + 1, 1, none⟩ = false := frozen_of_row _ _ 1 _ _ rR5_.out
      have ZR := Lib.hid (heap_setCell_same _ _ 1 _ _ (.int .i64 b) (heap_setCell_same _ _ 0 _ _ (.int .i64 s) rR5_.out))
      have z0_ : ((w1.setCell ⟨W.heap.size + 1, 0, none⟩ (.int .i64 s)).setCell ⟨W.heap.size + 1, 1, none⟩ (.int .i64 b)).cell? ⟨W.heap.size + 1, 0, none⟩ = some (.int .i64 s) := cell_of_row _ _ 0 _ _ _ ZR.out
      have z1_ : ((w1.setCell ⟨W.heap.size + 1, 0, none⟩ (.int .i64 s)).setCell ⟨W.heap.size + 1, 1, none⟩ (.int .i64 b)).cell? ⟨W.heap.size + 1, 1, none⟩ = some (.int .i64 b) := cell_of_row _ _ 1 _ _ _ ZR.out
      go_wp2
      refine bodyPost_ret (v := .agg #[.int .i64 s, .int .i64 b]) (by simp [results, go_sem, z0_, z1_]) rfl ⟨rfl, ?_⟩
      repeat (with_reducible refine gby_setnew ?_ _ (by dsimp only; omega) _)
      exact G6_.out
  · have HB := Lib.hid hb
    clear h hb
    go_enter Try.func25, Try.ntmps25
    have rA1_ := Lib.hid (show (((W.alloc (.cells #[.int .i64 s, .int .i64 b] 30)).alloc (.cells #[.int .i64 0, .int .i64 0] 30))).heap[W.heap.size]? = some (.cells #[.int .i64 s, .int .i64 b] 30 (0, 0)) from by rw [heap_alloc_old _ _ (by simp only [World.size_alloc]; omega)]; exact heap_alloc_new _ _)
    have rR2_ := Lib.hid (show (((W.alloc (.cells #[.int .i64 s, .int .i64 b] 30)).alloc (.cells #[.int .i64 0, .int .i64 0] 30))).heap[W.heap.size + 1]? = some (.cells #[.int .i64 0, .int .i64 0] 30 (0, 0)) from by exact heap_pair _ _ _)
    have G3_ := Lib.hid (show (W).grownBy (((W.alloc (.cells #[.int .i64 s, .int .i64 b] 30)).alloc (.cells #[.int .i64 0, .int .i64 0] 30))) none from (gby_alloc (gby_alloc (gby_refl _ _) _) _))
    have A_0_ : (((W.alloc (.cells #[.int .i64 s, .int .i64 b] 30)).alloc (.cells #[.int .i64 0, .int .i64 0] 30))).cell? ⟨W.heap.size, 0, none⟩ = some (.int .i64 s) := cell_of_row _ _ 0 _ _ _ rA1_.out
    have A_1_ : (((W.alloc (.cells #[.int .i64 s, .int .i64 b] 30)).alloc (.cells #[.int .i64 0, .int .i64 0] 30))).cell? ⟨W.heap.size, 1, none⟩ = some (.int .i64 b) := cell_of_row _ _ 1 _ _ _ rA1_.out
    have R_0_ : (((W.alloc (.cells #[.int .i64 s, .int .i64 b] 30)).alloc (.cells #[.int .i64 0, .int .i64 0] 30))).cell? ⟨W.heap.size + 1, 0, none⟩ = some (.int .i64 0) := cell_of_row _ _ 0 _ _ _ rR2_.out
    have R_1_ : (((W.alloc (.cells #[.int .i64 s, .int .i64 b] 30)).alloc (.cells #[.int .i64 0, .int .i64 0] 30))).cell? ⟨W.heap.size + 1, 1, none⟩ = some (.int .i64 0) := cell_of_row _ _ 1 _ _ _ rR2_.out
    go_wp2_with fail
    go_at_call 23
    refine (implBarOk_no _ _ _ HB.out).mono ?_
    rintro e w1 ⟨rfl, hd⟩
    have g := hd
    clear hd
    clear A_0_ A_1_ R_0_ R_1_
    have rA4_ := Lib.hid (show (w1).heap[W.heap.size]? = some (.cells #[.int .i64 s, .int .i64 b] 30 (0, 0)) from row_held g rA1_.out)
    clear rA1_
    have rR5_ := Lib.hid (show (w1).heap[W.heap.size + 1]? = some (.cells #[.int .i64 0, .int .i64 0] 30 (0, 0)) from row_held g rR2_.out)
    clear rR2_
    have G6_ := Lib.hid (show (W).grownBy (w1) none from gby_trans G3_.out g)
    clear g
    have A_0_ : (w1).cell? ⟨W.heap.size, 0, none⟩ = some (.int .i64 s) := cell_of_row _ _ 0 _ _ _ rA4_.out
    have A_1_ : (w1).cell? ⟨W.heap.size, 1, none⟩ = some (.int .i64 b) := cell_of_row _ _ 1 _ _ _ rA4_.out
    have R_0_ : (w1).cell? ⟨W.heap.size + 1, 0, none⟩ = some (.int .i64 0) := cell_of_row _ _ 0 _ _ _ rR5_.out
    have R_1_ : (w1).cell? ⟨W.heap.size + 1, 1, none⟩ = some (.int .i64 0) := cell_of_row _ _ 1 _ _ _ rR5_.out
    clear A_0_ A_1_ R_0_ R_1_
    have A_0_ : (w1).cell? ⟨W.heap.size, 0, none⟩ = some (.int .i64 s) := cell_of_row _ _ 0 _ _ _ rA4_.out
    have A_1_ : (w1).cell? ⟨W.heap.size, 1, none⟩ = some (.int .i64 b) := cell_of_row _ _ 1 _ _ _ rA4_.out
    have Af0_ : (w1).frozen? ⟨W.heap.size, 0, none⟩ = false := frozen_of_row _ _ 0 _ _ rA4_.out
    have Af1_ : (w1).frozen? ⟨W.heap.size, 1, none⟩ = false := frozen_of_row _ _ 1 _ _ rA4_.out
    have R_0_ : (w1).cell? ⟨W.heap.size + 1, 0, none⟩ = some (.int .i64 0) := cell_of_row _ _ 0 _ _ _ rR5_.out
    have R_1_ : (w1).cell? ⟨W.heap.size + 1, 1, none⟩ = some (.int .i64 0) := cell_of_row _ _ 1 _ _ _ rR5_.out
    have Rf0_ : (w1).frozen? ⟨W.heap.size + 1, 0, none⟩ = false := frozen_of_row _ _ 0 _ _ rR5_.out
    have Rf1_ : (w1).frozen? ⟨W.heap.size + 1, 1, none⟩ = false := frozen_of_row _ _ 1 _ _ rR5_.out
    have ZR := Lib.hid (heap_setCell_same _ _ 1 _ _ (.int .i64 b) (heap_setCell_same _ _ 0 _ _ (.int .i64 s) rR5_.out))
    have z0_ : ((w1.setCell ⟨W.heap.size + 1, 0, none⟩ (.int .i64 s)).setCell ⟨W.heap.size + 1, 1, none⟩ (.int .i64 b)).cell? ⟨W.heap.size + 1, 0, none⟩ = some (.int .i64 s) := cell_of_row _ _ 0 _ _ _ ZR.out
    have z1_ : ((w1.setCell ⟨W.heap.size + 1, 0, none⟩ (.int .i64 s)).setCell ⟨W.heap.size + 1, 1, none⟩ (.int .i64 b)).cell? ⟨W.heap.size + 1, 1, none⟩ = some (.int .i64 b) := cell_of_row _ _ 1 _ _ _ ZR.out
    go_wp2
    refine bodyPost_ret (v := .agg #[.int .i64 s, .int .i64 b]) (by simp [results, go_sem, z0_, z1_]) rfl ⟨rfl, ?_⟩
    repeat (with_reducible refine gby_setnew ?_ _ (by dsimp only; omega) _)
    exact G6_.out

theorem implWr_yes (s b v : Int) (W : World) (hb : BOk s b) (hv0 : 0 ≤ v) (hv1 : v ≤ 65535) (hs : s ≠ 0) : Calls Try.prog 25 #[.agg #[.int .i64 s, .int .i64 b], .int .i64 v] W (AnsN (.agg #[.int .i64 s, .int .i64 (v - v % s)]) W) := by
  have HB := Lib.hid hb
  have hbs : BSz s := by
    rcases hb with ⟨q, _⟩ | ⟨q, _⟩
    · exact absurd q hs
    · exact q
  have hs1 := hbs.2.1
  have hs2 := hbs.2.2
  obtain ⟨m1, m2, m3, m4, m5, m6, m7⟩ := mod_facts v s hv0 (by omega)
  generalize v % s = m at m1 m2 m4 m5 ⊢
  clear m3 m4 m6 m7
  have hne : (s == 0) = false := beq_eq_false_iff_ne.2 hs
  clear hb hbs
  go_enter Try.func25, Try.ntmps25
  have rA1_ := Lib.hid (show (((W.alloc (.cells #[.int .i64 s, .int .i64 b] 30)).alloc (.cells #[.int .i64 0, .int .i64 0] 30))).heap[W.heap.size]? = some (.cells #[.int .i64 s, .int .i64 b] 30 (0, 0)) from by rw [heap_alloc_old _ _ (by simp only [World.size_alloc]; omega)]; exact heap_alloc_new _ _)
  have rR2_ := Lib.hid (show (((W.alloc (.cells #[.int .i64 s, .int .i64 b] 30)).alloc (.cells #[.int .i64 0, .int .i64 0] 30))).heap[W.heap.size + 1]? = some (.cells #[.int .i64 0, .int .i64 0] 30 (0, 0)) from by exact heap_pair _ _ _)
  have G3_ := Lib.hid (show (W).grownBy (((W.alloc (.cells #[.int .i64 s, .int .i64 b] 30)).alloc (.cells #[.int .i64 0, .int .i64 0] 30))) none from (gby_alloc (gby_alloc (gby_refl _ _) _) _))
  have A_0_ : (((W.alloc (.cells #[.int .i64 s, .int .i64 b] 30)).alloc (.cells #[.int .i64 0, .int .i64 0] 30))).cell? ⟨W.heap.size, 0, none⟩ = some (.int .i64 s) := cell_of_row _ _ 0 _ _ _ rA1_.out
  have A_1_ : (((W.alloc (.cells #[.int .i64 s, .int .i64 b] 30)).alloc (.cells #[.int .i64 0, .int .i64 0] 30))).cell? ⟨W.heap.size, 1, none⟩ = some (.int .i64 b) := cell_of_row _ _ 1 _ _ _ rA1_.out
  have R_0_ : (((W.alloc (.cells #[.int .i64 s, .int .i64 b] 30)).alloc (.cells #[.int .i64 0, .int .i64 0] 30))).cell? ⟨W.heap.size + 1, 0, none⟩ = some (.int .i64 0) := cell_of_row _ _ 0 _ _ _ rR2_.out
  have R_1_ : (((W.alloc (.cells #[.int .i64 s, .int .i64 b] 30)).alloc (.cells #[.int .i64 0, .int .i64 0] 30))).cell? ⟨W.heap.size + 1, 1, none⟩ = some (.int .i64 0) := cell_of_row _ _ 1 _ _ _ rR2_.out
  go_wp2_with fail
  go_at_call 23
  refine (implBarOk_yes _ _ _ HB.out).mono ?_
  rintro e w1 ⟨rfl, hd⟩
  have g := hd
  clear hd
  clear A_0_ A_1_ R_0_ R_1_
  have rA4_ := Lib.hid (show (w1).heap[W.heap.size]? = some (.cells #[.int .i64 s, .int .i64 b] 30 (0, 0)) from row_held g rA1_.out)
  clear rA1_
  have rR5_ := Lib.hid (show (w1).heap[W.heap.size + 1]? = some (.cells #[.int .i64 0, .int .i64 0] 30 (0, 0)) from row_held g rR2_.out)
  clear rR2_
  have G6_ := Lib.hid (show (W).grownBy (w1) none from gby_trans G3_.out g)
  clear g
  have A_0_ : (w1).cell? ⟨W.heap.size, 0, none⟩ = some (.int .i64 s) := cell_of_row _ _ 0 _ _ _ rA4_.out
  have A_1_ : (w1).cell? ⟨W.heap.size, 1, none⟩ = some (.int .i64 b) := cell_of_row _ _ 1 _ _ _ rA4_.out
  have R_0_ : (w1).cell? ⟨W.heap.size + 1, 0, none⟩ = some (.int .i64 0) := cell_of_row _ _ 0 _ _ _ rR5_.out
  have R_1_ : (w1).cell? ⟨W.heap.size + 1, 1, none⟩ = some (.int .i64 0) := cell_of_row _ _ 1 _ _ _ rR5_.out
  go_wp2_with fail
  go_at_call 54
  refine (word_yes _ _ (by omega) (by omega)).mono ?_
  rintro e w2 ⟨rfl, rfl⟩
  clear A_0_ A_1_ R_0_ R_1_
  have A_0_ : (w1).cell? ⟨W.heap.size, 0, none⟩ = some (.int .i64 s) := cell_of_row _ _ 0 _ _ _ rA4_.out
  have A_1_ : (w1).cell? ⟨W.heap.size, 1, none⟩ = some (.int .i64 b) := cell_of_row _ _ 1 _ _ _ rA4_.out
  have Af0_ : (w1).frozen? ⟨W.heap.size, 0, none⟩ = false := frozen_of_row _ _ 0 _ _ rA4_.out
  have Af1_ : (w1).frozen? ⟨W.heap.size, 1, none⟩ = false := frozen_of_row _ _ 1 _ _ rA4_.out
  have R_0_ : (w1).cell? ⟨W.heap.size + 1, 0, none⟩ = some (.int .i64 0) := cell_of_row _ _ 0 _ _ _ rR5_.out
  have R_1_ : (w1).cell? ⟨W.heap.size + 1, 1, none⟩ = some (.int .i64 0) := cell_of_row _ _ 1 _ _ _ rR5_.out
  have Rf0_ : (w1).frozen? ⟨W.heap.size + 1, 0, none⟩ = false := frozen_of_row _ _ 0 _ _ rR5_.out
  have Rf1_ : (w1).frozen? ⟨W.heap.size + 1, 1, none⟩ = false := frozen_of_row _ _ 1 _ _ rR5_.out
  have ZR := Lib.hid (heap_setCell_same _ _ 1 _ _ (.int .i64 (v - m)) (heap_setCell_same _ _ 0 _ _ (.int .i64 s) (set_far (p := ⟨W.heap.size, 1, none⟩) (v := .int .i64 (v - m)) rR5_.out (by dsimp only; omega))))
  have z0_ : (((w1.setCell ⟨W.heap.size, 1, none⟩ (.int .i64 (v - m))).setCell ⟨W.heap.size + 1, 0, none⟩ (.int .i64 s)).setCell ⟨W.heap.size + 1, 1, none⟩ (.int .i64 (v - m))).cell? ⟨W.heap.size + 1, 0, none⟩ = some (.int .i64 s) := cell_of_row _ _ 0 _ _ _ ZR.out
  have z1_ : (((w1.setCell ⟨W.heap.size, 1, none⟩ (.int .i64 (v - m))).setCell ⟨W.heap.size + 1, 0, none⟩ (.int .i64 s)).setCell ⟨W.heap.size + 1, 1, none⟩ (.int .i64 (v - m))).cell? ⟨W.heap.size + 1, 1, none⟩ = some (.int .i64 (v - m)) := cell_of_row _ _ 1 _ _ _ ZR.out
  go_wp2
  refine bodyPost_ret (v := .agg #[.int .i64 s, .int .i64 (v - m)]) (by simp [results, go_sem, z0_, z1_]) rfl ⟨rfl, ?_⟩
  repeat (with_reducible refine gby_setnew ?_ _ (by dsimp only; omega) _)
  exact G6_.out

theorem both_WriteBar (s b v : Int) : ∃ i0 i1 : Int, (∀ W : World, Calls Try.prog 24 #[.agg #[.int .i64 s, .int .i64 b], .int .i64 v] W (AnsN (.agg #[.int .i64 i0, .int .i64 i1]) W)) ∧ ∀ W : World, Calls Try.prog 25 #[.agg #[.int .i64 s, .int .i64 b], .int .i64 v] W (AnsN (.agg #[.int .i64 i0, .int .i64 i1]) W) := by
  by_cases h : BOk s b ∧ (0 ≤ v ∧ v ≤ 65535) ∧ s ≠ 0
  · exact ⟨s, v - v % s, fun W => specWr_yes s b v W h.1 h.2.1.1 h.2.1.2 h.2.2, fun W => implWr_yes s b v W h.1 h.2.1.1 h.2.1.2 h.2.2⟩
  · exact ⟨s, b, fun W => specWr_no s b v W h, fun W => implWr_no s b v W h⟩

theorem specSfm_out (m : Int) (W : World) (h : m < 0 ∨ 65535 < m) : Calls Try.prog 27 #[.int .i64 m] W (AnsN (.int .i64 (-1)) W) := by
  go_enter Try.func27, Try.ntmps27
  go_wp2_with fail
  go_at_call 51
  refine (in_no _ _ _ _ (by omega)).mono ?_
  rintro e w1 ⟨rfl, rfl⟩
  go_wp2
  go_ret
  exact ⟨rfl, (Drew.refl _).gby none⟩

theorem specSfm_zero (m : Int) (W : World) (h0 : m = 0) : Calls Try.prog 27 #[.int .i64 m] W (AnsN (.int .i64 0) W) := by
  subst h0
  go_enter Try.func27, Try.ntmps27
  go_wp2_with fail
  go_at_call 51
  refine (in_yes _ _ _ _ (by omega) (by omega)).mono ?_
  rintro e w1 ⟨rfl, rfl⟩
  go_wp2
  go_ret
  exact ⟨rfl, gby_refl _ _⟩
theorem implSfm_zero (m : Int) (W : World) (h0 : m = 0) : Calls Try.prog 28 #[.int .i64 m] W (AnsN (.int .i64 0) W) := by
  subst h0
  go_enter Try.func28, Try.ntmps28
  go_wp2
  go_ret
  exact ⟨rfl, gby_refl _ _⟩

theorem specSfm_yes (m : Int) (W : World) (h1 : 0 ≤ m) (h2 : m ≤ 65535) (h0 : m ≠ 0) (hs : BSz (65536 - m)) : Calls Try.prog 27 #[.int .i64 m] W (AnsN (.int .i64 (65536 - m)) W) := by
  have hz : (m == 0) = false := beq_eq_false_iff_ne.2 h0
  have HS := Lib.hid hs
  clear hs
  go_enter Try.func27, Try.ntmps27
  go_wp2_with fail
  go_at_call 51
  refine (in_yes _ _ _ _ (by omega) (by omega)).mono ?_
  rintro e w1 ⟨rfl, rfl⟩
  go_wp2_with fail
  go_at_call 50
  refine (specBSz_yes _ _ HS.out).mono ?_
  rintro e w2 ⟨rfl, hd⟩
  have HD2 := Lib.hid hd
  clear hd
  go_wp2
  go_ret
  exact ⟨rfl, HD2.out.gby none⟩

theorem specSfm_no (m : Int) (W : World) (h1 : 0 ≤ m) (h2 : m ≤ 65535) (h0 : m ≠ 0) (hs : ¬ BSz (65536 - m)) : Calls Try.prog 27 #[.int .i64 m] W (AnsN (.int .i64 (-1)) W) := by
  have hz : (m == 0) = false := beq_eq_false_iff_ne.2 h0
  have HS := Lib.hid hs
  clear hs
  go_enter Try.func27, Try.ntmps27
  go_wp2_with fail
  go_at_call 51
  refine (in_yes _ _ _ _ (by omega) (by omega)).mono ?_
  rintro e w1 ⟨rfl, rfl⟩
  go_wp2_with fail
  go_at_call 50
  refine (specBSz_no _ _ HS.out).mono ?_
  rintro e w2 ⟨rfl, hd⟩
  have HD2 := Lib.hid hd
  clear hd
  go_wp2
  go_ret
  exact ⟨rfl, HD2.out.gby none⟩

theorem implSfm_out (m : Int) (W : World) (h : m < 0 ∨ 65535 < m) : Calls Try.prog 28 #[.int .i64 m] W (AnsN (.int .i64 (-1)) W) := by
  have h0 : m ≠ 0 := by omega
  have hz : (m == 0) = false := beq_eq_false_iff_ne.2 h0
  go_enter Try.func28, Try.ntmps28
  go_wp2_with fail
  go_at_call 54
  refine (word_no _ _ (by omega)).mono ?_
  rintro e w1 ⟨rfl, rfl⟩
  go_wp2
  go_ret
  exact ⟨rfl, (Drew.refl _).gby none⟩

theorem implSfm_yes (m : Int) (W : World) (h1 : 0 ≤ m) (h2 : m ≤ 65535) (h0 : m ≠ 0) (hs : BSz (65536 - m)) : Calls Try.prog 28 #[.int .i64 m] W (AnsN (.int .i64 (65536 - m)) W) := by
  have hz : (m == 0) = false := beq_eq_false_iff_ne.2 h0
  have HS := Lib.hid hs
  clear hs
  go_enter Try.func28, Try.ntmps28
  go_wp2_with fail
  go_at_call 54
  refine (word_yes _ _ (by omega) (by omega)).mono ?_
  rintro e w1 ⟨rfl, rfl⟩
  go_wp2_with fail
  go_at_call 52
  refine (implBSz_yes _ _ HS.out).mono ?_
  rintro e w2 ⟨rfl, hd⟩
  have HD2 := Lib.hid hd
  clear hd
  go_wp2
  go_ret
  exact ⟨rfl, HD2.out.gby none⟩

theorem implSfm_no (m : Int) (W : World) (h1 : 0 ≤ m) (h2 : m ≤ 65535) (h0 : m ≠ 0) (hs : ¬ BSz (65536 - m)) : Calls Try.prog 28 #[.int .i64 m] W (AnsN (.int .i64 (-1)) W) := by
  have hz : (m == 0) = false := beq_eq_false_iff_ne.2 h0
  have HS := Lib.hid hs
  clear hs
  go_enter Try.func28, Try.ntmps28
  go_wp2_with fail
  go_at_call 54
  refine (word_yes _ _ (by omega) (by omega)).mono ?_
  rintro e w1 ⟨rfl, rfl⟩
  go_wp2_with fail
  go_at_call 52
  refine (implBSz_no _ _ HS.out).mono ?_
  rintro e w2 ⟨rfl, hd⟩
  have HD2 := Lib.hid hd
  clear hd
  go_wp2
  go_ret
  exact ⟨rfl, HD2.out.gby none⟩

theorem both_SizeFromMask (m : Int) : ∃ r : Int, (∀ W : World, Calls Try.prog 27 #[.int .i64 m] W (AnsN (.int .i64 r) W)) ∧ ∀ W : World, Calls Try.prog 28 #[.int .i64 m] W (AnsN (.int .i64 r) W) := by
  by_cases h : 0 ≤ m ∧ m ≤ 65535
  · by_cases h0 : m = 0
    · exact ⟨0, fun W => specSfm_zero m W h0, fun W => implSfm_zero m W h0⟩
    · by_cases hs : BSz (65536 - m)
      · exact ⟨_, fun W => specSfm_yes m W h.1 h.2 h0 hs, fun W => implSfm_yes m W h.1 h.2 h0 hs⟩
      · exact ⟨_, fun W => specSfm_no m W h.1 h.2 h0 hs, fun W => implSfm_no m W h.1 h.2 h0 hs⟩
  · exact ⟨_, fun W => specSfm_out m W (by omega), fun W => implSfm_out m W (by omega)⟩

end Go.Proofs.Ytoedgncidoldaaa
