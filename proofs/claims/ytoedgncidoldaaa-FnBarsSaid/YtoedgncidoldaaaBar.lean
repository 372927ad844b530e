/-
  Base address registers on both sides.
-/
import Derived.Test.YtoedgncidoldaaaBits4Impl
import Derived.Test.YtoedgncidoldaaaQBar
import Derived.Deep.RegionHeld3
import Derived.Deep.QuietTactic
namespace Go.Proofs.Ytoedgncidoldaaa
open Go Go.RowKit
set_option linter.unusedVariables false

theorem specPower_yes (x : Int) (W : World) (h : IsPow x) : Calls Try.prog 64 #[.int .i64 x] W (Ans (.bool true) W) :=
  (specPower_any x W).mono (by rintro e w ⟨h1 | h1, hd⟩; exact ⟨h1.2, hd⟩; exact absurd h h1.1)
theorem specPower_no (x : Int) (W : World) (h : ¬ IsPow x) : Calls Try.prog 64 #[.int .i64 x] W (Ans (.bool false) W) :=
  (specPower_any x W).mono (by rintro e w ⟨h1 | h1, hd⟩; exact absurd h1.1 h; exact ⟨h1.2, hd⟩)

/-- a size of a register -/
def BSz (n : Int) : Prop := IsPow n ∧ 16 ≤ n ∧ n ≤ 32768
/-- a register -/
def BOk (s b : Int) : Prop := s = 0 ∧ b = 0 ∨ BSz s ∧ (0 ≤ b ∧ b ≤ 65536 - s) ∧ b % s = 0

theorem specBSz_yes (n : Int) (W : World) (h : BSz n) : Calls Try.prog 50 #[.int .i64 n] W (Ans (.bool true) W) := by
  obtain ⟨hp, h1, h2⟩ := h
  have HP := Lib.hid hp
  clear hp
  go_enter Try.func50, Try.ntmps50
  go_wp2_with fail
  go_at_call 64
  refine (specPower_yes _ _ HP.out).mono ?_
  rintro e w1 ⟨rfl, hd⟩
  have HD1 := Lib.hid hd
  clear hd
  go_wp2_with fail
  go_at_call 51
  refine (in_yes _ _ _ _ (by omega) (by omega)).mono ?_
  rintro e w2 ⟨rfl, rfl⟩
  go_wp2
  go_ret
  exact ⟨rfl, HD1.out⟩

theorem specBSz_no (n : Int) (W : World) (h : ¬ BSz n) : Calls Try.prog 50 #[.int .i64 n] W (Ans (.bool false) W) := by
  by_cases hp : IsPow n
  · have hr : n < 16 ∨ 32768 < n := by
      rcases Int.lt_or_le n 16 with q | q
      · exact .inl q
      · rcases Int.lt_or_le 32768 n with q2 | q2
        · exact .inr q2
        · exact absurd ⟨hp, q, q2⟩ h
    have HP := Lib.hid hp
    clear hp h
    go_enter Try.func50, Try.ntmps50
    go_wp2_with fail
    go_at_call 64
    refine (specPower_yes _ _ HP.out).mono ?_
    rintro e w1 ⟨rfl, hd⟩
    have HD := Lib.hid hd
    clear hd
    go_wp2_with fail
    go_at_call 51
    refine (in_no _ _ _ _ (by omega)).mono ?_
    rintro e w2 ⟨rfl, rfl⟩
    go_wp2
    go_ret
    exact ⟨rfl, HD.out⟩
  · have HP := Lib.hid hp
    clear hp h
    go_enter Try.func50, Try.ntmps50
    go_wp2_with fail
    go_at_call 64
    refine (specPower_no _ _ HP.out).mono ?_
    rintro e w1 ⟨rfl, hd⟩
    have HD := Lib.hid hd
    clear hd
    go_wp2
    go_ret
    exact ⟨rfl, HD.out⟩

theorem implBSz_yes (n : Int) (W : World) (h : BSz n) : Calls Try.prog 52 #[.int .i64 n] W (Ans (.bool true) W) := by
  obtain ⟨hp, h1, h2⟩ := h
  have HP := Lib.hid hp
  clear hp
  go_enter Try.func52, Try.ntmps52
  go_wp2_with fail
  go_at_call 53
  refine (rng_yes _ _ _ _ (by omega) (by omega)).mono ?_
  rintro e w1 ⟨rfl, rfl⟩
  go_wp2_with fail
  go_at_call 61
  refine (implPower_yes _ _ HP.out).mono ?_
  rintro e w2 ⟨rfl, hd⟩
  have HD2 := Lib.hid hd
  clear hd
  go_wp2
  go_ret
  exact ⟨rfl, HD2.out⟩

theorem implBSz_no (n : Int) (W : World) (h : ¬ BSz n) : Calls Try.prog 52 #[.int .i64 n] W (Ans (.bool false) W) := by
  by_cases hr : 16 ≤ n ∧ n ≤ 32768
  · have HP := Lib.hid (fun q : IsPow n => h ⟨q, hr⟩)
    clear h
    go_enter Try.func52, Try.ntmps52
    go_wp2_with fail
    go_at_call 53
    refine (rng_yes _ _ _ _ (by omega) (by omega)).mono ?_
    rintro e w1 ⟨rfl, rfl⟩
    go_wp2_with fail
    go_at_call 61
    refine (implPower_no _ _ HP.out).mono ?_
    rintro e w2 ⟨rfl, hd⟩
    have HD := Lib.hid hd
    clear hd
    go_wp2
    go_ret
    exact ⟨rfl, HD.out⟩
  · clear h
    go_enter Try.func52, Try.ntmps52
    go_wp2_with fail
    go_at_call 53
    refine (rng_no _ _ _ _ (by omega)).mono ?_
    rintro e w1 ⟨rfl, rfl⟩
    go_wp2
    go_ret
    exact ⟨rfl, Drew.refl _⟩

theorem specBarOk_yes (s b : Int) (W : World) (h : BOk s b) : Calls Try.prog 21 #[.agg #[.int .i64 s, .int .i64 b]] W (AnsN (.bool true) W) := by
  rcases h with ⟨rfl, rfl⟩ | ⟨hs, ⟨h0, h1⟩, hm0⟩
  · skip
    go_enter Try.func21, Try.ntmps21
    have rA1_ := Lib.hid (show ((W.alloc (.cells #[.int .i64 0, .int .i64 0] 30))).heap[W.heap.size]? = some (.cells #[.int .i64 0, .int .i64 0] 30 (0, 0)) from by exact heap_alloc_new _ _)
    have G2_ := Lib.hid (show (W).grownBy ((W.alloc (.cells #[.int .i64 0, .int .i64 0] 30))) none from (gby_alloc (gby_refl _ _) _))
    have A_0_ : ((W.alloc (.cells #[.int .i64 0, .int .i64 0] 30))).cell? ⟨W.heap.size, 0, none⟩ = some (.int .i64 0) := cell_of_row _ _ 0 _ _ _ rA1_.out
    have A_1_ : ((W.alloc (.cells #[.int .i64 0, .int .i64 0] 30))).cell? ⟨W.heap.size, 1, none⟩ = some (.int .i64 0) := cell_of_row _ _ 1 _ _ _ rA1_.out
    go_wp2
    go_ret
    exact ⟨rfl, G2_.out⟩
  · have hs1 := hs.2.1
    have hs2 := hs.2.2
    have HS := Lib.hid hs
    have hm : Int.tmod b s = 0 := by rw [Int.tmod_eq_emod_of_nonneg (by omega)]; exact hm0
    have hn : (s == 0) = false := beq_eq_false_iff_ne.2 (by omega)
    clear hs hm0
    go_enter Try.func21, Try.ntmps21
    have rA1_ := Lib.hid (show ((W.alloc (.cells #[.int .i64 s, .int .i64 b] 30))).heap[W.heap.size]? = some (.cells #[.int .i64 s, .int .i64 b] 30 (0, 0)) from by exact heap_alloc_new _ _)
    have G2_ := Lib.hid (show (W).grownBy ((W.alloc (.cells #[.int .i64 s, .int .i64 b] 30))) none from (gby_alloc (gby_refl _ _) _))
    have A_0_ : ((W.alloc (.cells #[.int .i64 s, .int .i64 b] 30))).cell? ⟨W.heap.size, 0, none⟩ = some (.int .i64 s) := cell_of_row _ _ 0 _ _ _ rA1_.out
    have A_1_ : ((W.alloc (.cells #[.int .i64 s, .int .i64 b] 30))).cell? ⟨W.heap.size, 1, none⟩ = some (.int .i64 b) := cell_of_row _ _ 1 _ _ _ rA1_.out
    go_wp2_with fail
    go_at_call 50
    refine (specBSz_yes _ _ HS.out).mono ?_
    rintro e w1 ⟨rfl, hd⟩
    have g := hd.gby none
    clear hd
    clear A_0_ A_1_
    have rA3_ := Lib.hid (show (w1).heap[W.heap.size]? = some (.cells #[.int .i64 s, .int .i64 b] 30 (0, 0)) from row_held g rA1_.out)
    clear rA1_
    have G4_ := Lib.hid (show (W).grownBy (w1) none from gby_trans G2_.out g)
    clear g
    have A_0_ : (w1).cell? ⟨W.heap.size, 0, none⟩ = some (.int .i64 s) := cell_of_row _ _ 0 _ _ _ rA3_.out
    have A_1_ : (w1).cell? ⟨W.heap.size, 1, none⟩ = some (.int .i64 b) := cell_of_row _ _ 1 _ _ _ rA3_.out
    go_wp2_with fail
    go_at_call 51
    refine (in_yes _ _ _ _ (by omega) (by omega)).mono ?_
    rintro e w2 ⟨rfl, rfl⟩
    go_wp2
    go_ret
    exact ⟨rfl, G4_.out⟩
theorem specBarOk_no (s b : Int) (W : World) (h : ¬ BOk s b) : Calls Try.prog 21 #[.agg #[.int .i64 s, .int .i64 b]] W (AnsN (.bool false) W) := by
  by_cases h0 : s = 0
  · subst h0
    have hb : ¬ b = 0 := fun q => h (.inl ⟨rfl, q⟩)
    have hb' : (b == 0) = false := beq_eq_false_iff_ne.2 hb
    clear h
    go_enter Try.func21, Try.ntmps21
    have rA1_ := Lib.hid (show ((W.alloc (.cells #[.int .i64 0, .int .i64 b] 30))).heap[W.heap.size]? = some (.cells #[.int .i64 0, .int .i64 b] 30 (0, 0)) from by exact heap_alloc_new _ _)
    have G2_ := Lib.hid (show (W).grownBy ((W.alloc (.cells #[.int .i64 0, .int .i64 b] 30))) none from (gby_alloc (gby_refl _ _) _))
    have A_0_ : ((W.alloc (.cells #[.int .i64 0, .int .i64 b] 30))).cell? ⟨W.heap.size, 0, none⟩ = some (.int .i64 0) := cell_of_row _ _ 0 _ _ _ rA1_.out
    have A_1_ : ((W.alloc (.cells #[.int .i64 0, .int .i64 b] 30))).cell? ⟨W.heap.size, 1, none⟩ = some (.int .i64 b) := cell_of_row _ _ 1 _ _ _ rA1_.out
    go_wp2
    go_ret
    exact ⟨rfl, G2_.out⟩
  · have hn : (s == 0) = false := beq_eq_false_iff_ne.2 h0
    by_cases hs : BSz s
    · have hs1 := hs.2.1
      have hs2 := hs.2.2
      have HS := Lib.hid hs
      by_cases hr : 0 ≤ b ∧ b ≤ 65536 - s
      · have hm0 : ¬ b % s = 0 := fun q => h (.inr ⟨hs, hr, q⟩)
        have hm : Int.tmod b s = b % s := Int.tmod_eq_emod_of_nonneg (by omega)
        generalize b % s = m at hm0 hm
        have hm1 : (m == 0) = false := beq_eq_false_iff_ne.2 hm0
        clear h hs
        go_enter Try.func21, Try.ntmps21
        have rA1_ := Lib.hid (show ((W.alloc (.cells #[.int .i64 s, .int .i64 b] 30))).heap[W.heap.size]? = some (.cells #[.int .i64 s, .int .i64 b] 30 (0, 0)) from by exact heap_alloc_new _ _)
        have G2_ := Lib.hid (show (W).grownBy ((W.alloc (.cells #[.int .i64 s, .int .i64 b] 30))) none from (gby_alloc (gby_refl _ _) _))
        have A_0_ : ((W.alloc (.cells #[.int .i64 s, .int .i64 b] 30))).cell? ⟨W.heap.size, 0, none⟩ = some (.int .i64 s) := cell_of_row _ _ 0 _ _ _ rA1_.out
        have A_1_ : ((W.alloc (.cells #[.int .i64 s, .int .i64 b] 30))).cell? ⟨W.heap.size, 1, none⟩ = some (.int .i64 b) := cell_of_row _ _ 1 _ _ _ rA1_.out
        go_wp2_with fail
        go_at_call 50
        refine (specBSz_yes _ _ HS.out).mono ?_
        rintro e w1 ⟨rfl, hd⟩
        have g := hd.gby none
        clear hd
        clear A_0_ A_1_
        have rA3_ := Lib.hid (show (w1).heap[W.heap.size]? = some (.cells #[.int .i64 s, .int .i64 b] 30 (0, 0)) from row_held g rA1_.out)
        clear rA1_
        have G4_ := Lib.hid (show (W).grownBy (w1) none from gby_trans G2_.out g)
        clear g
        have A_0_ : (w1).cell? ⟨W.heap.size, 0, none⟩ = some (.int .i64 s) := cell_of_row _ _ 0 _ _ _ rA3_.out
        have A_1_ : (w1).cell? ⟨W.heap.size, 1, none⟩ = some (.int .i64 b) := cell_of_row _ _ 1 _ _ _ rA3_.out
        go_wp2_with fail
        go_at_call 51
        refine (in_yes _ _ _ _ (by omega) (by omega)).mono ?_
        rintro e w2 ⟨rfl, rfl⟩
        go_wp2
        go_ret
        exact ⟨rfl, G4_.out⟩
      · clear h hs
        go_enter Try.func21, Try.ntmps21
        have rA1_ := Lib.hid (show ((W.alloc (.cells #[.int .i64 s, .int .i64 b] 30))).heap[W.heap.size]? = some (.cells #[.int .i64 s, .int .i64 b] 30 (0, 0)) from by exact heap_alloc_new _ _)
        have G2_ := Lib.hid (show (W).grownBy ((W.alloc (.cells #[.int .i64 s, .int .i64 b] 30))) none from (gby_alloc (gby_refl _ _) _))
        have A_0_ : ((W.alloc (.cells #[.int .i64 s, .int .i64 b] 30))).cell? ⟨W.heap.size, 0, none⟩ = some (.int .i64 s) := cell_of_row _ _ 0 _ _ _ rA1_.out
        have A_1_ : ((W.alloc (.cells #[.int .i64 s, .int .i64 b] 30))).cell? ⟨W.heap.size, 1, none⟩ = some (.int .i64 b) := cell_of_row _ _ 1 _ _ _ rA1_.out
        go_wp2_with fail
        go_at_call 50
        refine (specBSz_yes _ _ HS.out).mono ?_
        rintro e w1 ⟨rfl, hd⟩
        have g := hd.gby none
        clear hd
        clear A_0_ A_1_
        have rA3_ := Lib.hid (show (w1).heap[W.heap.size]? = some (.cells #[.int .i64 s, .int .i64 b] 30 (0, 0)) from row_held g rA1_.out)
        clear rA1_
        have G4_ := Lib.hid (show (W).grownBy (w1) none from gby_trans G2_.out g)
        clear g
        have A_0_ : (w1).cell? ⟨W.heap.size, 0, none⟩ = some (.int .i64 s) := cell_of_row _ _ 0 _ _ _ rA3_.out
        have A_1_ : (w1).cell? ⟨W.heap.size, 1, none⟩ = some (.int .i64 b) := cell_of_row _ _ 1 _ _ _ rA3_.out
        go_wp2_with fail
        go_at_call 51
        refine (in_no _ _ _ _ (by omega)).mono ?_
        rintro e w2 ⟨rfl, rfl⟩
        go_wp2
        go_ret
        exact ⟨rfl, G4_.out⟩
    · have HS := Lib.hid hs
      clear h hs
      go_enter Try.func21, Try.ntmps21
      have rA1_ := Lib.hid (show ((W.alloc (.cells #[.int .i64 s, .int .i64 b] 30))).heap[W.heap.size]? = some (.cells #[.int .i64 s, .int .i64 b] 30 (0, 0)) from by exact heap_alloc_new _ _)
      have G2_ := Lib.hid (show (W).grownBy ((W.alloc (.cells #[.int .i64 s, .int .i64 b] 30))) none from (gby_alloc (gby_refl _ _) _))
      have A_0_ : ((W.alloc (.cells #[.int .i64 s, .int .i64 b] 30))).cell? ⟨W.heap.size, 0, none⟩ = some (.int .i64 s) := cell_of_row _ _ 0 _ _ _ rA1_.out
      have A_1_ : ((W.alloc (.cells #[.int .i64 s, .int .i64 b] 30))).cell? ⟨W.heap.size, 1, none⟩ = some (.int .i64 b) := cell_of_row _ _ 1 _ _ _ rA1_.out
      go_wp2_with fail
      go_at_call 50
      refine (specBSz_no _ _ HS.out).mono ?_
      rintro e w1 ⟨rfl, hd⟩
      have g := hd.gby none
      clear hd
      clear A_0_ A_1_
      have rA3_ := Lib.hid (show (w1).heap[W.heap.size]? = some (.cells #[.int .i64 s, .int .i64 b] 30 (0, 0)) from row_held g rA1_.out)
      clear rA1_
      have G4_ := Lib.hid (show (W).grownBy (w1) none from gby_trans G2_.out g)
      clear g
      have A_0_ : (w1).cell? ⟨W.heap.size, 0, none⟩ = some (.int .i64 s) := cell_of_row _ _ 0 _ _ _ rA3_.out
      have A_1_ : (w1).cell? ⟨W.heap.size, 1, none⟩ = some (.int .i64 b) := cell_of_row _ _ 1 _ _ _ rA3_.out
      go_wp2
      go_ret
      exact ⟨rfl, G4_.out⟩

theorem implBarOk_yes (s b : Int) (W : World) (h : BOk s b) : Calls Try.prog 23 #[.agg #[.int .i64 s, .int .i64 b]] W (AnsN (.bool true) W) := by
  rcases h with ⟨rfl, rfl⟩ | ⟨hs, ⟨h0, h1⟩, hm0⟩
  · skip
    go_enter Try.func23, Try.ntmps23
    have rA1_ := Lib.hid (show ((W.alloc (.cells #[.int .i64 0, .int .i64 0] 30))).heap[W.heap.size]? = some (.cells #[.int .i64 0, .int .i64 0] 30 (0, 0)) from by exact heap_alloc_new _ _)
    have G2_ := Lib.hid (show (W).grownBy ((W.alloc (.cells #[.int .i64 0, .int .i64 0] 30))) none from (gby_alloc (gby_refl _ _) _))
    have A_0_ : ((W.alloc (.cells #[.int .i64 0, .int .i64 0] 30))).cell? ⟨W.heap.size, 0, none⟩ = some (.int .i64 0) := cell_of_row _ _ 0 _ _ _ rA1_.out
    have A_1_ : ((W.alloc (.cells #[.int .i64 0, .int .i64 0] 30))).cell? ⟨W.heap.size, 1, none⟩ = some (.int .i64 0) := cell_of_row _ _ 1 _ _ _ rA1_.out
    go_wp2
    go_ret
    exact ⟨rfl, G2_.out⟩
  · have hs1 := hs.2.1
    have hs2 := hs.2.2
    have HS := Lib.hid hs
    have hm : Int.tmod b s = 0 := by rw [Int.tmod_eq_emod_of_nonneg (by omega)]; exact hm0
    have hn : (s == 0) = false := beq_eq_false_iff_ne.2 (by omega)
    clear hs hm0
    go_enter Try.func23, Try.ntmps23
    have rA1_ := Lib.hid (show ((W.alloc (.cells #[.int .i64 s, .int .i64 b] 30))).heap[W.heap.size]? = some (.cells #[.int .i64 s, .int .i64 b] 30 (0, 0)) from by exact heap_alloc_new _ _)
    have G2_ := Lib.hid (show (W).grownBy ((W.alloc (.cells #[.int .i64 s, .int .i64 b] 30))) none from (gby_alloc (gby_refl _ _) _))
    have A_0_ : ((W.alloc (.cells #[.int .i64 s, .int .i64 b] 30))).cell? ⟨W.heap.size, 0, none⟩ = some (.int .i64 s) := cell_of_row _ _ 0 _ _ _ rA1_.out
    have A_1_ : ((W.alloc (.cells #[.int .i64 s, .int .i64 b] 30))).cell? ⟨W.heap.size, 1, none⟩ = some (.int .i64 b) := cell_of_row _ _ 1 _ _ _ rA1_.out
    go_wp2_with fail
    go_at_call 52
    refine (implBSz_yes _ _ HS.out).mono ?_
    rintro e w1 ⟨rfl, hd⟩
    have g := hd.gby none
    clear hd
    clear A_0_ A_1_
    have rA3_ := Lib.hid (show (w1).heap[W.heap.size]? = some (.cells #[.int .i64 s, .int .i64 b] 30 (0, 0)) from row_held g rA1_.out)
    clear rA1_
    have G4_ := Lib.hid (show (W).grownBy (w1) none from gby_trans G2_.out g)
    clear g
    have A_0_ : (w1).cell? ⟨W.heap.size, 0, none⟩ = some (.int .i64 s) := cell_of_row _ _ 0 _ _ _ rA3_.out
    have A_1_ : (w1).cell? ⟨W.heap.size, 1, none⟩ = some (.int .i64 b) := cell_of_row _ _ 1 _ _ _ rA3_.out
    go_wp2_with fail
    go_at_call 53
    refine (rng_yes _ _ _ _ (by omega) (by omega)).mono ?_
    rintro e w2 ⟨rfl, rfl⟩
    go_wp2
    go_ret
    exact ⟨rfl, G4_.out⟩
theorem implBarOk_no (s b : Int) (W : World) (h : ¬ BOk s b) : Calls Try.prog 23 #[.agg #[.int .i64 s, .int .i64 b]] W (AnsN (.bool false) W) := by
  have hz : ((s == 0) && (b == 0)) = false := by
    rcases Decidable.em (s = 0 ∧ b = 0) with q | q
    · exact absurd (.inl q) h
    · simp only [Bool.and_eq_false_iff, beq_eq_false_iff_ne]; omega
  by_cases hs : BSz s
  · have hs1 := hs.2.1
    have hs2 := hs.2.2
    have hn : (s == 0) = false := beq_eq_false_iff_ne.2 (by omega)
    have HS := Lib.hid hs
    by_cases hm : Int.tmod b s = 0
    · have hr : b < 0 ∨ 65536 - s < b := by
        rcases Int.lt_or_le b 0 with q | q
        · exact .inl q
        · rcases Int.lt_or_le (65536 - s) b with q2 | q2
          · exact .inr q2
          · exact absurd (.inr ⟨hs, ⟨q, q2⟩, by rw [← Int.tmod_eq_emod_of_nonneg q]; exact hm⟩) h
      clear h hs
      go_enter Try.func23, Try.ntmps23
      have rA1_ := Lib.hid (show ((W.alloc (.cells #[.int .i64 s, .int .i64 b] 30))).heap[W.heap.size]? = some (.cells #[.int .i64 s, .int .i64 b] 30 (0, 0)) from by exact heap_alloc_new _ _)
      have G2_ := Lib.hid (show (W).grownBy ((W.alloc (.cells #[.int .i64 s, .int .i64 b] 30))) none from (gby_alloc (gby_refl _ _) _))
      have A_0_ : ((W.alloc (.cells #[.int .i64 s, .int .i64 b] 30))).cell? ⟨W.heap.size, 0, none⟩ = some (.int .i64 s) := cell_of_row _ _ 0 _ _ _ rA1_.out
      have A_1_ : ((W.alloc (.cells #[.int .i64 s, .int .i64 b] 30))).cell? ⟨W.heap.size, 1, none⟩ = some (.int .i64 b) := cell_of_row _ _ 1 _ _ _ rA1_.out
      go_wp2_with fail
      go_at_call 52
      refine (implBSz_yes _ _ HS.out).mono ?_
      rintro e w1 ⟨rfl, hd⟩
      have g := hd.gby none
      clear hd
      clear A_0_ A_1_
      have rA3_ := Lib.hid (show (w1).heap[W.heap.size]? = some (.cells #[.int .i64 s, .int .i64 b] 30 (0, 0)) from row_held g rA1_.out)
      clear rA1_
      have G4_ := Lib.hid (show (W).grownBy (w1) none from gby_trans G2_.out g)
      clear g
      have A_0_ : (w1).cell? ⟨W.heap.size, 0, none⟩ = some (.int .i64 s) := cell_of_row _ _ 0 _ _ _ rA3_.out
      have A_1_ : (w1).cell? ⟨W.heap.size, 1, none⟩ = some (.int .i64 b) := cell_of_row _ _ 1 _ _ _ rA3_.out
      go_wp2_with fail
      go_at_call 53
      refine (rng_no _ _ _ _ (by omega)).mono ?_
      rintro e w2 ⟨rfl, rfl⟩
      go_wp2
      go_ret
      exact ⟨rfl, G4_.out⟩
    · obtain ⟨m, hm2⟩ : ∃ m, Int.tmod b s = m := ⟨_, rfl⟩
      have hm1 : (m == 0) = false := beq_eq_false_iff_ne.2 (by rw [← hm2]; exact hm)
      clear h hs hm
      go_enter Try.func23, Try.ntmps23
      have rA1_ := Lib.hid (show ((W.alloc (.cells #[.int .i64 s, .int .i64 b] 30))).heap[W.heap.size]? = some (.cells #[.int .i64 s, .int .i64 b] 30 (0, 0)) from by exact heap_alloc_new _ _)
      have G2_ := Lib.hid (show (W).grownBy ((W.alloc (.cells #[.int .i64 s, .int .i64 b] 30))) none from (gby_alloc (gby_refl _ _) _))
      have A_0_ : ((W.alloc (.cells #[.int .i64 s, .int .i64 b] 30))).cell? ⟨W.heap.size, 0, none⟩ = some (.int .i64 s) := cell_of_row _ _ 0 _ _ _ rA1_.out
      have A_1_ : ((W.alloc (.cells #[.int .i64 s, .int .i64 b] 30))).cell? ⟨W.heap.size, 1, none⟩ = some (.int .i64 b) := cell_of_row _ _ 1 _ _ _ rA1_.out
      go_wp2_with fail
      go_at_call 52
      refine (implBSz_yes _ _ HS.out).mono ?_
      rintro e w1 ⟨rfl, hd⟩
      have g := hd.gby none
      clear hd
      clear A_0_ A_1_
      have rA3_ := Lib.hid (show (w1).heap[W.heap.size]? = some (.cells #[.int .i64 s, .int .i64 b] 30 (0, 0)) from row_held g rA1_.out)
      clear rA1_
      have G4_ := Lib.hid (show (W).grownBy (w1) none from gby_trans G2_.out g)
      clear g
      have A_0_ : (w1).cell? ⟨W.heap.size, 0, none⟩ = some (.int .i64 s) := cell_of_row _ _ 0 _ _ _ rA3_.out
      have A_1_ : (w1).cell? ⟨W.heap.size, 1, none⟩ = some (.int .i64 b) := cell_of_row _ _ 1 _ _ _ rA3_.out
      go_wp2
      go_ret
      exact ⟨rfl, G4_.out⟩
  · have HS := Lib.hid hs
    by_cases h0 : s = 0
    · subst h0
      have hn : (b == 0) = false := beq_eq_false_iff_ne.2 (fun q => h (.inl ⟨rfl, q⟩))
      clear h hs hz
      go_enter Try.func23, Try.ntmps23
      have rA1_ := Lib.hid (show ((W.alloc (.cells #[.int .i64 0, .int .i64 b] 30))).heap[W.heap.size]? = some (.cells #[.int .i64 0, .int .i64 b] 30 (0, 0)) from by exact heap_alloc_new _ _)
      have G2_ := Lib.hid (show (W).grownBy ((W.alloc (.cells #[.int .i64 0, .int .i64 b] 30))) none from (gby_alloc (gby_refl _ _) _))
      have A_0_ : ((W.alloc (.cells #[.int .i64 0, .int .i64 b] 30))).cell? ⟨W.heap.size, 0, none⟩ = some (.int .i64 0) := cell_of_row _ _ 0 _ _ _ rA1_.out
      have A_1_ : ((W.alloc (.cells #[.int .i64 0, .int .i64 b] 30))).cell? ⟨W.heap.size, 1, none⟩ = some (.int .i64 b) := cell_of_row _ _ 1 _ _ _ rA1_.out
      go_wp2_with fail
      go_at_call 52
      refine (implBSz_no _ _ HS.out).mono ?_
      rintro e w1 ⟨rfl, hd⟩
      have g := hd.gby none
      clear hd
      clear A_0_ A_1_
      have rA3_ := Lib.hid (show (w1).heap[W.heap.size]? = some (.cells #[.int .i64 0, .int .i64 b] 30 (0, 0)) from row_held g rA1_.out)
      clear rA1_
      have G4_ := Lib.hid (show (W).grownBy (w1) none from gby_trans G2_.out g)
      clear g
      have A_0_ : (w1).cell? ⟨W.heap.size, 0, none⟩ = some (.int .i64 0) := cell_of_row _ _ 0 _ _ _ rA3_.out
      have A_1_ : (w1).cell? ⟨W.heap.size, 1, none⟩ = some (.int .i64 b) := cell_of_row _ _ 1 _ _ _ rA3_.out
      go_wp2
      go_ret
      exact ⟨rfl, G4_.out⟩
    · have hn : (s == 0) = false := beq_eq_false_iff_ne.2 h0
      clear h hs hz h0
      go_enter Try.func23, Try.ntmps23
      have rA1_ := Lib.hid (show ((W.alloc (.cells #[.int .i64 s, .int .i64 b] 30))).heap[W.heap.size]? = some (.cells #[.int .i64 s, .int .i64 b] 30 (0, 0)) from by exact heap_alloc_new _ _)
      have G2_ := Lib.hid (show (W).grownBy ((W.alloc (.cells #[.int .i64 s, .int .i64 b] 30))) none from (gby_alloc (gby_refl _ _) _))
      have A_0_ : ((W.alloc (.cells #[.int .i64 s, .int .i64 b] 30))).cell? ⟨W.heap.size, 0, none⟩ = some (.int .i64 s) := cell_of_row _ _ 0 _ _ _ rA1_.out
      have A_1_ : ((W.alloc (.cells #[.int .i64 s, .int .i64 b] 30))).cell? ⟨W.heap.size, 1, none⟩ = some (.int .i64 b) := cell_of_row _ _ 1 _ _ _ rA1_.out
      go_wp2_with fail
      go_at_call 52
      refine (implBSz_no _ _ HS.out).mono ?_
      rintro e w1 ⟨rfl, hd⟩
      have g := hd.gby none
      clear hd
      clear A_0_ A_1_
      have rA3_ := Lib.hid (show (w1).heap[W.heap.size]? = some (.cells #[.int .i64 s, .int .i64 b] 30 (0, 0)) from row_held g rA1_.out)
      clear rA1_
      have G4_ := Lib.hid (show (W).grownBy (w1) none from gby_trans G2_.out g)
      clear g
      have A_0_ : (w1).cell? ⟨W.heap.size, 0, none⟩ = some (.int .i64 s) := cell_of_row _ _ 0 _ _ _ rA3_.out
      have A_1_ : (w1).cell? ⟨W.heap.size, 1, none⟩ = some (.int .i64 b) := cell_of_row _ _ 1 _ _ _ rA3_.out
      go_wp2
      go_ret
      exact ⟨rfl, G4_.out⟩

theorem both_BarOk (s b : Int) : ∃ r : Bool, (∀ W : World, Calls Try.prog 21 #[.agg #[.int .i64 s, .int .i64 b]] W (AnsN (.bool r) W)) ∧ ∀ W : World, Calls Try.prog 23 #[.agg #[.int .i64 s, .int .i64 b]] W (AnsN (.bool r) W) := by
  by_cases h : BOk s b
  · exact ⟨true, fun W => specBarOk_yes s b W h, fun W => implBarOk_yes s b W h⟩
  · exact ⟨false, fun W => specBarOk_no s b W h, fun W => implBarOk_no s b W h⟩

end Go.Proofs.Ytoedgncidoldaaa
