/-
  Gatherings: valid or not, on both sides.
-/
import Derived.Test.YtdieobfkdbeiiaaQGather
import Derived.Test.YtdieobfkdbeiiaaRGatherOk
import Derived.Test.YtdieobfkdbeiiaaIdNum
import Derived.Test.YtdieobfkdbeiiaaInts
import Derived.Test.YtdieobfkdbeiiaaTagW
namespace Go.Proofs.Ytdieobfkdbeiiaa
open Go Go.RowKit
set_option linter.unusedVariables false

theorem wordsY (W : World) {a : Option Addr} {n c : Nat} {xs : List Int} (H : ISl W a n xs) (hl : n ≤ 1048576) (h : AreW xs) : Calls Try.prog 90 #[.slice a n c] W fun e w' => e = .returned (.bool true) ∧ W = w' := by
  have := words_any W a n c xs H hl
  rwa [decide_eq_true h] at this
theorem wordsN (W : World) {a : Option Addr} {n c : Nat} {xs : List Int} (H : ISl W a n xs) (hl : n ≤ 1048576) (h : ¬ AreW xs) : Calls Try.prog 90 #[.slice a n c] W fun e w' => e = .returned (.bool false) ∧ W = w' := by
  have := words_any W a n c xs H hl
  rwa [decide_eq_false h] at this
theorem areWY (W : World) {a : Option Addr} {n c : Nat} {xs : List Int} (H : ISl W a n xs) (hl : n ≤ 1048576) (h : AreW xs) : Calls Try.prog 92 #[.slice a n c] W fun e w' => e = .returned (.bool true) ∧ W = w' := by
  have := areWords_any W a n c xs H hl
  rwa [decide_eq_true h] at this
theorem areWN (W : World) {a : Option Addr} {n c : Nat} {xs : List Int} (H : ISl W a n xs) (hl : n ≤ 1048576) (h : ¬ AreW xs) : Calls Try.prog 92 #[.slice a n c] W fun e w' => e = .returned (.bool false) ∧ W = w' := by
  have := areWords_any W a n c xs H hl
  rwa [decide_eq_false h] at this

theorem missing_any (W : World) (f t w s : Int) (a : Option Addr) (n c : Nat) (h0 : 0 ≤ w) (h1 : w ≤ 64) (hn : n ≤ 1048576) : Calls Try.prog 93 #[vGather f t w (.slice a n c) s] W (AnsN (.int .i64 (w - (n : Int))) W) := by
  unfold vGather
  have k2 : (W.alloc (.cells #[.int .i64 f, .int .i64 t, .int .i64 w, .slice a n c, .int .i64 s] 59)).cell? ⟨W.heap.size, 2, none⟩ = some (.int .i64 w) := cell_of_row _ _ 2 _ _ _ (heap_alloc_new W _)
  have k3 : (W.alloc (.cells #[.int .i64 f, .int .i64 t, .int .i64 w, .slice a n c, .int .i64 s] 59)).cell? ⟨W.heap.size, 3, none⟩ = some (.slice a n c) := cell_of_row _ _ 3 _ _ _ (heap_alloc_new W _)
  go_enter Try.func93, Try.ntmps93
  go_wp2
  go_ret
  exact ⟨rfl, gby_alloc (gby_refl W none) _⟩

/-- a valid gathering -/
def GtOk (f t w : Int) (xs : List Int) (s : Int) : Prop := (0 ≤ f ∧ f ≤ 255) ∧ (0 ≤ t ∧ t ≤ 7) ∧ (0 ≤ w ∧ w ≤ 64) ∧ (xs.length : Int) ≤ w ∧ AreW xs ∧ (0 ≤ s ∧ s ≤ 2) ∧ (s = 1 → (xs.length : Int) = w)
instance (f t w : Int) (xs : List Int) (s : Int) : Decidable (GtOk f t w xs s) := by unfold GtOk; infer_instance

set_option maxHeartbeats 4000000 in
theorem specGOk (W : World) (f t w : Int) (v : Value) (xs : List Int) (s : Int) (H : RdL shI W v xs) (hl : szL shI xs ≤ 1048576) : Calls Try.prog 50 #[vGather f t w v s] W (AnsN (.bool (decide (GtOk f t w xs s))) W) := by
  rw [szL_I] at hl
  obtain ⟨a, c, rfl, hi, _⟩ := rdI_in H
  obtain ⟨n, hn⟩ : ∃ n, n = xs.length := ⟨_, rfl⟩
  obtain ⟨r, hr⟩ : ∃ r, r = decide (GtOk f t w xs s) := ⟨_, rfl⟩
  rw [← hn] at hi hl ⊢
  rw [← hr]
  have hG : GtOk f t w xs s ↔ (0 ≤ f ∧ f ≤ 255) ∧ (0 ≤ t ∧ t ≤ 7) ∧ (0 ≤ w ∧ w ≤ 64) ∧ (n : Int) ≤ w ∧ AreW xs ∧ (0 ≤ s ∧ s ≤ 2) ∧ (s = 1 → (n : Int) = w) := by unfold GtOk; rw [hn]
  have HI := Lib.hid hi
  unfold vGather
  clear H hi hn
  by_cases h1 : 0 ≤ f ∧ f ≤ 255
  · skip
    by_cases h2 : 0 ≤ t ∧ t ≤ 7
    · skip
      by_cases h3 : 0 ≤ w ∧ w ≤ 64
      · skip
        by_cases h4 : (n : Int) ≤ w
        · skip
          by_cases h5 : AreW xs
          · skip
            by_cases h6 : 0 ≤ s ∧ s ≤ 2
            · skip
              by_cases h7 : s = 1 → (n : Int) = w
              · skip
                obtain rfl : r = true := hr.trans (decide_eq_true (hG.2 ⟨h1, h2, h3, h4, h5, h6, h7⟩))
                have HW := Lib.hid h5
                have H7 := Lib.hid h7
                clear hr hG h5 h7
                by_cases hs1 : s = 1
                · subst hs1
                  obtain rfl := H7.out rfl
                  have hss : ((n : Int) - (n : Int)) = 0 := by omega
                  go_enter Try.func50, Try.ntmps50
                  have rA1_ := Lib.hid (show ((W.alloc (.cells #[.int .i64 f, .int .i64 t, .int .i64 (n : Int), .slice a n c, .int .i64 1] 59))).heap[W.heap.size]? = some (.cells #[.int .i64 f, .int .i64 t, .int .i64 (n : Int), .slice a n c, .int .i64 1] 59 (0, 0)) from by exact heap_alloc_new _ _)
                  have G2_ := Lib.hid (show (W).grownBy ((W.alloc (.cells #[.int .i64 f, .int .i64 t, .int .i64 (n : Int), .slice a n c, .int .i64 1] 59))) none from (gby_alloc (gby_refl _ _) _))
                  have A_0_ : ((W.alloc (.cells #[.int .i64 f, .int .i64 t, .int .i64 (n : Int), .slice a n c, .int .i64 1] 59))).cell? ⟨W.heap.size, 0, none⟩ = some (.int .i64 f) := cell_of_row _ _ 0 _ _ _ rA1_.out
                  have A_1_ : ((W.alloc (.cells #[.int .i64 f, .int .i64 t, .int .i64 (n : Int), .slice a n c, .int .i64 1] 59))).cell? ⟨W.heap.size, 1, none⟩ = some (.int .i64 t) := cell_of_row _ _ 1 _ _ _ rA1_.out
                  have A_2_ : ((W.alloc (.cells #[.int .i64 f, .int .i64 t, .int .i64 (n : Int), .slice a n c, .int .i64 1] 59))).cell? ⟨W.heap.size, 2, none⟩ = some (.int .i64 (n : Int)) := cell_of_row _ _ 2 _ _ _ rA1_.out
                  have A_3_ : ((W.alloc (.cells #[.int .i64 f, .int .i64 t, .int .i64 (n : Int), .slice a n c, .int .i64 1] 59))).cell? ⟨W.heap.size, 3, none⟩ = some (.slice a n c) := cell_of_row _ _ 3 _ _ _ rA1_.out
                  have A_4_ : ((W.alloc (.cells #[.int .i64 f, .int .i64 t, .int .i64 (n : Int), .slice a n c, .int .i64 1] 59))).cell? ⟨W.heap.size, 4, none⟩ = some (.int .i64 1) := cell_of_row _ _ 4 _ _ _ rA1_.out
                  go_wp2_with fail
                  go_at_call 89
                  refine (isId_yes _ _ (by omega) (by omega)).mono ?_
                  rintro e w1 ⟨rfl, hd⟩
                  have g := hd.gby none
                  clear hd
                  clear A_0_ A_1_ A_2_ A_3_ A_4_
                  have rA3_ := Lib.hid (show (w1).heap[W.heap.size]? = some (.cells #[.int .i64 f, .int .i64 t, .int .i64 (n : Int), .slice a n c, .int .i64 1] 59 (0, 0)) from row_held g rA1_.out)
                  clear rA1_
                  have G4_ := Lib.hid (show (W).grownBy (w1) none from gby_trans G2_.out g)
                  clear g
                  have A_0_ : (w1).cell? ⟨W.heap.size, 0, none⟩ = some (.int .i64 f) := cell_of_row _ _ 0 _ _ _ rA3_.out
                  have A_1_ : (w1).cell? ⟨W.heap.size, 1, none⟩ = some (.int .i64 t) := cell_of_row _ _ 1 _ _ _ rA3_.out
                  have A_2_ : (w1).cell? ⟨W.heap.size, 2, none⟩ = some (.int .i64 (n : Int)) := cell_of_row _ _ 2 _ _ _ rA3_.out
                  have A_3_ : (w1).cell? ⟨W.heap.size, 3, none⟩ = some (.slice a n c) := cell_of_row _ _ 3 _ _ _ rA3_.out
                  have A_4_ : (w1).cell? ⟨W.heap.size, 4, none⟩ = some (.int .i64 1) := cell_of_row _ _ 4 _ _ _ rA3_.out
                  go_wp2_with fail
                  go_at_call 64
                  refine (in_yes _ _ _ _ (by omega) (by omega)).mono ?_
                  rintro e w2 ⟨rfl, rfl⟩
                  go_wp2_with fail
                  go_at_call 64
                  refine (in_yes _ _ _ _ (by omega) (by omega)).mono ?_
                  rintro e w3 ⟨rfl, rfl⟩
                  go_wp2_with fail
                  go_at_call 90
                  refine (wordsY _ (HI.out.kept G4_.out) (by omega) HW.out).mono ?_
                  rintro e w4 ⟨rfl, rfl⟩
                  go_wp2_with fail
                  go_at_call 64
                  refine (in_yes _ _ _ _ (by omega) (by omega)).mono ?_
                  rintro e w5 ⟨rfl, rfl⟩
                  go_wp2
                  go_ret
                  exact ⟨rfl, G4_.out⟩
                · have hne : (s != 1) = true := by simpa using hs1
                  have hne2 : (s == 1) = false := beq_eq_false_iff_ne.2 hs1
                  go_enter Try.func50, Try.ntmps50
                  have rA1_ := Lib.hid (show ((W.alloc (.cells #[.int .i64 f, .int .i64 t, .int .i64 w, .slice a n c, .int .i64 s] 59))).heap[W.heap.size]? = some (.cells #[.int .i64 f, .int .i64 t, .int .i64 w, .slice a n c, .int .i64 s] 59 (0, 0)) from by exact heap_alloc_new _ _)
                  have G2_ := Lib.hid (show (W).grownBy ((W.alloc (.cells #[.int .i64 f, .int .i64 t, .int .i64 w, .slice a n c, .int .i64 s] 59))) none from (gby_alloc (gby_refl _ _) _))
                  have A_0_ : ((W.alloc (.cells #[.int .i64 f, .int .i64 t, .int .i64 w, .slice a n c, .int .i64 s] 59))).cell? ⟨W.heap.size, 0, none⟩ = some (.int .i64 f) := cell_of_row _ _ 0 _ _ _ rA1_.out
                  have A_1_ : ((W.alloc (.cells #[.int .i64 f, .int .i64 t, .int .i64 w, .slice a n c, .int .i64 s] 59))).cell? ⟨W.heap.size, 1, none⟩ = some (.int .i64 t) := cell_of_row _ _ 1 _ _ _ rA1_.out
                  have A_2_ : ((W.alloc (.cells #[.int .i64 f, .int .i64 t, .int .i64 w, .slice a n c, .int .i64 s] 59))).cell? ⟨W.heap.size, 2, none⟩ = some (.int .i64 w) := cell_of_row _ _ 2 _ _ _ rA1_.out
                  have A_3_ : ((W.alloc (.cells #[.int .i64 f, .int .i64 t, .int .i64 w, .slice a n c, .int .i64 s] 59))).cell? ⟨W.heap.size, 3, none⟩ = some (.slice a n c) := cell_of_row _ _ 3 _ _ _ rA1_.out
                  have A_4_ : ((W.alloc (.cells #[.int .i64 f, .int .i64 t, .int .i64 w, .slice a n c, .int .i64 s] 59))).cell? ⟨W.heap.size, 4, none⟩ = some (.int .i64 s) := cell_of_row _ _ 4 _ _ _ rA1_.out
                  go_wp2_with fail
                  go_at_call 89
                  refine (isId_yes _ _ (by omega) (by omega)).mono ?_
                  rintro e w1 ⟨rfl, hd⟩
                  have g := hd.gby none
                  clear hd
                  clear A_0_ A_1_ A_2_ A_3_ A_4_
                  have rA3_ := Lib.hid (show (w1).heap[W.heap.size]? = some (.cells #[.int .i64 f, .int .i64 t, .int .i64 w, .slice a n c, .int .i64 s] 59 (0, 0)) from row_held g rA1_.out)
                  clear rA1_
                  have G4_ := Lib.hid (show (W).grownBy (w1) none from gby_trans G2_.out g)
                  clear g
                  have A_0_ : (w1).cell? ⟨W.heap.size, 0, none⟩ = some (.int .i64 f) := cell_of_row _ _ 0 _ _ _ rA3_.out
                  have A_1_ : (w1).cell? ⟨W.heap.size, 1, none⟩ = some (.int .i64 t) := cell_of_row _ _ 1 _ _ _ rA3_.out
                  have A_2_ : (w1).cell? ⟨W.heap.size, 2, none⟩ = some (.int .i64 w) := cell_of_row _ _ 2 _ _ _ rA3_.out
                  have A_3_ : (w1).cell? ⟨W.heap.size, 3, none⟩ = some (.slice a n c) := cell_of_row _ _ 3 _ _ _ rA3_.out
                  have A_4_ : (w1).cell? ⟨W.heap.size, 4, none⟩ = some (.int .i64 s) := cell_of_row _ _ 4 _ _ _ rA3_.out
                  go_wp2_with fail
                  go_at_call 64
                  refine (in_yes _ _ _ _ (by omega) (by omega)).mono ?_
                  rintro e w2 ⟨rfl, rfl⟩
                  go_wp2_with fail
                  go_at_call 64
                  refine (in_yes _ _ _ _ (by omega) (by omega)).mono ?_
                  rintro e w3 ⟨rfl, rfl⟩
                  go_wp2_with fail
                  go_at_call 90
                  refine (wordsY _ (HI.out.kept G4_.out) (by omega) HW.out).mono ?_
                  rintro e w4 ⟨rfl, rfl⟩
                  go_wp2_with fail
                  go_at_call 64
                  refine (in_yes _ _ _ _ (by omega) (by omega)).mono ?_
                  rintro e w5 ⟨rfl, rfl⟩
                  go_wp2
                  go_ret
                  exact ⟨rfl, G4_.out⟩
              · obtain rfl : r = false := hr.trans (decide_eq_false (fun q0 => (fun q => h7 (q.2.2.2.2.2.2)) (hG.1 q0)))
                have HW := Lib.hid h5
                obtain ⟨rfl, hnw⟩ : s = 1 ∧ (n : Int) ≠ w := by
                  rcases Decidable.em (s = 1) with q | q
                  · exact ⟨q, fun q2 => h7 (fun _ => q2)⟩
                  · exact absurd (fun q2 => absurd q2 q) h7
                have hnw1 : ((n : Int) == w) = false := beq_eq_false_iff_ne.2 hnw
                have hnw2 : ((w - (n : Int)) == 0) = false := beq_eq_false_iff_ne.2 (by omega)
                clear hr hG h5 h7 hnw
                go_enter Try.func50, Try.ntmps50
                have rA1_ := Lib.hid (show ((W.alloc (.cells #[.int .i64 f, .int .i64 t, .int .i64 w, .slice a n c, .int .i64 1] 59))).heap[W.heap.size]? = some (.cells #[.int .i64 f, .int .i64 t, .int .i64 w, .slice a n c, .int .i64 1] 59 (0, 0)) from by exact heap_alloc_new _ _)
                have G2_ := Lib.hid (show (W).grownBy ((W.alloc (.cells #[.int .i64 f, .int .i64 t, .int .i64 w, .slice a n c, .int .i64 1] 59))) none from (gby_alloc (gby_refl _ _) _))
                have A_0_ : ((W.alloc (.cells #[.int .i64 f, .int .i64 t, .int .i64 w, .slice a n c, .int .i64 1] 59))).cell? ⟨W.heap.size, 0, none⟩ = some (.int .i64 f) := cell_of_row _ _ 0 _ _ _ rA1_.out
                have A_1_ : ((W.alloc (.cells #[.int .i64 f, .int .i64 t, .int .i64 w, .slice a n c, .int .i64 1] 59))).cell? ⟨W.heap.size, 1, none⟩ = some (.int .i64 t) := cell_of_row _ _ 1 _ _ _ rA1_.out
                have A_2_ : ((W.alloc (.cells #[.int .i64 f, .int .i64 t, .int .i64 w, .slice a n c, .int .i64 1] 59))).cell? ⟨W.heap.size, 2, none⟩ = some (.int .i64 w) := cell_of_row _ _ 2 _ _ _ rA1_.out
                have A_3_ : ((W.alloc (.cells #[.int .i64 f, .int .i64 t, .int .i64 w, .slice a n c, .int .i64 1] 59))).cell? ⟨W.heap.size, 3, none⟩ = some (.slice a n c) := cell_of_row _ _ 3 _ _ _ rA1_.out
                have A_4_ : ((W.alloc (.cells #[.int .i64 f, .int .i64 t, .int .i64 w, .slice a n c, .int .i64 1] 59))).cell? ⟨W.heap.size, 4, none⟩ = some (.int .i64 1) := cell_of_row _ _ 4 _ _ _ rA1_.out
                go_wp2_with fail
                go_at_call 89
                refine (isId_yes _ _ (by omega) (by omega)).mono ?_
                rintro e w1 ⟨rfl, hd⟩
                have g := hd.gby none
                clear hd
                clear A_0_ A_1_ A_2_ A_3_ A_4_
                have rA3_ := Lib.hid (show (w1).heap[W.heap.size]? = some (.cells #[.int .i64 f, .int .i64 t, .int .i64 w, .slice a n c, .int .i64 1] 59 (0, 0)) from row_held g rA1_.out)
                clear rA1_
                have G4_ := Lib.hid (show (W).grownBy (w1) none from gby_trans G2_.out g)
                clear g
                have A_0_ : (w1).cell? ⟨W.heap.size, 0, none⟩ = some (.int .i64 f) := cell_of_row _ _ 0 _ _ _ rA3_.out
                have A_1_ : (w1).cell? ⟨W.heap.size, 1, none⟩ = some (.int .i64 t) := cell_of_row _ _ 1 _ _ _ rA3_.out
                have A_2_ : (w1).cell? ⟨W.heap.size, 2, none⟩ = some (.int .i64 w) := cell_of_row _ _ 2 _ _ _ rA3_.out
                have A_3_ : (w1).cell? ⟨W.heap.size, 3, none⟩ = some (.slice a n c) := cell_of_row _ _ 3 _ _ _ rA3_.out
                have A_4_ : (w1).cell? ⟨W.heap.size, 4, none⟩ = some (.int .i64 1) := cell_of_row _ _ 4 _ _ _ rA3_.out
                go_wp2_with fail
                go_at_call 64
                refine (in_yes _ _ _ _ (by omega) (by omega)).mono ?_
                rintro e w2 ⟨rfl, rfl⟩
                go_wp2_with fail
                go_at_call 64
                refine (in_yes _ _ _ _ (by omega) (by omega)).mono ?_
                rintro e w3 ⟨rfl, rfl⟩
                go_wp2_with fail
                go_at_call 90
                refine (wordsY _ (HI.out.kept G4_.out) (by omega) HW.out).mono ?_
                rintro e w4 ⟨rfl, rfl⟩
                go_wp2_with fail
                go_at_call 64
                refine (in_yes _ _ _ _ (by omega) (by omega)).mono ?_
                rintro e w5 ⟨rfl, rfl⟩
                go_wp2
                go_ret
                exact ⟨rfl, G4_.out⟩
            · obtain rfl : r = false := hr.trans (decide_eq_false (fun q0 => (fun q => h6 (q.2.2.2.2.2.1)) (hG.1 q0)))
              have HW := Lib.hid h5
              clear hr hG h5
              go_enter Try.func50, Try.ntmps50
              have rA1_ := Lib.hid (show ((W.alloc (.cells #[.int .i64 f, .int .i64 t, .int .i64 w, .slice a n c, .int .i64 s] 59))).heap[W.heap.size]? = some (.cells #[.int .i64 f, .int .i64 t, .int .i64 w, .slice a n c, .int .i64 s] 59 (0, 0)) from by exact heap_alloc_new _ _)
              have G2_ := Lib.hid (show (W).grownBy ((W.alloc (.cells #[.int .i64 f, .int .i64 t, .int .i64 w, .slice a n c, .int .i64 s] 59))) none from (gby_alloc (gby_refl _ _) _))
              have A_0_ : ((W.alloc (.cells #[.int .i64 f, .int .i64 t, .int .i64 w, .slice a n c, .int .i64 s] 59))).cell? ⟨W.heap.size, 0, none⟩ = some (.int .i64 f) := cell_of_row _ _ 0 _ _ _ rA1_.out
              have A_1_ : ((W.alloc (.cells #[.int .i64 f, .int .i64 t, .int .i64 w, .slice a n c, .int .i64 s] 59))).cell? ⟨W.heap.size, 1, none⟩ = some (.int .i64 t) := cell_of_row _ _ 1 _ _ _ rA1_.out
              have A_2_ : ((W.alloc (.cells #[.int .i64 f, .int .i64 t, .int .i64 w, .slice a n c, .int .i64 s] 59))).cell? ⟨W.heap.size, 2, none⟩ = some (.int .i64 w) := cell_of_row _ _ 2 _ _ _ rA1_.out
              have A_3_ : ((W.alloc (.cells #[.int .i64 f, .int .i64 t, .int .i64 w, .slice a n c, .int .i64 s] 59))).cell? ⟨W.heap.size, 3, none⟩ = some (.slice a n c) := cell_of_row _ _ 3 _ _ _ rA1_.out
              have A_4_ : ((W.alloc (.cells #[.int .i64 f, .int .i64 t, .int .i64 w, .slice a n c, .int .i64 s] 59))).cell? ⟨W.heap.size, 4, none⟩ = some (.int .i64 s) := cell_of_row _ _ 4 _ _ _ rA1_.out
              go_wp2_with fail
              go_at_call 89
              refine (isId_yes _ _ (by omega) (by omega)).mono ?_
              rintro e w1 ⟨rfl, hd⟩
              have g := hd.gby none
              clear hd
              clear A_0_ A_1_ A_2_ A_3_ A_4_
              have rA3_ := Lib.hid (show (w1).heap[W.heap.size]? = some (.cells #[.int .i64 f, .int .i64 t, .int .i64 w, .slice a n c, .int .i64 s] 59 (0, 0)) from row_held g rA1_.out)
              clear rA1_
              have G4_ := Lib.hid (show (W).grownBy (w1) none from gby_trans G2_.out g)
              clear g
              have A_0_ : (w1).cell? ⟨W.heap.size, 0, none⟩ = some (.int .i64 f) := cell_of_row _ _ 0 _ _ _ rA3_.out
              have A_1_ : (w1).cell? ⟨W.heap.size, 1, none⟩ = some (.int .i64 t) := cell_of_row _ _ 1 _ _ _ rA3_.out
              have A_2_ : (w1).cell? ⟨W.heap.size, 2, none⟩ = some (.int .i64 w) := cell_of_row _ _ 2 _ _ _ rA3_.out
              have A_3_ : (w1).cell? ⟨W.heap.size, 3, none⟩ = some (.slice a n c) := cell_of_row _ _ 3 _ _ _ rA3_.out
              have A_4_ : (w1).cell? ⟨W.heap.size, 4, none⟩ = some (.int .i64 s) := cell_of_row _ _ 4 _ _ _ rA3_.out
              go_wp2_with fail
              go_at_call 64
              refine (in_yes _ _ _ _ (by omega) (by omega)).mono ?_
              rintro e w2 ⟨rfl, rfl⟩
              go_wp2_with fail
              go_at_call 64
              refine (in_yes _ _ _ _ (by omega) (by omega)).mono ?_
              rintro e w3 ⟨rfl, rfl⟩
              go_wp2_with fail
              go_at_call 90
              refine (wordsY _ (HI.out.kept G4_.out) (by omega) HW.out).mono ?_
              rintro e w4 ⟨rfl, rfl⟩
              go_wp2_with fail
              go_at_call 64
              refine (in_no _ _ _ _ (by omega)).mono ?_
              rintro e w5 ⟨rfl, rfl⟩
              go_wp2
              go_ret
              exact ⟨rfl, G4_.out⟩
          · obtain rfl : r = false := hr.trans (decide_eq_false (fun q0 => (fun q => h5 (q.2.2.2.2.1)) (hG.1 q0)))
            have HW := Lib.hid h5
            clear hr hG h5
            go_enter Try.func50, Try.ntmps50
            have rA1_ := Lib.hid (show ((W.alloc (.cells #[.int .i64 f, .int .i64 t, .int .i64 w, .slice a n c, .int .i64 s] 59))).heap[W.heap.size]? = some (.cells #[.int .i64 f, .int .i64 t, .int .i64 w, .slice a n c, .int .i64 s] 59 (0, 0)) from by exact heap_alloc_new _ _)
            have G2_ := Lib.hid (show (W).grownBy ((W.alloc (.cells #[.int .i64 f, .int .i64 t, .int .i64 w, .slice a n c, .int .i64 s] 59))) none from (gby_alloc (gby_refl _ _) _))
            have A_0_ : ((W.alloc (.cells #[.int .i64 f, .int .i64 t, .int .i64 w, .slice a n c, .int .i64 s] 59))).cell? ⟨W.heap.size, 0, none⟩ = some (.int .i64 f) := cell_of_row _ _ 0 _ _ _ rA1_.out
            have A_1_ : ((W.alloc (.cells #[.int .i64 f, .int .i64 t, .int .i64 w, .slice a n c, .int .i64 s] 59))).cell? ⟨W.heap.size, 1, none⟩ = some (.int .i64 t) := cell_of_row _ _ 1 _ _ _ rA1_.out
            have A_2_ : ((W.alloc (.cells #[.int .i64 f, .int .i64 t, .int .i64 w, .slice a n c, .int .i64 s] 59))).cell? ⟨W.heap.size, 2, none⟩ = some (.int .i64 w) := cell_of_row _ _ 2 _ _ _ rA1_.out
            have A_3_ : ((W.alloc (.cells #[.int .i64 f, .int .i64 t, .int .i64 w, .slice a n c, .int .i64 s] 59))).cell? ⟨W.heap.size, 3, none⟩ = some (.slice a n c) := cell_of_row _ _ 3 _ _ _ rA1_.out
            have A_4_ : ((W.alloc (.cells #[.int .i64 f, .int .i64 t, .int .i64 w, .slice a n c, .int .i64 s] 59))).cell? ⟨W.heap.size, 4, none⟩ = some (.int .i64 s) := cell_of_row _ _ 4 _ _ _ rA1_.out
            go_wp2_with fail
            go_at_call 89
            refine (isId_yes _ _ (by omega) (by omega)).mono ?_
            rintro e w1 ⟨rfl, hd⟩
            have g := hd.gby none
            clear hd
            clear A_0_ A_1_ A_2_ A_3_ A_4_
            have rA3_ := Lib.hid (show (w1).heap[W.heap.size]? = some (.cells #[.int .i64 f, .int .i64 t, .int .i64 w, .slice a n c, .int .i64 s] 59 (0, 0)) from row_held g rA1_.out)
            clear rA1_
            have G4_ := Lib.hid (show (W).grownBy (w1) none from gby_trans G2_.out g)
            clear g
            have A_0_ : (w1).cell? ⟨W.heap.size, 0, none⟩ = some (.int .i64 f) := cell_of_row _ _ 0 _ _ _ rA3_.out
            have A_1_ : (w1).cell? ⟨W.heap.size, 1, none⟩ = some (.int .i64 t) := cell_of_row _ _ 1 _ _ _ rA3_.out
            have A_2_ : (w1).cell? ⟨W.heap.size, 2, none⟩ = some (.int .i64 w) := cell_of_row _ _ 2 _ _ _ rA3_.out
            have A_3_ : (w1).cell? ⟨W.heap.size, 3, none⟩ = some (.slice a n c) := cell_of_row _ _ 3 _ _ _ rA3_.out
            have A_4_ : (w1).cell? ⟨W.heap.size, 4, none⟩ = some (.int .i64 s) := cell_of_row _ _ 4 _ _ _ rA3_.out
            go_wp2_with fail
            go_at_call 64
            refine (in_yes _ _ _ _ (by omega) (by omega)).mono ?_
            rintro e w2 ⟨rfl, rfl⟩
            go_wp2_with fail
            go_at_call 64
            refine (in_yes _ _ _ _ (by omega) (by omega)).mono ?_
            rintro e w3 ⟨rfl, rfl⟩
            go_wp2_with fail
            go_at_call 90
            refine (wordsN _ (HI.out.kept G4_.out) (by omega) HW.out).mono ?_
            rintro e w4 ⟨rfl, rfl⟩
            go_wp2
            go_ret
            exact ⟨rfl, G4_.out⟩
        · obtain rfl : r = false := hr.trans (decide_eq_false (fun q0 => (fun q => h4 (q.2.2.2.1)) (hG.1 q0)))
          have hd4 : decide ((n : Int) ≤ w) = false := decide_eq_false h4
          clear hr hG
          go_enter Try.func50, Try.ntmps50
          have rA1_ := Lib.hid (show ((W.alloc (.cells #[.int .i64 f, .int .i64 t, .int .i64 w, .slice a n c, .int .i64 s] 59))).heap[W.heap.size]? = some (.cells #[.int .i64 f, .int .i64 t, .int .i64 w, .slice a n c, .int .i64 s] 59 (0, 0)) from by exact heap_alloc_new _ _)
          have G2_ := Lib.hid (show (W).grownBy ((W.alloc (.cells #[.int .i64 f, .int .i64 t, .int .i64 w, .slice a n c, .int .i64 s] 59))) none from (gby_alloc (gby_refl _ _) _))
          have A_0_ : ((W.alloc (.cells #[.int .i64 f, .int .i64 t, .int .i64 w, .slice a n c, .int .i64 s] 59))).cell? ⟨W.heap.size, 0, none⟩ = some (.int .i64 f) := cell_of_row _ _ 0 _ _ _ rA1_.out
          have A_1_ : ((W.alloc (.cells #[.int .i64 f, .int .i64 t, .int .i64 w, .slice a n c, .int .i64 s] 59))).cell? ⟨W.heap.size, 1, none⟩ = some (.int .i64 t) := cell_of_row _ _ 1 _ _ _ rA1_.out
          have A_2_ : ((W.alloc (.cells #[.int .i64 f, .int .i64 t, .int .i64 w, .slice a n c, .int .i64 s] 59))).cell? ⟨W.heap.size, 2, none⟩ = some (.int .i64 w) := cell_of_row _ _ 2 _ _ _ rA1_.out
          have A_3_ : ((W.alloc (.cells #[.int .i64 f, .int .i64 t, .int .i64 w, .slice a n c, .int .i64 s] 59))).cell? ⟨W.heap.size, 3, none⟩ = some (.slice a n c) := cell_of_row _ _ 3 _ _ _ rA1_.out
          have A_4_ : ((W.alloc (.cells #[.int .i64 f, .int .i64 t, .int .i64 w, .slice a n c, .int .i64 s] 59))).cell? ⟨W.heap.size, 4, none⟩ = some (.int .i64 s) := cell_of_row _ _ 4 _ _ _ rA1_.out
          go_wp2_with fail
          go_at_call 89
          refine (isId_yes _ _ (by omega) (by omega)).mono ?_
          rintro e w1 ⟨rfl, hd⟩
          have g := hd.gby none
          clear hd
          clear A_0_ A_1_ A_2_ A_3_ A_4_
          have rA3_ := Lib.hid (show (w1).heap[W.heap.size]? = some (.cells #[.int .i64 f, .int .i64 t, .int .i64 w, .slice a n c, .int .i64 s] 59 (0, 0)) from row_held g rA1_.out)
          clear rA1_
          have G4_ := Lib.hid (show (W).grownBy (w1) none from gby_trans G2_.out g)
          clear g
          have A_0_ : (w1).cell? ⟨W.heap.size, 0, none⟩ = some (.int .i64 f) := cell_of_row _ _ 0 _ _ _ rA3_.out
          have A_1_ : (w1).cell? ⟨W.heap.size, 1, none⟩ = some (.int .i64 t) := cell_of_row _ _ 1 _ _ _ rA3_.out
          have A_2_ : (w1).cell? ⟨W.heap.size, 2, none⟩ = some (.int .i64 w) := cell_of_row _ _ 2 _ _ _ rA3_.out
          have A_3_ : (w1).cell? ⟨W.heap.size, 3, none⟩ = some (.slice a n c) := cell_of_row _ _ 3 _ _ _ rA3_.out
          have A_4_ : (w1).cell? ⟨W.heap.size, 4, none⟩ = some (.int .i64 s) := cell_of_row _ _ 4 _ _ _ rA3_.out
          go_wp2_with fail
          go_at_call 64
          refine (in_yes _ _ _ _ (by omega) (by omega)).mono ?_
          rintro e w2 ⟨rfl, rfl⟩
          go_wp2_with fail
          go_at_call 64
          refine (in_yes _ _ _ _ (by omega) (by omega)).mono ?_
          rintro e w3 ⟨rfl, rfl⟩
          go_wp2
          go_ret
          exact ⟨rfl, G4_.out⟩
      · obtain rfl : r = false := hr.trans (decide_eq_false (fun q0 => (fun q => h3 (q.2.2.1)) (hG.1 q0)))
        clear hr hG
        go_enter Try.func50, Try.ntmps50
        have rA1_ := Lib.hid (show ((W.alloc (.cells #[.int .i64 f, .int .i64 t, .int .i64 w, .slice a n c, .int .i64 s] 59))).heap[W.heap.size]? = some (.cells #[.int .i64 f, .int .i64 t, .int .i64 w, .slice a n c, .int .i64 s] 59 (0, 0)) from by exact heap_alloc_new _ _)
        have G2_ := Lib.hid (show (W).grownBy ((W.alloc (.cells #[.int .i64 f, .int .i64 t, .int .i64 w, .slice a n c, .int .i64 s] 59))) none from (gby_alloc (gby_refl _ _) _))
        have A_0_ : ((W.alloc (.cells #[.int .i64 f, .int .i64 t, .int .i64 w, .slice a n c, .int .i64 s] 59))).cell? ⟨W.heap.size, 0, none⟩ = some (.int .i64 f) := cell_of_row _ _ 0 _ _ _ rA1_.out
        have A_1_ : ((W.alloc (.cells #[.int .i64 f, .int .i64 t, .int .i64 w, .slice a n c, .int .i64 s] 59))).cell? ⟨W.heap.size, 1, none⟩ = some (.int .i64 t) := cell_of_row _ _ 1 _ _ _ rA1_.out
        have A_2_ : ((W.alloc (.cells #[.int .i64 f, .int .i64 t, .int .i64 w, .slice a n c, .int .i64 s] 59))).cell? ⟨W.heap.size, 2, none⟩ = some (.int .i64 w) := cell_of_row _ _ 2 _ _ _ rA1_.out
        have A_3_ : ((W.alloc (.cells #[.int .i64 f, .int .i64 t, .int .i64 w, .slice a n c, .int .i64 s] 59))).cell? ⟨W.heap.size, 3, none⟩ = some (.slice a n c) := cell_of_row _ _ 3 _ _ _ rA1_.out
        have A_4_ : ((W.alloc (.cells #[.int .i64 f, .int .i64 t, .int .i64 w, .slice a n c, .int .i64 s] 59))).cell? ⟨W.heap.size, 4, none⟩ = some (.int .i64 s) := cell_of_row _ _ 4 _ _ _ rA1_.out
        go_wp2_with fail
        go_at_call 89
        refine (isId_yes _ _ (by omega) (by omega)).mono ?_
        rintro e w1 ⟨rfl, hd⟩
        have g := hd.gby none
        clear hd
        clear A_0_ A_1_ A_2_ A_3_ A_4_
        have rA3_ := Lib.hid (show (w1).heap[W.heap.size]? = some (.cells #[.int .i64 f, .int .i64 t, .int .i64 w, .slice a n c, .int .i64 s] 59 (0, 0)) from row_held g rA1_.out)
        clear rA1_
        have G4_ := Lib.hid (show (W).grownBy (w1) none from gby_trans G2_.out g)
        clear g
        have A_0_ : (w1).cell? ⟨W.heap.size, 0, none⟩ = some (.int .i64 f) := cell_of_row _ _ 0 _ _ _ rA3_.out
        have A_1_ : (w1).cell? ⟨W.heap.size, 1, none⟩ = some (.int .i64 t) := cell_of_row _ _ 1 _ _ _ rA3_.out
        have A_2_ : (w1).cell? ⟨W.heap.size, 2, none⟩ = some (.int .i64 w) := cell_of_row _ _ 2 _ _ _ rA3_.out
        have A_3_ : (w1).cell? ⟨W.heap.size, 3, none⟩ = some (.slice a n c) := cell_of_row _ _ 3 _ _ _ rA3_.out
        have A_4_ : (w1).cell? ⟨W.heap.size, 4, none⟩ = some (.int .i64 s) := cell_of_row _ _ 4 _ _ _ rA3_.out
        go_wp2_with fail
        go_at_call 64
        refine (in_yes _ _ _ _ (by omega) (by omega)).mono ?_
        rintro e w2 ⟨rfl, rfl⟩
        go_wp2_with fail
        go_at_call 64
        refine (in_no _ _ _ _ (by omega)).mono ?_
        rintro e w3 ⟨rfl, rfl⟩
        go_wp2
        go_ret
        exact ⟨rfl, G4_.out⟩
    · obtain rfl : r = false := hr.trans (decide_eq_false (fun q0 => (fun q => h2 (q.2.1)) (hG.1 q0)))
      clear hr hG
      go_enter Try.func50, Try.ntmps50
      have rA1_ := Lib.hid (show ((W.alloc (.cells #[.int .i64 f, .int .i64 t, .int .i64 w, .slice a n c, .int .i64 s] 59))).heap[W.heap.size]? = some (.cells #[.int .i64 f, .int .i64 t, .int .i64 w, .slice a n c, .int .i64 s] 59 (0, 0)) from by exact heap_alloc_new _ _)
      have G2_ := Lib.hid (show (W).grownBy ((W.alloc (.cells #[.int .i64 f, .int .i64 t, .int .i64 w, .slice a n c, .int .i64 s] 59))) none from (gby_alloc (gby_refl _ _) _))
      have A_0_ : ((W.alloc (.cells #[.int .i64 f, .int .i64 t, .int .i64 w, .slice a n c, .int .i64 s] 59))).cell? ⟨W.heap.size, 0, none⟩ = some (.int .i64 f) := cell_of_row _ _ 0 _ _ _ rA1_.out
      have A_1_ : ((W.alloc (.cells #[.int .i64 f, .int .i64 t, .int .i64 w, .slice a n c, .int .i64 s] 59))).cell? ⟨W.heap.size, 1, none⟩ = some (.int .i64 t) := cell_of_row _ _ 1 _ _ _ rA1_.out
      have A_2_ : ((W.alloc (.cells #[.int .i64 f, .int .i64 t, .int .i64 w, .slice a n c, .int .i64 s] 59))).cell? ⟨W.heap.size, 2, none⟩ = some (.int .i64 w) := cell_of_row _ _ 2 _ _ _ rA1_.out
      have A_3_ : ((W.alloc (.cells #[.int .i64 f, .int .i64 t, .int .i64 w, .slice a n c, .int .i64 s] 59))).cell? ⟨W.heap.size, 3, none⟩ = some (.slice a n c) := cell_of_row _ _ 3 _ _ _ rA1_.out
      have A_4_ : ((W.alloc (.cells #[.int .i64 f, .int .i64 t, .int .i64 w, .slice a n c, .int .i64 s] 59))).cell? ⟨W.heap.size, 4, none⟩ = some (.int .i64 s) := cell_of_row _ _ 4 _ _ _ rA1_.out
      go_wp2_with fail
      go_at_call 89
      refine (isId_yes _ _ (by omega) (by omega)).mono ?_
      rintro e w1 ⟨rfl, hd⟩
      have g := hd.gby none
      clear hd
      clear A_0_ A_1_ A_2_ A_3_ A_4_
      have rA3_ := Lib.hid (show (w1).heap[W.heap.size]? = some (.cells #[.int .i64 f, .int .i64 t, .int .i64 w, .slice a n c, .int .i64 s] 59 (0, 0)) from row_held g rA1_.out)
      clear rA1_
      have G4_ := Lib.hid (show (W).grownBy (w1) none from gby_trans G2_.out g)
      clear g
      have A_0_ : (w1).cell? ⟨W.heap.size, 0, none⟩ = some (.int .i64 f) := cell_of_row _ _ 0 _ _ _ rA3_.out
      have A_1_ : (w1).cell? ⟨W.heap.size, 1, none⟩ = some (.int .i64 t) := cell_of_row _ _ 1 _ _ _ rA3_.out
      have A_2_ : (w1).cell? ⟨W.heap.size, 2, none⟩ = some (.int .i64 w) := cell_of_row _ _ 2 _ _ _ rA3_.out
      have A_3_ : (w1).cell? ⟨W.heap.size, 3, none⟩ = some (.slice a n c) := cell_of_row _ _ 3 _ _ _ rA3_.out
      have A_4_ : (w1).cell? ⟨W.heap.size, 4, none⟩ = some (.int .i64 s) := cell_of_row _ _ 4 _ _ _ rA3_.out
      go_wp2_with fail
      go_at_call 64
      refine (in_no _ _ _ _ (by omega)).mono ?_
      rintro e w2 ⟨rfl, rfl⟩
      go_wp2
      go_ret
      exact ⟨rfl, G4_.out⟩
  · obtain rfl : r = false := hr.trans (decide_eq_false (fun q0 => (fun q => h1 (q.1)) (hG.1 q0)))
    clear hr hG
    go_enter Try.func50, Try.ntmps50
    have rA1_ := Lib.hid (show ((W.alloc (.cells #[.int .i64 f, .int .i64 t, .int .i64 w, .slice a n c, .int .i64 s] 59))).heap[W.heap.size]? = some (.cells #[.int .i64 f, .int .i64 t, .int .i64 w, .slice a n c, .int .i64 s] 59 (0, 0)) from by exact heap_alloc_new _ _)
    have G2_ := Lib.hid (show (W).grownBy ((W.alloc (.cells #[.int .i64 f, .int .i64 t, .int .i64 w, .slice a n c, .int .i64 s] 59))) none from (gby_alloc (gby_refl _ _) _))
    have A_0_ : ((W.alloc (.cells #[.int .i64 f, .int .i64 t, .int .i64 w, .slice a n c, .int .i64 s] 59))).cell? ⟨W.heap.size, 0, none⟩ = some (.int .i64 f) := cell_of_row _ _ 0 _ _ _ rA1_.out
    have A_1_ : ((W.alloc (.cells #[.int .i64 f, .int .i64 t, .int .i64 w, .slice a n c, .int .i64 s] 59))).cell? ⟨W.heap.size, 1, none⟩ = some (.int .i64 t) := cell_of_row _ _ 1 _ _ _ rA1_.out
    have A_2_ : ((W.alloc (.cells #[.int .i64 f, .int .i64 t, .int .i64 w, .slice a n c, .int .i64 s] 59))).cell? ⟨W.heap.size, 2, none⟩ = some (.int .i64 w) := cell_of_row _ _ 2 _ _ _ rA1_.out
    have A_3_ : ((W.alloc (.cells #[.int .i64 f, .int .i64 t, .int .i64 w, .slice a n c, .int .i64 s] 59))).cell? ⟨W.heap.size, 3, none⟩ = some (.slice a n c) := cell_of_row _ _ 3 _ _ _ rA1_.out
    have A_4_ : ((W.alloc (.cells #[.int .i64 f, .int .i64 t, .int .i64 w, .slice a n c, .int .i64 s] 59))).cell? ⟨W.heap.size, 4, none⟩ = some (.int .i64 s) := cell_of_row _ _ 4 _ _ _ rA1_.out
    go_wp2_with fail
    go_at_call 89
    refine (isId_no _ _ (by omega)).mono ?_
    rintro e w1 ⟨rfl, hd⟩
    have g := hd.gby none
    clear hd
    clear A_0_ A_1_ A_2_ A_3_ A_4_
    have rA3_ := Lib.hid (show (w1).heap[W.heap.size]? = some (.cells #[.int .i64 f, .int .i64 t, .int .i64 w, .slice a n c, .int .i64 s] 59 (0, 0)) from row_held g rA1_.out)
    clear rA1_
    have G4_ := Lib.hid (show (W).grownBy (w1) none from gby_trans G2_.out g)
    clear g
    have A_0_ : (w1).cell? ⟨W.heap.size, 0, none⟩ = some (.int .i64 f) := cell_of_row _ _ 0 _ _ _ rA3_.out
    have A_1_ : (w1).cell? ⟨W.heap.size, 1, none⟩ = some (.int .i64 t) := cell_of_row _ _ 1 _ _ _ rA3_.out
    have A_2_ : (w1).cell? ⟨W.heap.size, 2, none⟩ = some (.int .i64 w) := cell_of_row _ _ 2 _ _ _ rA3_.out
    have A_3_ : (w1).cell? ⟨W.heap.size, 3, none⟩ = some (.slice a n c) := cell_of_row _ _ 3 _ _ _ rA3_.out
    have A_4_ : (w1).cell? ⟨W.heap.size, 4, none⟩ = some (.int .i64 s) := cell_of_row _ _ 4 _ _ _ rA3_.out
    go_wp2
    go_ret
    exact ⟨rfl, G4_.out⟩

set_option maxHeartbeats 4000000 in
theorem implGOk (W : World) (f t w : Int) (v : Value) (xs : List Int) (s : Int) (H : RdL shI W v xs) (hl : szL shI xs ≤ 1048576) : Calls Try.prog 52 #[vGather f t w v s] W (AnsN (.bool (decide (GtOk f t w xs s))) W) := by
  rw [szL_I] at hl
  obtain ⟨a, c, rfl, hi, _⟩ := rdI_in H
  obtain ⟨n, hn⟩ : ∃ n, n = xs.length := ⟨_, rfl⟩
  obtain ⟨r, hr⟩ : ∃ r, r = decide (GtOk f t w xs s) := ⟨_, rfl⟩
  rw [← hn] at hi hl ⊢
  rw [← hr]
  have hG : GtOk f t w xs s ↔ (0 ≤ f ∧ f ≤ 255) ∧ (0 ≤ t ∧ t ≤ 7) ∧ (0 ≤ w ∧ w ≤ 64) ∧ (n : Int) ≤ w ∧ AreW xs ∧ (0 ≤ s ∧ s ≤ 2) ∧ (s = 1 → (n : Int) = w) := by unfold GtOk; rw [hn]
  have HI := Lib.hid hi
  unfold vGather
  clear H hi hn
  by_cases h1 : 0 ≤ f ∧ f ≤ 255
  · skip
    by_cases h2 : 0 ≤ t ∧ t ≤ 7
    · skip
      by_cases h3 : 0 ≤ w ∧ w ≤ 64
      · skip
        by_cases h4 : (n : Int) ≤ w
        · skip
          by_cases h5 : AreW xs
          · skip
            by_cases h6 : 0 ≤ s ∧ s ≤ 2
            · skip
              by_cases h7 : s = 1 → (n : Int) = w
              · skip
                obtain rfl : r = true := hr.trans (decide_eq_true (hG.2 ⟨h1, h2, h3, h4, h5, h6, h7⟩))
                have HW := Lib.hid h5
                have H7 := Lib.hid h7
                clear hr hG h5 h7
                by_cases hs1 : s = 1
                · subst hs1
                  obtain rfl := H7.out rfl
                  have hss : ((n : Int) - (n : Int)) = 0 := by omega
                  go_enter Try.func52, Try.ntmps52
                  have rA1_ := Lib.hid (show ((W.alloc (.cells #[.int .i64 f, .int .i64 t, .int .i64 (n : Int), .slice a n c, .int .i64 1] 59))).heap[W.heap.size]? = some (.cells #[.int .i64 f, .int .i64 t, .int .i64 (n : Int), .slice a n c, .int .i64 1] 59 (0, 0)) from by exact heap_alloc_new _ _)
                  have G2_ := Lib.hid (show (W).grownBy ((W.alloc (.cells #[.int .i64 f, .int .i64 t, .int .i64 (n : Int), .slice a n c, .int .i64 1] 59))) none from (gby_alloc (gby_refl _ _) _))
                  have A_0_ : ((W.alloc (.cells #[.int .i64 f, .int .i64 t, .int .i64 (n : Int), .slice a n c, .int .i64 1] 59))).cell? ⟨W.heap.size, 0, none⟩ = some (.int .i64 f) := cell_of_row _ _ 0 _ _ _ rA1_.out
                  have A_1_ : ((W.alloc (.cells #[.int .i64 f, .int .i64 t, .int .i64 (n : Int), .slice a n c, .int .i64 1] 59))).cell? ⟨W.heap.size, 1, none⟩ = some (.int .i64 t) := cell_of_row _ _ 1 _ _ _ rA1_.out
                  have A_2_ : ((W.alloc (.cells #[.int .i64 f, .int .i64 t, .int .i64 (n : Int), .slice a n c, .int .i64 1] 59))).cell? ⟨W.heap.size, 2, none⟩ = some (.int .i64 (n : Int)) := cell_of_row _ _ 2 _ _ _ rA1_.out
                  have A_3_ : ((W.alloc (.cells #[.int .i64 f, .int .i64 t, .int .i64 (n : Int), .slice a n c, .int .i64 1] 59))).cell? ⟨W.heap.size, 3, none⟩ = some (.slice a n c) := cell_of_row _ _ 3 _ _ _ rA1_.out
                  have A_4_ : ((W.alloc (.cells #[.int .i64 f, .int .i64 t, .int .i64 (n : Int), .slice a n c, .int .i64 1] 59))).cell? ⟨W.heap.size, 4, none⟩ = some (.int .i64 1) := cell_of_row _ _ 4 _ _ _ rA1_.out
                  go_wp2_with fail
                  go_at_call 91
                  refine (implIsId_yes _ _ (by omega) (by omega)).mono ?_
                  rintro e w1 ⟨rfl, hd⟩
                  have g := hd.gby none
                  clear hd
                  clear A_0_ A_1_ A_2_ A_3_ A_4_
                  have rA3_ := Lib.hid (show (w1).heap[W.heap.size]? = some (.cells #[.int .i64 f, .int .i64 t, .int .i64 (n : Int), .slice a n c, .int .i64 1] 59 (0, 0)) from row_held g rA1_.out)
                  clear rA1_
                  have G4_ := Lib.hid (show (W).grownBy (w1) none from gby_trans G2_.out g)
                  clear g
                  have A_0_ : (w1).cell? ⟨W.heap.size, 0, none⟩ = some (.int .i64 f) := cell_of_row _ _ 0 _ _ _ rA3_.out
                  have A_1_ : (w1).cell? ⟨W.heap.size, 1, none⟩ = some (.int .i64 t) := cell_of_row _ _ 1 _ _ _ rA3_.out
                  have A_2_ : (w1).cell? ⟨W.heap.size, 2, none⟩ = some (.int .i64 (n : Int)) := cell_of_row _ _ 2 _ _ _ rA3_.out
                  have A_3_ : (w1).cell? ⟨W.heap.size, 3, none⟩ = some (.slice a n c) := cell_of_row _ _ 3 _ _ _ rA3_.out
                  have A_4_ : (w1).cell? ⟨W.heap.size, 4, none⟩ = some (.int .i64 1) := cell_of_row _ _ 4 _ _ _ rA3_.out
                  go_wp2_with fail
                  go_at_call 81
                  refine (isTag_yes _ _ (by omega) (by omega)).mono ?_
                  rintro e w2 ⟨rfl, rfl⟩
                  go_wp2_with fail
                  go_at_call 66
                  refine (rng_yes _ _ _ _ (by omega) (by omega)).mono ?_
                  rintro e w3 ⟨rfl, rfl⟩
                  go_wp2_with fail
                  go_at_call 92
                  refine (areWY _ (HI.out.kept G4_.out) (by omega) HW.out).mono ?_
                  rintro e w4 ⟨rfl, rfl⟩
                  go_wp2_with fail
                  go_at_call 66
                  refine (rng_yes _ _ _ _ (by omega) (by omega)).mono ?_
                  rintro e w5 ⟨rfl, rfl⟩
                  go_wp2_with fail
                  go_at_call 93
                  refine (missing_any _ _ _ _ _ _ _ _ (by omega) (by omega) (by omega)).mono ?_
                  rintro e w6 ⟨rfl, hd⟩
                  have g := hd
                  clear hd
                  clear A_0_ A_1_ A_2_ A_3_ A_4_
                  have rA5_ := Lib.hid (show (w6).heap[W.heap.size]? = some (.cells #[.int .i64 f, .int .i64 t, .int .i64 (n : Int), .slice a n c, .int .i64 1] 59 (0, 0)) from row_held g rA3_.out)
                  clear rA3_
                  have G6_ := Lib.hid (show (W).grownBy (w6) none from gby_trans G4_.out g)
                  clear g
                  have A_0_ : (w6).cell? ⟨W.heap.size, 0, none⟩ = some (.int .i64 f) := cell_of_row _ _ 0 _ _ _ rA5_.out
                  have A_1_ : (w6).cell? ⟨W.heap.size, 1, none⟩ = some (.int .i64 t) := cell_of_row _ _ 1 _ _ _ rA5_.out
                  have A_2_ : (w6).cell? ⟨W.heap.size, 2, none⟩ = some (.int .i64 (n : Int)) := cell_of_row _ _ 2 _ _ _ rA5_.out
                  have A_3_ : (w6).cell? ⟨W.heap.size, 3, none⟩ = some (.slice a n c) := cell_of_row _ _ 3 _ _ _ rA5_.out
                  have A_4_ : (w6).cell? ⟨W.heap.size, 4, none⟩ = some (.int .i64 1) := cell_of_row _ _ 4 _ _ _ rA5_.out
                  go_wp2
                  go_ret
                  exact ⟨rfl, G6_.out⟩
                · have hne : (s != 1) = true := by simpa using hs1
                  have hne2 : (s == 1) = false := beq_eq_false_iff_ne.2 hs1
                  go_enter Try.func52, Try.ntmps52
                  have rA1_ := Lib.hid (show ((W.alloc (.cells #[.int .i64 f, .int .i64 t, .int .i64 w, .slice a n c, .int .i64 s] 59))).heap[W.heap.size]? = some (.cells #[.int .i64 f, .int .i64 t, .int .i64 w, .slice a n c, .int .i64 s] 59 (0, 0)) from by exact heap_alloc_new _ _)
                  have G2_ := Lib.hid (show (W).grownBy ((W.alloc (.cells #[.int .i64 f, .int .i64 t, .int .i64 w, .slice a n c, .int .i64 s] 59))) none from (gby_alloc (gby_refl _ _) _))
                  have A_0_ : ((W.alloc (.cells #[.int .i64 f, .int .i64 t, .int .i64 w, .slice a n c, .int .i64 s] 59))).cell? ⟨W.heap.size, 0, none⟩ = some (.int .i64 f) := cell_of_row _ _ 0 _ _ _ rA1_.out
                  have A_1_ : ((W.alloc (.cells #[.int .i64 f, .int .i64 t, .int .i64 w, .slice a n c, .int .i64 s] 59))).cell? ⟨W.heap.size, 1, none⟩ = some (.int .i64 t) := cell_of_row _ _ 1 _ _ _ rA1_.out
                  have A_2_ : ((W.alloc (.cells #[.int .i64 f, .int .i64 t, .int .i64 w, .slice a n c, .int .i64 s] 59))).cell? ⟨W.heap.size, 2, none⟩ = some (.int .i64 w) := cell_of_row _ _ 2 _ _ _ rA1_.out
                  have A_3_ : ((W.alloc (.cells #[.int .i64 f, .int .i64 t, .int .i64 w, .slice a n c, .int .i64 s] 59))).cell? ⟨W.heap.size, 3, none⟩ = some (.slice a n c) := cell_of_row _ _ 3 _ _ _ rA1_.out
                  have A_4_ : ((W.alloc (.cells #[.int .i64 f, .int .i64 t, .int .i64 w, .slice a n c, .int .i64 s] 59))).cell? ⟨W.heap.size, 4, none⟩ = some (.int .i64 s) := cell_of_row _ _ 4 _ _ _ rA1_.out
                  go_wp2_with fail
                  go_at_call 91
                  refine (implIsId_yes _ _ (by omega) (by omega)).mono ?_
                  rintro e w1 ⟨rfl, hd⟩
                  have g := hd.gby none
                  clear hd
                  clear A_0_ A_1_ A_2_ A_3_ A_4_
                  have rA3_ := Lib.hid (show (w1).heap[W.heap.size]? = some (.cells #[.int .i64 f, .int .i64 t, .int .i64 w, .slice a n c, .int .i64 s] 59 (0, 0)) from row_held g rA1_.out)
                  clear rA1_
                  have G4_ := Lib.hid (show (W).grownBy (w1) none from gby_trans G2_.out g)
                  clear g
                  have A_0_ : (w1).cell? ⟨W.heap.size, 0, none⟩ = some (.int .i64 f) := cell_of_row _ _ 0 _ _ _ rA3_.out
                  have A_1_ : (w1).cell? ⟨W.heap.size, 1, none⟩ = some (.int .i64 t) := cell_of_row _ _ 1 _ _ _ rA3_.out
                  have A_2_ : (w1).cell? ⟨W.heap.size, 2, none⟩ = some (.int .i64 w) := cell_of_row _ _ 2 _ _ _ rA3_.out
                  have A_3_ : (w1).cell? ⟨W.heap.size, 3, none⟩ = some (.slice a n c) := cell_of_row _ _ 3 _ _ _ rA3_.out
                  have A_4_ : (w1).cell? ⟨W.heap.size, 4, none⟩ = some (.int .i64 s) := cell_of_row _ _ 4 _ _ _ rA3_.out
                  go_wp2_with fail
                  go_at_call 81
                  refine (isTag_yes _ _ (by omega) (by omega)).mono ?_
                  rintro e w2 ⟨rfl, rfl⟩
                  go_wp2_with fail
                  go_at_call 66
                  refine (rng_yes _ _ _ _ (by omega) (by omega)).mono ?_
                  rintro e w3 ⟨rfl, rfl⟩
                  go_wp2_with fail
                  go_at_call 92
                  refine (areWY _ (HI.out.kept G4_.out) (by omega) HW.out).mono ?_
                  rintro e w4 ⟨rfl, rfl⟩
                  go_wp2_with fail
                  go_at_call 66
                  refine (rng_yes _ _ _ _ (by omega) (by omega)).mono ?_
                  rintro e w5 ⟨rfl, rfl⟩
                  go_wp2
                  go_ret
                  exact ⟨rfl, G4_.out⟩
              · obtain rfl : r = false := hr.trans (decide_eq_false (fun q0 => (fun q => h7 (q.2.2.2.2.2.2)) (hG.1 q0)))
                have HW := Lib.hid h5
                obtain ⟨rfl, hnw⟩ : s = 1 ∧ (n : Int) ≠ w := by
                  rcases Decidable.em (s = 1) with q | q
                  · exact ⟨q, fun q2 => h7 (fun _ => q2)⟩
                  · exact absurd (fun q2 => absurd q2 q) h7
                have hnw1 : ((n : Int) == w) = false := beq_eq_false_iff_ne.2 hnw
                have hnw2 : ((w - (n : Int)) == 0) = false := beq_eq_false_iff_ne.2 (by omega)
                clear hr hG h5 h7 hnw
                go_enter Try.func52, Try.ntmps52
                have rA1_ := Lib.hid (show ((W.alloc (.cells #[.int .i64 f, .int .i64 t, .int .i64 w, .slice a n c, .int .i64 1] 59))).heap[W.heap.size]? = some (.cells #[.int .i64 f, .int .i64 t, .int .i64 w, .slice a n c, .int .i64 1] 59 (0, 0)) from by exact heap_alloc_new _ _)
                have G2_ := Lib.hid (show (W).grownBy ((W.alloc (.cells #[.int .i64 f, .int .i64 t, .int .i64 w, .slice a n c, .int .i64 1] 59))) none from (gby_alloc (gby_refl _ _) _))
                have A_0_ : ((W.alloc (.cells #[.int .i64 f, .int .i64 t, .int .i64 w, .slice a n c, .int .i64 1] 59))).cell? ⟨W.heap.size, 0, none⟩ = some (.int .i64 f) := cell_of_row _ _ 0 _ _ _ rA1_.out
                have A_1_ : ((W.alloc (.cells #[.int .i64 f, .int .i64 t, .int .i64 w, .slice a n c, .int .i64 1] 59))).cell? ⟨W.heap.size, 1, none⟩ = some (.int .i64 t) := cell_of_row _ _ 1 _ _ _ rA1_.out
                have A_2_ : ((W.alloc (.cells #[.int .i64 f, .int .i64 t, .int .i64 w, .slice a n c, .int .i64 1] 59))).cell? ⟨W.heap.size, 2, none⟩ = some (.int .i64 w) := cell_of_row _ _ 2 _ _ _ rA1_.out
                have A_3_ : ((W.alloc (.cells #[.int .i64 f, .int .i64 t, .int .i64 w, .slice a n c, .int .i64 1] 59))).cell? ⟨W.heap.size, 3, none⟩ = some (.slice a n c) := cell_of_row _ _ 3 _ _ _ rA1_.out
                have A_4_ : ((W.alloc (.cells #[.int .i64 f, .int .i64 t, .int .i64 w, .slice a n c, .int .i64 1] 59))).cell? ⟨W.heap.size, 4, none⟩ = some (.int .i64 1) := cell_of_row _ _ 4 _ _ _ rA1_.out
                go_wp2_with fail
                go_at_call 91
                refine (implIsId_yes _ _ (by omega) (by omega)).mono ?_
                rintro e w1 ⟨rfl, hd⟩
                have g := hd.gby none
                clear hd
                clear A_0_ A_1_ A_2_ A_3_ A_4_
                have rA3_ := Lib.hid (show (w1).heap[W.heap.size]? = some (.cells #[.int .i64 f, .int .i64 t, .int .i64 w, .slice a n c, .int .i64 1] 59 (0, 0)) from row_held g rA1_.out)
                clear rA1_
                have G4_ := Lib.hid (show (W).grownBy (w1) none from gby_trans G2_.out g)
                clear g
                have A_0_ : (w1).cell? ⟨W.heap.size, 0, none⟩ = some (.int .i64 f) := cell_of_row _ _ 0 _ _ _ rA3_.out
                have A_1_ : (w1).cell? ⟨W.heap.size, 1, none⟩ = some (.int .i64 t) := cell_of_row _ _ 1 _ _ _ rA3_.out
                have A_2_ : (w1).cell? ⟨W.heap.size, 2, none⟩ = some (.int .i64 w) := cell_of_row _ _ 2 _ _ _ rA3_.out
                have A_3_ : (w1).cell? ⟨W.heap.size, 3, none⟩ = some (.slice a n c) := cell_of_row _ _ 3 _ _ _ rA3_.out
                have A_4_ : (w1).cell? ⟨W.heap.size, 4, none⟩ = some (.int .i64 1) := cell_of_row _ _ 4 _ _ _ rA3_.out
                go_wp2_with fail
                go_at_call 81
                refine (isTag_yes _ _ (by omega) (by omega)).mono ?_
                rintro e w2 ⟨rfl, rfl⟩
                go_wp2_with fail
                go_at_call 66
                refine (rng_yes _ _ _ _ (by omega) (by omega)).mono ?_
                rintro e w3 ⟨rfl, rfl⟩
                go_wp2_with fail
                go_at_call 92
                refine (areWY _ (HI.out.kept G4_.out) (by omega) HW.out).mono ?_
                rintro e w4 ⟨rfl, rfl⟩
                go_wp2_with fail
                go_at_call 66
                refine (rng_yes _ _ _ _ (by omega) (by omega)).mono ?_
                rintro e w5 ⟨rfl, rfl⟩
                go_wp2_with fail
                go_at_call 93
                refine (missing_any _ _ _ _ _ _ _ _ (by omega) (by omega) (by omega)).mono ?_
                rintro e w6 ⟨rfl, hd⟩
                have g := hd
                clear hd
                clear A_0_ A_1_ A_2_ A_3_ A_4_
                have rA5_ := Lib.hid (show (w6).heap[W.heap.size]? = some (.cells #[.int .i64 f, .int .i64 t, .int .i64 w, .slice a n c, .int .i64 1] 59 (0, 0)) from row_held g rA3_.out)
                clear rA3_
                have G6_ := Lib.hid (show (W).grownBy (w6) none from gby_trans G4_.out g)
                clear g
                have A_0_ : (w6).cell? ⟨W.heap.size, 0, none⟩ = some (.int .i64 f) := cell_of_row _ _ 0 _ _ _ rA5_.out
                have A_1_ : (w6).cell? ⟨W.heap.size, 1, none⟩ = some (.int .i64 t) := cell_of_row _ _ 1 _ _ _ rA5_.out
                have A_2_ : (w6).cell? ⟨W.heap.size, 2, none⟩ = some (.int .i64 w) := cell_of_row _ _ 2 _ _ _ rA5_.out
                have A_3_ : (w6).cell? ⟨W.heap.size, 3, none⟩ = some (.slice a n c) := cell_of_row _ _ 3 _ _ _ rA5_.out
                have A_4_ : (w6).cell? ⟨W.heap.size, 4, none⟩ = some (.int .i64 1) := cell_of_row _ _ 4 _ _ _ rA5_.out
                go_wp2
                go_ret
                exact ⟨rfl, G6_.out⟩
            · obtain rfl : r = false := hr.trans (decide_eq_false (fun q0 => (fun q => h6 (q.2.2.2.2.2.1)) (hG.1 q0)))
              have HW := Lib.hid h5
              clear hr hG h5
              go_enter Try.func52, Try.ntmps52
              have rA1_ := Lib.hid (show ((W.alloc (.cells #[.int .i64 f, .int .i64 t, .int .i64 w, .slice a n c, .int .i64 s] 59))).heap[W.heap.size]? = some (.cells #[.int .i64 f, .int .i64 t, .int .i64 w, .slice a n c, .int .i64 s] 59 (0, 0)) from by exact heap_alloc_new _ _)
              have G2_ := Lib.hid (show (W).grownBy ((W.alloc (.cells #[.int .i64 f, .int .i64 t, .int .i64 w, .slice a n c, .int .i64 s] 59))) none from (gby_alloc (gby_refl _ _) _))
              have A_0_ : ((W.alloc (.cells #[.int .i64 f, .int .i64 t, .int .i64 w, .slice a n c, .int .i64 s] 59))).cell? ⟨W.heap.size, 0, none⟩ = some (.int .i64 f) := cell_of_row _ _ 0 _ _ _ rA1_.out
              have A_1_ : ((W.alloc (.cells #[.int .i64 f, .int .i64 t, .int .i64 w, .slice a n c, .int .i64 s] 59))).cell? ⟨W.heap.size, 1, none⟩ = some (.int .i64 t) := cell_of_row _ _ 1 _ _ _ rA1_.out
              have A_2_ : ((W.alloc (.cells #[.int .i64 f, .int .i64 t, .int .i64 w, .slice a n c, .int .i64 s] 59))).cell? ⟨W.heap.size, 2, none⟩ = some (.int .i64 w) := cell_of_row _ _ 2 _ _ _ rA1_.out
              have A_3_ : ((W.alloc (.cells #[.int .i64 f, .int .i64 t, .int .i64 w, .slice a n c, .int .i64 s] 59))).cell? ⟨W.heap.size, 3, none⟩ = some (.slice a n c) := cell_of_row _ _ 3 _ _ _ rA1_.out
              have A_4_ : ((W.alloc (.cells #[.int .i64 f, .int .i64 t, .int .i64 w, .slice a n c, .int .i64 s] 59))).cell? ⟨W.heap.size, 4, none⟩ = some (.int .i64 s) := cell_of_row _ _ 4 _ _ _ rA1_.out
              go_wp2_with fail
              go_at_call 91
              refine (implIsId_yes _ _ (by omega) (by omega)).mono ?_
              rintro e w1 ⟨rfl, hd⟩
              have g := hd.gby none
              clear hd
              clear A_0_ A_1_ A_2_ A_3_ A_4_
              have rA3_ := Lib.hid (show (w1).heap[W.heap.size]? = some (.cells #[.int .i64 f, .int .i64 t, .int .i64 w, .slice a n c, .int .i64 s] 59 (0, 0)) from row_held g rA1_.out)
              clear rA1_
              have G4_ := Lib.hid (show (W).grownBy (w1) none from gby_trans G2_.out g)
              clear g
              have A_0_ : (w1).cell? ⟨W.heap.size, 0, none⟩ = some (.int .i64 f) := cell_of_row _ _ 0 _ _ _ rA3_.out
              have A_1_ : (w1).cell? ⟨W.heap.size, 1, none⟩ = some (.int .i64 t) := cell_of_row _ _ 1 _ _ _ rA3_.out
              have A_2_ : (w1).cell? ⟨W.heap.size, 2, none⟩ = some (.int .i64 w) := cell_of_row _ _ 2 _ _ _ rA3_.out
              have A_3_ : (w1).cell? ⟨W.heap.size, 3, none⟩ = some (.slice a n c) := cell_of_row _ _ 3 _ _ _ rA3_.out
              have A_4_ : (w1).cell? ⟨W.heap.size, 4, none⟩ = some (.int .i64 s) := cell_of_row _ _ 4 _ _ _ rA3_.out
              go_wp2_with fail
              go_at_call 81
              refine (isTag_yes _ _ (by omega) (by omega)).mono ?_
              rintro e w2 ⟨rfl, rfl⟩
              go_wp2_with fail
              go_at_call 66
              refine (rng_yes _ _ _ _ (by omega) (by omega)).mono ?_
              rintro e w3 ⟨rfl, rfl⟩
              go_wp2_with fail
              go_at_call 92
              refine (areWY _ (HI.out.kept G4_.out) (by omega) HW.out).mono ?_
              rintro e w4 ⟨rfl, rfl⟩
              go_wp2_with fail
              go_at_call 66
              refine (rng_no _ _ _ _ (by omega)).mono ?_
              rintro e w5 ⟨rfl, rfl⟩
              go_wp2
              go_ret
              exact ⟨rfl, G4_.out⟩
          · obtain rfl : r = false := hr.trans (decide_eq_false (fun q0 => (fun q => h5 (q.2.2.2.2.1)) (hG.1 q0)))
            have HW := Lib.hid h5
            clear hr hG h5
            go_enter Try.func52, Try.ntmps52
            have rA1_ := Lib.hid (show ((W.alloc (.cells #[.int .i64 f, .int .i64 t, .int .i64 w, .slice a n c, .int .i64 s] 59))).heap[W.heap.size]? = some (.cells #[.int .i64 f, .int .i64 t, .int .i64 w, .slice a n c, .int .i64 s] 59 (0, 0)) from by exact heap_alloc_new _ _)
            have G2_ := Lib.hid (show (W).grownBy ((W.alloc (.cells #[.int .i64 f, .int .i64 t, .int .i64 w, .slice a n c, .int .i64 s] 59))) none from (gby_alloc (gby_refl _ _) _))
            have A_0_ : ((W.alloc (.cells #[.int .i64 f, .int .i64 t, .int .i64 w, .slice a n c, .int .i64 s] 59))).cell? ⟨W.heap.size, 0, none⟩ = some (.int .i64 f) := cell_of_row _ _ 0 _ _ _ rA1_.out
            have A_1_ : ((W.alloc (.cells #[.int .i64 f, .int .i64 t, .int .i64 w, .slice a n c, .int .i64 s] 59))).cell? ⟨W.heap.size, 1, none⟩ = some (.int .i64 t) := cell_of_row _ _ 1 _ _ _ rA1_.out
            have A_2_ : ((W.alloc (.cells #[.int .i64 f, .int .i64 t, .int .i64 w, .slice a n c, .int .i64 s] 59))).cell? ⟨W.heap.size, 2, none⟩ = some (.int .i64 w) := cell_of_row _ _ 2 _ _ _ rA1_.out
            have A_3_ : ((W.alloc (.cells #[.int .i64 f, .int .i64 t, .int .i64 w, .slice a n c, .int .i64 s] 59))).cell? ⟨W.heap.size, 3, none⟩ = some (.slice a n c) := cell_of_row _ _ 3 _ _ _ rA1_.out
            have A_4_ : ((W.alloc (.cells #[.int .i64 f, .int .i64 t, .int .i64 w, .slice a n c, .int .i64 s] 59))).cell? ⟨W.heap.size, 4, none⟩ = some (.int .i64 s) := cell_of_row _ _ 4 _ _ _ rA1_.out
            go_wp2_with fail
            go_at_call 91
            refine (implIsId_yes _ _ (by omega) (by omega)).mono ?_
            rintro e w1 ⟨rfl, hd⟩
            have g := hd.gby none
            clear hd
            clear A_0_ A_1_ A_2_ A_3_ A_4_
            have rA3_ := Lib.hid (show (w1).heap[W.heap.size]? = some (.cells #[.int .i64 f, .int .i64 t, .int .i64 w, .slice a n c, .int .i64 s] 59 (0, 0)) from row_held g rA1_.out)
            clear rA1_
            have G4_ := Lib.hid (show (W).grownBy (w1) none from gby_trans G2_.out g)
            clear g
            have A_0_ : (w1).cell? ⟨W.heap.size, 0, none⟩ = some (.int .i64 f) := cell_of_row _ _ 0 _ _ _ rA3_.out
            have A_1_ : (w1).cell? ⟨W.heap.size, 1, none⟩ = some (.int .i64 t) := cell_of_row _ _ 1 _ _ _ rA3_.out
            have A_2_ : (w1).cell? ⟨W.heap.size, 2, none⟩ = some (.int .i64 w) := cell_of_row _ _ 2 _ _ _ rA3_.out
            have A_3_ : (w1).cell? ⟨W.heap.size, 3, none⟩ = some (.slice a n c) := cell_of_row _ _ 3 _ _ _ rA3_.out
            have A_4_ : (w1).cell? ⟨W.heap.size, 4, none⟩ = some (.int .i64 s) := cell_of_row _ _ 4 _ _ _ rA3_.out
            go_wp2_with fail
            go_at_call 81
            refine (isTag_yes _ _ (by omega) (by omega)).mono ?_
            rintro e w2 ⟨rfl, rfl⟩
            go_wp2_with fail
            go_at_call 66
            refine (rng_yes _ _ _ _ (by omega) (by omega)).mono ?_
            rintro e w3 ⟨rfl, rfl⟩
            go_wp2_with fail
            go_at_call 92
            refine (areWN _ (HI.out.kept G4_.out) (by omega) HW.out).mono ?_
            rintro e w4 ⟨rfl, rfl⟩
            go_wp2
            go_ret
            exact ⟨rfl, G4_.out⟩
        · obtain rfl : r = false := hr.trans (decide_eq_false (fun q0 => (fun q => h4 (q.2.2.2.1)) (hG.1 q0)))
          have hd4 : decide ((n : Int) ≤ w) = false := decide_eq_false h4
          clear hr hG
          go_enter Try.func52, Try.ntmps52
          have rA1_ := Lib.hid (show ((W.alloc (.cells #[.int .i64 f, .int .i64 t, .int .i64 w, .slice a n c, .int .i64 s] 59))).heap[W.heap.size]? = some (.cells #[.int .i64 f, .int .i64 t, .int .i64 w, .slice a n c, .int .i64 s] 59 (0, 0)) from by exact heap_alloc_new _ _)
          have G2_ := Lib.hid (show (W).grownBy ((W.alloc (.cells #[.int .i64 f, .int .i64 t, .int .i64 w, .slice a n c, .int .i64 s] 59))) none from (gby_alloc (gby_refl _ _) _))
          have A_0_ : ((W.alloc (.cells #[.int .i64 f, .int .i64 t, .int .i64 w, .slice a n c, .int .i64 s] 59))).cell? ⟨W.heap.size, 0, none⟩ = some (.int .i64 f) := cell_of_row _ _ 0 _ _ _ rA1_.out
          have A_1_ : ((W.alloc (.cells #[.int .i64 f, .int .i64 t, .int .i64 w, .slice a n c, .int .i64 s] 59))).cell? ⟨W.heap.size, 1, none⟩ = some (.int .i64 t) := cell_of_row _ _ 1 _ _ _ rA1_.out
          have A_2_ : ((W.alloc (.cells #[.int .i64 f, .int .i64 t, .int .i64 w, .slice a n c, .int .i64 s] 59))).cell? ⟨W.heap.size, 2, none⟩ = some (.int .i64 w) := cell_of_row _ _ 2 _ _ _ rA1_.out
          have A_3_ : ((W.alloc (.cells #[.int .i64 f, .int .i64 t, .int .i64 w, .slice a n c, .int .i64 s] 59))).cell? ⟨W.heap.size, 3, none⟩ = some (.slice a n c) := cell_of_row _ _ 3 _ _ _ rA1_.out
          have A_4_ : ((W.alloc (.cells #[.int .i64 f, .int .i64 t, .int .i64 w, .slice a n c, .int .i64 s] 59))).cell? ⟨W.heap.size, 4, none⟩ = some (.int .i64 s) := cell_of_row _ _ 4 _ _ _ rA1_.out
          go_wp2_with fail
          go_at_call 91
          refine (implIsId_yes _ _ (by omega) (by omega)).mono ?_
          rintro e w1 ⟨rfl, hd⟩
          have g := hd.gby none
          clear hd
          clear A_0_ A_1_ A_2_ A_3_ A_4_
          have rA3_ := Lib.hid (show (w1).heap[W.heap.size]? = some (.cells #[.int .i64 f, .int .i64 t, .int .i64 w, .slice a n c, .int .i64 s] 59 (0, 0)) from row_held g rA1_.out)
          clear rA1_
          have G4_ := Lib.hid (show (W).grownBy (w1) none from gby_trans G2_.out g)
          clear g
          have A_0_ : (w1).cell? ⟨W.heap.size, 0, none⟩ = some (.int .i64 f) := cell_of_row _ _ 0 _ _ _ rA3_.out
          have A_1_ : (w1).cell? ⟨W.heap.size, 1, none⟩ = some (.int .i64 t) := cell_of_row _ _ 1 _ _ _ rA3_.out
          have A_2_ : (w1).cell? ⟨W.heap.size, 2, none⟩ = some (.int .i64 w) := cell_of_row _ _ 2 _ _ _ rA3_.out
          have A_3_ : (w1).cell? ⟨W.heap.size, 3, none⟩ = some (.slice a n c) := cell_of_row _ _ 3 _ _ _ rA3_.out
          have A_4_ : (w1).cell? ⟨W.heap.size, 4, none⟩ = some (.int .i64 s) := cell_of_row _ _ 4 _ _ _ rA3_.out
          go_wp2_with fail
          go_at_call 81
          refine (isTag_yes _ _ (by omega) (by omega)).mono ?_
          rintro e w2 ⟨rfl, rfl⟩
          go_wp2_with fail
          go_at_call 66
          refine (rng_yes _ _ _ _ (by omega) (by omega)).mono ?_
          rintro e w3 ⟨rfl, rfl⟩
          go_wp2
          go_ret
          exact ⟨rfl, G4_.out⟩
      · obtain rfl : r = false := hr.trans (decide_eq_false (fun q0 => (fun q => h3 (q.2.2.1)) (hG.1 q0)))
        clear hr hG
        go_enter Try.func52, Try.ntmps52
        have rA1_ := Lib.hid (show ((W.alloc (.cells #[.int .i64 f, .int .i64 t, .int .i64 w, .slice a n c, .int .i64 s] 59))).heap[W.heap.size]? = some (.cells #[.int .i64 f, .int .i64 t, .int .i64 w, .slice a n c, .int .i64 s] 59 (0, 0)) from by exact heap_alloc_new _ _)
        have G2_ := Lib.hid (show (W).grownBy ((W.alloc (.cells #[.int .i64 f, .int .i64 t, .int .i64 w, .slice a n c, .int .i64 s] 59))) none from (gby_alloc (gby_refl _ _) _))
        have A_0_ : ((W.alloc (.cells #[.int .i64 f, .int .i64 t, .int .i64 w, .slice a n c, .int .i64 s] 59))).cell? ⟨W.heap.size, 0, none⟩ = some (.int .i64 f) := cell_of_row _ _ 0 _ _ _ rA1_.out
        have A_1_ : ((W.alloc (.cells #[.int .i64 f, .int .i64 t, .int .i64 w, .slice a n c, .int .i64 s] 59))).cell? ⟨W.heap.size, 1, none⟩ = some (.int .i64 t) := cell_of_row _ _ 1 _ _ _ rA1_.out
        have A_2_ : ((W.alloc (.cells #[.int .i64 f, .int .i64 t, .int .i64 w, .slice a n c, .int .i64 s] 59))).cell? ⟨W.heap.size, 2, none⟩ = some (.int .i64 w) := cell_of_row _ _ 2 _ _ _ rA1_.out
        have A_3_ : ((W.alloc (.cells #[.int .i64 f, .int .i64 t, .int .i64 w, .slice a n c, .int .i64 s] 59))).cell? ⟨W.heap.size, 3, none⟩ = some (.slice a n c) := cell_of_row _ _ 3 _ _ _ rA1_.out
        have A_4_ : ((W.alloc (.cells #[.int .i64 f, .int .i64 t, .int .i64 w, .slice a n c, .int .i64 s] 59))).cell? ⟨W.heap.size, 4, none⟩ = some (.int .i64 s) := cell_of_row _ _ 4 _ _ _ rA1_.out
        go_wp2_with fail
        go_at_call 91
        refine (implIsId_yes _ _ (by omega) (by omega)).mono ?_
        rintro e w1 ⟨rfl, hd⟩
        have g := hd.gby none
        clear hd
        clear A_0_ A_1_ A_2_ A_3_ A_4_
        have rA3_ := Lib.hid (show (w1).heap[W.heap.size]? = some (.cells #[.int .i64 f, .int .i64 t, .int .i64 w, .slice a n c, .int .i64 s] 59 (0, 0)) from row_held g rA1_.out)
        clear rA1_
        have G4_ := Lib.hid (show (W).grownBy (w1) none from gby_trans G2_.out g)
        clear g
        have A_0_ : (w1).cell? ⟨W.heap.size, 0, none⟩ = some (.int .i64 f) := cell_of_row _ _ 0 _ _ _ rA3_.out
        have A_1_ : (w1).cell? ⟨W.heap.size, 1, none⟩ = some (.int .i64 t) := cell_of_row _ _ 1 _ _ _ rA3_.out
        have A_2_ : (w1).cell? ⟨W.heap.size, 2, none⟩ = some (.int .i64 w) := cell_of_row _ _ 2 _ _ _ rA3_.out
        have A_3_ : (w1).cell? ⟨W.heap.size, 3, none⟩ = some (.slice a n c) := cell_of_row _ _ 3 _ _ _ rA3_.out
        have A_4_ : (w1).cell? ⟨W.heap.size, 4, none⟩ = some (.int .i64 s) := cell_of_row _ _ 4 _ _ _ rA3_.out
        go_wp2_with fail
        go_at_call 81
        refine (isTag_yes _ _ (by omega) (by omega)).mono ?_
        rintro e w2 ⟨rfl, rfl⟩
        go_wp2_with fail
        go_at_call 66
        refine (rng_no _ _ _ _ (by omega)).mono ?_
        rintro e w3 ⟨rfl, rfl⟩
        go_wp2
        go_ret
        exact ⟨rfl, G4_.out⟩
    · obtain rfl : r = false := hr.trans (decide_eq_false (fun q0 => (fun q => h2 (q.2.1)) (hG.1 q0)))
      clear hr hG
      go_enter Try.func52, Try.ntmps52
      have rA1_ := Lib.hid (show ((W.alloc (.cells #[.int .i64 f, .int .i64 t, .int .i64 w, .slice a n c, .int .i64 s] 59))).heap[W.heap.size]? = some (.cells #[.int .i64 f, .int .i64 t, .int .i64 w, .slice a n c, .int .i64 s] 59 (0, 0)) from by exact heap_alloc_new _ _)
      have G2_ := Lib.hid (show (W).grownBy ((W.alloc (.cells #[.int .i64 f, .int .i64 t, .int .i64 w, .slice a n c, .int .i64 s] 59))) none from (gby_alloc (gby_refl _ _) _))
      have A_0_ : ((W.alloc (.cells #[.int .i64 f, .int .i64 t, .int .i64 w, .slice a n c, .int .i64 s] 59))).cell? ⟨W.heap.size, 0, none⟩ = some (.int .i64 f) := cell_of_row _ _ 0 _ _ _ rA1_.out
      have A_1_ : ((W.alloc (.cells #[.int .i64 f, .int .i64 t, .int .i64 w, .slice a n c, .int .i64 s] 59))).cell? ⟨W.heap.size, 1, none⟩ = some (.int .i64 t) := cell_of_row _ _ 1 _ _ _ rA1_.out
      have A_2_ : ((W.alloc (.cells #[.int .i64 f, .int .i64 t, .int .i64 w, .slice a n c, .int .i64 s] 59))).cell? ⟨W.heap.size, 2, none⟩ = some (.int .i64 w) := cell_of_row _ _ 2 _ _ _ rA1_.out
      have A_3_ : ((W.alloc (.cells #[.int .i64 f, .int .i64 t, .int .i64 w, .slice a n c, .int .i64 s] 59))).cell? ⟨W.heap.size, 3, none⟩ = some (.slice a n c) := cell_of_row _ _ 3 _ _ _ rA1_.out
      have A_4_ : ((W.alloc (.cells #[.int .i64 f, .int .i64 t, .int .i64 w, .slice a n c, .int .i64 s] 59))).cell? ⟨W.heap.size, 4, none⟩ = some (.int .i64 s) := cell_of_row _ _ 4 _ _ _ rA1_.out
      go_wp2_with fail
      go_at_call 91
      refine (implIsId_yes _ _ (by omega) (by omega)).mono ?_
      rintro e w1 ⟨rfl, hd⟩
      have g := hd.gby none
      clear hd
      clear A_0_ A_1_ A_2_ A_3_ A_4_
      have rA3_ := Lib.hid (show (w1).heap[W.heap.size]? = some (.cells #[.int .i64 f, .int .i64 t, .int .i64 w, .slice a n c, .int .i64 s] 59 (0, 0)) from row_held g rA1_.out)
      clear rA1_
      have G4_ := Lib.hid (show (W).grownBy (w1) none from gby_trans G2_.out g)
      clear g
      have A_0_ : (w1).cell? ⟨W.heap.size, 0, none⟩ = some (.int .i64 f) := cell_of_row _ _ 0 _ _ _ rA3_.out
      have A_1_ : (w1).cell? ⟨W.heap.size, 1, none⟩ = some (.int .i64 t) := cell_of_row _ _ 1 _ _ _ rA3_.out
      have A_2_ : (w1).cell? ⟨W.heap.size, 2, none⟩ = some (.int .i64 w) := cell_of_row _ _ 2 _ _ _ rA3_.out
      have A_3_ : (w1).cell? ⟨W.heap.size, 3, none⟩ = some (.slice a n c) := cell_of_row _ _ 3 _ _ _ rA3_.out
      have A_4_ : (w1).cell? ⟨W.heap.size, 4, none⟩ = some (.int .i64 s) := cell_of_row _ _ 4 _ _ _ rA3_.out
      go_wp2_with fail
      go_at_call 81
      refine (isTag_no _ _ (by omega)).mono ?_
      rintro e w2 ⟨rfl, rfl⟩
      go_wp2
      go_ret
      exact ⟨rfl, G4_.out⟩
  · obtain rfl : r = false := hr.trans (decide_eq_false (fun q0 => (fun q => h1 (q.1)) (hG.1 q0)))
    clear hr hG
    go_enter Try.func52, Try.ntmps52
    have rA1_ := Lib.hid (show ((W.alloc (.cells #[.int .i64 f, .int .i64 t, .int .i64 w, .slice a n c, .int .i64 s] 59))).heap[W.heap.size]? = some (.cells #[.int .i64 f, .int .i64 t, .int .i64 w, .slice a n c, .int .i64 s] 59 (0, 0)) from by exact heap_alloc_new _ _)
    have G2_ := Lib.hid (show (W).grownBy ((W.alloc (.cells #[.int .i64 f, .int .i64 t, .int .i64 w, .slice a n c, .int .i64 s] 59))) none from (gby_alloc (gby_refl _ _) _))
    have A_0_ : ((W.alloc (.cells #[.int .i64 f, .int .i64 t, .int .i64 w, .slice a n c, .int .i64 s] 59))).cell? ⟨W.heap.size, 0, none⟩ = some (.int .i64 f) := cell_of_row _ _ 0 _ _ _ rA1_.out
    have A_1_ : ((W.alloc (.cells #[.int .i64 f, .int .i64 t, .int .i64 w, .slice a n c, .int .i64 s] 59))).cell? ⟨W.heap.size, 1, none⟩ = some (.int .i64 t) := cell_of_row _ _ 1 _ _ _ rA1_.out
    have A_2_ : ((W.alloc (.cells #[.int .i64 f, .int .i64 t, .int .i64 w, .slice a n c, .int .i64 s] 59))).cell? ⟨W.heap.size, 2, none⟩ = some (.int .i64 w) := cell_of_row _ _ 2 _ _ _ rA1_.out
    have A_3_ : ((W.alloc (.cells #[.int .i64 f, .int .i64 t, .int .i64 w, .slice a n c, .int .i64 s] 59))).cell? ⟨W.heap.size, 3, none⟩ = some (.slice a n c) := cell_of_row _ _ 3 _ _ _ rA1_.out
    have A_4_ : ((W.alloc (.cells #[.int .i64 f, .int .i64 t, .int .i64 w, .slice a n c, .int .i64 s] 59))).cell? ⟨W.heap.size, 4, none⟩ = some (.int .i64 s) := cell_of_row _ _ 4 _ _ _ rA1_.out
    go_wp2_with fail
    go_at_call 91
    refine (implIsId_no _ _ (by omega)).mono ?_
    rintro e w1 ⟨rfl, hd⟩
    have g := hd.gby none
    clear hd
    clear A_0_ A_1_ A_2_ A_3_ A_4_
    have rA3_ := Lib.hid (show (w1).heap[W.heap.size]? = some (.cells #[.int .i64 f, .int .i64 t, .int .i64 w, .slice a n c, .int .i64 s] 59 (0, 0)) from row_held g rA1_.out)
    clear rA1_
    have G4_ := Lib.hid (show (W).grownBy (w1) none from gby_trans G2_.out g)
    clear g
    have A_0_ : (w1).cell? ⟨W.heap.size, 0, none⟩ = some (.int .i64 f) := cell_of_row _ _ 0 _ _ _ rA3_.out
    have A_1_ : (w1).cell? ⟨W.heap.size, 1, none⟩ = some (.int .i64 t) := cell_of_row _ _ 1 _ _ _ rA3_.out
    have A_2_ : (w1).cell? ⟨W.heap.size, 2, none⟩ = some (.int .i64 w) := cell_of_row _ _ 2 _ _ _ rA3_.out
    have A_3_ : (w1).cell? ⟨W.heap.size, 3, none⟩ = some (.slice a n c) := cell_of_row _ _ 3 _ _ _ rA3_.out
    have A_4_ : (w1).cell? ⟨W.heap.size, 4, none⟩ = some (.int .i64 s) := cell_of_row _ _ 4 _ _ _ rA3_.out
    go_wp2
    go_ret
    exact ⟨rfl, G4_.out⟩

theorem gatherOk_both (i0_0 i0_1 i0_2 : Int) (xs0_3 : List Int) (i0_4 : Int) (h3 : szL shI xs0_3 ≤ 1048576) : ∃ (br0 : Bool), (∀ (W : World), ∀ u0_3, RdL shI W u0_3 xs0_3 → Calls Try.prog 50 #[.agg #[.int .i64 i0_0, .int .i64 i0_1, .int .i64 i0_2, u0_3, .int .i64 i0_4]] W (ResSGatherOk br0 W)) ∧ ∀ (W : World), ∀ u0_3, RdL shI W u0_3 xs0_3 → Calls Try.prog 52 #[.agg #[.int .i64 i0_0, .int .i64 i0_1, .int .i64 i0_2, u0_3, .int .i64 i0_4]] W (ResIGatherOk br0 W) :=
  ⟨_, fun W u H => specGOk W _ _ _ u xs0_3 _ H h3, fun W u H => implGOk W _ _ _ u xs0_3 _ H h3⟩

end Go.Proofs.Ytdieobfkdbeiiaa
