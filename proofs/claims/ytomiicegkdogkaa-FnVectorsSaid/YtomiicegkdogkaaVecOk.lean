/-
  Vectors that may be called, on both sides.
-/
import Derived.Test.YtomiicegkdogkaaVec
import Derived.Test.YtomiicegkdogkaaBPost0
import Derived.Test.YtomiicegkdogkaaIdNum
import Derived.Test.YtomiicegkdogkaaBits2Impl
namespace Go.Proofs.Ytomiicegkdogkaa
open Go Go.RowKit
set_option linter.unusedVariables false

/-- valid vectors -/
def VOk (i0 : Int) (xs ys : List Bool) : Prop := (1 ≤ xs.length ∧ xs.length ≤ 8) ∧ ys.length = xs.length ∧ (0 ≤ i0 ∧ i0 ≤ 65535) ∧ ∀ j, j < xs.length → ys.getD j false = true → xs.getD j false = true
theorem vnot {p : Prop} (h : ¬ p) {W : World} (e : Ending) (w' : World) (q : AnsN (.bool false) W e w') : BPost p W e w' := ⟨false, q.1, ⟨fun c => (by cases c), fun c => absurd c h⟩, q.2⟩
theorem vyes {p : Prop} (h : p) {W : World} (e : Ending) (w' : World) (q : AnsN (.bool true) W e w') : BPost p W e w' := ⟨true, q.1, ⟨fun _ => h, fun _ => rfl⟩, q.2⟩

theorem specVOk (W : World) (i0 : Int) (v1 v2 : Value) (xs ys : List Bool) (H1 : RdL shB W v1 xs) (H2 : RdL shB W v2 ys) : Calls Try.prog 104 #[vVectors i0 v1 v2] W (BPost (VOk i0 xs ys) W) := by
  obtain ⟨a1, c1, rfl, _, r1⟩ := rdB_in H1
  obtain ⟨a2, c2, rfl, _, r2⟩ := rdB_in H2
  by_cases hl : xs.length < 1 ∨ 8 < xs.length
  · exact (specVecLen1 W _ a1 a2 _ c1 _ c2 hl).mono (vnot (fun q => by have := q.1; omega))
  · by_cases he : ys.length = xs.length
    · rcases bad_or xs ys xs.length with ⟨k, hk, hq⟩ | hq
      · by_cases ha : 0 ≤ i0 ∧ i0 ≤ 65535
        · exact (specVecBad W _ a1 a2 _ c1 _ c2 xs ys rfl he r1 r2 (by omega) (by omega) he ha.1 ha.2 k hk hq).mono (vnot (fun q => by have := q.2.2.2 k hk hq.1; rw [hq.2.1] at this; cases this))
        · exact (specVecAddr W _ a1 a2 _ c1 _ c2 (by omega) (by omega) he (by omega)).mono (vnot (fun q => ha q.2.2.1))
      · by_cases ha : 0 ≤ i0 ∧ i0 ≤ 65535
        · exact (specVecGood W _ a1 a2 _ c1 _ c2 xs ys rfl he r1 r2 (by omega) (by omega) he ha.1 ha.2 hq).mono (vyes ⟨by omega, he, ha, hq⟩)
        · exact (specVecAddr W _ a1 a2 _ c1 _ c2 (by omega) (by omega) he (by omega)).mono (vnot (fun q => ha q.2.2.1))
    · exact (specVecLen2 W _ a1 a2 _ c1 _ c2 (by omega) (by omega) (by simp; omega) (by simp; omega)).mono (vnot (fun q => he q.2.1))

theorem implVOk (W : World) (i0 : Int) (v1 v2 : Value) (xs ys : List Bool) (H1 : RdL shB W v1 xs) (H2 : RdL shB W v2 ys) : Calls Try.prog 26 #[vVectors i0 v1 v2] W (BPost (VOk i0 xs ys) W) := by
  obtain ⟨a1, c1, rfl, _, r1⟩ := rdB_in H1
  obtain ⟨a2, c2, rfl, _, r2⟩ := rdB_in H2
  by_cases hl : xs.length < 1 ∨ 8 < xs.length
  · exact (implVecLen1 W _ a1 a2 _ c1 _ c2 hl).mono (vnot (fun q => by have := q.1; omega))
  · by_cases he : ys.length = xs.length
    · rcases bad_or xs ys xs.length with ⟨k, hk, hq⟩ | hq
      · exact (implVecBad W _ a1 a2 _ c1 _ c2 xs ys rfl he r1 r2 (by omega) (by omega) he k hk hq).mono (vnot (fun q => by have := q.2.2.2 k hk hq.1; rw [hq.2.1] at this; cases this))
      · by_cases ha : 0 ≤ i0 ∧ i0 ≤ 65535
        · exact (implVecGood W _ a1 a2 _ c1 _ c2 xs ys rfl he r1 r2 (by omega) (by omega) he ha.1 ha.2 hq).mono (vyes ⟨by omega, he, ha, hq⟩)
        · exact (implVecGoodBad W _ a1 a2 _ c1 _ c2 xs ys rfl he r1 r2 (by omega) (by omega) he (by omega) hq).mono (vnot (fun q => ha q.2.2.1))
    · exact (implVecLen2 W _ a1 a2 _ c1 _ c2 (by omega) (by omega) (by simp; omega) (by simp; omega)).mono (vnot (fun q => he q.2.1))

/-- the function id may be called at vector k -/
def VCall (i0 : Int) (xs ys : List Bool) (id k : Int) : Prop := VOk i0 xs ys ∧ (0 ≤ id ∧ id ≤ 255) ∧ (0 ≤ k ∧ k ≤ (xs.length : Int) - 1)
theorem inr_or8 (x a b : Int) : (a ≤ x ∧ x ≤ b) ∨ (x < a ∨ b < x) := by omega

set_option maxRecDepth 8000 in
set_option maxHeartbeats 2000000 in
theorem specVCall (W : World) (i0 : Int) (v1 v2 : Value) (xs ys : List Bool) (id k : Int) (H1 : RdL shB W v1 xs) (H2 : RdL shB W v2 ys) : Calls Try.prog 61 #[vVectors i0 v1 v2, .int .i64 id, .int .i64 k] W (BPost (VCall i0 xs ys id k) W) := by
  have H1_ := Lib.hid H1
  have H2_ := Lib.hid H2
  obtain ⟨a1, n1, c1, rfl⟩ := RdL.form H1
  obtain ⟨a2, n2, c2, rfl⟩ := RdL.form H2
  have hn : n1 = xs.length := by obtain ⟨_, _, e, _⟩ := H1; injection e
  have HN := Lib.hid hn
  clear H1 H2 hn
  unfold vVectors
  go_enter Try.func61, Try.ntmps61
  have rA1_ := Lib.hid (show ((W.alloc (.cells #[.int .i64 i0, .slice a1 n1 c1, .slice a2 n2 c2] 26))).heap[W.heap.size]? = some (.cells #[.int .i64 i0, .slice a1 n1 c1, .slice a2 n2 c2] 26 (0, 0)) from by exact heap_alloc_new _ _)
  have G2_ := Lib.hid (show (W).grownBy ((W.alloc (.cells #[.int .i64 i0, .slice a1 n1 c1, .slice a2 n2 c2] 26))) none from (gby_alloc (gby_refl _ _) _))
  have A_0_ : ((W.alloc (.cells #[.int .i64 i0, .slice a1 n1 c1, .slice a2 n2 c2] 26))).cell? ⟨W.heap.size, 0, none⟩ = some (.int .i64 i0) := cell_of_row _ _ 0 _ _ _ rA1_.out
  have A_1_ : ((W.alloc (.cells #[.int .i64 i0, .slice a1 n1 c1, .slice a2 n2 c2] 26))).cell? ⟨W.heap.size, 1, none⟩ = some (.slice a1 n1 c1) := cell_of_row _ _ 1 _ _ _ rA1_.out
  have A_2_ : ((W.alloc (.cells #[.int .i64 i0, .slice a1 n1 c1, .slice a2 n2 c2] 26))).cell? ⟨W.heap.size, 2, none⟩ = some (.slice a2 n2 c2) := cell_of_row _ _ 2 _ _ _ rA1_.out
  by_cases hv : VOk i0 xs ys
  rotate_left
  · have HV := Lib.hid hv
    clear hv
    go_wp2_with fail
    go_at_call 104
    refine ((specVOk _ i0 _ _ xs ys (H1_.out.grow G2_.out) (H2_.out.grow G2_.out)).mono (bpost_no HV.out)).mono ?_
    rintro e w1 ⟨rfl, g⟩
    have szw1 := g.size
    try simp only [World.size_alloc] at szw1
    try simp only [World.size_setCell] at szw1
    clear A_0_ A_1_ A_2_
    have rA3_ := Lib.hid (show (w1).heap[W.heap.size]? = some (.cells #[.int .i64 i0, .slice a1 n1 c1, .slice a2 n2 c2] 26 (0, 0)) from row_held g rA1_.out)
    clear rA1_
    have G4_ := Lib.hid (show (W).grownBy (w1) none from gby_trans G2_.out g)
    clear g
    have A_0_ : (w1).cell? ⟨W.heap.size, 0, none⟩ = some (.int .i64 i0) := cell_of_row _ _ 0 _ _ _ rA3_.out
    have A_1_ : (w1).cell? ⟨W.heap.size, 1, none⟩ = some (.slice a1 n1 c1) := cell_of_row _ _ 1 _ _ _ rA3_.out
    have A_2_ : (w1).cell? ⟨W.heap.size, 2, none⟩ = some (.slice a2 n2 c2) := cell_of_row _ _ 2 _ _ _ rA3_.out
    go_wp2
    go_ret
    exact ⟨false, rfl, ⟨fun q => (by cases q), fun q => absurd q (fun q => HV.out q.1)⟩, G4_.out⟩
  have HV := Lib.hid hv
  have hn8 : n1 ≤ 8 := by rw [HN.out]; exact hv.1.2
  have hn1 : 1 ≤ n1 := by rw [HN.out]; exact hv.1.1
  have hw1 : IntKind.i64.wrap ((n1 : Int) - 1) = (n1 : Int) - 1 := IntWalk.i64_in _ (by omega)
  clear hv
  go_wp2_with fail
  go_at_call 104
  refine ((specVOk _ i0 _ _ xs ys (H1_.out.grow G2_.out) (H2_.out.grow G2_.out)).mono (bpost_yes HV.out)).mono ?_
  rintro e w1 ⟨rfl, g⟩
  have szw1 := g.size
  try simp only [World.size_alloc] at szw1
  try simp only [World.size_setCell] at szw1
  clear A_0_ A_1_ A_2_
  have rA3_ := Lib.hid (show (w1).heap[W.heap.size]? = some (.cells #[.int .i64 i0, .slice a1 n1 c1, .slice a2 n2 c2] 26 (0, 0)) from row_held g rA1_.out)
  clear rA1_
  have G4_ := Lib.hid (show (W).grownBy (w1) none from gby_trans G2_.out g)
  clear g
  have A_0_ : (w1).cell? ⟨W.heap.size, 0, none⟩ = some (.int .i64 i0) := cell_of_row _ _ 0 _ _ _ rA3_.out
  have A_1_ : (w1).cell? ⟨W.heap.size, 1, none⟩ = some (.slice a1 n1 c1) := cell_of_row _ _ 1 _ _ _ rA3_.out
  have A_2_ : (w1).cell? ⟨W.heap.size, 2, none⟩ = some (.slice a2 n2 c2) := cell_of_row _ _ 2 _ _ _ rA3_.out
  rcases inr_or8 id 0 255 with ⟨hi1, hi2⟩ | hb
  rotate_left
  · have HB := Lib.hid hb
    clear hb
    go_wp2_with fail
    go_at_call 105
    refine (isId_no id _ HB.out).mono ?_
    rintro e w2 ⟨rfl, hd⟩
    have g := hd.gby none
    clear hd
    have szw2 := g.size
    try simp only [World.size_alloc] at szw2
    try simp only [World.size_setCell] at szw2
    clear A_0_ A_1_ A_2_
    have rA5_ := Lib.hid (show (w2).heap[W.heap.size]? = some (.cells #[.int .i64 i0, .slice a1 n1 c1, .slice a2 n2 c2] 26 (0, 0)) from row_held g rA3_.out)
    clear rA3_
    have G6_ := Lib.hid (show (W).grownBy (w2) none from gby_trans G4_.out g)
    clear g
    have A_0_ : (w2).cell? ⟨W.heap.size, 0, none⟩ = some (.int .i64 i0) := cell_of_row _ _ 0 _ _ _ rA5_.out
    have A_1_ : (w2).cell? ⟨W.heap.size, 1, none⟩ = some (.slice a1 n1 c1) := cell_of_row _ _ 1 _ _ _ rA5_.out
    have A_2_ : (w2).cell? ⟨W.heap.size, 2, none⟩ = some (.slice a2 n2 c2) := cell_of_row _ _ 2 _ _ _ rA5_.out
    go_wp2
    go_ret
    exact ⟨false, rfl, ⟨fun q => (by cases q), fun q => absurd q (fun q => (by have := q.2.1; have := HB.out; omega))⟩, G6_.out⟩
  go_wp2_with fail
  go_at_call 105
  refine (isId_yes id _ hi1 hi2).mono ?_
  rintro e w2 ⟨rfl, hd⟩
  have g := hd.gby none
  clear hd
  have szw2 := g.size
  try simp only [World.size_alloc] at szw2
  try simp only [World.size_setCell] at szw2
  clear A_0_ A_1_ A_2_
  have rA5_ := Lib.hid (show (w2).heap[W.heap.size]? = some (.cells #[.int .i64 i0, .slice a1 n1 c1, .slice a2 n2 c2] 26 (0, 0)) from row_held g rA3_.out)
  clear rA3_
  have G6_ := Lib.hid (show (W).grownBy (w2) none from gby_trans G4_.out g)
  clear g
  have A_0_ : (w2).cell? ⟨W.heap.size, 0, none⟩ = some (.int .i64 i0) := cell_of_row _ _ 0 _ _ _ rA5_.out
  have A_1_ : (w2).cell? ⟨W.heap.size, 1, none⟩ = some (.slice a1 n1 c1) := cell_of_row _ _ 1 _ _ _ rA5_.out
  have A_2_ : (w2).cell? ⟨W.heap.size, 2, none⟩ = some (.slice a2 n2 c2) := cell_of_row _ _ 2 _ _ _ rA5_.out
  rcases inr_or8 k 0 ((n1 : Int) - 1) with ⟨hk1, hk2⟩ | hb
  rotate_left
  · have HB := Lib.hid hb
    clear hb
    go_wp2_with fail
    go_at_call 106
    refine (in_no _ _ _ _ HB.out).mono ?_
    rintro e w3_ ⟨rfl, rfl⟩
    go_wp2
    go_ret
    exact ⟨false, rfl, ⟨fun q => (by cases q), fun q => absurd q (fun q => (by have := q.2.2; have := HB.out; have := HN.out; omega))⟩, G6_.out⟩
  go_wp2_with fail
  go_at_call 106
  refine (in_yes _ _ _ _ hk1 hk2).mono ?_
  rintro e w3_ ⟨rfl, rfl⟩
  go_wp2
  go_ret
  exact ⟨true, rfl, ⟨fun _ => ⟨HV.out, ⟨hi1, hi2⟩, ⟨hk1, by rw [← HN.out]; exact hk2⟩⟩, fun _ => rfl⟩, G6_.out⟩

set_option maxRecDepth 8000 in
set_option maxHeartbeats 2000000 in
theorem implVCall (W : World) (i0 : Int) (v1 v2 : Value) (xs ys : List Bool) (id k : Int) (H1 : RdL shB W v1 xs) (H2 : RdL shB W v2 ys) : Calls Try.prog 64 #[vVectors i0 v1 v2, .int .i64 id, .int .i64 k] W (BPost (VCall i0 xs ys id k) W) := by
  have H1_ := Lib.hid H1
  have H2_ := Lib.hid H2
  obtain ⟨a1, n1, c1, rfl⟩ := RdL.form H1
  obtain ⟨a2, n2, c2, rfl⟩ := RdL.form H2
  have hn : n1 = xs.length := by obtain ⟨_, _, e, _⟩ := H1; injection e
  have HN := Lib.hid hn
  clear H1 H2 hn
  unfold vVectors
  go_enter Try.func64, Try.ntmps64
  have rA1_ := Lib.hid (show ((W.alloc (.cells #[.int .i64 i0, .slice a1 n1 c1, .slice a2 n2 c2] 26))).heap[W.heap.size]? = some (.cells #[.int .i64 i0, .slice a1 n1 c1, .slice a2 n2 c2] 26 (0, 0)) from by exact heap_alloc_new _ _)
  have G2_ := Lib.hid (show (W).grownBy ((W.alloc (.cells #[.int .i64 i0, .slice a1 n1 c1, .slice a2 n2 c2] 26))) none from (gby_alloc (gby_refl _ _) _))
  have A_0_ : ((W.alloc (.cells #[.int .i64 i0, .slice a1 n1 c1, .slice a2 n2 c2] 26))).cell? ⟨W.heap.size, 0, none⟩ = some (.int .i64 i0) := cell_of_row _ _ 0 _ _ _ rA1_.out
  have A_1_ : ((W.alloc (.cells #[.int .i64 i0, .slice a1 n1 c1, .slice a2 n2 c2] 26))).cell? ⟨W.heap.size, 1, none⟩ = some (.slice a1 n1 c1) := cell_of_row _ _ 1 _ _ _ rA1_.out
  have A_2_ : ((W.alloc (.cells #[.int .i64 i0, .slice a1 n1 c1, .slice a2 n2 c2] 26))).cell? ⟨W.heap.size, 2, none⟩ = some (.slice a2 n2 c2) := cell_of_row _ _ 2 _ _ _ rA1_.out
  by_cases hv : VOk i0 xs ys
  rotate_left
  · have HV := Lib.hid hv
    clear hv
    go_wp2_with fail
    go_at_call 26
    refine ((implVOk _ i0 _ _ xs ys (H1_.out.grow G2_.out) (H2_.out.grow G2_.out)).mono (bpost_no HV.out)).mono ?_
    rintro e w1 ⟨rfl, g⟩
    have szw1 := g.size
    try simp only [World.size_alloc] at szw1
    try simp only [World.size_setCell] at szw1
    clear A_0_ A_1_ A_2_
    have rA3_ := Lib.hid (show (w1).heap[W.heap.size]? = some (.cells #[.int .i64 i0, .slice a1 n1 c1, .slice a2 n2 c2] 26 (0, 0)) from row_held g rA1_.out)
    clear rA1_
    have G4_ := Lib.hid (show (W).grownBy (w1) none from gby_trans G2_.out g)
    clear g
    have A_0_ : (w1).cell? ⟨W.heap.size, 0, none⟩ = some (.int .i64 i0) := cell_of_row _ _ 0 _ _ _ rA3_.out
    have A_1_ : (w1).cell? ⟨W.heap.size, 1, none⟩ = some (.slice a1 n1 c1) := cell_of_row _ _ 1 _ _ _ rA3_.out
    have A_2_ : (w1).cell? ⟨W.heap.size, 2, none⟩ = some (.slice a2 n2 c2) := cell_of_row _ _ 2 _ _ _ rA3_.out
    go_wp2
    go_ret
    exact ⟨false, rfl, ⟨fun q => (by cases q), fun q => absurd q (fun q => HV.out q.1)⟩, G4_.out⟩
  have HV := Lib.hid hv
  have hn8 : n1 ≤ 8 := by rw [HN.out]; exact hv.1.2
  have hn1 : 1 ≤ n1 := by rw [HN.out]; exact hv.1.1
  have hw1 : IntKind.i64.wrap ((n1 : Int) - 1) = (n1 : Int) - 1 := IntWalk.i64_in _ (by omega)
  clear hv
  go_wp2_with fail
  go_at_call 26
  refine ((implVOk _ i0 _ _ xs ys (H1_.out.grow G2_.out) (H2_.out.grow G2_.out)).mono (bpost_yes HV.out)).mono ?_
  rintro e w1 ⟨rfl, g⟩
  have szw1 := g.size
  try simp only [World.size_alloc] at szw1
  try simp only [World.size_setCell] at szw1
  clear A_0_ A_1_ A_2_
  have rA3_ := Lib.hid (show (w1).heap[W.heap.size]? = some (.cells #[.int .i64 i0, .slice a1 n1 c1, .slice a2 n2 c2] 26 (0, 0)) from row_held g rA1_.out)
  clear rA1_
  have G4_ := Lib.hid (show (W).grownBy (w1) none from gby_trans G2_.out g)
  clear g
  have A_0_ : (w1).cell? ⟨W.heap.size, 0, none⟩ = some (.int .i64 i0) := cell_of_row _ _ 0 _ _ _ rA3_.out
  have A_1_ : (w1).cell? ⟨W.heap.size, 1, none⟩ = some (.slice a1 n1 c1) := cell_of_row _ _ 1 _ _ _ rA3_.out
  have A_2_ : (w1).cell? ⟨W.heap.size, 2, none⟩ = some (.slice a2 n2 c2) := cell_of_row _ _ 2 _ _ _ rA3_.out
  rcases inr_or8 id 0 255 with ⟨hi1, hi2⟩ | hb
  rotate_left
  · have HB := Lib.hid hb
    clear hb
    go_wp2_with fail
    go_at_call 79
    refine (implIsId_no id _ HB.out).mono ?_
    rintro e w2 ⟨rfl, hd⟩
    have g := hd.gby none
    clear hd
    have szw2 := g.size
    try simp only [World.size_alloc] at szw2
    try simp only [World.size_setCell] at szw2
    clear A_0_ A_1_ A_2_
    have rA5_ := Lib.hid (show (w2).heap[W.heap.size]? = some (.cells #[.int .i64 i0, .slice a1 n1 c1, .slice a2 n2 c2] 26 (0, 0)) from row_held g rA3_.out)
    clear rA3_
    have G6_ := Lib.hid (show (W).grownBy (w2) none from gby_trans G4_.out g)
    clear g
    have A_0_ : (w2).cell? ⟨W.heap.size, 0, none⟩ = some (.int .i64 i0) := cell_of_row _ _ 0 _ _ _ rA5_.out
    have A_1_ : (w2).cell? ⟨W.heap.size, 1, none⟩ = some (.slice a1 n1 c1) := cell_of_row _ _ 1 _ _ _ rA5_.out
    have A_2_ : (w2).cell? ⟨W.heap.size, 2, none⟩ = some (.slice a2 n2 c2) := cell_of_row _ _ 2 _ _ _ rA5_.out
    go_wp2
    go_ret
    exact ⟨false, rfl, ⟨fun q => (by cases q), fun q => absurd q (fun q => (by have := q.2.1; have := HB.out; omega))⟩, G6_.out⟩
  go_wp2_with fail
  go_at_call 79
  refine (implIsId_yes id _ hi1 hi2).mono ?_
  rintro e w2 ⟨rfl, hd⟩
  have g := hd.gby none
  clear hd
  have szw2 := g.size
  try simp only [World.size_alloc] at szw2
  try simp only [World.size_setCell] at szw2
  clear A_0_ A_1_ A_2_
  have rA5_ := Lib.hid (show (w2).heap[W.heap.size]? = some (.cells #[.int .i64 i0, .slice a1 n1 c1, .slice a2 n2 c2] 26 (0, 0)) from row_held g rA3_.out)
  clear rA3_
  have G6_ := Lib.hid (show (W).grownBy (w2) none from gby_trans G4_.out g)
  clear g
  have A_0_ : (w2).cell? ⟨W.heap.size, 0, none⟩ = some (.int .i64 i0) := cell_of_row _ _ 0 _ _ _ rA5_.out
  have A_1_ : (w2).cell? ⟨W.heap.size, 1, none⟩ = some (.slice a1 n1 c1) := cell_of_row _ _ 1 _ _ _ rA5_.out
  have A_2_ : (w2).cell? ⟨W.heap.size, 2, none⟩ = some (.slice a2 n2 c2) := cell_of_row _ _ 2 _ _ _ rA5_.out
  rcases inr_or8 k 0 ((n1 : Int) - 1) with ⟨hk1, hk2⟩ | hb
  rotate_left
  · have HB := Lib.hid hb
    clear hb
    go_wp2_with fail
    go_at_call 76
    refine (rng_no _ _ _ _ HB.out).mono ?_
    rintro e w3_ ⟨rfl, rfl⟩
    go_wp2
    go_ret
    exact ⟨false, rfl, ⟨fun q => (by cases q), fun q => absurd q (fun q => (by have := q.2.2; have := HB.out; have := HN.out; omega))⟩, G6_.out⟩
  go_wp2_with fail
  go_at_call 76
  refine (rng_yes _ _ _ _ hk1 hk2).mono ?_
  rintro e w3_ ⟨rfl, rfl⟩
  go_wp2
  go_ret
  exact ⟨true, rfl, ⟨fun _ => ⟨HV.out, ⟨hi1, hi2⟩, ⟨hk1, by rw [← HN.out]; exact hk2⟩⟩, fun _ => rfl⟩, G6_.out⟩

end Go.Proofs.Ytomiicegkdogkaa
