/-
  Virtual functions on both sides: whose id it is; how many there may be.
-/
import Derived.Test.YtgagbhkidponnaaVirt
namespace Go.Proofs.Ytgagbhkidponnaa
open Go Go.RowKit
set_option linter.unusedVariables false

/-- the k-th virtual function has this id -/
def Hit (b a s c id : Int) (k : Nat) : Prop := VIn b a s c (k : Int) ∧ b + a + (k : Int) * s = id
theorem hit_one {b a s c id : Int} {j k : Nat} (h1 : Hit b a s c id j) (h2 : Hit b a s c id k) : j = k := by
  have hs := h1.1.2.1.2.1.1
  have e : (j : Int) * s = (k : Int) * s := by have := h1.2; have := h2.2; omega
  have := Int.eq_of_mul_eq_mul_right (by omega) e
  omega
theorem hit_pos {b a s c id : Int} {k : Nat} (h : Hit b a s c id k) : 0 ≤ id ∧ VOk a s c ∧ (k : Int) ≤ c - 1 ∧ c ≤ 64 := by
  obtain ⟨⟨⟨b0, b1⟩, hv, ⟨k0, k1⟩, hx⟩, e⟩ := h
  have := mul_bound k0 (by have := hv.2.2.2; omega) hv.2.1.1 hv.2.1.2
  have := hv.1.1
  exact ⟨by omega, hv, k1, hv.2.2.2⟩
theorem hit_not {b a s c id r : Int} {k : Nat} (hv : vidN b a s c (k : Int) r) (h0 : 0 ≤ id) (h : ¬ Hit b a s c id k) : (r == id) = false := by
  apply beq_eq_false_iff_ne.2
  rintro rfl
  rcases hv with ⟨h1, h2⟩ | ⟨_, h2⟩
  · exact h ⟨h1, h2.symm⟩
  · omega

set_option maxHeartbeats 1000000 in
theorem implOwn_yes (b a s c id : Int) (W : World) (k : Nat) (h : Hit b a s c id k) : Calls Try.prog 35 #[.int .i64 b, (vVirtual a s c), .int .i64 id] W (AnsN (.int .i64 (k : Int)) W) := by
  obtain ⟨h0, hv, hkc, hc⟩ := hit_pos h
  have HV := Lib.hid hv
  have HK := Lib.hid h
  have HH := Lib.hid (show ∀ n : Nat, n < k → ¬ Hit b a s c id n from fun n q e => absurd (hit_one e h) (by omega))
  clear h hv
  have HW2 := Lib.hid (fun (k r : Int) (h : vidN b a s c k r) (W : World) => implVId_any b a s c k r h W)
  have HWV := Lib.hid (fun W => implVOk_yes a s c W HV.out)
  unfold vVirtual at HW2 HWV ⊢
  go_enter Try.func35, Try.ntmps35
  have rA1_ := Lib.hid (show ((W.alloc (.cells #[.int .i64 a, .int .i64 s, .int .i64 c] 48))).heap[W.heap.size]? = some (.cells #[.int .i64 a, .int .i64 s, .int .i64 c] 48 (0, 0)) from by exact heap_alloc_new _ _)
  have G2_ := Lib.hid (show (W).grownBy ((W.alloc (.cells #[.int .i64 a, .int .i64 s, .int .i64 c] 48))) none from (gby_alloc (gby_refl _ _) _))
  have A_0_ : ((W.alloc (.cells #[.int .i64 a, .int .i64 s, .int .i64 c] 48))).cell? ⟨W.heap.size, 0, none⟩ = some (.int .i64 a) := cell_of_row _ _ 0 _ _ _ rA1_.out
  have A_1_ : ((W.alloc (.cells #[.int .i64 a, .int .i64 s, .int .i64 c] 48))).cell? ⟨W.heap.size, 1, none⟩ = some (.int .i64 s) := cell_of_row _ _ 1 _ _ _ rA1_.out
  have A_2_ : ((W.alloc (.cells #[.int .i64 a, .int .i64 s, .int .i64 c] 48))).cell? ⟨W.heap.size, 2, none⟩ = some (.int .i64 c) := cell_of_row _ _ 2 _ _ _ rA1_.out
  go_wp2_with fail
  go_at_call 37
  refine (HWV.out _).mono ?_
  rintro e w1 ⟨rfl, g⟩
  clear A_0_ A_1_ A_2_
  have rA3_ := Lib.hid (show (w1).heap[W.heap.size]? = some (.cells #[.int .i64 a, .int .i64 s, .int .i64 c] 48 (0, 0)) from row_held g rA1_.out)
  clear rA1_
  have G4_ := Lib.hid (show (W).grownBy (w1) none from gby_trans G2_.out g)
  clear g
  have A_0_ : (w1).cell? ⟨W.heap.size, 0, none⟩ = some (.int .i64 a) := cell_of_row _ _ 0 _ _ _ rA3_.out
  have A_1_ : (w1).cell? ⟨W.heap.size, 1, none⟩ = some (.int .i64 s) := cell_of_row _ _ 1 _ _ _ rA3_.out
  have A_2_ : (w1).cell? ⟨W.heap.size, 2, none⟩ = some (.int .i64 c) := cell_of_row _ _ 2 _ _ _ rA3_.out
  go_wp2
  go_loopw [7, 17] (fun z i wr => ∃ n : Nat, n ≤ k ∧ (∃ q, z = q) ∧ i = .int .i64 (n : Int) ∧ (w1).grownBy wr none) (fun _ i _ => 64 - (intOf i).toNat)
  case atStart => exact ⟨0, by omega, ⟨_, rfl⟩, rfl, gby_refl _ _⟩
  case round =>
    clear A_0_ A_1_ A_2_
    obtain ⟨n, hn, ⟨z, rfl⟩, rfl, hg⟩ := hrel
    have szr_ := hg.size
    try simp only [World.size_alloc] at szr_
    have rA5_ := Lib.hid (show (wr).heap[W.heap.size]? = some (.cells #[.int .i64 a, .int .i64 s, .int .i64 c] 48 (0, 0)) from row_held hg rA3_.out)
    clear rA3_
    have G6_ := Lib.hid (show (W).grownBy (wr) none from gby_trans G4_.out hg)
    have HTB_ := Lib.hid hg
    clear hg
    have A_0_ : (wr).cell? ⟨W.heap.size, 0, none⟩ = some (.int .i64 a) := cell_of_row _ _ 0 _ _ _ rA5_.out
    have A_1_ : (wr).cell? ⟨W.heap.size, 1, none⟩ = some (.int .i64 s) := cell_of_row _ _ 1 _ _ _ rA5_.out
    have A_2_ : (wr).cell? ⟨W.heap.size, 2, none⟩ = some (.int .i64 c) := cell_of_row _ _ 2 _ _ _ rA5_.out
    have hn0 : (0 : Int) ≤ (n : Int) := by omega
    by_cases hlt : n < k
    · have hki : (n : Int) < c := by omega
      obtain ⟨r, hr⟩ := vidN_ex b a s c (n : Int)
      have hne := hit_not hr h0 (HH.out n (by omega))
      go_wp2_with fail
      go_at_call 36
      refine (HW2.out (n : Int) r hr _).mono ?_
      rintro e w2 ⟨rfl, g⟩
      clear A_0_ A_1_ A_2_
      have rA7_ := Lib.hid (show (w2).heap[W.heap.size]? = some (.cells #[.int .i64 a, .int .i64 s, .int .i64 c] 48 (0, 0)) from row_held g rA5_.out)
      clear rA5_
      have G8_ := Lib.hid (show (W).grownBy (w2) none from gby_trans G6_.out g)
      have HTB9_ := Lib.hid (show (w1).grownBy (w2) none from gby_trans HTB_.out g)
      clear HTB_
      clear g
      have A_0_ : (w2).cell? ⟨W.heap.size, 0, none⟩ = some (.int .i64 a) := cell_of_row _ _ 0 _ _ _ rA7_.out
      have A_1_ : (w2).cell? ⟨W.heap.size, 1, none⟩ = some (.int .i64 s) := cell_of_row _ _ 1 _ _ _ rA7_.out
      have A_2_ : (w2).cell? ⟨W.heap.size, 2, none⟩ = some (.int .i64 c) := cell_of_row _ _ 2 _ _ _ rA7_.out
      go_wp2
      exact ⟨⟨n + 1, by omega, ⟨_, rfl⟩, by go_num, HTB9_.out⟩, by simp [intOf]; omega⟩
    · obtain rfl : n = k := by omega
      have hki : (n : Int) < c := by omega
      have hr : vidN b a s c (n : Int) id := .inl ⟨HK.out.1, HK.out.2.symm⟩
      go_wp2_with fail
      go_at_call 36
      refine (HW2.out (n : Int) id hr _).mono ?_
      rintro e w2 ⟨rfl, g⟩
      clear A_0_ A_1_ A_2_
      have rA7_ := Lib.hid (show (w2).heap[W.heap.size]? = some (.cells #[.int .i64 a, .int .i64 s, .int .i64 c] 48 (0, 0)) from row_held g rA5_.out)
      clear rA5_
      have G8_ := Lib.hid (show (W).grownBy (w2) none from gby_trans G6_.out g)
      have HTB9_ := Lib.hid (show (w1).grownBy (w2) none from gby_trans HTB_.out g)
      clear HTB_
      clear g
      have A_0_ : (w2).cell? ⟨W.heap.size, 0, none⟩ = some (.int .i64 a) := cell_of_row _ _ 0 _ _ _ rA7_.out
      have A_1_ : (w2).cell? ⟨W.heap.size, 1, none⟩ = some (.int .i64 s) := cell_of_row _ _ 1 _ _ _ rA7_.out
      have A_2_ : (w2).cell? ⟨W.heap.size, 2, none⟩ = some (.int .i64 c) := cell_of_row _ _ 2 _ _ _ rA7_.out
      go_wp2
      go_ret
      exact ⟨rfl, G8_.out⟩

set_option maxHeartbeats 1000000 in
theorem implOwn_neg (b a s c id : Int) (W : World) (h0 : id < 0) : Calls Try.prog 35 #[.int .i64 b, (vVirtual a s c), .int .i64 id] W (AnsN (.int .i64 (-1)) W) := by
  unfold vVirtual
  go_enter Try.func35, Try.ntmps35
  have rA1_ := Lib.hid (show ((W.alloc (.cells #[.int .i64 a, .int .i64 s, .int .i64 c] 48))).heap[W.heap.size]? = some (.cells #[.int .i64 a, .int .i64 s, .int .i64 c] 48 (0, 0)) from by exact heap_alloc_new _ _)
  have G2_ := Lib.hid (show (W).grownBy ((W.alloc (.cells #[.int .i64 a, .int .i64 s, .int .i64 c] 48))) none from (gby_alloc (gby_refl _ _) _))
  have A_0_ : ((W.alloc (.cells #[.int .i64 a, .int .i64 s, .int .i64 c] 48))).cell? ⟨W.heap.size, 0, none⟩ = some (.int .i64 a) := cell_of_row _ _ 0 _ _ _ rA1_.out
  have A_1_ : ((W.alloc (.cells #[.int .i64 a, .int .i64 s, .int .i64 c] 48))).cell? ⟨W.heap.size, 1, none⟩ = some (.int .i64 s) := cell_of_row _ _ 1 _ _ _ rA1_.out
  have A_2_ : ((W.alloc (.cells #[.int .i64 a, .int .i64 s, .int .i64 c] 48))).cell? ⟨W.heap.size, 2, none⟩ = some (.int .i64 c) := cell_of_row _ _ 2 _ _ _ rA1_.out
  go_wp2
  go_ret
  exact ⟨rfl, G2_.out⟩

set_option maxHeartbeats 1000000 in
theorem implOwn_nov (b a s c id : Int) (W : World) (h0 : 0 ≤ id) (hv : ¬ VOk a s c) : Calls Try.prog 35 #[.int .i64 b, (vVirtual a s c), .int .i64 id] W (AnsN (.int .i64 (-1)) W) := by
  have HV := Lib.hid hv
  clear hv
  have HWV := Lib.hid (fun W => implVOk_no a s c W HV.out)
  unfold vVirtual at HWV ⊢
  go_enter Try.func35, Try.ntmps35
  have rA1_ := Lib.hid (show ((W.alloc (.cells #[.int .i64 a, .int .i64 s, .int .i64 c] 48))).heap[W.heap.size]? = some (.cells #[.int .i64 a, .int .i64 s, .int .i64 c] 48 (0, 0)) from by exact heap_alloc_new _ _)
  have G2_ := Lib.hid (show (W).grownBy ((W.alloc (.cells #[.int .i64 a, .int .i64 s, .int .i64 c] 48))) none from (gby_alloc (gby_refl _ _) _))
  have A_0_ : ((W.alloc (.cells #[.int .i64 a, .int .i64 s, .int .i64 c] 48))).cell? ⟨W.heap.size, 0, none⟩ = some (.int .i64 a) := cell_of_row _ _ 0 _ _ _ rA1_.out
  have A_1_ : ((W.alloc (.cells #[.int .i64 a, .int .i64 s, .int .i64 c] 48))).cell? ⟨W.heap.size, 1, none⟩ = some (.int .i64 s) := cell_of_row _ _ 1 _ _ _ rA1_.out
  have A_2_ : ((W.alloc (.cells #[.int .i64 a, .int .i64 s, .int .i64 c] 48))).cell? ⟨W.heap.size, 2, none⟩ = some (.int .i64 c) := cell_of_row _ _ 2 _ _ _ rA1_.out
  go_wp2_with fail
  go_at_call 37
  refine (HWV.out _).mono ?_
  rintro e w1 ⟨rfl, g⟩
  clear A_0_ A_1_ A_2_
  have rA3_ := Lib.hid (show (w1).heap[W.heap.size]? = some (.cells #[.int .i64 a, .int .i64 s, .int .i64 c] 48 (0, 0)) from row_held g rA1_.out)
  clear rA1_
  have G4_ := Lib.hid (show (W).grownBy (w1) none from gby_trans G2_.out g)
  clear g
  have A_0_ : (w1).cell? ⟨W.heap.size, 0, none⟩ = some (.int .i64 a) := cell_of_row _ _ 0 _ _ _ rA3_.out
  have A_1_ : (w1).cell? ⟨W.heap.size, 1, none⟩ = some (.int .i64 s) := cell_of_row _ _ 1 _ _ _ rA3_.out
  have A_2_ : (w1).cell? ⟨W.heap.size, 2, none⟩ = some (.int .i64 c) := cell_of_row _ _ 2 _ _ _ rA3_.out
  go_wp2
  go_ret
  exact ⟨rfl, G4_.out⟩

set_option maxHeartbeats 1000000 in
theorem implOwn_no (b a s c id : Int) (W : World) (h0 : 0 ≤ id) (hv : VOk a s c) (h : ∀ k, ¬ Hit b a s c id k) : Calls Try.prog 35 #[.int .i64 b, (vVirtual a s c), .int .i64 id] W (AnsN (.int .i64 (-1)) W) := by
  have HV := Lib.hid hv
  have hc0 := hv.2.2.1
  have hc1 := hv.2.2.2
  have HH := Lib.hid h
  clear h hv
  have HW2 := Lib.hid (fun (k r : Int) (h : vidN b a s c k r) (W : World) => implVId_any b a s c k r h W)
  have HWV := Lib.hid (fun W => implVOk_yes a s c W HV.out)
  unfold vVirtual at HW2 HWV ⊢
  go_enter Try.func35, Try.ntmps35
  have rA1_ := Lib.hid (show ((W.alloc (.cells #[.int .i64 a, .int .i64 s, .int .i64 c] 48))).heap[W.heap.size]? = some (.cells #[.int .i64 a, .int .i64 s, .int .i64 c] 48 (0, 0)) from by exact heap_alloc_new _ _)
  have G2_ := Lib.hid (show (W).grownBy ((W.alloc (.cells #[.int .i64 a, .int .i64 s, .int .i64 c] 48))) none from (gby_alloc (gby_refl _ _) _))
  have A_0_ : ((W.alloc (.cells #[.int .i64 a, .int .i64 s, .int .i64 c] 48))).cell? ⟨W.heap.size, 0, none⟩ = some (.int .i64 a) := cell_of_row _ _ 0 _ _ _ rA1_.out
  have A_1_ : ((W.alloc (.cells #[.int .i64 a, .int .i64 s, .int .i64 c] 48))).cell? ⟨W.heap.size, 1, none⟩ = some (.int .i64 s) := cell_of_row _ _ 1 _ _ _ rA1_.out
  have A_2_ : ((W.alloc (.cells #[.int .i64 a, .int .i64 s, .int .i64 c] 48))).cell? ⟨W.heap.size, 2, none⟩ = some (.int .i64 c) := cell_of_row _ _ 2 _ _ _ rA1_.out
  go_wp2_with fail
  go_at_call 37
  refine (HWV.out _).mono ?_
  rintro e w1 ⟨rfl, g⟩
  clear A_0_ A_1_ A_2_
  have rA3_ := Lib.hid (show (w1).heap[W.heap.size]? = some (.cells #[.int .i64 a, .int .i64 s, .int .i64 c] 48 (0, 0)) from row_held g rA1_.out)
  clear rA1_
  have G4_ := Lib.hid (show (W).grownBy (w1) none from gby_trans G2_.out g)
  clear g
  have A_0_ : (w1).cell? ⟨W.heap.size, 0, none⟩ = some (.int .i64 a) := cell_of_row _ _ 0 _ _ _ rA3_.out
  have A_1_ : (w1).cell? ⟨W.heap.size, 1, none⟩ = some (.int .i64 s) := cell_of_row _ _ 1 _ _ _ rA3_.out
  have A_2_ : (w1).cell? ⟨W.heap.size, 2, none⟩ = some (.int .i64 c) := cell_of_row _ _ 2 _ _ _ rA3_.out
  go_wp2
  go_loopw [7, 17] (fun z i wr => ∃ n : Nat, (n : Int) ≤ c ∧ (∃ q, z = q) ∧ i = .int .i64 (n : Int) ∧ (w1).grownBy wr none) (fun _ i _ => 64 - (intOf i).toNat)
  case atStart => exact ⟨0, by omega, ⟨_, rfl⟩, rfl, gby_refl _ _⟩
  case round =>
    clear A_0_ A_1_ A_2_
    obtain ⟨n, hn, ⟨z, rfl⟩, rfl, hg⟩ := hrel
    have szr_ := hg.size
    try simp only [World.size_alloc] at szr_
    have rA5_ := Lib.hid (show (wr).heap[W.heap.size]? = some (.cells #[.int .i64 a, .int .i64 s, .int .i64 c] 48 (0, 0)) from row_held hg rA3_.out)
    clear rA3_
    have G6_ := Lib.hid (show (W).grownBy (wr) none from gby_trans G4_.out hg)
    have HTB_ := Lib.hid hg
    clear hg
    have A_0_ : (wr).cell? ⟨W.heap.size, 0, none⟩ = some (.int .i64 a) := cell_of_row _ _ 0 _ _ _ rA5_.out
    have A_1_ : (wr).cell? ⟨W.heap.size, 1, none⟩ = some (.int .i64 s) := cell_of_row _ _ 1 _ _ _ rA5_.out
    have A_2_ : (wr).cell? ⟨W.heap.size, 2, none⟩ = some (.int .i64 c) := cell_of_row _ _ 2 _ _ _ rA5_.out
    have hn0 : (0 : Int) ≤ (n : Int) := by omega
    by_cases hlt : (n : Int) < c
    · have hki : (n : Int) < c := by omega
      obtain ⟨r, hr⟩ := vidN_ex b a s c (n : Int)
      have hne := hit_not hr h0 (HH.out n)
      go_wp2_with fail
      go_at_call 36
      refine (HW2.out (n : Int) r hr _).mono ?_
      rintro e w2 ⟨rfl, g⟩
      clear A_0_ A_1_ A_2_
      have rA7_ := Lib.hid (show (w2).heap[W.heap.size]? = some (.cells #[.int .i64 a, .int .i64 s, .int .i64 c] 48 (0, 0)) from row_held g rA5_.out)
      clear rA5_
      have G8_ := Lib.hid (show (W).grownBy (w2) none from gby_trans G6_.out g)
      have HTB9_ := Lib.hid (show (w1).grownBy (w2) none from gby_trans HTB_.out g)
      clear HTB_
      clear g
      have A_0_ : (w2).cell? ⟨W.heap.size, 0, none⟩ = some (.int .i64 a) := cell_of_row _ _ 0 _ _ _ rA7_.out
      have A_1_ : (w2).cell? ⟨W.heap.size, 1, none⟩ = some (.int .i64 s) := cell_of_row _ _ 1 _ _ _ rA7_.out
      have A_2_ : (w2).cell? ⟨W.heap.size, 2, none⟩ = some (.int .i64 c) := cell_of_row _ _ 2 _ _ _ rA7_.out
      go_wp2
      exact ⟨⟨n + 1, by omega, ⟨_, rfl⟩, by go_num, HTB9_.out⟩, by simp [intOf]; omega⟩
    · have hki : ¬ (n : Int) < c := by omega
      go_wp2
      go_ret
      exact ⟨rfl, G6_.out⟩

end Go.Proofs.Ytgagbhkidponnaa
