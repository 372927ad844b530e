/-
  The worst error of a log, on both sides.
-/
import Derived.Test.YtgagbhkidponnadLog
import Derived.Test.YtgagbhkidponnadRWorstOf
namespace Go.Proofs.Ytgagbhkidponnad
open Go Go.RowKit
set_option linter.unusedVariables false

/-- the worst of the first n errors -/
def worst (st ma : Nat) (xs : List Int) : Nat → Int
  | 0 => -1
  | n + 1 => if bitB st n = true ∧ bitB ma n = false then (if worst st ma xs n < xs.getD n 0 then xs.getD n 0 else worst st ma xs n) else worst st ma xs n
theorem worst_in (st ma : Nat) (xs : List Int) (h : ∀ k, k < 16 → 0 ≤ xs.getD k 0 ∧ xs.getD k 0 ≤ 2) : ∀ n, n ≤ 16 → -1 ≤ worst st ma xs n ∧ worst st ma xs n ≤ 2
  | 0, _ => by simp [worst]
  | n + 1, hn => by
    have ih := worst_in st ma xs h n (by omega)
    have hx := h n (by omega)
    unfold worst
    split
    · split <;> omega
    · exact ih

set_option maxRecDepth 8000 in
set_option maxHeartbeats 2000000 in
theorem implWorst_no (W : World) (st ma fi : Int) (v : Value) (xs : List Int) (H : RdL shI W v xs) (hl : szL shI xs ≤ 1048576) (h : ¬ LOk st ma fi xs) : Calls Try.prog 24 #[vLog st ma fi v] W (AnsN (.int .i64 (-1)) W) := by
  have HR := Lib.hid H
  have HNO := Lib.hid (fun W Hx => implLog_no W st ma fi v xs Hx hl h)
  obtain ⟨a0, cap, rfl, _⟩ := H
  generalize xs.length = len at *
  clear h
  unfold vLog at *
  go_enter Try.func24, Try.ntmps24
  have rA1_ := Lib.hid (show ((W.alloc (.cells #[.int .i64 st, .int .i64 ma, .int .i64 fi, .slice a0 len cap] 26))).heap[W.heap.size]? = some (.cells #[.int .i64 st, .int .i64 ma, .int .i64 fi, .slice a0 len cap] 26 (0, 0)) from by exact heap_alloc_new _ _)
  have G2_ := Lib.hid (show (W).grownBy ((W.alloc (.cells #[.int .i64 st, .int .i64 ma, .int .i64 fi, .slice a0 len cap] 26))) none from (gby_alloc (gby_refl _ _) _))
  have A_0_ : ((W.alloc (.cells #[.int .i64 st, .int .i64 ma, .int .i64 fi, .slice a0 len cap] 26))).cell? ⟨W.heap.size, 0, none⟩ = some (.int .i64 st) := cell_of_row _ _ 0 _ _ _ rA1_.out
  have A_1_ : ((W.alloc (.cells #[.int .i64 st, .int .i64 ma, .int .i64 fi, .slice a0 len cap] 26))).cell? ⟨W.heap.size, 1, none⟩ = some (.int .i64 ma) := cell_of_row _ _ 1 _ _ _ rA1_.out
  have A_2_ : ((W.alloc (.cells #[.int .i64 st, .int .i64 ma, .int .i64 fi, .slice a0 len cap] 26))).cell? ⟨W.heap.size, 2, none⟩ = some (.int .i64 fi) := cell_of_row _ _ 2 _ _ _ rA1_.out
  have A_3_ : ((W.alloc (.cells #[.int .i64 st, .int .i64 ma, .int .i64 fi, .slice a0 len cap] 26))).cell? ⟨W.heap.size, 3, none⟩ = some (.slice a0 len cap) := cell_of_row _ _ 3 _ _ _ rA1_.out
  go_wp2_with fail
  go_at_call 23
  refine (HNO.out _ (HR.out.grow G2_.out)).mono ?_
  rintro e w1 ⟨rfl, g⟩
  have szw1 := g.size
  try simp only [World.size_alloc] at szw1
  clear A_0_ A_1_ A_2_ A_3_
  have rA3_ := Lib.hid (show (w1).heap[W.heap.size]? = some (.cells #[.int .i64 st, .int .i64 ma, .int .i64 fi, .slice a0 len cap] 26 (0, 0)) from row_held g rA1_.out)
  clear rA1_
  have G4_ := Lib.hid (show (W).grownBy (w1) none from gby_trans G2_.out g)
  clear g
  have A_0_ : (w1).cell? ⟨W.heap.size, 0, none⟩ = some (.int .i64 st) := cell_of_row _ _ 0 _ _ _ rA3_.out
  have A_1_ : (w1).cell? ⟨W.heap.size, 1, none⟩ = some (.int .i64 ma) := cell_of_row _ _ 1 _ _ _ rA3_.out
  have A_2_ : (w1).cell? ⟨W.heap.size, 2, none⟩ = some (.int .i64 fi) := cell_of_row _ _ 2 _ _ _ rA3_.out
  have A_3_ : (w1).cell? ⟨W.heap.size, 3, none⟩ = some (.slice a0 len cap) := cell_of_row _ _ 3 _ _ _ rA3_.out
  go_wp2
  go_ret
  exact ⟨rfl, G4_.out⟩

set_option maxRecDepth 8000 in
set_option maxHeartbeats 2000000 in
theorem implWorst_yes (W : World) (st ma : Nat) (fi : Int) (v : Value) (xs : List Int) (H : RdL shI W v xs) (hl : szL shI xs ≤ 1048576) (h : LOk st ma fi xs) : Calls Try.prog 24 #[vLog st ma fi v] W (AnsN (.int .i64 (worst st ma xs 16)) W) := by
  have HR := Lib.hid H
  have HYES := Lib.hid (fun W Hx => implLog_yes W st ma fi v xs Hx hl h)
  obtain ⟨a0, cap, rfl, hi, _⟩ := rdI_in H
  obtain ⟨_, hi⟩ := hi
  obtain ⟨⟨s1, s2⟩, ⟨m1, m2⟩, h16, hb, _⟩ := h
  have HB := Lib.hid hb
  obtain ⟨b, off, rfl, hcell⟩ := hi.resolve_left (by omega)
  rw [h16] at hcell HR HYES ⊢
  have HC := Lib.hid hcell
  clear H hi hcell hb h16
  unfold vLog at *
  go_enter Try.func24, Try.ntmps24
  have rA1_ := Lib.hid (show ((W.alloc (.cells #[.int .i64 (st : Int), .int .i64 (ma : Int), .int .i64 fi, .slice (some ⟨b, off, none⟩) 16 cap] 26))).heap[W.heap.size]? = some (.cells #[.int .i64 (st : Int), .int .i64 (ma : Int), .int .i64 fi, .slice (some ⟨b, off, none⟩) 16 cap] 26 (0, 0)) from by exact heap_alloc_new _ _)
  have G2_ := Lib.hid (show (W).grownBy ((W.alloc (.cells #[.int .i64 (st : Int), .int .i64 (ma : Int), .int .i64 fi, .slice (some ⟨b, off, none⟩) 16 cap] 26))) none from (gby_alloc (gby_refl _ _) _))
  have A_0_ : ((W.alloc (.cells #[.int .i64 (st : Int), .int .i64 (ma : Int), .int .i64 fi, .slice (some ⟨b, off, none⟩) 16 cap] 26))).cell? ⟨W.heap.size, 0, none⟩ = some (.int .i64 (st : Int)) := cell_of_row _ _ 0 _ _ _ rA1_.out
  have A_1_ : ((W.alloc (.cells #[.int .i64 (st : Int), .int .i64 (ma : Int), .int .i64 fi, .slice (some ⟨b, off, none⟩) 16 cap] 26))).cell? ⟨W.heap.size, 1, none⟩ = some (.int .i64 (ma : Int)) := cell_of_row _ _ 1 _ _ _ rA1_.out
  have A_2_ : ((W.alloc (.cells #[.int .i64 (st : Int), .int .i64 (ma : Int), .int .i64 fi, .slice (some ⟨b, off, none⟩) 16 cap] 26))).cell? ⟨W.heap.size, 2, none⟩ = some (.int .i64 fi) := cell_of_row _ _ 2 _ _ _ rA1_.out
  have A_3_ : ((W.alloc (.cells #[.int .i64 (st : Int), .int .i64 (ma : Int), .int .i64 fi, .slice (some ⟨b, off, none⟩) 16 cap] 26))).cell? ⟨W.heap.size, 3, none⟩ = some (.slice (some ⟨b, off, none⟩) 16 cap) := cell_of_row _ _ 3 _ _ _ rA1_.out
  go_wp2_with fail
  go_at_call 23
  refine (HYES.out _ (HR.out.grow G2_.out)).mono ?_
  rintro e w1 ⟨rfl, g⟩
  have szw1 := g.size
  try simp only [World.size_alloc] at szw1
  clear A_0_ A_1_ A_2_ A_3_
  have rA3_ := Lib.hid (show (w1).heap[W.heap.size]? = some (.cells #[.int .i64 (st : Int), .int .i64 (ma : Int), .int .i64 fi, .slice (some ⟨b, off, none⟩) 16 cap] 26 (0, 0)) from row_held g rA1_.out)
  clear rA1_
  have G4_ := Lib.hid (show (W).grownBy (w1) none from gby_trans G2_.out g)
  clear g
  have A_0_ : (w1).cell? ⟨W.heap.size, 0, none⟩ = some (.int .i64 (st : Int)) := cell_of_row _ _ 0 _ _ _ rA3_.out
  have A_1_ : (w1).cell? ⟨W.heap.size, 1, none⟩ = some (.int .i64 (ma : Int)) := cell_of_row _ _ 1 _ _ _ rA3_.out
  have A_2_ : (w1).cell? ⟨W.heap.size, 2, none⟩ = some (.int .i64 fi) := cell_of_row _ _ 2 _ _ _ rA3_.out
  have A_3_ : (w1).cell? ⟨W.heap.size, 3, none⟩ = some (.slice (some ⟨b, off, none⟩) 16 cap) := cell_of_row _ _ 3 _ _ _ rA3_.out
  go_wp2
  go_loopw [3, 4, 5, 13] (fun v z1 z2 i wr => ∃ n : Nat, n ≤ 16 ∧ (∃ q, z1 = q) ∧ (∃ q, z2 = q) ∧ i = .int .i64 (n : Int) ∧ v = .int .i64 (worst st ma xs n) ∧ (w1).grownBy wr none) (fun _ _ _ i _ => 16 - (intOf i).toNat)
  case atStart => exact ⟨0, by omega, ⟨_, rfl⟩, ⟨_, rfl⟩, rfl, rfl, gby_refl _ _⟩
  case round =>
    clear A_0_ A_1_ A_2_ A_3_
    obtain ⟨n, hn, ⟨z1, rfl⟩, ⟨z2, rfl⟩, rfl, rfl, hg⟩ := hrel
    have szrwr := hg.size
    try simp only [World.size_alloc] at szrwr
    have szr_ := szrwr
    have rA5_ := Lib.hid (show (wr).heap[W.heap.size]? = some (.cells #[.int .i64 (st : Int), .int .i64 (ma : Int), .int .i64 fi, .slice (some ⟨b, off, none⟩) 16 cap] 26 (0, 0)) from row_held hg rA3_.out)
    clear rA3_
    have G6_ := Lib.hid (show (W).grownBy (wr) none from gby_trans G4_.out hg)
    have HTB_ := Lib.hid hg
    clear hg
    have A_0_ : (wr).cell? ⟨W.heap.size, 0, none⟩ = some (.int .i64 (st : Int)) := cell_of_row _ _ 0 _ _ _ rA5_.out
    have A_1_ : (wr).cell? ⟨W.heap.size, 1, none⟩ = some (.int .i64 (ma : Int)) := cell_of_row _ _ 1 _ _ _ rA5_.out
    have A_2_ : (wr).cell? ⟨W.heap.size, 2, none⟩ = some (.int .i64 fi) := cell_of_row _ _ 2 _ _ _ rA5_.out
    have A_3_ : (wr).cell? ⟨W.heap.size, 3, none⟩ = some (.slice (some ⟨b, off, none⟩) 16 cap) := cell_of_row _ _ 3 _ _ _ rA5_.out
    have hn0 : (0 : Int) ≤ (n : Int) := by omega
    have htn : ((n : Int)).toNat = n := by omega
    by_cases hlt : n < 16
    · have hki : (n : Int) < 16 := by omega
      have hn64 : (n : Int) ≤ 64 := by omega
      obtain ⟨x, hx⟩ : ∃ x, x = xs.getD n 0 := ⟨_, rfl⟩
      have hx_ := (G6_.out).cell (HC.out n hlt) (by simp)
      rw [← hx] at hx_
      have HX := Lib.hid hx
      have hb1 := (HB.out n hlt).1
      have hb2 := (HB.out n hlt).2
      rw [← hx] at hb1 hb2
      clear hx
      obtain ⟨r, hr⟩ : ∃ r, r = worst st ma xs n := ⟨_, rfl⟩
      have hw := worst_in st ma xs HB.out n (by omega)
      rw [← hr] at hw ⊢
      have hw1 := hw.1
      have hw2 := hw.2
      have HRR := Lib.hid hr
      clear hw hr
      cases e1 : bitB st n with
      | true =>
        have HE1 := Lib.hid e1
        have HH1 := Lib.hid (fun W => hasErr_in st n W (by omega) (by omega))
        rw [e1] at HH1
        clear e1
        go_wp2_with fail
        go_at_call 51
        refine (HH1.out _).mono ?_
        rintro e w2 ⟨rfl, hd⟩
        have g := hd.gby none
        clear hd
        have szw2 := g.size
        try simp only [World.size_alloc] at szw2
        clear A_0_ A_1_ A_2_ A_3_
        have rA7_ := Lib.hid (show (w2).heap[W.heap.size]? = some (.cells #[.int .i64 (st : Int), .int .i64 (ma : Int), .int .i64 fi, .slice (some ⟨b, off, none⟩) 16 cap] 26 (0, 0)) from row_held g rA5_.out)
        clear rA5_
        have G8_ := Lib.hid (show (W).grownBy (w2) none from gby_trans G6_.out g)
        have HTB9_ := Lib.hid (show (w1).grownBy (w2) none from gby_trans HTB_.out g)
        clear HTB_
        clear g
        have A_0_ : (w2).cell? ⟨W.heap.size, 0, none⟩ = some (.int .i64 (st : Int)) := cell_of_row _ _ 0 _ _ _ rA7_.out
        have A_1_ : (w2).cell? ⟨W.heap.size, 1, none⟩ = some (.int .i64 (ma : Int)) := cell_of_row _ _ 1 _ _ _ rA7_.out
        have A_2_ : (w2).cell? ⟨W.heap.size, 2, none⟩ = some (.int .i64 fi) := cell_of_row _ _ 2 _ _ _ rA7_.out
        have A_3_ : (w2).cell? ⟨W.heap.size, 3, none⟩ = some (.slice (some ⟨b, off, none⟩) 16 cap) := cell_of_row _ _ 3 _ _ _ rA7_.out
        cases e2 : bitB ma n with
        | true =>
          have HE2 := Lib.hid e2
          have HH2 := Lib.hid (fun W => hasErr_in ma n W (by omega) (by omega))
          rw [e2] at HH2
          clear e2
          go_wp2_with fail
          go_at_call 51
          refine (HH2.out _).mono ?_
          rintro e w3 ⟨rfl, hd⟩
          have g := hd.gby none
          clear hd
          have szw3 := g.size
          try simp only [World.size_alloc] at szw3
          clear A_0_ A_1_ A_2_ A_3_
          have rA10_ := Lib.hid (show (w3).heap[W.heap.size]? = some (.cells #[.int .i64 (st : Int), .int .i64 (ma : Int), .int .i64 fi, .slice (some ⟨b, off, none⟩) 16 cap] 26 (0, 0)) from row_held g rA7_.out)
          clear rA7_
          have G11_ := Lib.hid (show (W).grownBy (w3) none from gby_trans G8_.out g)
          have HTB12_ := Lib.hid (show (w1).grownBy (w3) none from gby_trans HTB9_.out g)
          clear HTB9_
          clear g
          have A_0_ : (w3).cell? ⟨W.heap.size, 0, none⟩ = some (.int .i64 (st : Int)) := cell_of_row _ _ 0 _ _ _ rA10_.out
          have A_1_ : (w3).cell? ⟨W.heap.size, 1, none⟩ = some (.int .i64 (ma : Int)) := cell_of_row _ _ 1 _ _ _ rA10_.out
          have A_2_ : (w3).cell? ⟨W.heap.size, 2, none⟩ = some (.int .i64 fi) := cell_of_row _ _ 2 _ _ _ rA10_.out
          have A_3_ : (w3).cell? ⟨W.heap.size, 3, none⟩ = some (.slice (some ⟨b, off, none⟩) 16 cap) := cell_of_row _ _ 3 _ _ _ rA10_.out
          go_wp2
          exact ⟨⟨n + 1, by omega, ⟨_, rfl⟩, ⟨_, rfl⟩, by go_num, congrArg (Value.int .i64) (by show _ = worst st ma xs (n + 1); unfold worst; rw [← HRR.out, ← HX.out]; rw [if_neg (fun q => by rw [HE2.out] at q; cases q.2)]), HTB12_.out⟩, by simp [intOf]; omega⟩
        | false =>
          have HE2 := Lib.hid e2
          have HH2 := Lib.hid (fun W => hasErr_in ma n W (by omega) (by omega))
          rw [e2] at HH2
          clear e2
          go_wp2_with fail
          go_at_call 51
          refine (HH2.out _).mono ?_
          rintro e w3 ⟨rfl, hd⟩
          have g := hd.gby none
          clear hd
          have szw3 := g.size
          try simp only [World.size_alloc] at szw3
          clear A_0_ A_1_ A_2_ A_3_
          have rA10_ := Lib.hid (show (w3).heap[W.heap.size]? = some (.cells #[.int .i64 (st : Int), .int .i64 (ma : Int), .int .i64 fi, .slice (some ⟨b, off, none⟩) 16 cap] 26 (0, 0)) from row_held g rA7_.out)
          clear rA7_
          have G11_ := Lib.hid (show (W).grownBy (w3) none from gby_trans G8_.out g)
          have HTB12_ := Lib.hid (show (w1).grownBy (w3) none from gby_trans HTB9_.out g)
          clear HTB9_
          clear g
          have A_0_ : (w3).cell? ⟨W.heap.size, 0, none⟩ = some (.int .i64 (st : Int)) := cell_of_row _ _ 0 _ _ _ rA10_.out
          have A_1_ : (w3).cell? ⟨W.heap.size, 1, none⟩ = some (.int .i64 (ma : Int)) := cell_of_row _ _ 1 _ _ _ rA10_.out
          have A_2_ : (w3).cell? ⟨W.heap.size, 2, none⟩ = some (.int .i64 fi) := cell_of_row _ _ 2 _ _ _ rA10_.out
          have A_3_ : (w3).cell? ⟨W.heap.size, 3, none⟩ = some (.slice (some ⟨b, off, none⟩) 16 cap) := cell_of_row _ _ 3 _ _ _ rA10_.out
          by_cases hm : r < x
          · have hmx : (if r < x then x else r) = x := if_pos hm
            have HM := Lib.hid hm
            go_wp2
            exact ⟨⟨n + 1, by omega, ⟨_, rfl⟩, ⟨_, rfl⟩, by go_num, congrArg (Value.int .i64) (by show _ = worst st ma xs (n + 1); unfold worst; rw [← HRR.out, ← HX.out]; rw [if_pos ⟨HE1.out, HE2.out⟩, if_pos HM.out]), HTB12_.out⟩, by simp [intOf]; omega⟩
          · have hmx : (if r < x then x else r) = r := if_neg hm
            have HM := Lib.hid hm
            go_wp2
            exact ⟨⟨n + 1, by omega, ⟨_, rfl⟩, ⟨_, rfl⟩, by go_num, congrArg (Value.int .i64) (by show _ = worst st ma xs (n + 1); unfold worst; rw [← HRR.out, ← HX.out]; rw [if_pos ⟨HE1.out, HE2.out⟩]; exact (if_neg (by have := HM.out; omega)).symm), HTB12_.out⟩, by simp [intOf]; omega⟩
      | false =>
        have HE1 := Lib.hid e1
        have HH1 := Lib.hid (fun W => hasErr_in st n W (by omega) (by omega))
        rw [e1] at HH1
        clear e1
        go_wp2_with fail
        go_at_call 51
        refine (HH1.out _).mono ?_
        rintro e w2 ⟨rfl, hd⟩
        have g := hd.gby none
        clear hd
        have szw2 := g.size
        try simp only [World.size_alloc] at szw2
        clear A_0_ A_1_ A_2_ A_3_
        have rA7_ := Lib.hid (show (w2).heap[W.heap.size]? = some (.cells #[.int .i64 (st : Int), .int .i64 (ma : Int), .int .i64 fi, .slice (some ⟨b, off, none⟩) 16 cap] 26 (0, 0)) from row_held g rA5_.out)
        clear rA5_
        have G8_ := Lib.hid (show (W).grownBy (w2) none from gby_trans G6_.out g)
        have HTB9_ := Lib.hid (show (w1).grownBy (w2) none from gby_trans HTB_.out g)
        clear HTB_
        clear g
        have A_0_ : (w2).cell? ⟨W.heap.size, 0, none⟩ = some (.int .i64 (st : Int)) := cell_of_row _ _ 0 _ _ _ rA7_.out
        have A_1_ : (w2).cell? ⟨W.heap.size, 1, none⟩ = some (.int .i64 (ma : Int)) := cell_of_row _ _ 1 _ _ _ rA7_.out
        have A_2_ : (w2).cell? ⟨W.heap.size, 2, none⟩ = some (.int .i64 fi) := cell_of_row _ _ 2 _ _ _ rA7_.out
        have A_3_ : (w2).cell? ⟨W.heap.size, 3, none⟩ = some (.slice (some ⟨b, off, none⟩) 16 cap) := cell_of_row _ _ 3 _ _ _ rA7_.out
        go_wp2
        exact ⟨⟨n + 1, by omega, ⟨_, rfl⟩, ⟨_, rfl⟩, by go_num, congrArg (Value.int .i64) (by show _ = worst st ma xs (n + 1); unfold worst; rw [← HRR.out, ← HX.out]; rw [if_neg (fun q => by rw [HE1.out] at q; cases q.1)]), HTB9_.out⟩, by simp [intOf]; omega⟩
    · obtain rfl : n = 16 := by omega
      have hki : ¬ ((16 : Nat) : Int) < 16 := by omega
      go_wp2
      go_ret
      exact ⟨rfl, G6_.out⟩

end Go.Proofs.Ytgagbhkidponnad
