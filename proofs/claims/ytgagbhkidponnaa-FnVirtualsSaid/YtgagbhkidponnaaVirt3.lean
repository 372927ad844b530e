/-
  All virtual functions' ids, and how many there may be, on both sides.
-/
import Derived.Test.YtgagbhkidponnaaVirt
import Derived.Test.YtgagbhkidponnaaRVirtualIds
import Derived.Test.YtgagbhkidponnaaIntInfo
import Derived.Test.YtgagbhkidponnaaAppP
namespace Go.Proofs.Ytgagbhkidponnaa
open Go Go.RowKit
set_option linter.unusedVariables false

/-- the first n ids -/
def vids (b a s : Int) (n : Nat) : List Int := (List.range n).map fun k : Nat => b + a + (k : Int) * s
theorem vids_len (b a s : Int) (n : Nat) : (vids b a s n).length = n := by simp [vids]
theorem vids_succ (b a s : Int) (n : Nat) : vids b a s (n + 1) = vids b a s n ++ [b + a + (n : Int) * s] := by simp [vids, List.range_succ]
theorem vids_at (b a s : Int) (n k : Nat) (h : k < n) : (vids b a s n).getD k 0 = b + a + (k : Int) * s := by
  simp [vids, List.getD_eq_getElem?_getD, h]
/-- all of them are ids -/
def AllIn (b a s : Int) (n : Nat) : Prop := ∀ k : Nat, k < n → b + a + (k : Int) * s ≤ 255
/-- the k0-th is the first one that is none -/
def FirstOut (b a s : Int) (k0 : Nat) : Prop := 255 < b + a + (k0 : Int) * s ∧ AllIn b a s k0
theorem allIn_or (b a s : Int) : ∀ n, AllIn b a s n ∨ ∃ k0, k0 < n ∧ FirstOut b a s k0
  | 0 => .inl (fun k hk => absurd hk (Nat.not_lt_zero _))
  | n + 1 => by
    rcases allIn_or b a s n with h | ⟨k0, hk, h⟩
    · rcases Int.lt_or_le 255 (b + a + (n : Int) * s) with q | q
      · exact .inr ⟨n, by omega, q, h⟩
      · exact .inl (fun k hk => by
          by_cases e : k = n
          · subst e; exact q
          · exact h k (by omega))
    · exact .inr ⟨k0, by omega, h⟩

set_option maxRecDepth 8000 in
set_option maxHeartbeats 2000000 in
theorem implIds_b' (b a s c : Int) (W : World) (hn : b < 0 ∨ 255 < b) : Calls Try.prog 33 #[.int .i64 b, (vVirtual a s c)] W (ResIVirtualIds [] false W) := by
  have HN := Lib.hid hn
  clear hn
  unfold vVirtual
  go_enter Try.func33, Try.ntmps33
  have rA1_ := Lib.hid (show ((W.alloc (.cells #[.int .i64 a, .int .i64 s, .int .i64 c] 48))).heap[W.heap.size]? = some (.cells #[.int .i64 a, .int .i64 s, .int .i64 c] 48 (0, 0)) from by exact heap_alloc_new _ _)
  have G2_ := Lib.hid (show (W).grownBy ((W.alloc (.cells #[.int .i64 a, .int .i64 s, .int .i64 c] 48))) none from (gby_alloc (gby_refl _ _) _))
  have A_0_ : ((W.alloc (.cells #[.int .i64 a, .int .i64 s, .int .i64 c] 48))).cell? ⟨W.heap.size, 0, none⟩ = some (.int .i64 a) := cell_of_row _ _ 0 _ _ _ rA1_.out
  have A_1_ : ((W.alloc (.cells #[.int .i64 a, .int .i64 s, .int .i64 c] 48))).cell? ⟨W.heap.size, 1, none⟩ = some (.int .i64 s) := cell_of_row _ _ 1 _ _ _ rA1_.out
  have A_2_ : ((W.alloc (.cells #[.int .i64 a, .int .i64 s, .int .i64 c] 48))).cell? ⟨W.heap.size, 2, none⟩ = some (.int .i64 c) := cell_of_row _ _ 2 _ _ _ rA1_.out
  go_wp2_with fail
  go_at_call 66
  refine (implIsId_no _ _ HN.out).mono ?_
  rintro e w1 ⟨rfl, hd⟩
  have g := hd.gby none
  clear hd
  have szw1 := g.size
  try simp only [World.size_alloc] at szw1
  clear A_0_ A_1_ A_2_
  have rA3_ := Lib.hid (show (w1).heap[W.heap.size]? = some (.cells #[.int .i64 a, .int .i64 s, .int .i64 c] 48 (0, 0)) from row_held g rA1_.out)
  clear rA1_
  have G4_ := Lib.hid (show (W).grownBy (w1) none from gby_trans G2_.out g)
  clear g
  have A_0_ : (w1).cell? ⟨W.heap.size, 0, none⟩ = some (.int .i64 a) := cell_of_row _ _ 0 _ _ _ rA3_.out
  have A_1_ : (w1).cell? ⟨W.heap.size, 1, none⟩ = some (.int .i64 s) := cell_of_row _ _ 1 _ _ _ rA3_.out
  have A_2_ : (w1).cell? ⟨W.heap.size, 2, none⟩ = some (.int .i64 c) := cell_of_row _ _ 2 _ _ _ rA3_.out
  go_wp2
  go_ret2
  exact ⟨_, rfl, OwU.one owL_nil, G4_.out⟩

theorem implIds_b (b a s : Int) (c : Nat) (W : World) (hn : b < 0 ∨ 255 < b) : Calls Try.prog 33 #[.int .i64 b, (vVirtual a s (c : Int))] W (ResIVirtualIds [] false W) := implIds_b' b a s c W hn

set_option maxRecDepth 8000 in
set_option maxHeartbeats 2000000 in
theorem implIds_v' (b a s c : Int) (W : World) (h0 : 0 ≤ b) (h1 : b ≤ 255) (hv : ¬ VOk a s c) : Calls Try.prog 33 #[.int .i64 b, (vVirtual a s c)] W (ResIVirtualIds [] false W) := by
  have HV := Lib.hid hv
  clear hv
  have HW := Lib.hid (fun W => implVOk_no a s c W HV.out)
  unfold vVirtual at HW ⊢
  go_enter Try.func33, Try.ntmps33
  have rA1_ := Lib.hid (show ((W.alloc (.cells #[.int .i64 a, .int .i64 s, .int .i64 c] 48))).heap[W.heap.size]? = some (.cells #[.int .i64 a, .int .i64 s, .int .i64 c] 48 (0, 0)) from by exact heap_alloc_new _ _)
  have G2_ := Lib.hid (show (W).grownBy ((W.alloc (.cells #[.int .i64 a, .int .i64 s, .int .i64 c] 48))) none from (gby_alloc (gby_refl _ _) _))
  have A_0_ : ((W.alloc (.cells #[.int .i64 a, .int .i64 s, .int .i64 c] 48))).cell? ⟨W.heap.size, 0, none⟩ = some (.int .i64 a) := cell_of_row _ _ 0 _ _ _ rA1_.out
  have A_1_ : ((W.alloc (.cells #[.int .i64 a, .int .i64 s, .int .i64 c] 48))).cell? ⟨W.heap.size, 1, none⟩ = some (.int .i64 s) := cell_of_row _ _ 1 _ _ _ rA1_.out
  have A_2_ : ((W.alloc (.cells #[.int .i64 a, .int .i64 s, .int .i64 c] 48))).cell? ⟨W.heap.size, 2, none⟩ = some (.int .i64 c) := cell_of_row _ _ 2 _ _ _ rA1_.out
  go_wp2_with fail
  go_at_call 66
  refine (implIsId_yes _ _ (by omega) (by omega)).mono ?_
  rintro e w1 ⟨rfl, hd⟩
  have g := hd.gby none
  clear hd
  have szw1 := g.size
  try simp only [World.size_alloc] at szw1
  clear A_0_ A_1_ A_2_
  have rA3_ := Lib.hid (show (w1).heap[W.heap.size]? = some (.cells #[.int .i64 a, .int .i64 s, .int .i64 c] 48 (0, 0)) from row_held g rA1_.out)
  clear rA1_
  have G4_ := Lib.hid (show (W).grownBy (w1) none from gby_trans G2_.out g)
  clear g
  have A_0_ : (w1).cell? ⟨W.heap.size, 0, none⟩ = some (.int .i64 a) := cell_of_row _ _ 0 _ _ _ rA3_.out
  have A_1_ : (w1).cell? ⟨W.heap.size, 1, none⟩ = some (.int .i64 s) := cell_of_row _ _ 1 _ _ _ rA3_.out
  have A_2_ : (w1).cell? ⟨W.heap.size, 2, none⟩ = some (.int .i64 c) := cell_of_row _ _ 2 _ _ _ rA3_.out
  go_wp2_with fail
  go_at_call 37
  refine (HW.out _).mono ?_
  rintro e w2 ⟨rfl, g⟩
  have szw2 := g.size
  try simp only [World.size_alloc] at szw2
  clear A_0_ A_1_ A_2_
  have rA5_ := Lib.hid (show (w2).heap[W.heap.size]? = some (.cells #[.int .i64 a, .int .i64 s, .int .i64 c] 48 (0, 0)) from row_held g rA3_.out)
  clear rA3_
  have G6_ := Lib.hid (show (W).grownBy (w2) none from gby_trans G4_.out g)
  clear g
  have A_0_ : (w2).cell? ⟨W.heap.size, 0, none⟩ = some (.int .i64 a) := cell_of_row _ _ 0 _ _ _ rA5_.out
  have A_1_ : (w2).cell? ⟨W.heap.size, 1, none⟩ = some (.int .i64 s) := cell_of_row _ _ 1 _ _ _ rA5_.out
  have A_2_ : (w2).cell? ⟨W.heap.size, 2, none⟩ = some (.int .i64 c) := cell_of_row _ _ 2 _ _ _ rA5_.out
  go_wp2
  go_ret2
  exact ⟨_, rfl, OwU.one owL_nil, G6_.out⟩

theorem implIds_v (b a s : Int) (c : Nat) (W : World) (h0 : 0 ≤ b) (h1 : b ≤ 255) (hv : ¬ VOk a s c) : Calls Try.prog 33 #[.int .i64 b, (vVirtual a s (c : Int))] W (ResIVirtualIds [] false W) := implIds_v' b a s c W h0 h1 hv

set_option maxRecDepth 8000 in
set_option maxHeartbeats 2000000 in
theorem implIds_good (b a s : Int) (c : Nat) (W : World) (h0 : 0 ≤ b) (h1 : b ≤ 255) (hv : VOk a s c) (ha : AllIn b a s c) : Calls Try.prog 33 #[.int .i64 b, (vVirtual a s (c : Int))] W (ResIVirtualIds (vids b a s c) true W) := by
  have HA := Lib.hid ha
  clear ha
  have HV := Lib.hid hv
  obtain ⟨⟨a1, a2⟩, ⟨s1, s2⟩, ⟨c1, c2⟩⟩ := hv
  have HW := Lib.hid (fun W => implVOk_yes a s c W HV.out)
  have HW2 := Lib.hid (fun (k r : Int) (h : vidN b a s c k r) (W : World) => implVId_any b a s c k r h W)
  obtain ⟨i1_, hi1_, hz0_, hz1_, hz2_⟩ := info_parts infoInt
  unfold vVirtual at HW HW2 ⊢
  go_enter Try.func33, Try.ntmps33
  have rA1_ := Lib.hid (show ((W.alloc (.cells #[.int .i64 a, .int .i64 s, .int .i64 (c : Int)] 48))).heap[W.heap.size]? = some (.cells #[.int .i64 a, .int .i64 s, .int .i64 (c : Int)] 48 (0, 0)) from by exact heap_alloc_new _ _)
  have G2_ := Lib.hid (show (W).grownBy ((W.alloc (.cells #[.int .i64 a, .int .i64 s, .int .i64 (c : Int)] 48))) none from (gby_alloc (gby_refl _ _) _))
  have A_0_ : ((W.alloc (.cells #[.int .i64 a, .int .i64 s, .int .i64 (c : Int)] 48))).cell? ⟨W.heap.size, 0, none⟩ = some (.int .i64 a) := cell_of_row _ _ 0 _ _ _ rA1_.out
  have A_1_ : ((W.alloc (.cells #[.int .i64 a, .int .i64 s, .int .i64 (c : Int)] 48))).cell? ⟨W.heap.size, 1, none⟩ = some (.int .i64 s) := cell_of_row _ _ 1 _ _ _ rA1_.out
  have A_2_ : ((W.alloc (.cells #[.int .i64 a, .int .i64 s, .int .i64 (c : Int)] 48))).cell? ⟨W.heap.size, 2, none⟩ = some (.int .i64 (c : Int)) := cell_of_row _ _ 2 _ _ _ rA1_.out
  go_wp2_with fail
  go_at_call 66
  refine (implIsId_yes _ _ (by omega) (by omega)).mono ?_
  rintro e w1 ⟨rfl, hd⟩
  have g := hd.gby none
  clear hd
  have szw1 := g.size
  try simp only [World.size_alloc] at szw1
  clear A_0_ A_1_ A_2_
  have rA3_ := Lib.hid (show (w1).heap[W.heap.size]? = some (.cells #[.int .i64 a, .int .i64 s, .int .i64 (c : Int)] 48 (0, 0)) from row_held g rA1_.out)
  clear rA1_
  have G4_ := Lib.hid (show (W).grownBy (w1) none from gby_trans G2_.out g)
  clear g
  have A_0_ : (w1).cell? ⟨W.heap.size, 0, none⟩ = some (.int .i64 a) := cell_of_row _ _ 0 _ _ _ rA3_.out
  have A_1_ : (w1).cell? ⟨W.heap.size, 1, none⟩ = some (.int .i64 s) := cell_of_row _ _ 1 _ _ _ rA3_.out
  have A_2_ : (w1).cell? ⟨W.heap.size, 2, none⟩ = some (.int .i64 (c : Int)) := cell_of_row _ _ 2 _ _ _ rA3_.out
  go_wp2_with fail
  go_at_call 37
  refine (HW.out _).mono ?_
  rintro e w2 ⟨rfl, g⟩
  have szw2 := g.size
  try simp only [World.size_alloc] at szw2
  clear A_0_ A_1_ A_2_
  have rA5_ := Lib.hid (show (w2).heap[W.heap.size]? = some (.cells #[.int .i64 a, .int .i64 s, .int .i64 (c : Int)] 48 (0, 0)) from row_held g rA3_.out)
  clear rA3_
  have G6_ := Lib.hid (show (W).grownBy (w2) none from gby_trans G4_.out g)
  clear g
  have A_0_ : (w2).cell? ⟨W.heap.size, 0, none⟩ = some (.int .i64 a) := cell_of_row _ _ 0 _ _ _ rA5_.out
  have A_1_ : (w2).cell? ⟨W.heap.size, 1, none⟩ = some (.int .i64 s) := cell_of_row _ _ 1 _ _ _ rA5_.out
  have A_2_ : (w2).cell? ⟨W.heap.size, 2, none⟩ = some (.int .i64 (c : Int)) := cell_of_row _ _ 2 _ _ _ rA5_.out
  have HTM7_ := Lib.hid (gby_refl (w2) none)
  have MG8_ := Lib.hid (show (W).grownBy (w2) none from G6_.out)
  have MR9_ := Lib.hid rA5_.out
  go_wp2_with (at_make; refine wpList_make_full _ rfl _ _ 23 rfl w2.heap.size 3 i1_ (.int .i64 0) 1 Try.underlying23 hi1_ hz0_ hz1_ .i64 .i64 _ _ c rfl rfl rfl rfl (by rw [hz2_]; omega) (by unfold maxLen; omega) (Nat.le_refl _) ?_; intro w0 hown0 hgrow0; have HO0 := Lib.hid hown0; have HG0 := Lib.hid hgrow0; clear hown0 hgrow0)
  have hsz0 := HG0.out.size
  clear A_0_ A_1_ A_2_
  have rA10_ := Lib.hid (show (w0).heap[W.heap.size]? = some (.cells #[.int .i64 a, .int .i64 s, .int .i64 (c : Int)] 48 (0, 0)) from row_held HG0.out rA5_.out)
  clear rA5_
  have G11_ := Lib.hid (show (W).grownBy (w0) none from gby_trans G6_.out HG0.out)
  have HTM12_ := Lib.hid (show (w2).grownBy (w0) none from gby_trans HTM7_.out HG0.out)
  clear HTM7_
  have A_0_ : (w0).cell? ⟨W.heap.size, 0, none⟩ = some (.int .i64 a) := cell_of_row _ _ 0 _ _ _ rA10_.out
  have A_1_ : (w0).cell? ⟨W.heap.size, 1, none⟩ = some (.int .i64 s) := cell_of_row _ _ 1 _ _ _ rA10_.out
  have A_2_ : (w0).cell? ⟨W.heap.size, 2, none⟩ = some (.int .i64 (c : Int)) := cell_of_row _ _ 2 _ _ _ rA10_.out
  have hst_ : w0.ownsRow (w2.heap.size) 3 1 (.slice (some ⟨w2.heap.size, 0, none⟩) c c) c (i64s (List.replicate c 0)) := by
    have := HO0.out
    rw [show (Value.int .i64 0).cells = #[Value.int .i64 0] from rfl, Nat.mul_one, toList_madeCells_one] at this
    simpa [i64s] using this
  go_wp2
  go_loopw [7, 21] (fun z i wr => ∃ (n : Nat) (ys : List Int), n ≤ c ∧ (∃ q, z = q) ∧ i = .int .i64 (n : Int) ∧ ys.length = c ∧ (∀ j : Nat, j < n → ys.getD j 0 = b + a + (j : Int) * s) ∧ wr.ownsRow (w2.heap.size) 3 1 (.slice (some ⟨w2.heap.size, 0, none⟩) c c) c (i64s ys) ∧ (w2).grownBy wr none) (fun _ i _ => c - (intOf i).toNat)
  case atStart => exact ⟨0, _, by omega, ⟨_, rfl⟩, rfl, by simp, fun j hj => absurd hj (Nat.not_lt_zero _), hst_, HTM12_.out⟩
  case round =>
    clear A_0_ A_1_ A_2_
    clear rA10_
    clear HTM12_
    obtain ⟨n, ys, hn, ⟨z, rfl⟩, rfl, hlen, hys, hown, hg⟩ := hrel
    have szr_ := hg.size
    try simp only [World.size_alloc] at szr_
    have G13_ := Lib.hid (show (W).grownBy (wr) none from gby_trans MG8_.out hg)
    have rA14_ := Lib.hid (show (wr).heap[W.heap.size]? = some (.cells #[.int .i64 a, .int .i64 s, .int .i64 (c : Int)] 48 (0, 0)) from row_held hg MR9_.out)
    have HTM15_ := Lib.hid hg
    clear hg
    have A_0_ : (wr).cell? ⟨W.heap.size, 0, none⟩ = some (.int .i64 a) := cell_of_row _ _ 0 _ _ _ rA14_.out
    have A_1_ : (wr).cell? ⟨W.heap.size, 1, none⟩ = some (.int .i64 s) := cell_of_row _ _ 1 _ _ _ rA14_.out
    have A_2_ : (wr).cell? ⟨W.heap.size, 2, none⟩ = some (.int .i64 (c : Int)) := cell_of_row _ _ 2 _ _ _ rA14_.out
    try clear hst_
    have HO_ := Lib.hid hown
    have HL_ := Lib.hid hlen
    have HY_ := Lib.hid hys
    clear hown hlen hys
    have hn0 : (0 : Int) ≤ (n : Int) := by omega
    have htn : ((n : Int)).toNat = n := by omega
    by_cases hlt : n < c
    · skip
      have hki : (n : Int) < (c : Int) := by omega
      obtain ⟨m1, m2⟩ := mul_bound hn0 (show (n : Int) ≤ 63 by omega) s1 s2
      obtain ⟨r, hr⟩ : ∃ r, r = b + a + (n : Int) * s := ⟨_, rfl⟩
      have hrv : vidN b a s c (n : Int) r := .inl ⟨⟨⟨h0, h1⟩, HV.out, ⟨hn0, by omega⟩, HA.out n (by omega)⟩, hr⟩
      have hrn : ¬ r < 0 := by omega
      have hr0 : 0 ≤ r := by omega
      have HR_ := Lib.hid hr
      clear hr m1 m2
      go_wp2_with fail
      go_at_call 36
      refine (HW2.out (n : Int) r hrv _).mono ?_
      rintro e w3 ⟨rfl, g⟩
      have gN_ := Lib.hid g
      have szw3 := g.size
      try simp only [World.size_alloc] at szw3
      clear A_0_ A_1_ A_2_
      have rA16_ := Lib.hid (show (w3).heap[W.heap.size]? = some (.cells #[.int .i64 a, .int .i64 s, .int .i64 (c : Int)] 48 (0, 0)) from row_held g rA14_.out)
      clear rA14_
      have G17_ := Lib.hid (show (W).grownBy (w3) none from gby_trans G13_.out g)
      have HTM18_ := Lib.hid (show (w2).grownBy (w3) none from gby_trans HTM15_.out g)
      clear HTM15_
      clear g
      have A_0_ : (w3).cell? ⟨W.heap.size, 0, none⟩ = some (.int .i64 a) := cell_of_row _ _ 0 _ _ _ rA16_.out
      have A_1_ : (w3).cell? ⟨W.heap.size, 1, none⟩ = some (.int .i64 s) := cell_of_row _ _ 1 _ _ _ rA16_.out
      have A_2_ : (w3).cell? ⟨W.heap.size, 2, none⟩ = some (.int .i64 (c : Int)) := cell_of_row _ _ 2 _ _ _ rA16_.out
      have HO2_ := Lib.hid (HO_.out.grown gN_.out)
      have hf_ := HO2_.out.frozenAt n
      have hc_ := HO2_.out.cellAt n (by omega)
      rw [i64s, List.getElem?_map, List.getElem?_eq_getElem (by have := HL_.out; omega)] at hc_
      generalize ys[n]'(by have := HL_.out; omega) = y_ at hc_
      go_wp2
      refine ⟨⟨n + 1, ys.set n r, by omega, ⟨_, rfl⟩, by go_num, by simp [HL_.out], ?_, ?_, ?_⟩, by simp [intOf]; omega⟩
      · intro j hj
        rw [List.getD_eq_getElem?_getD, List.getElem?_set]
        by_cases e : n = j
        · subst e
          have := HL_.out
          rw [if_pos rfl, if_pos (by omega)]; exact HR_.out
        · rw [if_neg e, ← List.getD_eq_getElem?_getD]
          exact HY_.out j (by omega)
      · have := HO2_.out.stored n (.int .i64 r)
        rw [i64s, ← List.map_set] at this
        exact this.1
      · exact gby_setnew HTM18_.out _ (by dsimp only; omega) _
    · obtain rfl : n = c := by omega
      have hki : ¬ (n : Int) < (n : Int) := by omega
      have ey : ys = vids b a s n := lists_eq (by rw [vids_len]; exact HL_.out) (fun j hj => by rw [HL_.out] at hj; rw [HY_.out j hj, vids_at _ _ _ _ _ hj])
      have hq := HO_.out
      rw [ey] at hq
      have HQ_ := Lib.hid hq
      clear hq ey
      go_wp2
      go_ret2
      refine ⟨_, rfl, OwU.one (OwL.wide (owI_out (by rw [vids_len]; omega) (owI_row HQ_.out)) (by omega) (Nat.le_refl _)), G13_.out⟩

set_option maxRecDepth 8000 in
set_option maxHeartbeats 2000000 in
theorem implIds_bad (b a s : Int) (c : Nat) (W : World) (h0 : 0 ≤ b) (h1 : b ≤ 255) (hv : VOk a s c) (k0 : Nat) (hk0 : k0 < c) (hf : FirstOut b a s k0) : Calls Try.prog 33 #[.int .i64 b, (vVirtual a s (c : Int))] W (ResIVirtualIds [] false W) := by
  have HF := Lib.hid hf.1
  have HA := Lib.hid hf.2
  clear hf
  have HV := Lib.hid hv
  obtain ⟨⟨a1, a2⟩, ⟨s1, s2⟩, ⟨c1, c2⟩⟩ := hv
  have HW := Lib.hid (fun W => implVOk_yes a s c W HV.out)
  have HW2 := Lib.hid (fun (k r : Int) (h : vidN b a s c k r) (W : World) => implVId_any b a s c k r h W)
  obtain ⟨i1_, hi1_, hz0_, hz1_, hz2_⟩ := info_parts infoInt
  unfold vVirtual at HW HW2 ⊢
  go_enter Try.func33, Try.ntmps33
  have rA1_ := Lib.hid (show ((W.alloc (.cells #[.int .i64 a, .int .i64 s, .int .i64 (c : Int)] 48))).heap[W.heap.size]? = some (.cells #[.int .i64 a, .int .i64 s, .int .i64 (c : Int)] 48 (0, 0)) from by exact heap_alloc_new _ _)
  have G2_ := Lib.hid (show (W).grownBy ((W.alloc (.cells #[.int .i64 a, .int .i64 s, .int .i64 (c : Int)] 48))) none from (gby_alloc (gby_refl _ _) _))
  have A_0_ : ((W.alloc (.cells #[.int .i64 a, .int .i64 s, .int .i64 (c : Int)] 48))).cell? ⟨W.heap.size, 0, none⟩ = some (.int .i64 a) := cell_of_row _ _ 0 _ _ _ rA1_.out
  have A_1_ : ((W.alloc (.cells #[.int .i64 a, .int .i64 s, .int .i64 (c : Int)] 48))).cell? ⟨W.heap.size, 1, none⟩ = some (.int .i64 s) := cell_of_row _ _ 1 _ _ _ rA1_.out
  have A_2_ : ((W.alloc (.cells #[.int .i64 a, .int .i64 s, .int .i64 (c : Int)] 48))).cell? ⟨W.heap.size, 2, none⟩ = some (.int .i64 (c : Int)) := cell_of_row _ _ 2 _ _ _ rA1_.out
  go_wp2_with fail
  go_at_call 66
  refine (implIsId_yes _ _ (by omega) (by omega)).mono ?_
  rintro e w1 ⟨rfl, hd⟩
  have g := hd.gby none
  clear hd
  have szw1 := g.size
  try simp only [World.size_alloc] at szw1
  clear A_0_ A_1_ A_2_
  have rA3_ := Lib.hid (show (w1).heap[W.heap.size]? = some (.cells #[.int .i64 a, .int .i64 s, .int .i64 (c : Int)] 48 (0, 0)) from row_held g rA1_.out)
  clear rA1_
  have G4_ := Lib.hid (show (W).grownBy (w1) none from gby_trans G2_.out g)
  clear g
  have A_0_ : (w1).cell? ⟨W.heap.size, 0, none⟩ = some (.int .i64 a) := cell_of_row _ _ 0 _ _ _ rA3_.out
  have A_1_ : (w1).cell? ⟨W.heap.size, 1, none⟩ = some (.int .i64 s) := cell_of_row _ _ 1 _ _ _ rA3_.out
  have A_2_ : (w1).cell? ⟨W.heap.size, 2, none⟩ = some (.int .i64 (c : Int)) := cell_of_row _ _ 2 _ _ _ rA3_.out
  go_wp2_with fail
  go_at_call 37
  refine (HW.out _).mono ?_
  rintro e w2 ⟨rfl, g⟩
  have szw2 := g.size
  try simp only [World.size_alloc] at szw2
  clear A_0_ A_1_ A_2_
  have rA5_ := Lib.hid (show (w2).heap[W.heap.size]? = some (.cells #[.int .i64 a, .int .i64 s, .int .i64 (c : Int)] 48 (0, 0)) from row_held g rA3_.out)
  clear rA3_
  have G6_ := Lib.hid (show (W).grownBy (w2) none from gby_trans G4_.out g)
  clear g
  have A_0_ : (w2).cell? ⟨W.heap.size, 0, none⟩ = some (.int .i64 a) := cell_of_row _ _ 0 _ _ _ rA5_.out
  have A_1_ : (w2).cell? ⟨W.heap.size, 1, none⟩ = some (.int .i64 s) := cell_of_row _ _ 1 _ _ _ rA5_.out
  have A_2_ : (w2).cell? ⟨W.heap.size, 2, none⟩ = some (.int .i64 (c : Int)) := cell_of_row _ _ 2 _ _ _ rA5_.out
  have HTM7_ := Lib.hid (gby_refl (w2) none)
  have MG8_ := Lib.hid (show (W).grownBy (w2) none from G6_.out)
  have MR9_ := Lib.hid rA5_.out
  go_wp2_with (at_make; refine wpList_make_full _ rfl _ _ 23 rfl w2.heap.size 3 i1_ (.int .i64 0) 1 Try.underlying23 hi1_ hz0_ hz1_ .i64 .i64 _ _ c rfl rfl rfl rfl (by rw [hz2_]; omega) (by unfold maxLen; omega) (Nat.le_refl _) ?_; intro w0 hown0 hgrow0; have HO0 := Lib.hid hown0; have HG0 := Lib.hid hgrow0; clear hown0 hgrow0)
  have hsz0 := HG0.out.size
  clear A_0_ A_1_ A_2_
  have rA10_ := Lib.hid (show (w0).heap[W.heap.size]? = some (.cells #[.int .i64 a, .int .i64 s, .int .i64 (c : Int)] 48 (0, 0)) from row_held HG0.out rA5_.out)
  clear rA5_
  have G11_ := Lib.hid (show (W).grownBy (w0) none from gby_trans G6_.out HG0.out)
  have HTM12_ := Lib.hid (show (w2).grownBy (w0) none from gby_trans HTM7_.out HG0.out)
  clear HTM7_
  have A_0_ : (w0).cell? ⟨W.heap.size, 0, none⟩ = some (.int .i64 a) := cell_of_row _ _ 0 _ _ _ rA10_.out
  have A_1_ : (w0).cell? ⟨W.heap.size, 1, none⟩ = some (.int .i64 s) := cell_of_row _ _ 1 _ _ _ rA10_.out
  have A_2_ : (w0).cell? ⟨W.heap.size, 2, none⟩ = some (.int .i64 (c : Int)) := cell_of_row _ _ 2 _ _ _ rA10_.out
  have hst_ : w0.ownsRow (w2.heap.size) 3 1 (.slice (some ⟨w2.heap.size, 0, none⟩) c c) c (i64s (List.replicate c 0)) := by
    have := HO0.out
    rw [show (Value.int .i64 0).cells = #[Value.int .i64 0] from rfl, Nat.mul_one, toList_madeCells_one] at this
    simpa [i64s] using this
  go_wp2
  go_loopw [7, 21] (fun z i wr => ∃ (n : Nat) (ys : List Int), n ≤ k0 ∧ (∃ q, z = q) ∧ i = .int .i64 (n : Int) ∧ ys.length = c ∧ (∀ j : Nat, j < n → ys.getD j 0 = b + a + (j : Int) * s) ∧ wr.ownsRow (w2.heap.size) 3 1 (.slice (some ⟨w2.heap.size, 0, none⟩) c c) c (i64s ys) ∧ (w2).grownBy wr none) (fun _ i _ => c - (intOf i).toNat)
  case atStart => exact ⟨0, _, by omega, ⟨_, rfl⟩, rfl, by simp, fun j hj => absurd hj (Nat.not_lt_zero _), hst_, HTM12_.out⟩
  case round =>
    clear A_0_ A_1_ A_2_
    clear rA10_
    clear HTM12_
    obtain ⟨n, ys, hn, ⟨z, rfl⟩, rfl, hlen, hys, hown, hg⟩ := hrel
    have szr_ := hg.size
    try simp only [World.size_alloc] at szr_
    have G13_ := Lib.hid (show (W).grownBy (wr) none from gby_trans MG8_.out hg)
    have rA14_ := Lib.hid (show (wr).heap[W.heap.size]? = some (.cells #[.int .i64 a, .int .i64 s, .int .i64 (c : Int)] 48 (0, 0)) from row_held hg MR9_.out)
    have HTM15_ := Lib.hid hg
    clear hg
    have A_0_ : (wr).cell? ⟨W.heap.size, 0, none⟩ = some (.int .i64 a) := cell_of_row _ _ 0 _ _ _ rA14_.out
    have A_1_ : (wr).cell? ⟨W.heap.size, 1, none⟩ = some (.int .i64 s) := cell_of_row _ _ 1 _ _ _ rA14_.out
    have A_2_ : (wr).cell? ⟨W.heap.size, 2, none⟩ = some (.int .i64 (c : Int)) := cell_of_row _ _ 2 _ _ _ rA14_.out
    try clear hst_
    have HO_ := Lib.hid hown
    have HL_ := Lib.hid hlen
    have HY_ := Lib.hid hys
    clear hown hlen hys
    have hn0 : (0 : Int) ≤ (n : Int) := by omega
    have htn : ((n : Int)).toNat = n := by omega
    by_cases hlt : n < k0
    · skip
      have hki : (n : Int) < (c : Int) := by omega
      obtain ⟨m1, m2⟩ := mul_bound hn0 (show (n : Int) ≤ 63 by omega) s1 s2
      obtain ⟨r, hr⟩ : ∃ r, r = b + a + (n : Int) * s := ⟨_, rfl⟩
      have hrv : vidN b a s c (n : Int) r := .inl ⟨⟨⟨h0, h1⟩, HV.out, ⟨hn0, by omega⟩, HA.out n (by omega)⟩, hr⟩
      have hrn : ¬ r < 0 := by omega
      have hr0 : 0 ≤ r := by omega
      have HR_ := Lib.hid hr
      clear hr m1 m2
      go_wp2_with fail
      go_at_call 36
      refine (HW2.out (n : Int) r hrv _).mono ?_
      rintro e w3 ⟨rfl, g⟩
      have gN_ := Lib.hid g
      have szw3 := g.size
      try simp only [World.size_alloc] at szw3
      clear A_0_ A_1_ A_2_
      have rA16_ := Lib.hid (show (w3).heap[W.heap.size]? = some (.cells #[.int .i64 a, .int .i64 s, .int .i64 (c : Int)] 48 (0, 0)) from row_held g rA14_.out)
      clear rA14_
      have G17_ := Lib.hid (show (W).grownBy (w3) none from gby_trans G13_.out g)
      have HTM18_ := Lib.hid (show (w2).grownBy (w3) none from gby_trans HTM15_.out g)
      clear HTM15_
      clear g
      have A_0_ : (w3).cell? ⟨W.heap.size, 0, none⟩ = some (.int .i64 a) := cell_of_row _ _ 0 _ _ _ rA16_.out
      have A_1_ : (w3).cell? ⟨W.heap.size, 1, none⟩ = some (.int .i64 s) := cell_of_row _ _ 1 _ _ _ rA16_.out
      have A_2_ : (w3).cell? ⟨W.heap.size, 2, none⟩ = some (.int .i64 (c : Int)) := cell_of_row _ _ 2 _ _ _ rA16_.out
      have HO2_ := Lib.hid (HO_.out.grown gN_.out)
      have hf_ := HO2_.out.frozenAt n
      have hc_ := HO2_.out.cellAt n (by omega)
      rw [i64s, List.getElem?_map, List.getElem?_eq_getElem (by have := HL_.out; omega)] at hc_
      generalize ys[n]'(by have := HL_.out; omega) = y_ at hc_
      go_wp2
      refine ⟨⟨n + 1, ys.set n r, by omega, ⟨_, rfl⟩, by go_num, by simp [HL_.out], ?_, ?_, ?_⟩, by simp [intOf]; omega⟩
      · intro j hj
        rw [List.getD_eq_getElem?_getD, List.getElem?_set]
        by_cases e : n = j
        · subst e
          have := HL_.out
          rw [if_pos rfl, if_pos (by omega)]; exact HR_.out
        · rw [if_neg e, ← List.getD_eq_getElem?_getD]
          exact HY_.out j (by omega)
      · have := HO2_.out.stored n (.int .i64 r)
        rw [i64s, ← List.map_set] at this
        exact this.1
      · exact gby_setnew HTM18_.out _ (by dsimp only; omega) _
    · obtain rfl : n = k0 := by omega
      have hki : (n : Int) < (c : Int) := by omega
      have hrv : vidN b a s c (n : Int) (-1) := .inr ⟨fun q => absurd q.2.2.2 (by have := HF.out; omega), rfl⟩
      have hm1 : (-1 : Int) < 0 := by omega
      go_wp2_with fail
      go_at_call 36
      refine (HW2.out (n : Int) (-1) hrv _).mono ?_
      rintro e w3 ⟨rfl, g⟩
      have gN_ := Lib.hid g
      have szw3 := g.size
      try simp only [World.size_alloc] at szw3
      clear A_0_ A_1_ A_2_
      have rA16_ := Lib.hid (show (w3).heap[W.heap.size]? = some (.cells #[.int .i64 a, .int .i64 s, .int .i64 (c : Int)] 48 (0, 0)) from row_held g rA14_.out)
      clear rA14_
      have G17_ := Lib.hid (show (W).grownBy (w3) none from gby_trans G13_.out g)
      have HTM18_ := Lib.hid (show (w2).grownBy (w3) none from gby_trans HTM15_.out g)
      clear HTM15_
      clear g
      have A_0_ : (w3).cell? ⟨W.heap.size, 0, none⟩ = some (.int .i64 a) := cell_of_row _ _ 0 _ _ _ rA16_.out
      have A_1_ : (w3).cell? ⟨W.heap.size, 1, none⟩ = some (.int .i64 s) := cell_of_row _ _ 1 _ _ _ rA16_.out
      have A_2_ : (w3).cell? ⟨W.heap.size, 2, none⟩ = some (.int .i64 (c : Int)) := cell_of_row _ _ 2 _ _ _ rA16_.out
      have HO2_ := Lib.hid (HO_.out.grown gN_.out)
      have hf_ := HO2_.out.frozenAt n
      have hc_ := HO2_.out.cellAt n (by omega)
      rw [i64s, List.getElem?_map, List.getElem?_eq_getElem (by have := HL_.out; omega)] at hc_
      generalize ys[n]'(by have := HL_.out; omega) = y_ at hc_
      go_wp2
      go_ret2
      exact ⟨_, rfl, OwU.one owL_nil, gby_setnew G17_.out _ (by dsimp only; omega) _⟩

end Go.Proofs.Ytgagbhkidponnaa
