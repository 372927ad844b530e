/-
  Lists of nodes, on both sides: how many bridges; the same or not.
-/
import Derived.Test.YtjkjodcgpdhldabTreeI
import Derived.Test.YtjkjodcgpdhldabBPost0
import Derived.Test.YtjkjodcgpdhldabRCountBridges
import Derived.Test.YtjkjodcgpdhldabRSameTree
namespace Go.Proofs.Ytjkjodcgpdhldab
open Go Go.RowKit
set_option linter.unusedVariables false

/-- the bridges of the first n nodes -/
def cntB (xs : List DNode) : Nat → Nat
  | 0 => 0
  | n + 1 => cntB xs n + if (nd xs n).f2 = 0 then 1 else 0
theorem cntB_le (xs : List DNode) : ∀ n, cntB xs n ≤ n
  | 0 => Nat.le_refl _
  | n + 1 => by have := cntB_le xs n; unfold cntB; split <;> omega

set_option maxRecDepth 8000 in
set_option maxHeartbeats 2000000 in
theorem specCnt (W : World) (v : Value) (xs : List DNode) (H : RdL shNode W v xs) (hl : szL shNode xs ≤ 1048576) : Calls Try.prog 20 #[v] W (AnsN (.int .i64 (cntB xs xs.length : Int)) W) := by
  have hlx : xs.length ≤ 1048576 := by have := szL_len shNode xs; omega
  obtain ⟨a0, cap, rfl, hcap, hi⟩ := rdN_in H
  have HA := Lib.hid hi
  obtain ⟨len, hlen⟩ : ∃ len, len = xs.length := ⟨_, rfl⟩
  have HE := Lib.hid hlen
  unfold RdN at HA
  rw [← hlen] at hlx HA ⊢
  clear H hi hlen hl hcap
  go_enter Try.func20, Try.ntmps20
  go_wp2
  go_loopw [3, 4] (fun v i wr => ∃ n : Nat, n ≤ len ∧ i = .int .i64 (n : Int) ∧ v = .int .i64 (cntB xs n : Int) ∧ (W).grownBy wr none) (fun _ i _ => len - (intOf i).toNat)
  case atStart => exact ⟨0, by omega, rfl, rfl, gby_refl _ _⟩
  case round =>
    obtain ⟨n, hn, rfl, rfl, hg⟩ := hrel
    have szrwr := hg.size
    try simp only [World.size_alloc] at szrwr
    have szr_ := szrwr
    have G1_ := Lib.hid (show (W).grownBy (wr) none from gby_trans (gby_refl _ _) hg)
    have HTB_ := Lib.hid hg
    clear hg
    have hn0 : (0 : Int) ≤ (n : Int) := by omega
    have htn : ((n : Int)).toNat = n := by omega
    have hcl := cntB_le xs n
    obtain ⟨c, hc⟩ : ∃ c, c = cntB xs n := ⟨_, rfl⟩
    rw [← hc] at hcl ⊢
    have HCC := Lib.hid hc
    clear hc
    by_cases hlt : n < len
    · have hki : (n : Int) < (len : Int) := by omega
      obtain ⟨b, off, rfl, hcell⟩ := HA.out.resolve_left (by omega)
      obtain ⟨y, hy⟩ : ∃ y, y = nd xs n := ⟨_, rfl⟩
      have hyc := hcell n hlt
      rw [← hy] at hyc
      have HY := Lib.hid hy
      clear hy hcell
      obtain ⟨y0, y1, y2⟩ := y
      dsimp only at hyc
      have HY0C := Lib.hid hyc.1
      have HY1C := Lib.hid hyc.2.1
      have HY2C := Lib.hid hyc.2.2
      clear hyc
      have y0_ := (G1_.out).cell HY0C.out (by simp)
      have y1_ := (G1_.out).cell HY1C.out (by simp)
      have y2_ := (G1_.out).cell HY2C.out (by simp)
      by_cases h0 : y2 = 0
      · have HB := Lib.hid h0
        have hyb : (y2 == 0) = true := by simpa using h0
        clear h0
        go_wp2
        exact ⟨⟨n + 1, by omega, by go_num, congrArg (Value.int .i64) (by show _ = ((cntB xs (n + 1) : Nat) : Int); unfold cntB; rw [← HCC.out, ← HY.out]; rw [if_pos HB.out]; omega), HTB_.out⟩, by simp [intOf]; omega⟩
      · have HB := Lib.hid h0
        have hyb : (y2 == 0) = false := by simpa using h0
        clear h0
        go_wp2
        exact ⟨⟨n + 1, by omega, by go_num, congrArg (Value.int .i64) (by show _ = ((cntB xs (n + 1) : Nat) : Int); unfold cntB; rw [← HCC.out, ← HY.out]; rw [if_neg HB.out]; omega), HTB_.out⟩, by simp [intOf]; omega⟩
    · obtain rfl : n = len := by omega
      have hki : ¬ (n : Int) < (n : Int) := by omega
      go_wp2
      go_ret
      exact ⟨ret_i64 (by rw [HCC.out]), G1_.out⟩

set_option maxRecDepth 8000 in
set_option maxHeartbeats 2000000 in
theorem implCnt (W : World) (v : Value) (xs : List DNode) (H : RdL shNode W v xs) (hl : szL shNode xs ≤ 1048576) : Calls Try.prog 22 #[v] W (AnsN (.int .i64 (cntB xs xs.length : Int)) W) := by
  have hlx : xs.length ≤ 1048576 := by have := szL_len shNode xs; omega
  obtain ⟨a0, cap, rfl, hcap, hi⟩ := rdN_in H
  have HA := Lib.hid hi
  obtain ⟨len, hlen⟩ : ∃ len, len = xs.length := ⟨_, rfl⟩
  have HE := Lib.hid hlen
  unfold RdN at HA
  rw [← hlen] at hlx HA ⊢
  clear H hi hlen hl hcap
  go_enter Try.func22, Try.ntmps22
  go_wp2
  go_loopw [3, 5, 8] (fun v z i wr => ∃ n : Nat, n ≤ len ∧ (∃ q, z = q) ∧ i = .int .i64 (n : Int) ∧ v = .int .i64 (cntB xs n : Int) ∧ (W).grownBy wr none) (fun _ _ i _ => len - (intOf i).toNat)
  case atStart => exact ⟨0, by omega, ⟨_, rfl⟩, rfl, rfl, gby_refl _ _⟩
  case round =>
    obtain ⟨n, hn, ⟨z, rfl⟩, rfl, rfl, hg⟩ := hrel
    have szrwr := hg.size
    try simp only [World.size_alloc] at szrwr
    have szr_ := szrwr
    have G1_ := Lib.hid (show (W).grownBy (wr) none from gby_trans (gby_refl _ _) hg)
    have HTB_ := Lib.hid hg
    clear hg
    have hn0 : (0 : Int) ≤ (n : Int) := by omega
    have htn : ((n : Int)).toNat = n := by omega
    have hcl := cntB_le xs n
    obtain ⟨c, hc⟩ : ∃ c, c = cntB xs n := ⟨_, rfl⟩
    rw [← hc] at hcl ⊢
    have HCC := Lib.hid hc
    clear hc
    by_cases hlt : n < len
    · have hki : (n : Int) < (len : Int) := by omega
      obtain ⟨b, off, rfl, hcell⟩ := HA.out.resolve_left (by omega)
      obtain ⟨y, hy⟩ : ∃ y, y = nd xs n := ⟨_, rfl⟩
      have hyc := hcell n hlt
      rw [← hy] at hyc
      have HY := Lib.hid hy
      clear hy hcell
      obtain ⟨y0, y1, y2⟩ := y
      dsimp only at hyc
      have HY0C := Lib.hid hyc.1
      have HY1C := Lib.hid hyc.2.1
      have HY2C := Lib.hid hyc.2.2
      clear hyc
      have y0_ := (G1_.out).cell HY0C.out (by simp)
      have y1_ := (G1_.out).cell HY1C.out (by simp)
      have y2_ := (G1_.out).cell HY2C.out (by simp)
      by_cases h0 : y2 = 0
      · have HB := Lib.hid h0
        have hyb : (y2 == 0) = true := by simpa using h0
        clear h0
        go_wp2_with fail
        clear y0_ y1_ y2_
        have al_ : (wr).grownBy ((wr).alloc (.cells #[.int .i64 y0, .int .i64 y1, .int .i64 y2] 67)) none := gby_alloc (gby_refl _ _) _
        have G2_ := Lib.hid (show (W).grownBy ((wr.alloc (.cells #[.int .i64 y0, .int .i64 y1, .int .i64 y2] 67))) none from gby_trans G1_.out al_)
        have HTB3_ := Lib.hid (show (W).grownBy ((wr.alloc (.cells #[.int .i64 y0, .int .i64 y1, .int .i64 y2] 67))) none from gby_trans HTB_.out al_)
        clear HTB_
        have rY4_ := Lib.hid (show ((wr.alloc (.cells #[.int .i64 y0, .int .i64 y1, .int .i64 y2] 67))).heap[wr.heap.size]? = some (.cells #[.int .i64 y0, .int .i64 y1, .int .i64 y2] 67 (0, 0)) from by first | exact heap_alloc_new _ _ | exact heap_pair _ _ _ | exact heap_trip _ _ _ _)
        clear al_
        have Y_0_ : ((wr.alloc (.cells #[.int .i64 y0, .int .i64 y1, .int .i64 y2] 67))).cell? ⟨wr.heap.size, 0, none⟩ = some (.int .i64 y0) := cell_of_row _ _ 0 _ _ _ rY4_.out
        have Y_1_ : ((wr.alloc (.cells #[.int .i64 y0, .int .i64 y1, .int .i64 y2] 67))).cell? ⟨wr.heap.size, 1, none⟩ = some (.int .i64 y1) := cell_of_row _ _ 1 _ _ _ rY4_.out
        have Y_2_ : ((wr.alloc (.cells #[.int .i64 y0, .int .i64 y1, .int .i64 y2] 67))).cell? ⟨wr.heap.size, 2, none⟩ = some (.int .i64 y2) := cell_of_row _ _ 2 _ _ _ rY4_.out
        have y0_ := (G2_.out).cell HY0C.out (by simp)
        have y1_ := (G2_.out).cell HY1C.out (by simp)
        have y2_ := (G2_.out).cell HY2C.out (by simp)
        go_wp2_with fail
        go_at_call 55
        refine (bridge_yes _ _ _ _ HB.out).mono ?_
        rintro e w1 ⟨rfl, g⟩
        have szw1 := g.size
        try simp only [World.size_alloc] at szw1
        clear Y_0_ Y_1_ Y_2_ y0_ y1_ y2_
        have rY5_ := Lib.hid (show (w1).heap[wr.heap.size]? = some (.cells #[.int .i64 y0, .int .i64 y1, .int .i64 y2] 67 (0, 0)) from row_held g rY4_.out)
        clear rY4_
        have G6_ := Lib.hid (show (W).grownBy (w1) none from gby_trans G2_.out g)
        have HTB7_ := Lib.hid (show (W).grownBy (w1) none from gby_trans HTB3_.out g)
        clear HTB3_
        clear g
        have Y_0_ : (w1).cell? ⟨wr.heap.size, 0, none⟩ = some (.int .i64 y0) := cell_of_row _ _ 0 _ _ _ rY5_.out
        have Y_1_ : (w1).cell? ⟨wr.heap.size, 1, none⟩ = some (.int .i64 y1) := cell_of_row _ _ 1 _ _ _ rY5_.out
        have Y_2_ : (w1).cell? ⟨wr.heap.size, 2, none⟩ = some (.int .i64 y2) := cell_of_row _ _ 2 _ _ _ rY5_.out
        have y0_ := (G6_.out).cell HY0C.out (by simp)
        have y1_ := (G6_.out).cell HY1C.out (by simp)
        have y2_ := (G6_.out).cell HY2C.out (by simp)
        go_wp2
        exact ⟨⟨n + 1, by omega, ⟨_, rfl⟩, by go_num, congrArg (Value.int .i64) (by show _ = ((cntB xs (n + 1) : Nat) : Int); unfold cntB; rw [← HCC.out, ← HY.out]; rw [if_pos HB.out]; omega), HTB7_.out⟩, by simp [intOf]; omega⟩
      · have HB := Lib.hid h0
        have hyb : (y2 == 0) = false := by simpa using h0
        clear h0
        go_wp2_with fail
        clear y0_ y1_ y2_
        have al_ : (wr).grownBy ((wr).alloc (.cells #[.int .i64 y0, .int .i64 y1, .int .i64 y2] 67)) none := gby_alloc (gby_refl _ _) _
        have G2_ := Lib.hid (show (W).grownBy ((wr.alloc (.cells #[.int .i64 y0, .int .i64 y1, .int .i64 y2] 67))) none from gby_trans G1_.out al_)
        have HTB3_ := Lib.hid (show (W).grownBy ((wr.alloc (.cells #[.int .i64 y0, .int .i64 y1, .int .i64 y2] 67))) none from gby_trans HTB_.out al_)
        clear HTB_
        have rY4_ := Lib.hid (show ((wr.alloc (.cells #[.int .i64 y0, .int .i64 y1, .int .i64 y2] 67))).heap[wr.heap.size]? = some (.cells #[.int .i64 y0, .int .i64 y1, .int .i64 y2] 67 (0, 0)) from by first | exact heap_alloc_new _ _ | exact heap_pair _ _ _ | exact heap_trip _ _ _ _)
        clear al_
        have Y_0_ : ((wr.alloc (.cells #[.int .i64 y0, .int .i64 y1, .int .i64 y2] 67))).cell? ⟨wr.heap.size, 0, none⟩ = some (.int .i64 y0) := cell_of_row _ _ 0 _ _ _ rY4_.out
        have Y_1_ : ((wr.alloc (.cells #[.int .i64 y0, .int .i64 y1, .int .i64 y2] 67))).cell? ⟨wr.heap.size, 1, none⟩ = some (.int .i64 y1) := cell_of_row _ _ 1 _ _ _ rY4_.out
        have Y_2_ : ((wr.alloc (.cells #[.int .i64 y0, .int .i64 y1, .int .i64 y2] 67))).cell? ⟨wr.heap.size, 2, none⟩ = some (.int .i64 y2) := cell_of_row _ _ 2 _ _ _ rY4_.out
        have y0_ := (G2_.out).cell HY0C.out (by simp)
        have y1_ := (G2_.out).cell HY1C.out (by simp)
        have y2_ := (G2_.out).cell HY2C.out (by simp)
        go_wp2_with fail
        go_at_call 55
        refine (bridge_no _ _ _ _ HB.out).mono ?_
        rintro e w1 ⟨rfl, g⟩
        have szw1 := g.size
        try simp only [World.size_alloc] at szw1
        clear Y_0_ Y_1_ Y_2_ y0_ y1_ y2_
        have rY5_ := Lib.hid (show (w1).heap[wr.heap.size]? = some (.cells #[.int .i64 y0, .int .i64 y1, .int .i64 y2] 67 (0, 0)) from row_held g rY4_.out)
        clear rY4_
        have G6_ := Lib.hid (show (W).grownBy (w1) none from gby_trans G2_.out g)
        have HTB7_ := Lib.hid (show (W).grownBy (w1) none from gby_trans HTB3_.out g)
        clear HTB3_
        clear g
        have Y_0_ : (w1).cell? ⟨wr.heap.size, 0, none⟩ = some (.int .i64 y0) := cell_of_row _ _ 0 _ _ _ rY5_.out
        have Y_1_ : (w1).cell? ⟨wr.heap.size, 1, none⟩ = some (.int .i64 y1) := cell_of_row _ _ 1 _ _ _ rY5_.out
        have Y_2_ : (w1).cell? ⟨wr.heap.size, 2, none⟩ = some (.int .i64 y2) := cell_of_row _ _ 2 _ _ _ rY5_.out
        have y0_ := (G6_.out).cell HY0C.out (by simp)
        have y1_ := (G6_.out).cell HY1C.out (by simp)
        have y2_ := (G6_.out).cell HY2C.out (by simp)
        go_wp2
        exact ⟨⟨n + 1, by omega, ⟨_, rfl⟩, by go_num, congrArg (Value.int .i64) (by show _ = ((cntB xs (n + 1) : Nat) : Int); unfold cntB; rw [← HCC.out, ← HY.out]; rw [if_neg HB.out]; omega), HTB7_.out⟩, by simp [intOf]; omega⟩
    · obtain rfl : n = len := by omega
      have hki : ¬ (n : Int) < (n : Int) := by omega
      go_wp2
      go_ret
      exact ⟨ret_i64 (by rw [HCC.out]), G1_.out⟩

theorem countBridges_both (xs0 : List DNode) (h0 : szL shNode xs0 ≤ 1048576) : ∃ ir0 : Int, (∀ (W : World), ∀ u0, RdL shNode W u0 xs0 → Calls Try.prog 20 #[u0] W (ResSCountBridges ir0 W)) ∧ ∀ (W : World), ∀ u0, RdL shNode W u0 xs0 → Calls Try.prog 22 #[u0] W (ResICountBridges ir0 W) :=
  ⟨_, fun W u H => specCnt W u _ H h0, fun W u H => implCnt W u _ H h0⟩

theorem nodes_eq {xs ys : List DNode} (h : xs.length = ys.length) (he : ∀ j, j < xs.length → nd xs j = nd ys j) : xs = ys := by
  apply List.ext_getElem h
  intro j h1 h2
  have := he j h1
  unfold nd at this
  rwa [List.getD_eq_getElem?_getD, List.getD_eq_getElem?_getD, List.getElem?_eq_getElem h1, List.getElem?_eq_getElem h2] at this

set_option maxRecDepth 8000 in
set_option maxHeartbeats 2000000 in
theorem specSame (W : World) (v u : Value) (xs ys : List DNode) (H : RdL shNode W v xs) (H1 : RdL shNode W u ys) (hl : szL shNode xs ≤ 1048576) (hl1 : szL shNode ys ≤ 1048576) : Calls Try.prog 24 #[v, u] W (BPost (xs = ys) W) := by
  have hlx : xs.length ≤ 1048576 := by have := szL_len shNode xs; omega
  have hly : ys.length ≤ 1048576 := by have := szL_len shNode ys; omega
  obtain ⟨a0, cap, rfl, hcap, hi⟩ := rdN_in H
  obtain ⟨a1, cap1, rfl, hcap1, hi1⟩ := rdN_in H1
  have HA := Lib.hid hi
  have HA1 := Lib.hid hi1
  obtain ⟨len, hlen⟩ : ∃ len, len = xs.length := ⟨_, rfl⟩
  obtain ⟨len1, hlen1⟩ : ∃ len, len = ys.length := ⟨_, rfl⟩
  have HE := Lib.hid hlen
  have HE1 := Lib.hid hlen1
  unfold RdN at HA HA1
  rw [← hlen] at hlx HA ⊢
  rw [← hlen1] at hly HA1 ⊢
  clear H hi hlen hl hcap H1 hi1 hlen1 hl1 hcap1
  by_cases hll : len = len1
  rotate_left
  · have hz : ((len : Int) != (len1 : Int)) = true := by simp; omega
    have HN := Lib.hid hll
    clear hll
    go_enter Try.func24, Try.ntmps24
    go_wp2
    go_ret
    exact ⟨false, rfl, iff_no (fun q => HN.out (by rw [HE.out, HE1.out, q])), (gby_refl _ _)⟩
  subst hll
  have hz : ((len : Int) != (len : Int)) = false := by simp
  go_enter Try.func24, Try.ntmps24
  go_wp2
  go_loopw [5] (fun i wr => ∃ n : Nat, n ≤ len ∧ i = .int .i64 (n : Int) ∧ (∀ j, j < n → nd xs j = nd ys j) ∧ (W).grownBy wr none) (fun i _ => len - (intOf i).toNat)
  case atStart => exact ⟨0, by omega, rfl, fun j h => absurd h (Nat.not_lt_zero _), gby_refl _ _⟩
  case round =>
    obtain ⟨n, hn, rfl, hj, hg⟩ := hrel
    have szrwr := hg.size
    try simp only [World.size_alloc] at szrwr
    have szr_ := szrwr
    have G1_ := Lib.hid (show (W).grownBy (wr) none from gby_trans (gby_refl _ _) hg)
    have HTB_ := Lib.hid hg
    clear hg
    have HJ := Lib.hid hj
    clear hj
    have hn0 : (0 : Int) ≤ (n : Int) := by omega
    have htn : ((n : Int)).toNat = n := by omega
    by_cases hlt : n < len
    · have hki : (n : Int) < (len : Int) := by omega
      obtain ⟨b, off, rfl, hcell⟩ := HA.out.resolve_left (by omega)
      obtain ⟨y, hy⟩ : ∃ y, y = nd xs n := ⟨_, rfl⟩
      have hyc := hcell n hlt
      rw [← hy] at hyc
      have HY := Lib.hid hy
      clear hy hcell
      obtain ⟨b1, off1, rfl, hcell⟩ := HA1.out.resolve_left (by omega)
      obtain ⟨z, hz_⟩ : ∃ z, z = nd ys n := ⟨_, rfl⟩
      have hzc := hcell n hlt
      rw [← hz_] at hzc
      have HZ := Lib.hid hz_
      clear hz_ hcell
      obtain ⟨y0, y1, y2⟩ := y
      obtain ⟨z0, z1, z2⟩ := z
      dsimp only at hyc hzc
      have HY0C := Lib.hid hyc.1
      have HY1C := Lib.hid hyc.2.1
      have HY2C := Lib.hid hyc.2.2
      have HZ0C := Lib.hid hzc.1
      have HZ1C := Lib.hid hzc.2.1
      have HZ2C := Lib.hid hzc.2.2
      clear hyc hzc
      have y0_ := (G1_.out).cell HY0C.out (by simp)
      have y1_ := (G1_.out).cell HY1C.out (by simp)
      have y2_ := (G1_.out).cell HY2C.out (by simp)
      have z0_ := (G1_.out).cell HZ0C.out (by simp)
      have z1_ := (G1_.out).cell HZ1C.out (by simp)
      have z2_ := (G1_.out).cell HZ2C.out (by simp)
      by_cases h0 : y0 = z0
      rotate_left
      · have hb0 : (y0 == z0) = false := by simpa using h0
        have HB := Lib.hid h0
        clear h0
        go_wp2_with fail
        go_quiet (fail)
        go_wp2
        go_ret
        exact ⟨false, rfl, iff_no (fun q => HB.out (by have e_ : (⟨y0, y1, y2⟩ : DNode) = ⟨z0, z1, z2⟩ := (by rw [HY.out, HZ.out, q]); injection e_)), by repeat (first | exact G1_.out | with_reducible refine gby_drewN ?_ _)⟩
      have hb0 : (y0 == z0) = true := by simpa using h0
      have HE_0 := Lib.hid h0
      clear h0
      by_cases h1 : y1 = z1
      rotate_left
      · have hb1 : (y1 == z1) = false := by simpa using h1
        have HB := Lib.hid h1
        clear h1
        go_wp2_with fail
        go_quiet (fail)
        go_wp2
        go_ret
        exact ⟨false, rfl, iff_no (fun q => HB.out (by have e_ : (⟨y0, y1, y2⟩ : DNode) = ⟨z0, z1, z2⟩ := (by rw [HY.out, HZ.out, q]); injection e_)), by repeat (first | exact G1_.out | with_reducible refine gby_drewN ?_ _)⟩
      have hb1 : (y1 == z1) = true := by simpa using h1
      have HE_1 := Lib.hid h1
      clear h1
      by_cases h2 : y2 = z2
      rotate_left
      · have hb2 : (y2 == z2) = false := by simpa using h2
        have HB := Lib.hid h2
        clear h2
        go_wp2_with fail
        go_quiet (fail)
        go_wp2
        go_ret
        exact ⟨false, rfl, iff_no (fun q => HB.out (by have e_ : (⟨y0, y1, y2⟩ : DNode) = ⟨z0, z1, z2⟩ := (by rw [HY.out, HZ.out, q]); injection e_)), by repeat (first | exact G1_.out | with_reducible refine gby_drewN ?_ _)⟩
      have hb2 : (y2 == z2) = true := by simpa using h2
      have HE_2 := Lib.hid h2
      clear h2
      go_wp2_with fail
      go_quiet (fail)
      go_wp2
      refine ⟨⟨n + 1, by omega, by go_num, fun j hj => ?_, by repeat (first | exact HTB_.out | with_reducible refine gby_drewN ?_ _)⟩, by simp [intOf]; omega⟩
      by_cases e : j = n
      · subst e; rw [← HY.out, ← HZ.out, HE_0.out, HE_1.out, HE_2.out]
      · exact HJ.out j (by omega)
    · obtain rfl : n = len := by omega
      have hki : ¬ (n : Int) < (n : Int) := by omega
      go_wp2
      go_ret
      exact ⟨true, rfl, iff_yes (nodes_eq (HE.out.symm.trans HE1.out) (fun j hj => HJ.out j (by rw [HE.out]; exact hj))), G1_.out⟩

set_option maxRecDepth 8000 in
set_option maxHeartbeats 2000000 in
theorem equalSame (W : World) (v u : Value) (xs ys : List DNode) (H : RdL shNode W v xs) (H1 : RdL shNode W u ys) (hl : szL shNode xs ≤ 1048576) (hl1 : szL shNode ys ≤ 1048576) : Calls Try.prog 57 #[v, u] W (BPost (xs = ys) W) := by
  have hlx : xs.length ≤ 1048576 := by have := szL_len shNode xs; omega
  have hly : ys.length ≤ 1048576 := by have := szL_len shNode ys; omega
  obtain ⟨a0, cap, rfl, hcap, hi⟩ := rdN_in H
  obtain ⟨a1, cap1, rfl, hcap1, hi1⟩ := rdN_in H1
  have HA := Lib.hid hi
  have HA1 := Lib.hid hi1
  obtain ⟨len, hlen⟩ : ∃ len, len = xs.length := ⟨_, rfl⟩
  obtain ⟨len1, hlen1⟩ : ∃ len, len = ys.length := ⟨_, rfl⟩
  have HE := Lib.hid hlen
  have HE1 := Lib.hid hlen1
  unfold RdN at HA HA1
  rw [← hlen] at hlx HA ⊢
  rw [← hlen1] at hly HA1 ⊢
  clear H hi hlen hl hcap H1 hi1 hlen1 hl1 hcap1
  by_cases hll : len = len1
  rotate_left
  · have hz : ((len : Int) != (len1 : Int)) = true := by simp; omega
    have HN := Lib.hid hll
    clear hll
    go_enter Try.func57, Try.ntmps57
    go_wp2
    go_ret
    exact ⟨false, rfl, iff_no (fun q => HN.out (by rw [HE.out, HE1.out, q])), (gby_refl _ _)⟩
  subst hll
  have hz : ((len : Int) != (len : Int)) = false := by simp
  go_enter Try.func57, Try.ntmps57
  go_wp2
  go_loopw [5, 13] (fun z i wr => ∃ n : Nat, n ≤ len ∧ (∃ q, z = q) ∧ i = .int .i64 (n : Int) ∧ (∀ j, j < n → nd xs j = nd ys j) ∧ (W).grownBy wr none) (fun _ i _ => len - (intOf i).toNat)
  case atStart => exact ⟨0, by omega, ⟨_, rfl⟩, rfl, fun j h => absurd h (Nat.not_lt_zero _), gby_refl _ _⟩
  case round =>
    obtain ⟨n, hn, ⟨z, rfl⟩, rfl, hj, hg⟩ := hrel
    have szrwr := hg.size
    try simp only [World.size_alloc] at szrwr
    have szr_ := szrwr
    have G1_ := Lib.hid (show (W).grownBy (wr) none from gby_trans (gby_refl _ _) hg)
    have HTB_ := Lib.hid hg
    clear hg
    have HJ := Lib.hid hj
    clear hj
    have hn0 : (0 : Int) ≤ (n : Int) := by omega
    have htn : ((n : Int)).toNat = n := by omega
    by_cases hlt : n < len
    · have hki : (n : Int) < (len : Int) := by omega
      obtain ⟨b, off, rfl, hcell⟩ := HA.out.resolve_left (by omega)
      obtain ⟨y, hy⟩ : ∃ y, y = nd xs n := ⟨_, rfl⟩
      have hyc := hcell n hlt
      rw [← hy] at hyc
      have HY := Lib.hid hy
      clear hy hcell
      obtain ⟨b1, off1, rfl, hcell⟩ := HA1.out.resolve_left (by omega)
      obtain ⟨z, hz_⟩ : ∃ z, z = nd ys n := ⟨_, rfl⟩
      have hzc := hcell n hlt
      rw [← hz_] at hzc
      have HZ := Lib.hid hz_
      clear hz_ hcell
      obtain ⟨y0, y1, y2⟩ := y
      obtain ⟨z0, z1, z2⟩ := z
      dsimp only at hyc hzc
      have HY0C := Lib.hid hyc.1
      have HY1C := Lib.hid hyc.2.1
      have HY2C := Lib.hid hyc.2.2
      have HZ0C := Lib.hid hzc.1
      have HZ1C := Lib.hid hzc.2.1
      have HZ2C := Lib.hid hzc.2.2
      clear hyc hzc
      have y0_ := (G1_.out).cell HY0C.out (by simp)
      have y1_ := (G1_.out).cell HY1C.out (by simp)
      have y2_ := (G1_.out).cell HY2C.out (by simp)
      have z0_ := (G1_.out).cell HZ0C.out (by simp)
      have z1_ := (G1_.out).cell HZ1C.out (by simp)
      have z2_ := (G1_.out).cell HZ2C.out (by simp)
      by_cases h0 : y0 = z0
      rotate_left
      · have hb0 : (y0 == z0) = false := by simpa using h0
        have HB := Lib.hid h0
        clear h0
        go_wp2_with fail
        go_quiet (fail)
        go_wp2
        go_ret
        exact ⟨false, rfl, iff_no (fun q => HB.out (by have e_ : (⟨y0, y1, y2⟩ : DNode) = ⟨z0, z1, z2⟩ := (by rw [HY.out, HZ.out, q]); injection e_)), by repeat (first | exact G1_.out | with_reducible refine gby_drewN ?_ _)⟩
      have hb0 : (y0 == z0) = true := by simpa using h0
      have HE_0 := Lib.hid h0
      clear h0
      by_cases h1 : y1 = z1
      rotate_left
      · have hb1 : (y1 == z1) = false := by simpa using h1
        have HB := Lib.hid h1
        clear h1
        go_wp2_with fail
        go_quiet (fail)
        go_wp2
        go_ret
        exact ⟨false, rfl, iff_no (fun q => HB.out (by have e_ : (⟨y0, y1, y2⟩ : DNode) = ⟨z0, z1, z2⟩ := (by rw [HY.out, HZ.out, q]); injection e_)), by repeat (first | exact G1_.out | with_reducible refine gby_drewN ?_ _)⟩
      have hb1 : (y1 == z1) = true := by simpa using h1
      have HE_1 := Lib.hid h1
      clear h1
      by_cases h2 : y2 = z2
      rotate_left
      · have hb2 : (y2 == z2) = false := by simpa using h2
        have HB := Lib.hid h2
        clear h2
        go_wp2_with fail
        go_quiet (fail)
        go_wp2
        go_ret
        exact ⟨false, rfl, iff_no (fun q => HB.out (by have e_ : (⟨y0, y1, y2⟩ : DNode) = ⟨z0, z1, z2⟩ := (by rw [HY.out, HZ.out, q]); injection e_)), by repeat (first | exact G1_.out | with_reducible refine gby_drewN ?_ _)⟩
      have hb2 : (y2 == z2) = true := by simpa using h2
      have HE_2 := Lib.hid h2
      clear h2
      go_wp2_with fail
      go_quiet (fail)
      go_wp2
      refine ⟨⟨n + 1, by omega, ⟨_, rfl⟩, by go_num, fun j hj => ?_, by repeat (first | exact HTB_.out | with_reducible refine gby_drewN ?_ _)⟩, by simp [intOf]; omega⟩
      by_cases e : j = n
      · subst e; rw [← HY.out, ← HZ.out, HE_0.out, HE_1.out, HE_2.out]
      · exact HJ.out j (by omega)
    · obtain rfl : n = len := by omega
      have hki : ¬ (n : Int) < (n : Int) := by omega
      go_wp2
      go_ret
      exact ⟨true, rfl, iff_yes (nodes_eq (HE.out.symm.trans HE1.out) (fun j hj => HJ.out j (by rw [HE.out]; exact hj))), G1_.out⟩

theorem implSame (W : World) (v u : Value) (xs ys : List DNode) (H : RdL shNode W v xs) (H1 : RdL shNode W u ys) (hl : szL shNode xs ≤ 1048576) (hl1 : szL shNode ys ≤ 1048576) : Calls Try.prog 25 #[v, u] W (BPost (xs = ys) W) := by
  have HQ := Lib.hid (fun (_ : Unit) => equalSame W v u xs ys H H1 hl hl1)
  obtain ⟨a0, cap, rfl, _⟩ := rdN_in H
  obtain ⟨a1, cap1, rfl, _⟩ := rdN_in H1
  clear H H1
  go_enter Try.func25, Try.ntmps25
  go_wp2_with fail
  go_at_call 57
  refine (HQ.out ()).mono ?_
  rintro e w1 ⟨r, rfl, hr, g_⟩
  have G1_ := Lib.hid (show (W).grownBy (w1) none from gby_trans (gby_refl _ _) g_)
  have HR := Lib.hid hr
  clear hr g_
  go_wp2
  go_ret
  exact ⟨r, rfl, HR.out, G1_.out⟩

theorem sameTree_both (xs0 xs1 : List DNode) (h0 : szL shNode xs0 ≤ 1048576) (h1 : szL shNode xs1 ≤ 1048576) : ∃ br0 : Bool, (∀ (W : World), ∀ u0 u1, RdL shNode W u0 xs0 → RdL shNode W u1 xs1 → Calls Try.prog 24 #[u0, u1] W (ResSSameTree br0 W)) ∧ ∀ (W : World), ∀ u0 u1, RdL shNode W u0 xs0 → RdL shNode W u1 xs1 → Calls Try.prog 25 #[u0, u1] W (ResISameTree br0 W) := by
  by_cases h : xs0 = xs1
  · exact ⟨true, fun W u0 u1 H0 H1 => (specSame W u0 u1 _ _ H0 H1 h0 h1).mono (bpost_yes h), fun W u0 u1 H0 H1 => (implSame W u0 u1 _ _ H0 H1 h0 h1).mono (bpost_yes h)⟩
  · exact ⟨false, fun W u0 u1 H0 H1 => (specSame W u0 u1 _ _ H0 H1 h0 h1).mono (bpost_no h), fun W u0 u1 H0 H1 => (implSame W u0 u1 _ _ H0 H1 h0 h1).mono (bpost_no h)⟩

end Go.Proofs.Ytjkjodcgpdhldab
