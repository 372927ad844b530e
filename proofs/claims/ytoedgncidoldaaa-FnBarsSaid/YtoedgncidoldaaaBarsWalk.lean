/-
  The walk of FnBars.
-/
import Derived.Test.YtoedgncidoldaaaDrawBar
import Derived.Test.YtoedgncidoldaaaDrawPlaces
import Derived.Test.YtoedgncidoldaaaOv
import Derived.Test.YtoedgncidoldaaaBig
namespace Go.Proofs.Ytoedgncidoldaaa
open Go Go.RowKit
set_option linter.unusedVariables false

/-- the drawn numbers, one by one -/
theorem OwI.nums {w : World} {lo hi : Nat} {v : Value} {xs : List Int} (h : OwI w lo hi v xs) (hl : xs.length = 12) : ∃ b off cap, v = .slice (some ⟨b, off, none⟩) 12 cap ∧ ∀ k, k < 12 → w.cell? ⟨b, off + k, none⟩ = some (.int .i64 (xs.getD k 0)) := by
  obtain ⟨a, cap, rfl, h, _⟩ := h
  obtain ⟨b, off, rfl, hc⟩ := h.isl.2.resolve_left (by omega)
  exact ⟨b, off, cap, by rw [hl], fun k hk => hc k (by omega)⟩

theorem bytes_keep {w w' : World} {a : Option Addr} {len : Nat} {zs : List Int} (h : Bytes w a len zs) (g : w.grownBy w' none) : Bytes w' a len zs := by
  rcases h with h0 | ⟨b, off, ha, hk⟩
  · exact .inl h0
  · exact .inr ⟨b, off, ha, fun k hlt => ⟨g.cell (hk k hlt).1 (by simp), (hk k hlt).2⟩⟩

theorem bsz_div {s : Int} (h : BSz s) : 65535 % s = s - 1 := by
  obtain ⟨⟨k, _, rfl⟩, h2, h3⟩ := h
  have hk : k ≤ 15 := by
    rcases Nat.lt_or_ge 15 k with q | q
    · have : 2 ^ 16 ≤ 2 ^ k := Nat.pow_le_pow_right (by omega) q
      omega
    · exact q
  have e : (65536 : Int) = ((2 ^ (16 - k) : Nat) : Int) * ((2 ^ k : Nat) : Int) := by
    rw [← Int.natCast_mul, ← Nat.pow_add, show 16 - k + k = 16 by omega]; rfl
  generalize ((2 ^ k : Nat) : Int) = s at h2 h3 e ⊢
  generalize ((2 ^ (16 - k) : Nat) : Int) = m at e
  rw [show (65535 : Int) = (s - 1) + (m - 1) * s by rw [Int.sub_mul, ← e]; omega, Int.add_mul_emod_self_right, Int.emod_eq_of_lt (by omega) (by omega)]

theorem impl_wr {s b v : Int} (hb : BOk s b) (h0 : 0 ≤ v) (h1 : v ≤ 65535) : ∃ x, BOk s x ∧ (∀ W : World, Calls Try.prog 25 #[.agg #[.int .i64 s, .int .i64 b], .int .i64 v] W (AnsN (.agg #[.int .i64 s, .int .i64 x]) W)) ∧ (s ≠ 0 → x ≤ v ∧ v - x < s ∧ x = v - v % s ∧ BSz s) := by
  by_cases hs : s = 0
  · exact ⟨b, hb, fun W => implWr_no s b v W (fun q => q.2.2 hs), fun q => absurd hs q⟩
  · have hz : BSz s := by
      rcases hb with ⟨q, _⟩ | ⟨q, _⟩
      · exact absurd q hs
      · exact q
    have := hz.2.1
    obtain ⟨m1, m2, _⟩ := mod_facts v s h0 (by omega)
    have := Int.emod_lt_of_pos v (show 0 < s by omega)
    exact ⟨v - v % s, bok_write hz h0 h1, fun W => implWr_yes s b v W hb h0 h1 hs, fun _ => ⟨by omega, by omega, rfl, hz⟩⟩

theorem impl_mask {s y : Int} (hy : s = 0 ∧ y = 0 ∨ BSz s ∧ y = 65535 - 65535 % s) (W : World) : Calls Try.prog 28 #[.int .i64 y] W (AnsN (.int .i64 s) W) := by
  rcases hy with ⟨rfl, rfl⟩ | ⟨hz, rfl⟩
  · exact implSfm_zero 0 W rfl
  · rw [bsz_div hz]
    have h1 := hz.2.1
    have h2 := hz.2.2
    have e : 65536 - (65535 - (s - 1)) = s := by omega
    have := implSfm_yes (65535 - (s - 1)) W (by omega) (by omega) (by omega) (by rw [e]; exact hz)
    rwa [e] at this

theorem implCov_yes {s b x : Int} (W : World) (hb : BOk s b) (h : SpansP s b x) : Calls Try.prog 30 #[.agg #[.int .i64 s, .int .i64 b], .int .i64 x] W (AnsN (.bool true) W) := by
  have := implCov_ok s b x W hb
  rwa [decide_eq_true h] at this
theorem implCov_no {s b x : Int} (W : World) (hb : BOk s b) (h : ¬ SpansP s b x) : Calls Try.prog 30 #[.agg #[.int .i64 s, .int .i64 b], .int .i64 x] W (AnsN (.bool false) W) := by
  have := implCov_ok s b x W hb
  rwa [decide_eq_false h] at this
theorem implOver_yes {s b t c : Int} (W : World) (hb : BOk s b) (hc : BOk t c) (h : OvP s b t c) : Calls Try.prog 32 #[.agg #[.int .i64 s, .int .i64 b], .agg #[.int .i64 t, .int .i64 c]] W (AnsN (.bool true) W) := by
  have := implOver_ok s b t c W hb hc
  rwa [decide_eq_true h] at this

set_option maxHeartbeats 2000000 in
theorem drawBar_any (w : World) (a : Option Addr) (len cap : Nat) (zs : List Int) (hB : Bytes w a len zs) (hl : len ≤ 1048576) :
    Calls Try.prog 34 #[.slice a len cap] w (fun e w' => ∃ s b, BOk s b ∧ e = .returned (.agg #[.int .i64 s, .int .i64 b]) ∧ w.grownBy w' none) := by
  have HB := Lib.hid hB
  have hZ := Lib.hid (heap_alloc_new w (.cells #[.int .i64 0, .int .i64 0] 30))
  clear hB
  go_enter Try.func34, Try.ntmps34
  go_wp2_with fail
  go_at_call 58
  refine (new_any _ _ _ _ _ (bytes_keep HB.out (gby_alloc (gby_refl w none) _)) hl).mono ?_
  rintro e w1 ⟨c, rfl, hc, H1, G1⟩
  have hz1 := Lib.hid (row_held G1 hZ.out)
  have HG1 := Lib.hid (gby_trans (gby_alloc (gby_refl w none) _) G1)
  have H1' := Lib.hid H1
  simp only [World.size_alloc] at hc
  clear H1 G1
  go_wp2_with fail
  go_at_call 57
  refine (bar23_any _ c H1'.out).mono ?_
  rintro e w2 ⟨s, b, hb, rfl, g2⟩
  have HBk := Lib.hid hb
  have Z2 := (g2.block w.heap.size (block_in hz1.out) (by simp; omega)).trans hz1.out
  have y0 := cell_of_row w2 _ 0 _ _ _ Z2
  have y1 := cell_of_row w2 _ 1 _ _ _ Z2
  have f0 := frozen_of_row w2 _ 0 _ _ Z2
  have f1 := frozen_of_row w2 _ 1 _ _ Z2
  have ZR := Lib.hid (heap_setCell_same _ _ 1 _ _ (.int .i64 b) (heap_setCell_same w2 _ 0 _ _ (.int .i64 s) Z2))
  have z0 : ((w2.setCell ⟨w.heap.size, 0, none⟩ (.int .i64 s)).setCell ⟨w.heap.size, 1, none⟩ (.int .i64 b)).cell? ⟨w.heap.size, 0, none⟩ = some (.int .i64 s) := cell_of_row _ _ 0 _ _ _ ZR.out
  have z1 : ((w2.setCell ⟨w.heap.size, 0, none⟩ (.int .i64 s)).setCell ⟨w.heap.size, 1, none⟩ (.int .i64 b)).cell? ⟨w.heap.size, 1, none⟩ = some (.int .i64 b) := cell_of_row _ _ 1 _ _ _ ZR.out
  have HG2 := Lib.hid (gby_own HG1.out g2 (by omega))
  clear Z2 g2 hb
  go_wp2
  refine bodyPost_ret (v := .agg #[.int .i64 s, .int .i64 b]) (by simp [results, go_sem, z0, z1]) rfl ⟨s, b, HBk.out, rfl, ?_⟩
  exact gby_setnew (gby_setnew HG2.out _ (Nat.le_refl _) _) _ (Nat.le_refl _) _

set_option maxRecDepth 8000 in
set_option maxHeartbeats 8000000 in
theorem walk_bars (a : Option Addr) (len cap : Nat) (zs : List Int) (w : World) (hB : Bytes w a len zs) :
    Calls Try.prog 10 #[.slice a len cap] w fun e w' => e = .returned (.bool true) ∧ Below w.heap.size w w' := by
  have HB := Lib.hid hB
  clear hB
  by_cases hbig : (1048576 : Int) < (len : Int)
  · go_enter Try.func10, Try.ntmps10
    go_wp2
    go_ret
    exact ⟨rfl, Below.refl _ _⟩
  · skip
    go_enter Try.func10, Try.ntmps10
    go_wp2_with fail
    go_at_call 33
    refine (big_any _ _ _ _).mono ?_
    rintro e w1 ⟨rfl, rfl⟩
    go_wp2_with fail
    go_at_call 34
    refine (drawBar_any _ _ _ _ _ HB.out (by omega)).mono ?_
    rintro e w1 ⟨s, b0, hb, rfl, g⟩
    have HBk := Lib.hid hb
    have G1_ := Lib.hid (show (w).grownBy (w) none from gby_refl _ _)
    have G2_ := Lib.hid (show (w).grownBy (w1) none from gby_trans G1_.out g)
    clear g
    have al : (w1).grownBy ((w1).alloc (.cells #[.int .i64 s, .int .i64 b0] 30)) none := gby_alloc (gby_refl _ _) _
    have G3_ := Lib.hid (show (w).grownBy ((w1.alloc (.cells #[.int .i64 s, .int .i64 b0] 30))) none from gby_trans G2_.out al)
    have rb4_ := Lib.hid (show ((w1.alloc (.cells #[.int .i64 s, .int .i64 b0] 30))).heap[w1.heap.size]? = some (.cells #[.int .i64 s, .int .i64 b0] 30 (0, 0)) from heap_alloc_new _ _)
    clear al
    go_wp2_with fail
    go_at_call 35
    refine (places_any _ _ _ _ _ (bytes_keep HB.out G3_.out) (by omega)).mono ?_
    rintro e w2 ⟨v3, ps, rfl, hl12, hps, o3, g⟩
    obtain ⟨pb, po, pc, rfl, hpc⟩ := o3.nums hl12
    have c0 := hpc 0 (by omega)
    have q0b := hps (ps.getD 0 0) (by rw [List.getD_eq_getElem?_getD, List.getElem?_eq_getElem (by omega)]; exact List.getElem_mem _)
    obtain ⟨q, hq⟩ : ∃ q, q = ps.getD 0 0 := ⟨_, rfl⟩
    rw [← hq] at c0 q0b
    have c0' : w2.cell? ⟨pb, po, none⟩ = some (.int .i64 q) := c0
    obtain ⟨q1, q2⟩ := q0b
    clear o3 hpc hps hl12 hq c0
    have rb5_ := Lib.hid (show (w2).heap[w1.heap.size]? = some (.cells #[.int .i64 s, .int .i64 b0] 30 (0, 0)) from row_held g rb4_.out)
    clear rb4_
    have G6_ := Lib.hid (show (w).grownBy (w2) none from gby_trans G3_.out g)
    clear g
    obtain ⟨v, hv⟩ : ∃ v, v = q * 6 % 65536 := ⟨_, rfl⟩
    have hv1 : Int.tmod (q * 6) 65536 = v := by rw [hv]; exact Int.tmod_eq_emod_of_nonneg (by omega)
    have hv2 : q * 6 % 65536 = v := hv.symm
    have v0 : 0 ≤ v := by omega
    have v1 : v ≤ 65535 := by omega
    obtain ⟨x, hx1, hx2, hx3⟩ := impl_wr hb v0 v1
    obtain ⟨y, hy1, hy2, hy3⟩ := impl_wr hb (v := 65535) (by omega) (by omega)
    have HX := Lib.hid hx1
    have HX2 := Lib.hid hx2
    have HX3 := Lib.hid hx3
    have HY2 := Lib.hid hy2
    have hm : s = 0 ∧ y = 0 ∨ BSz s ∧ y = 65535 - 65535 % s := by
      by_cases h0 : s = 0
      · refine .inl ⟨h0, ?_⟩
        rcases hy1 with ⟨_, q⟩ | ⟨q, _⟩
        · exact q
        · have := q.2.1; omega
      · exact .inr ⟨(hy3 h0).2.2.2, (hy3 h0).2.2.1⟩
    have HM := Lib.hid (fun W => impl_mask hm W)
    have hss : (s != s) = false := by simp
    clear hv hb hx1 hx2 hx3 hy1 hy2 hy3 hm
    have b_0_ : (w2).cell? ⟨w1.heap.size, 0, none⟩ = some (.int .i64 s) := cell_of_row _ _ 0 _ _ _ rb5_.out
    have b_1_ : (w2).cell? ⟨w1.heap.size, 1, none⟩ = some (.int .i64 b0) := cell_of_row _ _ 1 _ _ _ rb5_.out
    go_wp2_with fail
    go_at_call 25
    refine (HX2.out _).mono ?_
    rintro e w3 ⟨rfl, g⟩
    clear b_0_ b_1_
    have rb7_ := Lib.hid (show (w3).heap[w1.heap.size]? = some (.cells #[.int .i64 s, .int .i64 b0] 30 (0, 0)) from row_held g rb5_.out)
    clear rb5_
    have G8_ := Lib.hid (show (w).grownBy (w3) none from gby_trans G6_.out g)
    clear g
    clear c0' hv1 hv2
    have al : (w3).grownBy ((w3).alloc (.cells #[.int .i64 s, .int .i64 x] 30)) none := gby_alloc (gby_refl _ _) _
    have rb9_ := Lib.hid (show ((w3.alloc (.cells #[.int .i64 s, .int .i64 x] 30))).heap[w1.heap.size]? = some (.cells #[.int .i64 s, .int .i64 b0] 30 (0, 0)) from row_held al rb7_.out)
    clear rb7_
    have G10_ := Lib.hid (show (w).grownBy ((w3.alloc (.cells #[.int .i64 s, .int .i64 x] 30))) none from gby_trans G8_.out al)
    have rx11_ := Lib.hid (show ((w3.alloc (.cells #[.int .i64 s, .int .i64 x] 30))).heap[w3.heap.size]? = some (.cells #[.int .i64 s, .int .i64 x] 30 (0, 0)) from heap_alloc_new _ _)
    clear al
    have b_0_ : ((w3.alloc (.cells #[.int .i64 s, .int .i64 x] 30))).cell? ⟨w1.heap.size, 0, none⟩ = some (.int .i64 s) := cell_of_row _ _ 0 _ _ _ rb9_.out
    have b_1_ : ((w3.alloc (.cells #[.int .i64 s, .int .i64 x] 30))).cell? ⟨w1.heap.size, 1, none⟩ = some (.int .i64 b0) := cell_of_row _ _ 1 _ _ _ rb9_.out
    have x_0_ : ((w3.alloc (.cells #[.int .i64 s, .int .i64 x] 30))).cell? ⟨w3.heap.size, 0, none⟩ = some (.int .i64 s) := cell_of_row _ _ 0 _ _ _ rx11_.out
    have x_1_ : ((w3.alloc (.cells #[.int .i64 s, .int .i64 x] 30))).cell? ⟨w3.heap.size, 1, none⟩ = some (.int .i64 x) := cell_of_row _ _ 1 _ _ _ rx11_.out
    go_wp2_with fail
    go_at_call 25
    refine (HY2.out _).mono ?_
    rintro e w4 ⟨rfl, g⟩
    clear b_0_ b_1_ x_0_ x_1_
    have rb12_ := Lib.hid (show (w4).heap[w1.heap.size]? = some (.cells #[.int .i64 s, .int .i64 b0] 30 (0, 0)) from row_held g rb9_.out)
    clear rb9_
    have rx13_ := Lib.hid (show (w4).heap[w3.heap.size]? = some (.cells #[.int .i64 s, .int .i64 x] 30 (0, 0)) from row_held g rx11_.out)
    clear rx11_
    have G14_ := Lib.hid (show (w).grownBy (w4) none from gby_trans G10_.out g)
    clear g
    have al : (w4).grownBy ((w4).alloc (.cells #[.int .i64 s, .int .i64 y] 30)) none := gby_alloc (gby_refl _ _) _
    have rb15_ := Lib.hid (show ((w4.alloc (.cells #[.int .i64 s, .int .i64 y] 30))).heap[w1.heap.size]? = some (.cells #[.int .i64 s, .int .i64 b0] 30 (0, 0)) from row_held al rb12_.out)
    clear rb12_
    have rx16_ := Lib.hid (show ((w4.alloc (.cells #[.int .i64 s, .int .i64 y] 30))).heap[w3.heap.size]? = some (.cells #[.int .i64 s, .int .i64 x] 30 (0, 0)) from row_held al rx13_.out)
    clear rx13_
    have G17_ := Lib.hid (show (w).grownBy ((w4.alloc (.cells #[.int .i64 s, .int .i64 y] 30))) none from gby_trans G14_.out al)
    have ry18_ := Lib.hid (show ((w4.alloc (.cells #[.int .i64 s, .int .i64 y] 30))).heap[w4.heap.size]? = some (.cells #[.int .i64 s, .int .i64 y] 30 (0, 0)) from heap_alloc_new _ _)
    clear al
    have b_0_ : ((w4.alloc (.cells #[.int .i64 s, .int .i64 y] 30))).cell? ⟨w1.heap.size, 0, none⟩ = some (.int .i64 s) := cell_of_row _ _ 0 _ _ _ rb15_.out
    have b_1_ : ((w4.alloc (.cells #[.int .i64 s, .int .i64 y] 30))).cell? ⟨w1.heap.size, 1, none⟩ = some (.int .i64 b0) := cell_of_row _ _ 1 _ _ _ rb15_.out
    have x_0_ : ((w4.alloc (.cells #[.int .i64 s, .int .i64 y] 30))).cell? ⟨w3.heap.size, 0, none⟩ = some (.int .i64 s) := cell_of_row _ _ 0 _ _ _ rx16_.out
    have x_1_ : ((w4.alloc (.cells #[.int .i64 s, .int .i64 y] 30))).cell? ⟨w3.heap.size, 1, none⟩ = some (.int .i64 x) := cell_of_row _ _ 1 _ _ _ rx16_.out
    have y_0_ : ((w4.alloc (.cells #[.int .i64 s, .int .i64 y] 30))).cell? ⟨w4.heap.size, 0, none⟩ = some (.int .i64 s) := cell_of_row _ _ 0 _ _ _ ry18_.out
    have y_1_ : ((w4.alloc (.cells #[.int .i64 s, .int .i64 y] 30))).cell? ⟨w4.heap.size, 1, none⟩ = some (.int .i64 y) := cell_of_row _ _ 1 _ _ _ ry18_.out
    go_wp2_with fail
    go_region_held3 (fun w' => w'.cell? ⟨w1.heap.size, 0, none⟩ = some (.int .i64 s) ∧ w'.cell? ⟨w1.heap.size, 1, none⟩ = some (.int .i64 b0) ∧ w'.cell? ⟨w3.heap.size, 0, none⟩ = some (.int .i64 s) ∧ w'.cell? ⟨w3.heap.size, 1, none⟩ = some (.int .i64 x) ∧ w'.cell? ⟨w4.heap.size, 0, none⟩ = some (.int .i64 s) ∧ w'.cell? ⟨w4.heap.size, 1, none⟩ = some (.int .i64 y))
      (first | exact ⟨b_0_, b_1_, x_0_, x_1_, y_0_, y_1_⟩ | exact ⟨mb_0_, mb_1_, mx_0_, mx_1_, my_0_, my_1_⟩ | exact ⟨nb_0_, nb_1_, nx_0_, nx_1_, ny_0_, ny_1_⟩ | fail)
      (first
        | (go_at_call 23; refine (implBarOk_yes _ _ _ HX.out).mono ?_; rintro e wA ⟨rfl, gA⟩; have mb_0_ : wA.cell? _ = some _ := gA.cell b_0_ (by simp); have mb_1_ : wA.cell? _ = some _ := gA.cell b_1_ (by simp); have mx_0_ : wA.cell? _ = some _ := gA.cell x_0_ (by simp); have mx_1_ : wA.cell? _ = some _ := gA.cell x_1_ (by simp); have my_0_ : wA.cell? _ = some _ := gA.cell y_0_ (by simp); have my_1_ : wA.cell? _ = some _ := gA.cell y_1_ (by simp))
        | (go_at_call 28; refine (HM.out _).mono ?_; rintro e wB ⟨rfl, gB⟩; have nb_0_ : wB.cell? _ = some _ := gB.cell mb_0_ (by simp); have nb_1_ : wB.cell? _ = some _ := gB.cell mb_1_ (by simp); have nx_0_ : wB.cell? _ = some _ := gB.cell mx_0_ (by simp); have nx_1_ : wB.cell? _ = some _ := gB.cell mx_1_ (by simp); have ny_0_ : wB.cell? _ = some _ := gB.cell my_0_ (by simp); have ny_1_ : wB.cell? _ = some _ := gB.cell my_1_ (by simp))
        | fail)
    all_goals
      have g : ((w4.alloc (.cells #[.int .i64 s, .int .i64 y] 30))).grownBy wB none := gby_trans (gby_trans (gby_drew (gby_refl _ _)) gA) gB
      clear gA gB mb_0_ mb_1_ mx_0_ mx_1_ my_0_ my_1_ nb_0_ nb_1_ nx_0_ nx_1_ ny_0_ ny_1_
      clear b_0_ b_1_ x_0_ x_1_ y_0_ y_1_
      have rb19_ := Lib.hid (show (wB).heap[w1.heap.size]? = some (.cells #[.int .i64 s, .int .i64 b0] 30 (0, 0)) from row_held g rb15_.out)
      clear rb15_
      have rx20_ := Lib.hid (show (wB).heap[w3.heap.size]? = some (.cells #[.int .i64 s, .int .i64 x] 30 (0, 0)) from row_held g rx16_.out)
      clear rx16_
      have ry21_ := Lib.hid (show (wB).heap[w4.heap.size]? = some (.cells #[.int .i64 s, .int .i64 y] 30 (0, 0)) from row_held g ry18_.out)
      clear ry18_
      have G22_ := Lib.hid (show (w).grownBy (wB) none from gby_trans G17_.out g)
      clear g
      have b_0_ : (wB).cell? ⟨w1.heap.size, 0, none⟩ = some (.int .i64 s) := cell_of_row _ _ 0 _ _ _ rb19_.out
      have b_1_ : (wB).cell? ⟨w1.heap.size, 1, none⟩ = some (.int .i64 b0) := cell_of_row _ _ 1 _ _ _ rb19_.out
      have x_0_ : (wB).cell? ⟨w3.heap.size, 0, none⟩ = some (.int .i64 s) := cell_of_row _ _ 0 _ _ _ rx20_.out
      have x_1_ : (wB).cell? ⟨w3.heap.size, 1, none⟩ = some (.int .i64 x) := cell_of_row _ _ 1 _ _ _ rx20_.out
      have y_0_ : (wB).cell? ⟨w4.heap.size, 0, none⟩ = some (.int .i64 s) := cell_of_row _ _ 0 _ _ _ ry21_.out
      have y_1_ : (wB).cell? ⟨w4.heap.size, 1, none⟩ = some (.int .i64 y) := cell_of_row _ _ 1 _ _ _ ry21_.out
      by_cases h0 : s = 0
      · subst h0
        go_wp2
        go_ret
        exact ⟨rfl, gby_below G22_.out⟩
      · obtain ⟨x1, x2, hxe, hz⟩ := HX3.out h0
        clear hxe
        have hse : (s == 0) = false := beq_eq_false_iff_ne.2 h0
        have hs1 := hz.2.1
        have hs2 := hz.2.2
        obtain ⟨_, _, xb1, xb2⟩ := (bok_bounds HX.out).resolve_left (fun q => h0 q.1)
        have c1 : SpansP s x v := (spans_in (by omega) (by omega) (by unfold I64; omega)).2 ⟨by omega, by omega, by omega⟩
        have c2 : ¬ SpansP s x (x - 1) := fun q => by have := q.2.1; omega
        have c3 : OvP s x s x := ⟨by omega, by omega, .inl ((spans_in (by omega) (by omega) (by unfold I64; omega)).2 ⟨by omega, by omega, by omega⟩)⟩
        have C1 := Lib.hid (fun W => implCov_yes W HX.out c1)
        have C2 := Lib.hid (fun W => implCov_no W HX.out c2)
        have C3 := Lib.hid (fun W => implOver_yes W HX.out HX.out c3)
        clear c1 c2 c3 hz
        go_wp2_with fail
        go_at_call 30
        refine (C1.out _).mono ?_
        rintro e w6 ⟨rfl, g⟩
        clear b_0_ b_1_ x_0_ x_1_ y_0_ y_1_
        have rb23_ := Lib.hid (show (w6).heap[w1.heap.size]? = some (.cells #[.int .i64 s, .int .i64 b0] 30 (0, 0)) from row_held g rb19_.out)
        clear rb19_
        have rx24_ := Lib.hid (show (w6).heap[w3.heap.size]? = some (.cells #[.int .i64 s, .int .i64 x] 30 (0, 0)) from row_held g rx20_.out)
        clear rx20_
        have ry25_ := Lib.hid (show (w6).heap[w4.heap.size]? = some (.cells #[.int .i64 s, .int .i64 y] 30 (0, 0)) from row_held g ry21_.out)
        clear ry21_
        have G26_ := Lib.hid (show (w).grownBy (w6) none from gby_trans G22_.out g)
        clear g
        have b_0_ : (w6).cell? ⟨w1.heap.size, 0, none⟩ = some (.int .i64 s) := cell_of_row _ _ 0 _ _ _ rb23_.out
        have b_1_ : (w6).cell? ⟨w1.heap.size, 1, none⟩ = some (.int .i64 b0) := cell_of_row _ _ 1 _ _ _ rb23_.out
        have x_0_ : (w6).cell? ⟨w3.heap.size, 0, none⟩ = some (.int .i64 s) := cell_of_row _ _ 0 _ _ _ rx24_.out
        have x_1_ : (w6).cell? ⟨w3.heap.size, 1, none⟩ = some (.int .i64 x) := cell_of_row _ _ 1 _ _ _ rx24_.out
        have y_0_ : (w6).cell? ⟨w4.heap.size, 0, none⟩ = some (.int .i64 s) := cell_of_row _ _ 0 _ _ _ ry25_.out
        have y_1_ : (w6).cell? ⟨w4.heap.size, 1, none⟩ = some (.int .i64 y) := cell_of_row _ _ 1 _ _ _ ry25_.out
        go_wp2_with fail
        go_at_call 30
        refine (C2.out _).mono ?_
        rintro e w7 ⟨rfl, g⟩
        clear b_0_ b_1_ x_0_ x_1_ y_0_ y_1_
        have rb27_ := Lib.hid (show (w7).heap[w1.heap.size]? = some (.cells #[.int .i64 s, .int .i64 b0] 30 (0, 0)) from row_held g rb23_.out)
        clear rb23_
        have rx28_ := Lib.hid (show (w7).heap[w3.heap.size]? = some (.cells #[.int .i64 s, .int .i64 x] 30 (0, 0)) from row_held g rx24_.out)
        clear rx24_
        have ry29_ := Lib.hid (show (w7).heap[w4.heap.size]? = some (.cells #[.int .i64 s, .int .i64 y] 30 (0, 0)) from row_held g ry25_.out)
        clear ry25_
        have G30_ := Lib.hid (show (w).grownBy (w7) none from gby_trans G26_.out g)
        clear g
        have b_0_ : (w7).cell? ⟨w1.heap.size, 0, none⟩ = some (.int .i64 s) := cell_of_row _ _ 0 _ _ _ rb27_.out
        have b_1_ : (w7).cell? ⟨w1.heap.size, 1, none⟩ = some (.int .i64 b0) := cell_of_row _ _ 1 _ _ _ rb27_.out
        have x_0_ : (w7).cell? ⟨w3.heap.size, 0, none⟩ = some (.int .i64 s) := cell_of_row _ _ 0 _ _ _ rx28_.out
        have x_1_ : (w7).cell? ⟨w3.heap.size, 1, none⟩ = some (.int .i64 x) := cell_of_row _ _ 1 _ _ _ rx28_.out
        have y_0_ : (w7).cell? ⟨w4.heap.size, 0, none⟩ = some (.int .i64 s) := cell_of_row _ _ 0 _ _ _ ry29_.out
        have y_1_ : (w7).cell? ⟨w4.heap.size, 1, none⟩ = some (.int .i64 y) := cell_of_row _ _ 1 _ _ _ ry29_.out
        go_wp2_with fail
        go_at_call 32
        refine (C3.out _).mono ?_
        rintro e w8 ⟨rfl, g⟩
        clear b_0_ b_1_ x_0_ x_1_ y_0_ y_1_
        have rb31_ := Lib.hid (show (w8).heap[w1.heap.size]? = some (.cells #[.int .i64 s, .int .i64 b0] 30 (0, 0)) from row_held g rb27_.out)
        clear rb27_
        have rx32_ := Lib.hid (show (w8).heap[w3.heap.size]? = some (.cells #[.int .i64 s, .int .i64 x] 30 (0, 0)) from row_held g rx28_.out)
        clear rx28_
        have ry33_ := Lib.hid (show (w8).heap[w4.heap.size]? = some (.cells #[.int .i64 s, .int .i64 y] 30 (0, 0)) from row_held g ry29_.out)
        clear ry29_
        have G34_ := Lib.hid (show (w).grownBy (w8) none from gby_trans G30_.out g)
        clear g
        have b_0_ : (w8).cell? ⟨w1.heap.size, 0, none⟩ = some (.int .i64 s) := cell_of_row _ _ 0 _ _ _ rb31_.out
        have b_1_ : (w8).cell? ⟨w1.heap.size, 1, none⟩ = some (.int .i64 b0) := cell_of_row _ _ 1 _ _ _ rb31_.out
        have x_0_ : (w8).cell? ⟨w3.heap.size, 0, none⟩ = some (.int .i64 s) := cell_of_row _ _ 0 _ _ _ rx32_.out
        have x_1_ : (w8).cell? ⟨w3.heap.size, 1, none⟩ = some (.int .i64 x) := cell_of_row _ _ 1 _ _ _ rx32_.out
        have y_0_ : (w8).cell? ⟨w4.heap.size, 0, none⟩ = some (.int .i64 s) := cell_of_row _ _ 0 _ _ _ ry33_.out
        have y_1_ : (w8).cell? ⟨w4.heap.size, 1, none⟩ = some (.int .i64 y) := cell_of_row _ _ 1 _ _ _ ry33_.out
        go_wp2
        go_ret
        exact ⟨rfl, gby_below G34_.out⟩

end Go.Proofs.Ytoedgncidoldaaa
