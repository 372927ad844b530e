/-
  The walk of FnClears.
-/
import Derived.Test.YtgagbhkidponnadDrawLog
import Derived.Test.YtgagbhkidponnadBig
import Derived.Test.YtgagbhkidponnadDrawPlaces
import Derived.Deep.QuietTactic
import Derived.Deep.RegionHeld3
namespace Go.Proofs.Ytgagbhkidponnad
open Go Go.RowKit
set_option linter.unusedVariables false

theorem run_logField0 (w : World) (a b c d : Value) : (Instr.field 26 (.agg #[a, b, c, d]) 0).run Try.prog w = .ok a w := by
  simp [Instr.field, run_underlying Try.underlying26, part, asAgg, isAgg, go_sem]

theorem implClear_all (W : World) (sn : Nat) (ma fi : Int) (v : Value) (xs : List Int) (H : RdL shI W v xs) (hl : szL shI xs ≤ 1048576) (hb : LOk sn ma fi xs) : Calls Try.prog 19 #[vLog sn ma fi v, .int .i64 65535] W (ResIClearErrors 0 ma (-1) xs W) := by
  have hs : sn ≤ 65535 := by have := hb.1; omega
  have h := implClear_yes W sn 65535 0 ma fi v xs H hl hb (by omega) (by omega) (by omega) (by rw [clS_is hs (by omega), clS_all _ hs])
  rw [clF_zero] at h
  exact h

theorem implClear_in (W : World) (sn bn : Nat) (ma fi : Int) (v : Value) (xs : List Int) (H : RdL shI W v xs) (hl : szL shI xs ≤ 1048576) (hb : LOk sn ma fi xs) (hbn : bn ≤ 65535) : Calls Try.prog 19 #[vLog sn ma fi v, .int .i64 (bn : Int)] W (ResIClearErrors (clS sn bn : Nat) ma (clF (clS sn bn) fi) xs W) := by
  have hs : sn ≤ 65535 := by have := hb.1; omega
  have hle := clS_le sn bn
  exact implClear_yes W sn bn (clS sn bn) ma fi v xs H hl hb hbn (by omega) hle (clS_is hs hbn)

theorem implClear_same (W : World) (cn bn : Nat) (ma fi : Int) (v : Value) (xs : List Int) (H : RdL shI W v xs) (hl : szL shI xs ≤ 1048576) (hb : LOk cn ma fi xs) (hbn : bn ≤ 65535) (hc : clS cn bn = cn) : Calls Try.prog 19 #[vLog cn ma fi v, .int .i64 (bn : Int)] W (ResIClearErrors (cn : Int) ma (clF cn fi) xs W) := by
  have h := implClear_in W cn bn ma fi v xs H hl hb hbn
  rw [hc] at h
  exact h

theorem implWorst_zero (W : World) (man : Nat) (v : Value) (xs : List Int) (H : RdL shI W v xs) (hl : szL shI xs ≤ 1048576) (h : LOk ((0 : Nat) : Int) man (-1) xs) : Calls Try.prog 24 #[vLog 0 man (-1) v] W (AnsN (.int .i64 (-1)) W) := by
  have q := implWorst_yes W 0 man (-1) v xs H hl h
  rw [worst_zero] at q
  exact q

set_option maxRecDepth 8000 in
set_option maxHeartbeats 8000000 in
theorem walk_clears (a : Option Addr) (len cap : Nat) (zs : List Int) (W : World) (hB : Bytes W a len zs) :
    Calls Try.prog 6 #[.slice a len cap] W fun e w' => e = .returned (.bool true) ∧ Below W.heap.size W w' := by
  have HB := Lib.hid hB
  clear hB
  by_cases hbig : (1048576 : Int) < (len : Int)
  · go_enter Try.func6, Try.ntmps6
    go_wp2
    go_ret
    exact ⟨rfl, Below.refl _ _⟩
  · skip
    go_enter Try.func6, Try.ntmps6
    go_wp2_with fail
    go_at_call 20
    refine (big_any _ _ _ _).mono ?_
    rintro e w1 ⟨rfl, rfl⟩
    go_wp2_with fail
    go_at_call 21
    refine (drawLog_any _ _ _ _ _ (bytes_grow HB.out (gby_refl _ _)) (by omega)).mono ?_
    rintro e w2 ⟨s, man, fi, v_, xs, rfl, hb, o, g⟩
    have HOK := Lib.hid hb
    have hs0 : s ≤ 65535 := by have := hb.1; omega
    have HLX : Hid (szL shI xs ≤ 1048576) := Lib.hid (by rw [szL_I, hb.2.2.1]; omega)
    clear hb
    obtain ⟨la, ln, lc, hv_⟩ := RdL.form (OwU.rd o)
    subst hv_
    have HRl := Lib.hid (OwU.rd o)
    unfold vLog
    clear o
    have szw2 := g.size
    try simp only [World.size_alloc] at szw2
    have G1_ := Lib.hid (show (W).grownBy (w2) none from gby_trans (gby_refl _ _) g)
    clear g
    have HTl2_ := Lib.hid (gby_refl (w2) none)
    have MG3_ := Lib.hid (show (W).grownBy (w2) none from G1_.out)
    have al_ : (w2).grownBy ((w2).alloc (.cells #[.int .i64 (s : Int), .int .i64 (man : Int), .int .i64 fi, .slice la ln lc] 26)) none := gby_alloc (gby_refl _ _) _
    have G4_ := Lib.hid (show (W).grownBy ((w2.alloc (.cells #[.int .i64 (s : Int), .int .i64 (man : Int), .int .i64 fi, .slice la ln lc] 26))) none from gby_trans G1_.out al_)
    have HTl5_ := Lib.hid (show (w2).grownBy ((w2.alloc (.cells #[.int .i64 (s : Int), .int .i64 (man : Int), .int .i64 fi, .slice la ln lc] 26))) none from gby_trans HTl2_.out al_)
    clear HTl2_
    have rL6_ := Lib.hid (show ((w2.alloc (.cells #[.int .i64 (s : Int), .int .i64 (man : Int), .int .i64 fi, .slice la ln lc] 26))).heap[w2.heap.size]? = some (.cells #[.int .i64 (s : Int), .int .i64 (man : Int), .int .i64 fi, .slice la ln lc] 26 (0, 0)) from by first | exact heap_alloc_new _ _ | exact heap_pair _ _ _ | exact heap_trip _ _ _ _)
    clear al_
    have L_0_ : ((w2.alloc (.cells #[.int .i64 (s : Int), .int .i64 (man : Int), .int .i64 fi, .slice la ln lc] 26))).cell? ⟨w2.heap.size, 0, none⟩ = some (.int .i64 (s : Int)) := cell_of_row _ _ 0 _ _ _ rL6_.out
    have L_1_ : ((w2.alloc (.cells #[.int .i64 (s : Int), .int .i64 (man : Int), .int .i64 fi, .slice la ln lc] 26))).cell? ⟨w2.heap.size, 1, none⟩ = some (.int .i64 (man : Int)) := cell_of_row _ _ 1 _ _ _ rL6_.out
    have L_2_ : ((w2.alloc (.cells #[.int .i64 (s : Int), .int .i64 (man : Int), .int .i64 fi, .slice la ln lc] 26))).cell? ⟨w2.heap.size, 2, none⟩ = some (.int .i64 fi) := cell_of_row _ _ 2 _ _ _ rL6_.out
    have L_3_ : ((w2.alloc (.cells #[.int .i64 (s : Int), .int .i64 (man : Int), .int .i64 fi, .slice la ln lc] 26))).cell? ⟨w2.heap.size, 3, none⟩ = some (.slice la ln lc) := cell_of_row _ _ 3 _ _ _ rL6_.out
    go_wp2_with fail
    go_at_call 22
    refine (places_any _ _ _ _ _ (bytes_grow HB.out G4_.out) (by omega)).mono ?_
    rintro e w3 ⟨v3, ps, rfl, hl12, hps, o3, g⟩
    obtain ⟨pb, po, pc, rfl, hpc⟩ := o3.twelve hl12
    have HPS := Lib.hid (fun j (hj : j < 12) => hps (ps.getD j 0) (by rw [List.getD_eq_getElem?_getD, List.getElem?_eq_getElem (by omega)]; exact List.getElem_mem _))
    have HPC := Lib.hid hpc
    clear o3 hpc hps hl12
    have szw3 := g.size
    try simp only [World.size_alloc] at szw3
    clear L_0_ L_1_ L_2_ L_3_
    have rL7_ := Lib.hid (show (w3).heap[w2.heap.size]? = some (.cells #[.int .i64 (s : Int), .int .i64 (man : Int), .int .i64 fi, .slice la ln lc] 26 (0, 0)) from row_held g rL6_.out)
    clear rL6_
    have G8_ := Lib.hid (show (W).grownBy (w3) none from gby_trans G4_.out g)
    have HTl9_ := Lib.hid (show (w2).grownBy (w3) none from gby_trans HTl5_.out g)
    clear HTl5_
    clear g
    have L_0_ : (w3).cell? ⟨w2.heap.size, 0, none⟩ = some (.int .i64 (s : Int)) := cell_of_row _ _ 0 _ _ _ rL7_.out
    have L_1_ : (w3).cell? ⟨w2.heap.size, 1, none⟩ = some (.int .i64 (man : Int)) := cell_of_row _ _ 1 _ _ _ rL7_.out
    have L_2_ : (w3).cell? ⟨w2.heap.size, 2, none⟩ = some (.int .i64 fi) := cell_of_row _ _ 2 _ _ _ rL7_.out
    have L_3_ : (w3).cell? ⟨w2.heap.size, 3, none⟩ = some (.slice la ln lc) := cell_of_row _ _ 3 _ _ _ rL7_.out
    have HTP10_ := Lib.hid (gby_refl (w3) none)
    have MG11_ := Lib.hid (show (W).grownBy (w3) none from G8_.out)
    have MR12_ := Lib.hid rL7_.out
    obtain ⟨q, hq⟩ : ∃ q, q = ps.getD 0 0 := ⟨_, rfl⟩
    obtain ⟨q1, q2⟩ := (show IsP q from by rw [hq]; exact HPS.out 0 (by omega))
    have HCq0 := Lib.hid (HPC.out 0 (by omega))
    rw [← hq] at HCq0
    clear hq
    have p0_ : (w3).cell? ⟨pb, po, none⟩ = some (.int .i64 q) := (HTP10_.out).cell HCq0.out (by simp)
    obtain ⟨bn, hbn⟩ : ∃ bn : Nat, (q * 7) % 65536 = (bn : Int) := ⟨((q * 7) % 65536).toNat, by omega⟩
    have e1_ : IntKind.i64.wrap (q * 7) = q * 7 := IntWalk.i64_in _ (by omega)
    have hb5 : bn ≤ 65535 := by omega
    have e2_ : (q * 7).tmod 65536 = (bn : Int) := by rw [Int.tmod_eq_emod_of_nonneg (by omega)]; exact hbn
    obtain ⟨cn, hcn⟩ : ∃ cn, cn = clS s bn := ⟨_, rfl⟩
    obtain ⟨cf, hcf⟩ : ∃ cf, cf = clF cn fi := ⟨_, rfl⟩
    have HCK := Lib.hid (show LOk (cn : Int) (man : Int) cf xs by rw [hcf, hcn]; exact clear_ok HOK.out bn)
    have HCA := Lib.hid (show bits .and .i64 (cn : Int) (bn : Int) = 0 by rw [hcn, and_nat _ _ (by have := clS_le s bn; omega) (by omega), clS_and s bn hb5]; rfl)
    have HCO := Lib.hid (show bits .or .i64 (cn : Int) (bn : Int) = bits .or .i64 (s : Int) (bn : Int) by rw [hcn, or_nat _ _ (by have := clS_le s bn; omega) (by omega), or_nat _ _ (by omega) (by omega), clS_or s bn hs0 hb5])
    have HCS := Lib.hid (show clS cn bn = cn by rw [hcn]; exact clS_twice s bn hb5)
    have HCC := Lib.hid (show ∀ (W : World) (v : Value), RdL shI W v xs → Calls Try.prog 19 #[vLog (s : Int) (man : Int) fi v, .int .i64 (bn : Int)] W (ResIClearErrors (cn : Int) (man : Int) cf xs W) from fun W v H => by rw [hcf, hcn]; exact implClear_in W s bn _ _ v xs H HLX.out HOK.out hb5)
    clear hcn hcf
    go_wp2_with fail
    go_at_call 19
    refine (HCC.out _ _ (HRl.out.grow HTl9_.out)).mono ?_
    rintro e w4 ⟨v1_, rfl, o, g⟩
    have szw4 := g.size
    try simp only [World.size_alloc] at szw4
    clear L_0_ L_1_ L_2_ L_3_
    have rL13_ := Lib.hid (show (w4).heap[w2.heap.size]? = some (.cells #[.int .i64 (s : Int), .int .i64 (man : Int), .int .i64 fi, .slice la ln lc] 26 (0, 0)) from row_held g rL7_.out)
    clear rL7_
    have G14_ := Lib.hid (show (W).grownBy (w4) none from gby_trans G8_.out g)
    have HTl15_ := Lib.hid (show (w2).grownBy (w4) none from gby_trans HTl9_.out g)
    clear HTl9_
    have HTP16_ := Lib.hid (show (w3).grownBy (w4) none from gby_trans HTP10_.out g)
    clear HTP10_
    clear g
    obtain ⟨xa, xn, xc, hv_⟩ := RdL.form (OwU.rd o)
    subst hv_
    have HRx := Lib.hid (OwU.rd o)
    clear o
    have L_0_ : (w4).cell? ⟨w2.heap.size, 0, none⟩ = some (.int .i64 (s : Int)) := cell_of_row _ _ 0 _ _ _ rL13_.out
    have L_1_ : (w4).cell? ⟨w2.heap.size, 1, none⟩ = some (.int .i64 (man : Int)) := cell_of_row _ _ 1 _ _ _ rL13_.out
    have L_2_ : (w4).cell? ⟨w2.heap.size, 2, none⟩ = some (.int .i64 fi) := cell_of_row _ _ 2 _ _ _ rL13_.out
    have L_3_ : (w4).cell? ⟨w2.heap.size, 3, none⟩ = some (.slice la ln lc) := cell_of_row _ _ 3 _ _ _ rL13_.out
    have HTx17_ := Lib.hid (gby_refl (w4) none)
    have MG18_ := Lib.hid (show (W).grownBy (w4) none from G14_.out)
    have MR19_ := Lib.hid rL13_.out
    clear L_0_ L_1_ L_2_ L_3_
    have al_ : (w4).grownBy ((w4).alloc (.cells #[.int .i64 (cn : Int), .int .i64 (man : Int), .int .i64 cf, .slice xa xn xc] 26)) none := gby_alloc (gby_refl _ _) _
    have rL20_ := Lib.hid (show ((w4.alloc (.cells #[.int .i64 (cn : Int), .int .i64 (man : Int), .int .i64 cf, .slice xa xn xc] 26))).heap[w2.heap.size]? = some (.cells #[.int .i64 (s : Int), .int .i64 (man : Int), .int .i64 fi, .slice la ln lc] 26 (0, 0)) from row_held al_ rL13_.out)
    clear rL13_
    have G21_ := Lib.hid (show (W).grownBy ((w4.alloc (.cells #[.int .i64 (cn : Int), .int .i64 (man : Int), .int .i64 cf, .slice xa xn xc] 26))) none from gby_trans G14_.out al_)
    have HTl22_ := Lib.hid (show (w2).grownBy ((w4.alloc (.cells #[.int .i64 (cn : Int), .int .i64 (man : Int), .int .i64 cf, .slice xa xn xc] 26))) none from gby_trans HTl15_.out al_)
    clear HTl15_
    have HTP23_ := Lib.hid (show (w3).grownBy ((w4.alloc (.cells #[.int .i64 (cn : Int), .int .i64 (man : Int), .int .i64 cf, .slice xa xn xc] 26))) none from gby_trans HTP16_.out al_)
    clear HTP16_
    have HTx24_ := Lib.hid (show (w4).grownBy ((w4.alloc (.cells #[.int .i64 (cn : Int), .int .i64 (man : Int), .int .i64 cf, .slice xa xn xc] 26))) none from gby_trans HTx17_.out al_)
    clear HTx17_
    have rX25_ := Lib.hid (show ((w4.alloc (.cells #[.int .i64 (cn : Int), .int .i64 (man : Int), .int .i64 cf, .slice xa xn xc] 26))).heap[w4.heap.size]? = some (.cells #[.int .i64 (cn : Int), .int .i64 (man : Int), .int .i64 cf, .slice xa xn xc] 26 (0, 0)) from by first | exact heap_alloc_new _ _ | exact heap_pair _ _ _ | exact heap_trip _ _ _ _)
    clear al_
    have L_0_ : ((w4.alloc (.cells #[.int .i64 (cn : Int), .int .i64 (man : Int), .int .i64 cf, .slice xa xn xc] 26))).cell? ⟨w2.heap.size, 0, none⟩ = some (.int .i64 (s : Int)) := cell_of_row _ _ 0 _ _ _ rL20_.out
    have L_1_ : ((w4.alloc (.cells #[.int .i64 (cn : Int), .int .i64 (man : Int), .int .i64 cf, .slice xa xn xc] 26))).cell? ⟨w2.heap.size, 1, none⟩ = some (.int .i64 (man : Int)) := cell_of_row _ _ 1 _ _ _ rL20_.out
    have L_2_ : ((w4.alloc (.cells #[.int .i64 (cn : Int), .int .i64 (man : Int), .int .i64 cf, .slice xa xn xc] 26))).cell? ⟨w2.heap.size, 2, none⟩ = some (.int .i64 fi) := cell_of_row _ _ 2 _ _ _ rL20_.out
    have L_3_ : ((w4.alloc (.cells #[.int .i64 (cn : Int), .int .i64 (man : Int), .int .i64 cf, .slice xa xn xc] 26))).cell? ⟨w2.heap.size, 3, none⟩ = some (.slice la ln lc) := cell_of_row _ _ 3 _ _ _ rL20_.out
    have X_0_ : ((w4.alloc (.cells #[.int .i64 (cn : Int), .int .i64 (man : Int), .int .i64 cf, .slice xa xn xc] 26))).cell? ⟨w4.heap.size, 0, none⟩ = some (.int .i64 (cn : Int)) := cell_of_row _ _ 0 _ _ _ rX25_.out
    have X_1_ : ((w4.alloc (.cells #[.int .i64 (cn : Int), .int .i64 (man : Int), .int .i64 cf, .slice xa xn xc] 26))).cell? ⟨w4.heap.size, 1, none⟩ = some (.int .i64 (man : Int)) := cell_of_row _ _ 1 _ _ _ rX25_.out
    have X_2_ : ((w4.alloc (.cells #[.int .i64 (cn : Int), .int .i64 (man : Int), .int .i64 cf, .slice xa xn xc] 26))).cell? ⟨w4.heap.size, 2, none⟩ = some (.int .i64 cf) := cell_of_row _ _ 2 _ _ _ rX25_.out
    have X_3_ : ((w4.alloc (.cells #[.int .i64 (cn : Int), .int .i64 (man : Int), .int .i64 cf, .slice xa xn xc] 26))).cell? ⟨w4.heap.size, 3, none⟩ = some (.slice xa xn xc) := cell_of_row _ _ 3 _ _ _ rX25_.out
    go_wp2_with fail
    go_at_call 19
    refine (implClear_all _ s _ _ _ xs (HRl.out.grow HTl22_.out) HLX.out HOK.out).mono ?_
    rintro e w5 ⟨v2_, rfl, o, g⟩
    have szw5 := g.size
    try simp only [World.size_alloc] at szw5
    clear L_0_ L_1_ L_2_ L_3_ X_0_ X_1_ X_2_ X_3_
    have rL26_ := Lib.hid (show (w5).heap[w2.heap.size]? = some (.cells #[.int .i64 (s : Int), .int .i64 (man : Int), .int .i64 fi, .slice la ln lc] 26 (0, 0)) from row_held g rL20_.out)
    clear rL20_
    have rX27_ := Lib.hid (show (w5).heap[w4.heap.size]? = some (.cells #[.int .i64 (cn : Int), .int .i64 (man : Int), .int .i64 cf, .slice xa xn xc] 26 (0, 0)) from row_held g rX25_.out)
    clear rX25_
    have G28_ := Lib.hid (show (W).grownBy (w5) none from gby_trans G21_.out g)
    have HTl29_ := Lib.hid (show (w2).grownBy (w5) none from gby_trans HTl22_.out g)
    clear HTl22_
    have HTP30_ := Lib.hid (show (w3).grownBy (w5) none from gby_trans HTP23_.out g)
    clear HTP23_
    have HTx31_ := Lib.hid (show (w4).grownBy (w5) none from gby_trans HTx24_.out g)
    clear HTx24_
    clear g
    obtain ⟨ya, yn, yc, hv_⟩ := RdL.form (OwU.rd o)
    subst hv_
    have HRy := Lib.hid (OwU.rd o)
    clear o
    have L_0_ : (w5).cell? ⟨w2.heap.size, 0, none⟩ = some (.int .i64 (s : Int)) := cell_of_row _ _ 0 _ _ _ rL26_.out
    have L_1_ : (w5).cell? ⟨w2.heap.size, 1, none⟩ = some (.int .i64 (man : Int)) := cell_of_row _ _ 1 _ _ _ rL26_.out
    have L_2_ : (w5).cell? ⟨w2.heap.size, 2, none⟩ = some (.int .i64 fi) := cell_of_row _ _ 2 _ _ _ rL26_.out
    have L_3_ : (w5).cell? ⟨w2.heap.size, 3, none⟩ = some (.slice la ln lc) := cell_of_row _ _ 3 _ _ _ rL26_.out
    have X_0_ : (w5).cell? ⟨w4.heap.size, 0, none⟩ = some (.int .i64 (cn : Int)) := cell_of_row _ _ 0 _ _ _ rX27_.out
    have X_1_ : (w5).cell? ⟨w4.heap.size, 1, none⟩ = some (.int .i64 (man : Int)) := cell_of_row _ _ 1 _ _ _ rX27_.out
    have X_2_ : (w5).cell? ⟨w4.heap.size, 2, none⟩ = some (.int .i64 cf) := cell_of_row _ _ 2 _ _ _ rX27_.out
    have X_3_ : (w5).cell? ⟨w4.heap.size, 3, none⟩ = some (.slice xa xn xc) := cell_of_row _ _ 3 _ _ _ rX27_.out
    have HTy32_ := Lib.hid (gby_refl (w5) none)
    have MG33_ := Lib.hid (show (W).grownBy (w5) none from G28_.out)
    have MR34_ := Lib.hid rL26_.out
    have MR35_ := Lib.hid rX27_.out
    clear L_0_ L_1_ L_2_ L_3_ X_0_ X_1_ X_2_ X_3_
    have al_ : (w5).grownBy ((w5).alloc (.cells #[.int .i64 0, .int .i64 (man : Int), .int .i64 (-1), .slice ya yn yc] 26)) none := gby_alloc (gby_refl _ _) _
    have rL36_ := Lib.hid (show ((w5.alloc (.cells #[.int .i64 0, .int .i64 (man : Int), .int .i64 (-1), .slice ya yn yc] 26))).heap[w2.heap.size]? = some (.cells #[.int .i64 (s : Int), .int .i64 (man : Int), .int .i64 fi, .slice la ln lc] 26 (0, 0)) from row_held al_ rL26_.out)
    clear rL26_
    have rX37_ := Lib.hid (show ((w5.alloc (.cells #[.int .i64 0, .int .i64 (man : Int), .int .i64 (-1), .slice ya yn yc] 26))).heap[w4.heap.size]? = some (.cells #[.int .i64 (cn : Int), .int .i64 (man : Int), .int .i64 cf, .slice xa xn xc] 26 (0, 0)) from row_held al_ rX27_.out)
    clear rX27_
    have G38_ := Lib.hid (show (W).grownBy ((w5.alloc (.cells #[.int .i64 0, .int .i64 (man : Int), .int .i64 (-1), .slice ya yn yc] 26))) none from gby_trans G28_.out al_)
    have HTl39_ := Lib.hid (show (w2).grownBy ((w5.alloc (.cells #[.int .i64 0, .int .i64 (man : Int), .int .i64 (-1), .slice ya yn yc] 26))) none from gby_trans HTl29_.out al_)
    clear HTl29_
    have HTP40_ := Lib.hid (show (w3).grownBy ((w5.alloc (.cells #[.int .i64 0, .int .i64 (man : Int), .int .i64 (-1), .slice ya yn yc] 26))) none from gby_trans HTP30_.out al_)
    clear HTP30_
    have HTx41_ := Lib.hid (show (w4).grownBy ((w5.alloc (.cells #[.int .i64 0, .int .i64 (man : Int), .int .i64 (-1), .slice ya yn yc] 26))) none from gby_trans HTx31_.out al_)
    clear HTx31_
    have HTy42_ := Lib.hid (show (w5).grownBy ((w5.alloc (.cells #[.int .i64 0, .int .i64 (man : Int), .int .i64 (-1), .slice ya yn yc] 26))) none from gby_trans HTy32_.out al_)
    clear HTy32_
    have rY43_ := Lib.hid (show ((w5.alloc (.cells #[.int .i64 0, .int .i64 (man : Int), .int .i64 (-1), .slice ya yn yc] 26))).heap[w5.heap.size]? = some (.cells #[.int .i64 0, .int .i64 (man : Int), .int .i64 (-1), .slice ya yn yc] 26 (0, 0)) from by first | exact heap_alloc_new _ _ | exact heap_pair _ _ _ | exact heap_trip _ _ _ _)
    clear al_
    have L_0_ : ((w5.alloc (.cells #[.int .i64 0, .int .i64 (man : Int), .int .i64 (-1), .slice ya yn yc] 26))).cell? ⟨w2.heap.size, 0, none⟩ = some (.int .i64 (s : Int)) := cell_of_row _ _ 0 _ _ _ rL36_.out
    have L_1_ : ((w5.alloc (.cells #[.int .i64 0, .int .i64 (man : Int), .int .i64 (-1), .slice ya yn yc] 26))).cell? ⟨w2.heap.size, 1, none⟩ = some (.int .i64 (man : Int)) := cell_of_row _ _ 1 _ _ _ rL36_.out
    have L_2_ : ((w5.alloc (.cells #[.int .i64 0, .int .i64 (man : Int), .int .i64 (-1), .slice ya yn yc] 26))).cell? ⟨w2.heap.size, 2, none⟩ = some (.int .i64 fi) := cell_of_row _ _ 2 _ _ _ rL36_.out
    have L_3_ : ((w5.alloc (.cells #[.int .i64 0, .int .i64 (man : Int), .int .i64 (-1), .slice ya yn yc] 26))).cell? ⟨w2.heap.size, 3, none⟩ = some (.slice la ln lc) := cell_of_row _ _ 3 _ _ _ rL36_.out
    have X_0_ : ((w5.alloc (.cells #[.int .i64 0, .int .i64 (man : Int), .int .i64 (-1), .slice ya yn yc] 26))).cell? ⟨w4.heap.size, 0, none⟩ = some (.int .i64 (cn : Int)) := cell_of_row _ _ 0 _ _ _ rX37_.out
    have X_1_ : ((w5.alloc (.cells #[.int .i64 0, .int .i64 (man : Int), .int .i64 (-1), .slice ya yn yc] 26))).cell? ⟨w4.heap.size, 1, none⟩ = some (.int .i64 (man : Int)) := cell_of_row _ _ 1 _ _ _ rX37_.out
    have X_2_ : ((w5.alloc (.cells #[.int .i64 0, .int .i64 (man : Int), .int .i64 (-1), .slice ya yn yc] 26))).cell? ⟨w4.heap.size, 2, none⟩ = some (.int .i64 cf) := cell_of_row _ _ 2 _ _ _ rX37_.out
    have X_3_ : ((w5.alloc (.cells #[.int .i64 0, .int .i64 (man : Int), .int .i64 (-1), .slice ya yn yc] 26))).cell? ⟨w4.heap.size, 3, none⟩ = some (.slice xa xn xc) := cell_of_row _ _ 3 _ _ _ rX37_.out
    have Y_0_ : ((w5.alloc (.cells #[.int .i64 0, .int .i64 (man : Int), .int .i64 (-1), .slice ya yn yc] 26))).cell? ⟨w5.heap.size, 0, none⟩ = some (.int .i64 0) := cell_of_row _ _ 0 _ _ _ rY43_.out
    have Y_1_ : ((w5.alloc (.cells #[.int .i64 0, .int .i64 (man : Int), .int .i64 (-1), .slice ya yn yc] 26))).cell? ⟨w5.heap.size, 1, none⟩ = some (.int .i64 (man : Int)) := cell_of_row _ _ 1 _ _ _ rY43_.out
    have Y_2_ : ((w5.alloc (.cells #[.int .i64 0, .int .i64 (man : Int), .int .i64 (-1), .slice ya yn yc] 26))).cell? ⟨w5.heap.size, 2, none⟩ = some (.int .i64 (-1)) := cell_of_row _ _ 2 _ _ _ rY43_.out
    have Y_3_ : ((w5.alloc (.cells #[.int .i64 0, .int .i64 (man : Int), .int .i64 (-1), .slice ya yn yc] 26))).cell? ⟨w5.heap.size, 3, none⟩ = some (.slice ya yn yc) := cell_of_row _ _ 3 _ _ _ rY43_.out
    have HY0 := Lib.hid (show LOk ((0 : Nat) : Int) (man : Int) (-1) xs from ⟨⟨by omega, by omega⟩, HOK.out.2.1, HOK.out.2.2.1, HOK.out.2.2.2.1, (fun _ => rfl), (fun q => absurd rfl q)⟩)
    have HRx0 := Lib.hid (HRx.out.grow HTx41_.out)
    have HRy0 := Lib.hid (HRy.out.grow HTy42_.out)
    have ca_ := HCA.out
    have co_ := HCO.out
    have p1_ : ((-1 : Int) == -1) = true := rfl
    have p2_ : ((cn : Int) == (cn : Int)) = true := by simp
    have p3_ : ((0 : Int) == 0) = true := rfl
    have p4_ : (bits .or .i64 (s : Int) (bn : Int) == bits .or .i64 (s : Int) (bn : Int)) = true := by simp
    go_wp2_with fail
    refine wp_region_held_drew (S := fun w' => w'.cell? ⟨w2.heap.size, 0, none⟩ = some (.int .i64 (s : Int)) ∧ w'.cell? ⟨w2.heap.size, 1, none⟩ = some (.int .i64 (man : Int)) ∧ w'.cell? ⟨w2.heap.size, 2, none⟩ = some (.int .i64 fi) ∧ w'.cell? ⟨w2.heap.size, 3, none⟩ = some (.slice la ln lc) ∧ w'.cell? ⟨w4.heap.size, 0, none⟩ = some (.int .i64 (cn : Int)) ∧ w'.cell? ⟨w4.heap.size, 1, none⟩ = some (.int .i64 (man : Int)) ∧ w'.cell? ⟨w4.heap.size, 2, none⟩ = some (.int .i64 cf) ∧ w'.cell? ⟨w4.heap.size, 3, none⟩ = some (.slice xa xn xc) ∧ w'.cell? ⟨w5.heap.size, 0, none⟩ = some (.int .i64 0) ∧ w'.cell? ⟨w5.heap.size, 1, none⟩ = some (.int .i64 (man : Int)) ∧ w'.cell? ⟨w5.heap.size, 2, none⟩ = some (.int .i64 (-1)) ∧ w'.cell? ⟨w5.heap.size, 3, none⟩ = some (.slice ya yn yc)) (by kernel_rfl) (by (try dsimp only); exact ⟨L_0_, L_1_, L_2_, L_3_, X_0_, X_1_, X_2_, X_3_, Y_0_, Y_1_, Y_2_, Y_3_⟩) (fun hHeld => ?_)
    refine wpAnyH_take (i := 0) (oi := { dst := some 24, op := Op.load 26 (Operand.tmp 6), type := 26, pos := "laws.go:1020", after := #[], guard := none }) (v := ?v0_1) rfl (by kernel_rfl) (by kernel_rfl) (by kernel_rfl) (fun _ _ _ h => h) (Or.inl ⟨by rfl, ?y0_1⟩) (by assumption) ?r0_1
    case y0_1 => (intro w hSw; (try dsimp only at hSw); go_simp; all_goals (with_reducible rfl))
    try simp only [Act.put, List.setIfInBounds_toArray, List.set_cons_zero, List.set_cons_succ]
    refine wpAnyH_ready (rs := [1]) (by kernel_rfl) (by simp) ?_
    refine AllReadyH.cons (o := { dst := some 25, op := Op.call { callee := Callee.value (Operand.func 23), args := #[Operand.tmp 24], argTypes := #[26] }, type := 4, pos := "laws.go:1020", after := #[{ on := 0, ground := Ground.data }], guard := none }) rfl (fun K hK => ?_) AllReadyH.nil
    go_simp
    go_at_call 23
    refine (implLog_yes _ _ _ _ _ xs (HRx0.out.grow (gby_drew (gby_refl _ none))) HLX.out HCK.out).mono ?_
    rintro e wA ⟨rfl, gA⟩
    have mL_0_ : wA.cell? _ = some _ := gA.cell L_0_ (by simp); have mL_1_ : wA.cell? _ = some _ := gA.cell L_1_ (by simp); have mL_2_ : wA.cell? _ = some _ := gA.cell L_2_ (by simp); have mL_3_ : wA.cell? _ = some _ := gA.cell L_3_ (by simp); have mX_0_ : wA.cell? _ = some _ := gA.cell X_0_ (by simp); have mX_1_ : wA.cell? _ = some _ := gA.cell X_1_ (by simp); have mX_2_ : wA.cell? _ = some _ := gA.cell X_2_ (by simp); have mX_3_ : wA.cell? _ = some _ := gA.cell X_3_ (by simp); have mY_0_ : wA.cell? _ = some _ := gA.cell Y_0_ (by simp); have mY_1_ : wA.cell? _ = some _ := gA.cell Y_1_ (by simp); have mY_2_ : wA.cell? _ = some _ := gA.cell Y_2_ (by simp); have mY_3_ : wA.cell? _ = some _ := gA.cell Y_3_ (by simp)
    go_wp2_with fail
    clear hHeld
    refine hK.out _ _ ?s1_1 (fun hHeld => ?_)
    case s1_1 => exact ⟨mL_0_, mL_1_, mL_2_, mL_3_, mX_0_, mX_1_, mX_2_, mX_3_, mY_0_, mY_1_, mY_2_, mY_3_⟩
    clear hK K
    try simp only [Act.put, List.setIfInBounds_toArray, List.set_cons_zero, List.set_cons_succ]
    refine wpAnyH_take (i := 2) (oi := { dst := some 26, op := Op.move (Operand.tmp 25), type := 4, pos := "laws.go:1020", after := #[{ on := 1, ground := Ground.data }, { on := 1, ground := Ground.chain }], guard := none }) (v := ?v2_1) rfl (by kernel_rfl) (by kernel_rfl) (by kernel_rfl) (fun _ _ _ h => h) (Or.inl ⟨by rfl, ?y2_1⟩) (by assumption) ?r2_1
    case y2_1 => (intro w hSw; (try dsimp only at hSw); go_simp; all_goals (with_reducible rfl))
    try simp only [Act.put, List.setIfInBounds_toArray, List.set_cons_zero, List.set_cons_succ]
    refine wpAnyH_take (i := 3) (oi := { dst := some 27, op := Op.fieldAddr 26 (Operand.tmp 6) 0, type := 0, pos := "laws.go:1020", after := #[{ on := 2, ground := Ground.guard }], guard := some (2, true) }) (v := ?v3_1) rfl (by kernel_rfl) (by kernel_rfl) (by kernel_rfl) (fun _ _ _ h => h) (Or.inl ⟨by rfl, ?y3_1⟩) (by assumption) ?r3_1
    case y3_1 => (intro w hSw; (try dsimp only at hSw); go_simp; all_goals (with_reducible rfl))
    try simp only [Act.put, List.setIfInBounds_toArray, List.set_cons_zero, List.set_cons_succ]
    refine wpAnyH_take (i := 4) (oi := { dst := some 28, op := Op.load 3 (Operand.tmp 27), type := 3, pos := "laws.go:1020", after := #[{ on := 3, ground := Ground.data }, { on := 2, ground := Ground.guard }], guard := some (2, true) }) (v := ?v4_1) rfl (by kernel_rfl) (by kernel_rfl) (by kernel_rfl) (fun _ _ _ h => h) (Or.inl ⟨by rfl, ?y4_1⟩) (by assumption) ?r4_1
    case y4_1 => (intro w hSw; (try dsimp only at hSw); go_simp; all_goals (with_reducible rfl))
    try simp only [Act.put, List.setIfInBounds_toArray, List.set_cons_zero, List.set_cons_succ]
    refine wpAnyH_take (i := 5) (oi := { dst := some 29, op := Op.move (Operand.tmp 5), type := 3, pos := "laws.go:1020", after := #[{ on := 2, ground := Ground.guard }], guard := some (2, true) }) (v := ?v5_1) rfl (by kernel_rfl) (by kernel_rfl) (by kernel_rfl) (fun _ _ _ h => h) (Or.inl ⟨by rfl, ?y5_1⟩) (by assumption) ?r5_1
    case y5_1 => (intro w hSw; (try dsimp only at hSw); go_simp; all_goals (with_reducible rfl))
    try simp only [Act.put, List.setIfInBounds_toArray, List.set_cons_zero, List.set_cons_succ]
    refine wpAnyH_take (i := 6) (oi := { dst := some 30, op := Op.binOp BinOp.and 3 (Operand.tmp 28) (Operand.tmp 29) 3, type := 3, pos := "laws.go:1020", after := #[{ on := 4, ground := Ground.data }, { on := 5, ground := Ground.data }, { on := 2, ground := Ground.guard }], guard := some (2, true) }) (v := ?v6_1) rfl (by kernel_rfl) (by kernel_rfl) (by kernel_rfl) (fun _ _ _ h => h) (Or.inl ⟨by rfl, ?y6_1⟩) (by assumption) ?r6_1
    case y6_1 => (intro w hSw; (try dsimp only at hSw); go_simp; all_goals (with_reducible rfl))
    try simp only [Act.put, List.setIfInBounds_toArray, List.set_cons_zero, List.set_cons_succ]
    refine wpAnyH_take (i := 7) (oi := { dst := some 31, op := Op.binOp BinOp.eql 3 (Operand.tmp 30) (Operand.const (Value.int IntKind.i64 0)) 3, type := 4, pos := "laws.go:1020", after := #[{ on := 6, ground := Ground.data }, { on := 2, ground := Ground.guard }], guard := some (2, true) }) (v := ?v7_1) rfl (by kernel_rfl) (by kernel_rfl) (by kernel_rfl) (fun _ _ _ h => h) (Or.inl ⟨by rfl, ?y7_1⟩) (by assumption) ?r7_1
    case y7_1 => (intro w hSw; (try dsimp only at hSw); go_simp; all_goals (with_reducible rfl))
    try simp only [Act.put, List.setIfInBounds_toArray, List.set_cons_zero, List.set_cons_succ]
    refine wpAnyH_take (i := 8) (oi := { dst := some 32, op := Op.pick (Operand.tmp 26) (Operand.tmp 31) (Operand.const (Value.bool false)), type := 4, pos := "laws.go:1020", after := #[{ on := 2, ground := Ground.data }, { on := 7, ground := Ground.data }], guard := none }) (v := ?v8_1) rfl (by kernel_rfl) (by kernel_rfl) (by kernel_rfl) (fun _ _ _ h => h) (Or.inl ⟨by rfl, ?y8_1⟩) (by assumption) ?r8_1
    case y8_1 => (intro w hSw; (try dsimp only at hSw); go_simp; all_goals (with_reducible rfl))
    try simp only [Act.put, List.setIfInBounds_toArray, List.set_cons_zero, List.set_cons_succ]
    refine wpAnyH_take (i := 9) (oi := { dst := some 33, op := Op.move (Operand.tmp 32), type := 4, pos := "laws.go:1020", after := #[{ on := 8, ground := Ground.data }, { on := 2, ground := Ground.chain }], guard := none }) (v := ?v9_1) rfl (by kernel_rfl) (by kernel_rfl) (by kernel_rfl) (fun _ _ _ h => h) (Or.inl ⟨by rfl, ?y9_1⟩) (by assumption) ?r9_1
    case y9_1 => (intro w hSw; (try dsimp only at hSw); go_simp; all_goals (with_reducible rfl))
    try simp only [Act.put, List.setIfInBounds_toArray, List.set_cons_zero, List.set_cons_succ]
    refine wpAnyH_take (i := 10) (oi := { dst := some 34, op := Op.fieldAddr 26 (Operand.tmp 6) 0, type := 0, pos := "laws.go:1020", after := #[{ on := 9, ground := Ground.guard }], guard := some (9, true) }) (v := ?v10_1) rfl (by kernel_rfl) (by kernel_rfl) (by kernel_rfl) (fun _ _ _ h => h) (Or.inl ⟨by rfl, ?y10_1⟩) (by assumption) ?r10_1
    case y10_1 => (intro w hSw; (try dsimp only at hSw); go_simp; all_goals (with_reducible rfl))
    try simp only [Act.put, List.setIfInBounds_toArray, List.set_cons_zero, List.set_cons_succ]
    refine wpAnyH_take (i := 11) (oi := { dst := some 35, op := Op.load 3 (Operand.tmp 34), type := 3, pos := "laws.go:1020", after := #[{ on := 10, ground := Ground.data }, { on := 9, ground := Ground.guard }], guard := some (9, true) }) (v := ?v11_1) rfl (by kernel_rfl) (by kernel_rfl) (by kernel_rfl) (fun _ _ _ h => h) (Or.inl ⟨by rfl, ?y11_1⟩) (by assumption) ?r11_1
    case y11_1 => (intro w hSw; (try dsimp only at hSw); go_simp; all_goals (with_reducible rfl))
    try simp only [Act.put, List.setIfInBounds_toArray, List.set_cons_zero, List.set_cons_succ]
    refine wpAnyH_take (i := 12) (oi := { dst := some 36, op := Op.move (Operand.tmp 5), type := 3, pos := "laws.go:1020", after := #[{ on := 9, ground := Ground.guard }], guard := some (9, true) }) (v := ?v12_1) rfl (by kernel_rfl) (by kernel_rfl) (by kernel_rfl) (fun _ _ _ h => h) (Or.inl ⟨by rfl, ?y12_1⟩) (by assumption) ?r12_1
    case y12_1 => (intro w hSw; (try dsimp only at hSw); go_simp; all_goals (with_reducible rfl))
    try simp only [Act.put, List.setIfInBounds_toArray, List.set_cons_zero, List.set_cons_succ]
    refine wpAnyH_take (i := 13) (oi := { dst := some 37, op := Op.binOp BinOp.or 3 (Operand.tmp 35) (Operand.tmp 36) 3, type := 3, pos := "laws.go:1020", after := #[{ on := 11, ground := Ground.data }, { on := 12, ground := Ground.data }, { on := 9, ground := Ground.guard }], guard := some (9, true) }) (v := ?v13_1) rfl (by kernel_rfl) (by kernel_rfl) (by kernel_rfl) (fun _ _ _ h => h) (Or.inl ⟨by rfl, ?y13_1⟩) (by assumption) ?r13_1
    case y13_1 => (intro w hSw; (try dsimp only at hSw); go_simp; all_goals (with_reducible rfl))
    try simp only [Act.put, List.setIfInBounds_toArray, List.set_cons_zero, List.set_cons_succ]
    refine wpAnyH_take (i := 14) (oi := { dst := some 38, op := Op.fieldAddr 26 (Operand.tmp 3) 0, type := 0, pos := "laws.go:1020", after := #[{ on := 9, ground := Ground.guard }], guard := some (9, true) }) (v := ?v14_1) rfl (by kernel_rfl) (by kernel_rfl) (by kernel_rfl) (fun _ _ _ h => h) (Or.inl ⟨by rfl, ?y14_1⟩) (by assumption) ?r14_1
    case y14_1 => (intro w hSw; (try dsimp only at hSw); go_simp; all_goals (with_reducible rfl))
    try simp only [Act.put, List.setIfInBounds_toArray, List.set_cons_zero, List.set_cons_succ]
    refine wpAnyH_take (i := 15) (oi := { dst := some 39, op := Op.load 3 (Operand.tmp 38), type := 3, pos := "laws.go:1020", after := #[{ on := 14, ground := Ground.data }, { on := 9, ground := Ground.guard }], guard := some (9, true) }) (v := ?v15_1) rfl (by kernel_rfl) (by kernel_rfl) (by kernel_rfl) (fun _ _ _ h => h) (Or.inl ⟨by rfl, ?y15_1⟩) (by assumption) ?r15_1
    case y15_1 => (intro w hSw; (try dsimp only at hSw); go_simp; all_goals (with_reducible rfl))
    try simp only [Act.put, List.setIfInBounds_toArray, List.set_cons_zero, List.set_cons_succ]
    refine wpAnyH_take (i := 16) (oi := { dst := some 40, op := Op.move (Operand.tmp 5), type := 3, pos := "laws.go:1020", after := #[{ on := 9, ground := Ground.guard }], guard := some (9, true) }) (v := ?v16_1) rfl (by kernel_rfl) (by kernel_rfl) (by kernel_rfl) (fun _ _ _ h => h) (Or.inl ⟨by rfl, ?y16_1⟩) (by assumption) ?r16_1
    case y16_1 => (intro w hSw; (try dsimp only at hSw); go_simp; all_goals (with_reducible rfl))
    try simp only [Act.put, List.setIfInBounds_toArray, List.set_cons_zero, List.set_cons_succ]
    refine wpAnyH_take (i := 17) (oi := { dst := some 41, op := Op.binOp BinOp.or 3 (Operand.tmp 39) (Operand.tmp 40) 3, type := 3, pos := "laws.go:1020", after := #[{ on := 15, ground := Ground.data }, { on := 16, ground := Ground.data }, { on := 9, ground := Ground.guard }], guard := some (9, true) }) (v := ?v17_1) rfl (by kernel_rfl) (by kernel_rfl) (by kernel_rfl) (fun _ _ _ h => h) (Or.inl ⟨by rfl, ?y17_1⟩) (by assumption) ?r17_1
    case y17_1 => (intro w hSw; (try dsimp only at hSw); go_simp; all_goals (with_reducible rfl))
    try simp only [Act.put, List.setIfInBounds_toArray, List.set_cons_zero, List.set_cons_succ]
    refine wpAnyH_take (i := 18) (oi := { dst := some 42, op := Op.binOp BinOp.eql 3 (Operand.tmp 37) (Operand.tmp 41) 3, type := 4, pos := "laws.go:1020", after := #[{ on := 13, ground := Ground.data }, { on := 17, ground := Ground.data }, { on := 9, ground := Ground.guard }], guard := some (9, true) }) (v := ?v18_1) rfl (by kernel_rfl) (by kernel_rfl) (by kernel_rfl) (fun _ _ _ h => h) (Or.inl ⟨by rfl, ?y18_1⟩) (by assumption) ?r18_1
    case y18_1 => (intro w hSw; (try dsimp only at hSw); go_simp; all_goals (with_reducible rfl))
    try simp only [Act.put, List.setIfInBounds_toArray, List.set_cons_zero, List.set_cons_succ]
    refine wpAnyH_take (i := 19) (oi := { dst := some 43, op := Op.pick (Operand.tmp 33) (Operand.tmp 42) (Operand.const (Value.bool false)), type := 4, pos := "laws.go:1020", after := #[{ on := 9, ground := Ground.data }, { on := 18, ground := Ground.data }], guard := none }) (v := ?v19_1) rfl (by kernel_rfl) (by kernel_rfl) (by kernel_rfl) (fun _ _ _ h => h) (Or.inl ⟨by rfl, ?y19_1⟩) (by assumption) ?r19_1
    case y19_1 => (intro w hSw; (try dsimp only at hSw); go_simp; all_goals (with_reducible rfl))
    try simp only [Act.put, List.setIfInBounds_toArray, List.set_cons_zero, List.set_cons_succ]
    refine wpAnyH_take (i := 20) (oi := { dst := some 44, op := Op.move (Operand.tmp 43), type := 4, pos := "laws.go:1020", after := #[{ on := 19, ground := Ground.data }, { on := 9, ground := Ground.chain }], guard := none }) (v := ?v20_1) rfl (by kernel_rfl) (by kernel_rfl) (by kernel_rfl) (fun _ _ _ h => h) (Or.inl ⟨by rfl, ?y20_1⟩) (by assumption) ?r20_1
    case y20_1 => (intro w hSw; (try dsimp only at hSw); go_simp; all_goals (with_reducible rfl))
    try simp only [Act.put, List.setIfInBounds_toArray, List.set_cons_zero, List.set_cons_succ]
    refine wpAnyH_take (i := 21) (oi := { dst := some 45, op := Op.fieldAddr 26 (Operand.tmp 7) 0, type := 0, pos := "laws.go:1020", after := #[{ on := 20, ground := Ground.guard }], guard := some (20, true) }) (v := ?v21_1) rfl (by kernel_rfl) (by kernel_rfl) (by kernel_rfl) (fun _ _ _ h => h) (Or.inl ⟨by rfl, ?y21_1⟩) (by assumption) ?r21_1
    case y21_1 => (intro w hSw; (try dsimp only at hSw); go_simp; all_goals (with_reducible rfl))
    try simp only [Act.put, List.setIfInBounds_toArray, List.set_cons_zero, List.set_cons_succ]
    refine wpAnyH_take (i := 22) (oi := { dst := some 46, op := Op.load 3 (Operand.tmp 45), type := 3, pos := "laws.go:1020", after := #[{ on := 21, ground := Ground.data }, { on := 20, ground := Ground.guard }], guard := some (20, true) }) (v := ?v22_1) rfl (by kernel_rfl) (by kernel_rfl) (by kernel_rfl) (fun _ _ _ h => h) (Or.inl ⟨by rfl, ?y22_1⟩) (by assumption) ?r22_1
    case y22_1 => (intro w hSw; (try dsimp only at hSw); go_simp; all_goals (with_reducible rfl))
    try simp only [Act.put, List.setIfInBounds_toArray, List.set_cons_zero, List.set_cons_succ]
    refine wpAnyH_take (i := 23) (oi := { dst := some 47, op := Op.binOp BinOp.eql 3 (Operand.tmp 46) (Operand.const (Value.int IntKind.i64 0)) 3, type := 4, pos := "laws.go:1020", after := #[{ on := 22, ground := Ground.data }, { on := 20, ground := Ground.guard }], guard := some (20, true) }) (v := ?v23_1) rfl (by kernel_rfl) (by kernel_rfl) (by kernel_rfl) (fun _ _ _ h => h) (Or.inl ⟨by rfl, ?y23_1⟩) (by assumption) ?r23_1
    case y23_1 => (intro w hSw; (try dsimp only at hSw); go_simp; all_goals (with_reducible rfl))
    try simp only [Act.put, List.setIfInBounds_toArray, List.set_cons_zero, List.set_cons_succ]
    refine wpAnyH_take (i := 24) (oi := { dst := some 48, op := Op.pick (Operand.tmp 44) (Operand.tmp 47) (Operand.const (Value.bool false)), type := 4, pos := "laws.go:1020", after := #[{ on := 20, ground := Ground.data }, { on := 23, ground := Ground.data }], guard := none }) (v := ?v24_1) rfl (by kernel_rfl) (by kernel_rfl) (by kernel_rfl) (fun _ _ _ h => h) (Or.inl ⟨by rfl, ?y24_1⟩) (by assumption) ?r24_1
    case y24_1 => (intro w hSw; (try dsimp only at hSw); go_simp; all_goals (with_reducible rfl))
    try simp only [Act.put, List.setIfInBounds_toArray, List.set_cons_zero, List.set_cons_succ]
    refine wpAnyH_take (i := 25) (oi := { dst := some 49, op := Op.move (Operand.tmp 48), type := 4, pos := "laws.go:1020", after := #[{ on := 24, ground := Ground.data }, { on := 20, ground := Ground.chain }], guard := none }) (v := ?v25_1) rfl (by kernel_rfl) (by kernel_rfl) (by kernel_rfl) (fun _ _ _ h => h) (Or.inl ⟨by rfl, ?y25_1⟩) (by assumption) ?r25_1
    case y25_1 => (intro w hSw; (try dsimp only at hSw); go_simp; all_goals (with_reducible rfl))
    try simp only [Act.put, List.setIfInBounds_toArray, List.set_cons_zero, List.set_cons_succ]
    refine wpAnyH_take (i := 26) (oi := { dst := some 50, op := Op.fieldAddr 26 (Operand.tmp 7) 2, type := 0, pos := "laws.go:1020", after := #[{ on := 25, ground := Ground.guard }], guard := some (25, true) }) (v := ?v26_1) rfl (by kernel_rfl) (by kernel_rfl) (by kernel_rfl) (fun _ _ _ h => h) (Or.inl ⟨by rfl, ?y26_1⟩) (by assumption) ?r26_1
    case y26_1 => (intro w hSw; (try dsimp only at hSw); go_simp; all_goals (with_reducible rfl))
    try simp only [Act.put, List.setIfInBounds_toArray, List.set_cons_zero, List.set_cons_succ]
    refine wpAnyH_take (i := 27) (oi := { dst := some 51, op := Op.load 3 (Operand.tmp 50), type := 3, pos := "laws.go:1020", after := #[{ on := 26, ground := Ground.data }, { on := 25, ground := Ground.guard }], guard := some (25, true) }) (v := ?v27_1) rfl (by kernel_rfl) (by kernel_rfl) (by kernel_rfl) (fun _ _ _ h => h) (Or.inl ⟨by rfl, ?y27_1⟩) (by assumption) ?r27_1
    case y27_1 => (intro w hSw; (try dsimp only at hSw); go_simp; all_goals (with_reducible rfl))
    try simp only [Act.put, List.setIfInBounds_toArray, List.set_cons_zero, List.set_cons_succ]
    refine wpAnyH_take (i := 28) (oi := { dst := some 52, op := Op.binOp BinOp.eql 3 (Operand.tmp 51) (Operand.const (Value.int IntKind.i64 (-1))) 3, type := 4, pos := "laws.go:1020", after := #[{ on := 27, ground := Ground.data }, { on := 25, ground := Ground.guard }], guard := some (25, true) }) (v := ?v28_1) rfl (by kernel_rfl) (by kernel_rfl) (by kernel_rfl) (fun _ _ _ h => h) (Or.inl ⟨by rfl, ?y28_1⟩) (by assumption) ?r28_1
    case y28_1 => (intro w hSw; (try dsimp only at hSw); go_simp; all_goals (with_reducible rfl))
    try simp only [Act.put, List.setIfInBounds_toArray, List.set_cons_zero, List.set_cons_succ]
    refine wpAnyH_take (i := 29) (oi := { dst := some 53, op := Op.pick (Operand.tmp 49) (Operand.tmp 52) (Operand.const (Value.bool false)), type := 4, pos := "laws.go:1020", after := #[{ on := 25, ground := Ground.data }, { on := 28, ground := Ground.data }], guard := none }) (v := ?v29_1) rfl (by kernel_rfl) (by kernel_rfl) (by kernel_rfl) (fun _ _ _ h => h) (Or.inl ⟨by rfl, ?y29_1⟩) (by assumption) ?r29_1
    case y29_1 => (intro w hSw; (try dsimp only at hSw); go_simp; all_goals (with_reducible rfl))
    try simp only [Act.put, List.setIfInBounds_toArray, List.set_cons_zero, List.set_cons_succ]
    refine wpAnyH_take (i := 30) (oi := { dst := some 54, op := Op.move (Operand.tmp 53), type := 4, pos := "laws.go:1020", after := #[{ on := 29, ground := Ground.data }, { on := 25, ground := Ground.chain }], guard := none }) (v := ?v30_1) rfl (by kernel_rfl) (by kernel_rfl) (by kernel_rfl) (fun _ _ _ h => h) (Or.inl ⟨by rfl, ?y30_1⟩) (by assumption) ?r30_1
    case y30_1 => (intro w hSw; (try dsimp only at hSw); go_simp; all_goals (with_reducible rfl))
    try simp only [Act.put, List.setIfInBounds_toArray, List.set_cons_zero, List.set_cons_succ]
    refine wpAnyH_take (i := 31) (oi := { dst := some 55, op := Op.load 26 (Operand.tmp 7), type := 26, pos := "laws.go:1020", after := #[{ on := 30, ground := Ground.guard }], guard := some (30, true) }) (v := ?v31_1) rfl (by kernel_rfl) (by kernel_rfl) (by kernel_rfl) (fun _ _ _ h => h) (Or.inl ⟨by rfl, ?y31_1⟩) (by assumption) ?r31_1
    case y31_1 => (intro w hSw; (try dsimp only at hSw); go_simp; all_goals (with_reducible rfl))
    try simp only [Act.put, List.setIfInBounds_toArray, List.set_cons_zero, List.set_cons_succ]
    refine wpAnyH_ready (rs := [32]) (by kernel_rfl) (by simp) ?_
    refine AllReadyH.cons (o := { dst := some 56, op := Op.call { callee := Callee.value (Operand.func 24), args := #[Operand.tmp 55], argTypes := #[26] }, type := 3, pos := "laws.go:1020", after := #[{ on := 31, ground := Ground.data }, { on := 30, ground := Ground.chain }, { on := 30, ground := Ground.guard }], guard := some (30, true) }) rfl (fun K hK => ?_) AllReadyH.nil
    go_simp
    go_at_call 24
    refine (implWorst_zero _ man _ xs (HRy0.out.grow (gby_trans (gby_drew (gby_refl _ none)) gA)) HLX.out HY0.out).mono ?_
    rintro e wB ⟨rfl, gB⟩
    have nL_0_ : wB.cell? _ = some _ := gB.cell mL_0_ (by simp); have nL_1_ : wB.cell? _ = some _ := gB.cell mL_1_ (by simp); have nL_2_ : wB.cell? _ = some _ := gB.cell mL_2_ (by simp); have nL_3_ : wB.cell? _ = some _ := gB.cell mL_3_ (by simp); have nX_0_ : wB.cell? _ = some _ := gB.cell mX_0_ (by simp); have nX_1_ : wB.cell? _ = some _ := gB.cell mX_1_ (by simp); have nX_2_ : wB.cell? _ = some _ := gB.cell mX_2_ (by simp); have nX_3_ : wB.cell? _ = some _ := gB.cell mX_3_ (by simp); have nY_0_ : wB.cell? _ = some _ := gB.cell mY_0_ (by simp); have nY_1_ : wB.cell? _ = some _ := gB.cell mY_1_ (by simp); have nY_2_ : wB.cell? _ = some _ := gB.cell mY_2_ (by simp); have nY_3_ : wB.cell? _ = some _ := gB.cell mY_3_ (by simp)
    go_wp2_with fail
    clear hHeld
    refine hK.out _ _ ?s32_1 (fun hHeld => ?_)
    case s32_1 => exact ⟨nL_0_, nL_1_, nL_2_, nL_3_, nX_0_, nX_1_, nX_2_, nX_3_, nY_0_, nY_1_, nY_2_, nY_3_⟩
    clear hK K
    try simp only [Act.put, List.setIfInBounds_toArray, List.set_cons_zero, List.set_cons_succ]
    refine wpAnyH_take (i := 33) (oi := { dst := some 57, op := Op.binOp BinOp.eql 3 (Operand.tmp 56) (Operand.const (Value.int IntKind.i64 (-1))) 3, type := 4, pos := "laws.go:1020", after := #[{ on := 32, ground := Ground.data }, { on := 30, ground := Ground.guard }], guard := some (30, true) }) (v := ?v33_1) rfl (by kernel_rfl) (by kernel_rfl) (by kernel_rfl) (fun _ _ _ h => h) (Or.inl ⟨by rfl, ?y33_1⟩) (by assumption) ?r33_1
    case y33_1 => (intro w hSw; (try dsimp only at hSw); go_simp; all_goals (with_reducible rfl))
    try simp only [Act.put, List.setIfInBounds_toArray, List.set_cons_zero, List.set_cons_succ]
    refine wpAnyH_take (i := 34) (oi := { dst := some 58, op := Op.pick (Operand.tmp 54) (Operand.tmp 57) (Operand.const (Value.bool false)), type := 4, pos := "laws.go:1020", after := #[{ on := 30, ground := Ground.data }, { on := 33, ground := Ground.data }], guard := none }) (v := ?v34_1) rfl (by kernel_rfl) (by kernel_rfl) (by kernel_rfl) (fun _ _ _ h => h) (Or.inl ⟨by rfl, ?y34_1⟩) (by assumption) ?r34_1
    case y34_1 => (intro w hSw; (try dsimp only at hSw); go_simp; all_goals (with_reducible rfl))
    try simp only [Act.put, List.setIfInBounds_toArray, List.set_cons_zero, List.set_cons_succ]
    refine wpAnyH_take (i := 35) (oi := { dst := some 59, op := Op.move (Operand.tmp 58), type := 4, pos := "laws.go:1020", after := #[{ on := 34, ground := Ground.data }, { on := 32, ground := Ground.chain }], guard := none }) (v := ?v35_1) rfl (by kernel_rfl) (by kernel_rfl) (by kernel_rfl) (fun _ _ _ h => h) (Or.inl ⟨by rfl, ?y35_1⟩) (by assumption) ?r35_1
    case y35_1 => (intro w hSw; (try dsimp only at hSw); go_simp; all_goals (with_reducible rfl))
    try simp only [Act.put, List.setIfInBounds_toArray, List.set_cons_zero, List.set_cons_succ]
    refine wpAnyH_take (i := 36) (oi := { dst := some 60, op := Op.load 26 (Operand.tmp 6), type := 26, pos := "laws.go:1020", after := #[{ on := 35, ground := Ground.guard }], guard := some (35, true) }) (v := ?v36_1) rfl (by kernel_rfl) (by kernel_rfl) (by kernel_rfl) (fun _ _ _ h => h) (Or.inl ⟨by rfl, ?y36_1⟩) (by assumption) ?r36_1
    case y36_1 => (intro w hSw; (try dsimp only at hSw); go_simp; all_goals (with_reducible rfl))
    try simp only [Act.put, List.setIfInBounds_toArray, List.set_cons_zero, List.set_cons_succ]
    refine wpAnyH_take (i := 37) (oi := { dst := some 61, op := Op.move (Operand.tmp 5), type := 3, pos := "laws.go:1020", after := #[{ on := 35, ground := Ground.guard }], guard := some (35, true) }) (v := ?v37_1) rfl (by kernel_rfl) (by kernel_rfl) (by kernel_rfl) (fun _ _ _ h => h) (Or.inl ⟨by rfl, ?y37_1⟩) (by assumption) ?r37_1
    case y37_1 => (intro w hSw; (try dsimp only at hSw); go_simp; all_goals (with_reducible rfl))
    try simp only [Act.put, List.setIfInBounds_toArray, List.set_cons_zero, List.set_cons_succ]
    refine wpAnyH_take (i := 40) (oi := { dst := some 64, op := Op.fieldAddr 26 (Operand.tmp 6) 0, type := 0, pos := "laws.go:1020", after := #[{ on := 35, ground := Ground.guard }], guard := some (35, true) }) (v := ?v40_1) rfl (by kernel_rfl) (by kernel_rfl) (by kernel_rfl) (fun _ _ _ h => h) (Or.inl ⟨by rfl, ?y40_1⟩) (by assumption) ?r40_1
    case y40_1 => (intro w hSw; (try dsimp only at hSw); go_simp; all_goals (with_reducible rfl))
    try simp only [Act.put, List.setIfInBounds_toArray, List.set_cons_zero, List.set_cons_succ]
    refine wpAnyH_take (i := 41) (oi := { dst := some 65, op := Op.load 3 (Operand.tmp 64), type := 3, pos := "laws.go:1020", after := #[{ on := 40, ground := Ground.data }, { on := 35, ground := Ground.guard }], guard := some (35, true) }) (v := ?v41_1) rfl (by kernel_rfl) (by kernel_rfl) (by kernel_rfl) (fun _ _ _ h => h) (Or.inl ⟨by rfl, ?y41_1⟩) (by assumption) ?r41_1
    case y41_1 => (intro w hSw; (try dsimp only at hSw); go_simp; all_goals (with_reducible rfl))
    try simp only [Act.put, List.setIfInBounds_toArray, List.set_cons_zero, List.set_cons_succ]
    refine wpAnyH_ready (rs := [38]) (by kernel_rfl) (by simp) ?_
    refine AllReadyH.cons (o := { dst := some 62, op := Op.call { callee := Callee.value (Operand.func 19), args := #[Operand.tmp 60, Operand.tmp 61], argTypes := #[26, 3] }, type := 26, pos := "laws.go:1020", after := #[{ on := 36, ground := Ground.data }, { on := 37, ground := Ground.data }, { on := 35, ground := Ground.chain }, { on := 35, ground := Ground.guard }], guard := some (35, true) }) rfl (fun K hK => ?_) AllReadyH.nil
    go_simp
    go_at_call 19
    refine (implClear_same _ cn bn _ _ _ xs (HRx0.out.grow (gby_trans (gby_trans (gby_drew (gby_refl _ none)) gA) gB)) HLX.out HCK.out hb5 HCS.out).mono ?_
    rintro e wC ⟨vC, rfl, oC, gC⟩
    have rf_ := fun w9 => run_logField0 w9 (.int .i64 (cn : Int)) (.int .i64 (man : Int)) (.int .i64 (clF cn cf)) vC
    have rL_0_ : wC.cell? _ = some _ := gC.cell nL_0_ (by simp); have rL_1_ : wC.cell? _ = some _ := gC.cell nL_1_ (by simp); have rL_2_ : wC.cell? _ = some _ := gC.cell nL_2_ (by simp); have rL_3_ : wC.cell? _ = some _ := gC.cell nL_3_ (by simp); have rX_0_ : wC.cell? _ = some _ := gC.cell nX_0_ (by simp); have rX_1_ : wC.cell? _ = some _ := gC.cell nX_1_ (by simp); have rX_2_ : wC.cell? _ = some _ := gC.cell nX_2_ (by simp); have rX_3_ : wC.cell? _ = some _ := gC.cell nX_3_ (by simp); have rY_0_ : wC.cell? _ = some _ := gC.cell nY_0_ (by simp); have rY_1_ : wC.cell? _ = some _ := gC.cell nY_1_ (by simp); have rY_2_ : wC.cell? _ = some _ := gC.cell nY_2_ (by simp); have rY_3_ : wC.cell? _ = some _ := gC.cell nY_3_ (by simp)
    go_wp2_with fail
    clear hHeld
    refine hK.out _ _ ?s38_1 (fun hHeld => ?_)
    case s38_1 => exact ⟨rL_0_, rL_1_, rL_2_, rL_3_, rX_0_, rX_1_, rX_2_, rX_3_, rY_0_, rY_1_, rY_2_, rY_3_⟩
    clear hK K
    try simp only [Act.put, List.setIfInBounds_toArray, List.set_cons_zero, List.set_cons_succ]
    refine wpAnyH_take (i := 39) (oi := { dst := some 63, op := Op.field 26 (Operand.tmp 62) 0, type := 3, pos := "laws.go:1020", after := #[{ on := 38, ground := Ground.data }, { on := 35, ground := Ground.guard }], guard := some (35, true) }) (v := ?v39_1) rfl (by kernel_rfl) (by kernel_rfl) (by kernel_rfl) (fun _ _ _ h => h) (Or.inl ⟨by rfl, ?y39_1⟩) (by assumption) ?r39_1
    case y39_1 => (intro w hSw; (try dsimp only at hSw); go_simp; all_goals (with_reducible rfl))
    try simp only [Act.put, List.setIfInBounds_toArray, List.set_cons_zero, List.set_cons_succ]
    refine wpAnyH_take (i := 42) (oi := { dst := some 66, op := Op.binOp BinOp.eql 3 (Operand.tmp 63) (Operand.tmp 65) 3, type := 4, pos := "laws.go:1020", after := #[{ on := 39, ground := Ground.data }, { on := 41, ground := Ground.data }, { on := 35, ground := Ground.guard }], guard := some (35, true) }) (v := ?v42_1) rfl (by kernel_rfl) (by kernel_rfl) (by kernel_rfl) (fun _ _ _ h => h) (Or.inl ⟨by rfl, ?y42_1⟩) (by assumption) ?r42_1
    case y42_1 => (intro w hSw; (try dsimp only at hSw); go_simp; all_goals (with_reducible rfl))
    try simp only [Act.put, List.setIfInBounds_toArray, List.set_cons_zero, List.set_cons_succ]
    refine wpAnyH_take (i := 43) (oi := { dst := some 67, op := Op.pick (Operand.tmp 59) (Operand.tmp 66) (Operand.const (Value.bool false)), type := 4, pos := "laws.go:1020", after := #[{ on := 35, ground := Ground.data }, { on := 42, ground := Ground.data }], guard := none }) (v := ?v43_1) rfl (by kernel_rfl) (by kernel_rfl) (by kernel_rfl) (fun _ _ _ h => h) (Or.inl ⟨by rfl, ?y43_1⟩) (by assumption) ?r43_1
    case y43_1 => (intro w hSw; (try dsimp only at hSw); go_simp; all_goals (with_reducible rfl))
    try simp only [Act.put, List.setIfInBounds_toArray, List.set_cons_zero, List.set_cons_succ]
    refine wpAnyH_take (i := 44) (oi := { dst := some 2, op := Op.assign (Operand.tmp 67), type := 4, pos := "laws.go:1020", after := #[{ on := 43, ground := Ground.data }, { on := 38, ground := Ground.chain }, { on := 0, ground := Ground.phase }, { on := 1, ground := Ground.phase }, { on := 2, ground := Ground.phase }, { on := 3, ground := Ground.phase }, { on := 4, ground := Ground.phase }, { on := 5, ground := Ground.phase }, { on := 6, ground := Ground.phase }, { on := 7, ground := Ground.phase }, { on := 8, ground := Ground.phase }, { on := 9, ground := Ground.phase }, { on := 10, ground := Ground.phase }, { on := 11, ground := Ground.phase }, { on := 12, ground := Ground.phase }, { on := 13, ground := Ground.phase }, { on := 14, ground := Ground.phase }, { on := 15, ground := Ground.phase }, { on := 16, ground := Ground.phase }, { on := 17, ground := Ground.phase }, { on := 18, ground := Ground.phase }, { on := 19, ground := Ground.phase }, { on := 20, ground := Ground.phase }, { on := 21, ground := Ground.phase }, { on := 22, ground := Ground.phase }, { on := 23, ground := Ground.phase }, { on := 24, ground := Ground.phase }, { on := 25, ground := Ground.phase }, { on := 26, ground := Ground.phase }, { on := 27, ground := Ground.phase }, { on := 28, ground := Ground.phase }, { on := 29, ground := Ground.phase }, { on := 30, ground := Ground.phase }, { on := 31, ground := Ground.phase }, { on := 32, ground := Ground.phase }, { on := 33, ground := Ground.phase }, { on := 34, ground := Ground.phase }, { on := 35, ground := Ground.phase }, { on := 36, ground := Ground.phase }, { on := 37, ground := Ground.phase }, { on := 38, ground := Ground.phase }, { on := 39, ground := Ground.phase }, { on := 40, ground := Ground.phase }, { on := 41, ground := Ground.phase }, { on := 42, ground := Ground.phase }, { on := 43, ground := Ground.phase }], guard := none }) (v := ?v44_1) rfl (by kernel_rfl) (by kernel_rfl) (by kernel_rfl) (fun _ _ _ h => h) (Or.inl ⟨by rfl, ?y44_1⟩) (by assumption) ?r44_1
    case y44_1 => (intro w hSw; (try dsimp only at hSw); go_simp; all_goals (with_reducible rfl))
    try simp only [Act.put, List.setIfInBounds_toArray, List.set_cons_zero, List.set_cons_succ]
    refine wpAnyH_done (by kernel_rfl) ?_ _
    go_wp2
    go_ret
    exact ⟨rfl, gby_below (gby_trans G38_.out (gby_trans (gby_trans (gby_trans (gby_drew (gby_refl _ none)) gA) gB) gC))⟩

end Go.Proofs.Ytgagbhkidponnad
