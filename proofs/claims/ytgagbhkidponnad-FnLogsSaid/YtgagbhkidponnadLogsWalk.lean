/-
  The walk of FnLogs.
-/
import Derived.Test.YtgagbhkidponnadDrawLog
import Derived.Test.YtgagbhkidponnadBPost0
import Derived.Test.YtgagbhkidponnadBig
import Derived.Test.YtgagbhkidponnadDrawPlaces
import Derived.Deep.QuietTactic
import Derived.Deep.RegionHeld3
namespace Go.Proofs.Ytgagbhkidponnad
open Go Go.RowKit
set_option linter.unusedVariables false
set_option maxRecDepth 8000 in
set_option maxHeartbeats 8000000 in
theorem walk_logs (a : Option Addr) (len cap : Nat) (zs : List Int) (W : World) (hB : Bytes W a len zs) :
    Calls Try.prog 5 #[.slice a len cap] W fun e w' => e = .returned (.bool true) ∧ Below W.heap.size W w' := by
  have HB := Lib.hid hB
  clear hB
  by_cases hbig : (1048576 : Int) < (len : Int)
  · go_enter Try.func5, Try.ntmps5
    go_wp2
    go_ret
    exact ⟨rfl, Below.refl _ _⟩
  · skip
    go_enter Try.func5, Try.ntmps5
    go_wp2_with fail
    go_at_call 20
    refine (big_any _ _ _ _).mono ?_
    rintro e w1 ⟨rfl, rfl⟩
    go_wp2_with fail
    go_at_call 21
    refine (drawLog_any _ _ _ _ _ (bytes_grow HB.out (gby_refl _ _)) (by omega)).mono ?_
    rintro e w2 ⟨s, man, fi, v_, xs, rfl, hb, o, g⟩
    have HOK := Lib.hid hb
    have hs0 : s ≤ 65535 := by have := hb.1; omega
    have hm0 : man ≤ 65535 := by have := hb.2.1; omega
    have HLX : Hid (szL shI xs ≤ 1048576) := Lib.hid (by rw [szL_I, hb.2.2.1]; omega)
    obtain ⟨la_, lc, rfl, _, hi_⟩ := rdI1_in (OwU.rd o)
    obtain ⟨lb, lo, rfl, hlc⟩ := hi_.resolve_left (by have := hb.2.2.1; omega)
    have HLC := Lib.hid hlc
    have HRl := Lib.hid (OwU.rd o)
    unfold RdN1 at HLC
    have h16 := hb.2.2.1
    rw [h16] at HRl HLC ⊢
    clear hb o hlc h16
    unfold vLog
    have szw2 := g.size
    try simp only [World.size_alloc] at szw2
    have G1_ := Lib.hid (show (W).grownBy (w2) none from gby_trans (gby_refl _ _) g)
    clear g
    have HTl2_ := Lib.hid (gby_refl (w2) none)
    have MG3_ := Lib.hid (show (W).grownBy (w2) none from G1_.out)
    have al_ : (w2).grownBy ((w2).alloc (.cells #[.int .i64 (s : Int), .int .i64 (man : Int), .int .i64 fi, .slice (some ⟨lb, lo, none⟩) 16 lc] 26)) none := gby_alloc (gby_refl _ _) _
    have G4_ := Lib.hid (show (W).grownBy ((w2.alloc (.cells #[.int .i64 (s : Int), .int .i64 (man : Int), .int .i64 fi, .slice (some ⟨lb, lo, none⟩) 16 lc] 26))) none from gby_trans G1_.out al_)
    have HTl5_ := Lib.hid (show (w2).grownBy ((w2.alloc (.cells #[.int .i64 (s : Int), .int .i64 (man : Int), .int .i64 fi, .slice (some ⟨lb, lo, none⟩) 16 lc] 26))) none from gby_trans HTl2_.out al_)
    clear HTl2_
    have rL6_ := Lib.hid (show ((w2.alloc (.cells #[.int .i64 (s : Int), .int .i64 (man : Int), .int .i64 fi, .slice (some ⟨lb, lo, none⟩) 16 lc] 26))).heap[w2.heap.size]? = some (.cells #[.int .i64 (s : Int), .int .i64 (man : Int), .int .i64 fi, .slice (some ⟨lb, lo, none⟩) 16 lc] 26 (0, 0)) from by first | exact heap_alloc_new _ _ | exact heap_pair _ _ _ | exact heap_trip _ _ _ _)
    clear al_
    have L_0_ : ((w2.alloc (.cells #[.int .i64 (s : Int), .int .i64 (man : Int), .int .i64 fi, .slice (some ⟨lb, lo, none⟩) 16 lc] 26))).cell? ⟨w2.heap.size, 0, none⟩ = some (.int .i64 (s : Int)) := cell_of_row _ _ 0 _ _ _ rL6_.out
    have L_1_ : ((w2.alloc (.cells #[.int .i64 (s : Int), .int .i64 (man : Int), .int .i64 fi, .slice (some ⟨lb, lo, none⟩) 16 lc] 26))).cell? ⟨w2.heap.size, 1, none⟩ = some (.int .i64 (man : Int)) := cell_of_row _ _ 1 _ _ _ rL6_.out
    have L_2_ : ((w2.alloc (.cells #[.int .i64 (s : Int), .int .i64 (man : Int), .int .i64 fi, .slice (some ⟨lb, lo, none⟩) 16 lc] 26))).cell? ⟨w2.heap.size, 2, none⟩ = some (.int .i64 fi) := cell_of_row _ _ 2 _ _ _ rL6_.out
    have L_3_ : ((w2.alloc (.cells #[.int .i64 (s : Int), .int .i64 (man : Int), .int .i64 fi, .slice (some ⟨lb, lo, none⟩) 16 lc] 26))).cell? ⟨w2.heap.size, 3, none⟩ = some (.slice (some ⟨lb, lo, none⟩) 16 lc) := cell_of_row _ _ 3 _ _ _ rL6_.out
    go_wp2_with fail
    go_at_call 22
    refine (places_any _ _ _ _ _ (bytes_grow HB.out G4_.out) (by omega)).mono ?_
    rintro e w3 ⟨v3, ps, rfl, hl12, hps, o3, g⟩
    obtain ⟨pb, po, pc, rfl, hpc⟩ := o3.twelve hl12
    have HPS := Lib.hid (fun j (hj : j < 12) => hps (ps.getD j 0) (by rw [List.getD_eq_getElem?_getD, List.getElem?_eq_getElem (by omega)]; exact List.getElem_mem _))
    have HPC := Lib.hid hpc
    clear o3 hpc hps hl12
    have szw3 := g.size
    try simp only [World.size_alloc] at szw3
    clear L_0_ L_1_ L_2_ L_3_
    have rL7_ := Lib.hid (show (w3).heap[w2.heap.size]? = some (.cells #[.int .i64 (s : Int), .int .i64 (man : Int), .int .i64 fi, .slice (some ⟨lb, lo, none⟩) 16 lc] 26 (0, 0)) from row_held g rL6_.out)
    clear rL6_
    have G8_ := Lib.hid (show (W).grownBy (w3) none from gby_trans G4_.out g)
    have HTl9_ := Lib.hid (show (w2).grownBy (w3) none from gby_trans HTl5_.out g)
    clear HTl5_
    clear g
    have L_0_ : (w3).cell? ⟨w2.heap.size, 0, none⟩ = some (.int .i64 (s : Int)) := cell_of_row _ _ 0 _ _ _ rL7_.out
    have L_1_ : (w3).cell? ⟨w2.heap.size, 1, none⟩ = some (.int .i64 (man : Int)) := cell_of_row _ _ 1 _ _ _ rL7_.out
    have L_2_ : (w3).cell? ⟨w2.heap.size, 2, none⟩ = some (.int .i64 fi) := cell_of_row _ _ 2 _ _ _ rL7_.out
    have L_3_ : (w3).cell? ⟨w2.heap.size, 3, none⟩ = some (.slice (some ⟨lb, lo, none⟩) 16 lc) := cell_of_row _ _ 3 _ _ _ rL7_.out
    have HTP10_ := Lib.hid (gby_refl (w3) none)
    have MG11_ := Lib.hid (show (W).grownBy (w3) none from G8_.out)
    have MR12_ := Lib.hid rL7_.out
    obtain ⟨q, hq⟩ : ∃ q, q = ps.getD 0 0 := ⟨_, rfl⟩
    obtain ⟨q1, q2⟩ := (show IsP q from by rw [hq]; exact HPS.out 0 (by omega))
    have HCq0 := Lib.hid (HPC.out 0 (by omega))
    rw [← hq] at HCq0
    clear hq
    have p0_ : (w3).cell? ⟨pb, po, none⟩ = some (.int .i64 q) := (HTP10_.out).cell HCq0.out (by simp)
    obtain ⟨kn, hkn⟩ : ∃ kn : Nat, q % 16 = (kn : Int) := ⟨(q % 16).toNat, by omega⟩
    have hk5 : kn ≤ 15 := by omega
    have e2_ : q.tmod 16 = (kn : Int) := by rw [Int.tmod_eq_emod_of_nonneg (by omega)]; exact hkn
    have hk0 : (0 : Int) ≤ (kn : Int) := by omega
    have hk16 : (kn : Int) < 16 := by omega
    have htk : ((kn : Int)).toNat = kn := by omega
    obtain ⟨t, ht⟩ : ∃ t, t = rpS s kn := ⟨_, rfl⟩
    obtain ⟨f_, hf_⟩ : ∃ f, f = repF s fi kn := ⟨_, rfl⟩
    obtain ⟨r, hr⟩ : ∃ r, r = repV man xs kn := ⟨_, rfl⟩
    have HTK := Lib.hid (show LOk (t : Int) (man : Int) f_ xs by rw [ht, hf_]; exact rep_log HOK.out hk5)
    have ht5 : t ≤ 65535 := by rw [ht]; exact rpS_le hs0 hk5
    have HTB := Lib.hid (show bits .and .i64 ((t : Int) / 2 ^ kn) 1 = 1 from bit_and1 t kn ht5 (by rw [ht]; exact rpS_bit s kn))
    have HTO := Lib.hid (show bits .or .i64 (t : Int) (s : Int) = (t : Int) by rw [or_nat _ _ (by omega) (by omega), ht, rpS_or])
    have HWM := Lib.hid (show worst s man xs 16 ≤ worst t man xs 16 from worst_mono (fun i hi => by rw [ht]; exact rpS_keep kn hi) 16)
    have HCC := Lib.hid (show ∀ (W : World) (v : Value), RdL shI W v xs → Calls Try.prog 14 #[vLog (s : Int) (man : Int) fi v, .int .i64 (kn : Int)] W (ResIReportError (t : Int) (man : Int) f_ xs r W) from fun W v H => by rw [ht, hf_, hr]; exact implReport_in W s man kn fi v xs H HLX.out HOK.out hk5)
    have HTT := Lib.hid ht
    have HFF := Lib.hid hf_
    have HRR := Lib.hid hr
    clear ht hf_ hr hkn
    go_wp2_with fail
    go_at_call 14
    refine (HCC.out _ _ (HRl.out.grow HTl9_.out)).mono ?_
    rintro e w4 ⟨v1_, rfl, o, g⟩
    have szw4 := g.size
    try simp only [World.size_alloc] at szw4
    clear L_0_ L_1_ L_2_ L_3_
    have rL13_ := Lib.hid (show (w4).heap[w2.heap.size]? = some (.cells #[.int .i64 (s : Int), .int .i64 (man : Int), .int .i64 fi, .slice (some ⟨lb, lo, none⟩) 16 lc] 26 (0, 0)) from row_held g rL7_.out)
    clear rL7_
    have G14_ := Lib.hid (show (W).grownBy (w4) none from gby_trans G8_.out g)
    have HTl15_ := Lib.hid (show (w2).grownBy (w4) none from gby_trans HTl9_.out g)
    clear HTl9_
    have HTP16_ := Lib.hid (show (w3).grownBy (w4) none from gby_trans HTP10_.out g)
    clear HTP10_
    clear g
    obtain ⟨xa, xn, xc, hv_⟩ := RdL.form (OwU.rd o)
    subst hv_
    have HRx := Lib.hid (OwU.rd o)
    clear o
    have L_0_ : (w4).cell? ⟨w2.heap.size, 0, none⟩ = some (.int .i64 (s : Int)) := cell_of_row _ _ 0 _ _ _ rL13_.out
    have L_1_ : (w4).cell? ⟨w2.heap.size, 1, none⟩ = some (.int .i64 (man : Int)) := cell_of_row _ _ 1 _ _ _ rL13_.out
    have L_2_ : (w4).cell? ⟨w2.heap.size, 2, none⟩ = some (.int .i64 fi) := cell_of_row _ _ 2 _ _ _ rL13_.out
    have L_3_ : (w4).cell? ⟨w2.heap.size, 3, none⟩ = some (.slice (some ⟨lb, lo, none⟩) 16 lc) := cell_of_row _ _ 3 _ _ _ rL13_.out
    have HTx17_ := Lib.hid (gby_refl (w4) none)
    have MG18_ := Lib.hid (show (W).grownBy (w4) none from G14_.out)
    have MR19_ := Lib.hid rL13_.out
    clear L_0_ L_1_ L_2_ L_3_
    have al_ : (w4).grownBy ((w4).alloc (.cells #[.int .i64 (t : Int), .int .i64 (man : Int), .int .i64 f_, .slice xa xn xc] 26)) none := gby_alloc (gby_refl _ _) _
    have rL20_ := Lib.hid (show ((w4.alloc (.cells #[.int .i64 (t : Int), .int .i64 (man : Int), .int .i64 f_, .slice xa xn xc] 26))).heap[w2.heap.size]? = some (.cells #[.int .i64 (s : Int), .int .i64 (man : Int), .int .i64 fi, .slice (some ⟨lb, lo, none⟩) 16 lc] 26 (0, 0)) from row_held al_ rL13_.out)
    clear rL13_
    have G21_ := Lib.hid (show (W).grownBy ((w4.alloc (.cells #[.int .i64 (t : Int), .int .i64 (man : Int), .int .i64 f_, .slice xa xn xc] 26))) none from gby_trans G14_.out al_)
    have HTl22_ := Lib.hid (show (w2).grownBy ((w4.alloc (.cells #[.int .i64 (t : Int), .int .i64 (man : Int), .int .i64 f_, .slice xa xn xc] 26))) none from gby_trans HTl15_.out al_)
    clear HTl15_
    have HTP23_ := Lib.hid (show (w3).grownBy ((w4.alloc (.cells #[.int .i64 (t : Int), .int .i64 (man : Int), .int .i64 f_, .slice xa xn xc] 26))) none from gby_trans HTP16_.out al_)
    clear HTP16_
    have HTx24_ := Lib.hid (show (w4).grownBy ((w4.alloc (.cells #[.int .i64 (t : Int), .int .i64 (man : Int), .int .i64 f_, .slice xa xn xc] 26))) none from gby_trans HTx17_.out al_)
    clear HTx17_
    have rX25_ := Lib.hid (show ((w4.alloc (.cells #[.int .i64 (t : Int), .int .i64 (man : Int), .int .i64 f_, .slice xa xn xc] 26))).heap[w4.heap.size]? = some (.cells #[.int .i64 (t : Int), .int .i64 (man : Int), .int .i64 f_, .slice xa xn xc] 26 (0, 0)) from by first | exact heap_alloc_new _ _ | exact heap_pair _ _ _ | exact heap_trip _ _ _ _)
    clear al_
    have L_0_ : ((w4.alloc (.cells #[.int .i64 (t : Int), .int .i64 (man : Int), .int .i64 f_, .slice xa xn xc] 26))).cell? ⟨w2.heap.size, 0, none⟩ = some (.int .i64 (s : Int)) := cell_of_row _ _ 0 _ _ _ rL20_.out
    have L_1_ : ((w4.alloc (.cells #[.int .i64 (t : Int), .int .i64 (man : Int), .int .i64 f_, .slice xa xn xc] 26))).cell? ⟨w2.heap.size, 1, none⟩ = some (.int .i64 (man : Int)) := cell_of_row _ _ 1 _ _ _ rL20_.out
    have L_2_ : ((w4.alloc (.cells #[.int .i64 (t : Int), .int .i64 (man : Int), .int .i64 f_, .slice xa xn xc] 26))).cell? ⟨w2.heap.size, 2, none⟩ = some (.int .i64 fi) := cell_of_row _ _ 2 _ _ _ rL20_.out
    have L_3_ : ((w4.alloc (.cells #[.int .i64 (t : Int), .int .i64 (man : Int), .int .i64 f_, .slice xa xn xc] 26))).cell? ⟨w2.heap.size, 3, none⟩ = some (.slice (some ⟨lb, lo, none⟩) 16 lc) := cell_of_row _ _ 3 _ _ _ rL20_.out
    have X_0_ : ((w4.alloc (.cells #[.int .i64 (t : Int), .int .i64 (man : Int), .int .i64 f_, .slice xa xn xc] 26))).cell? ⟨w4.heap.size, 0, none⟩ = some (.int .i64 (t : Int)) := cell_of_row _ _ 0 _ _ _ rX25_.out
    have X_1_ : ((w4.alloc (.cells #[.int .i64 (t : Int), .int .i64 (man : Int), .int .i64 f_, .slice xa xn xc] 26))).cell? ⟨w4.heap.size, 1, none⟩ = some (.int .i64 (man : Int)) := cell_of_row _ _ 1 _ _ _ rX25_.out
    have X_2_ : ((w4.alloc (.cells #[.int .i64 (t : Int), .int .i64 (man : Int), .int .i64 f_, .slice xa xn xc] 26))).cell? ⟨w4.heap.size, 2, none⟩ = some (.int .i64 f_) := cell_of_row _ _ 2 _ _ _ rX25_.out
    have X_3_ : ((w4.alloc (.cells #[.int .i64 (t : Int), .int .i64 (man : Int), .int .i64 f_, .slice xa xn xc] 26))).cell? ⟨w4.heap.size, 3, none⟩ = some (.slice xa xn xc) := cell_of_row _ _ 3 _ _ _ rX25_.out
    have hss_ := HTB.out
    have hoo_ := HTO.out
    have q1_ : ((1 : Int) != 1) = false := rfl
    have q2_ : ((t : Int) != (t : Int)) = false := by simp
    by_cases h0 : s = 0
    · have z1_ : ((s : Int) != 0) = false := by rw [h0]; rfl
      have z2_ : ((s : Int) == 0) = true := by rw [h0]; rfl
      have hfk : f_ = (kn : Int) := by rw [HFF.out]; unfold repF; rw [if_pos h0]
      have HFF2 := Lib.hid HFF
      clear HFF2 HFF h0
      subst hfk
      have q3_ : ((kn : Int) != (kn : Int)) = false := by simp
      go_wp2_with fail
      go_at_call 23
      refine (implLog_yes _ _ _ _ _ xs (HRl.out.grow HTl22_.out) HLX.out HOK.out).mono ?_
      rintro e w5 ⟨rfl, g⟩
      have szw5 := g.size
      try simp only [World.size_alloc] at szw5
      try simp only [World.size_setCell] at szw5
      clear L_0_ L_1_ L_2_ L_3_ X_0_ X_1_ X_2_ X_3_
      have rL26_ := Lib.hid (show (w5).heap[w2.heap.size]? = some (.cells #[.int .i64 (s : Int), .int .i64 (man : Int), .int .i64 fi, .slice (some ⟨lb, lo, none⟩) 16 lc] 26 (0, 0)) from row_held g rL20_.out)
      clear rL20_
      have rX27_ := Lib.hid (show (w5).heap[w4.heap.size]? = some (.cells #[.int .i64 (t : Int), .int .i64 (man : Int), .int .i64 (kn : Int), .slice xa xn xc] 26 (0, 0)) from row_held g rX25_.out)
      clear rX25_
      have G28_ := Lib.hid (show (W).grownBy (w5) none from gby_trans G21_.out g)
      have HTl29_ := Lib.hid (show (w2).grownBy (w5) none from gby_trans HTl22_.out g)
      clear HTl22_
      have HTP30_ := Lib.hid (show (w3).grownBy (w5) none from gby_trans HTP23_.out g)
      clear HTP23_
      have HTx31_ := Lib.hid (show (w4).grownBy (w5) none from gby_trans HTx24_.out g)
      clear HTx24_
      clear g
      have L_0_ : (w5).cell? ⟨w2.heap.size, 0, none⟩ = some (.int .i64 (s : Int)) := cell_of_row _ _ 0 _ _ _ rL26_.out
      have L_1_ : (w5).cell? ⟨w2.heap.size, 1, none⟩ = some (.int .i64 (man : Int)) := cell_of_row _ _ 1 _ _ _ rL26_.out
      have L_2_ : (w5).cell? ⟨w2.heap.size, 2, none⟩ = some (.int .i64 fi) := cell_of_row _ _ 2 _ _ _ rL26_.out
      have L_3_ : (w5).cell? ⟨w2.heap.size, 3, none⟩ = some (.slice (some ⟨lb, lo, none⟩) 16 lc) := cell_of_row _ _ 3 _ _ _ rL26_.out
      have X_0_ : (w5).cell? ⟨w4.heap.size, 0, none⟩ = some (.int .i64 (t : Int)) := cell_of_row _ _ 0 _ _ _ rX27_.out
      have X_1_ : (w5).cell? ⟨w4.heap.size, 1, none⟩ = some (.int .i64 (man : Int)) := cell_of_row _ _ 1 _ _ _ rX27_.out
      have X_2_ : (w5).cell? ⟨w4.heap.size, 2, none⟩ = some (.int .i64 (kn : Int)) := cell_of_row _ _ 2 _ _ _ rX27_.out
      have X_3_ : (w5).cell? ⟨w4.heap.size, 3, none⟩ = some (.slice xa xn xc) := cell_of_row _ _ 3 _ _ _ rX27_.out
      go_wp2_with fail
      go_at_call 23
      refine (implLog_yes _ _ _ _ _ xs (HRx.out.grow HTx31_.out) HLX.out HTK.out).mono ?_
      rintro e w6 ⟨rfl, g⟩
      have szw6 := g.size
      try simp only [World.size_alloc] at szw6
      try simp only [World.size_setCell] at szw6
      clear L_0_ L_1_ L_2_ L_3_ X_0_ X_1_ X_2_ X_3_
      have rL32_ := Lib.hid (show (w6).heap[w2.heap.size]? = some (.cells #[.int .i64 (s : Int), .int .i64 (man : Int), .int .i64 fi, .slice (some ⟨lb, lo, none⟩) 16 lc] 26 (0, 0)) from row_held g rL26_.out)
      clear rL26_
      have rX33_ := Lib.hid (show (w6).heap[w4.heap.size]? = some (.cells #[.int .i64 (t : Int), .int .i64 (man : Int), .int .i64 (kn : Int), .slice xa xn xc] 26 (0, 0)) from row_held g rX27_.out)
      clear rX27_
      have G34_ := Lib.hid (show (W).grownBy (w6) none from gby_trans G28_.out g)
      have HTl35_ := Lib.hid (show (w2).grownBy (w6) none from gby_trans HTl29_.out g)
      clear HTl29_
      have HTP36_ := Lib.hid (show (w3).grownBy (w6) none from gby_trans HTP30_.out g)
      clear HTP30_
      have HTx37_ := Lib.hid (show (w4).grownBy (w6) none from gby_trans HTx31_.out g)
      clear HTx31_
      clear g
      have L_0_ : (w6).cell? ⟨w2.heap.size, 0, none⟩ = some (.int .i64 (s : Int)) := cell_of_row _ _ 0 _ _ _ rL32_.out
      have L_1_ : (w6).cell? ⟨w2.heap.size, 1, none⟩ = some (.int .i64 (man : Int)) := cell_of_row _ _ 1 _ _ _ rL32_.out
      have L_2_ : (w6).cell? ⟨w2.heap.size, 2, none⟩ = some (.int .i64 fi) := cell_of_row _ _ 2 _ _ _ rL32_.out
      have L_3_ : (w6).cell? ⟨w2.heap.size, 3, none⟩ = some (.slice (some ⟨lb, lo, none⟩) 16 lc) := cell_of_row _ _ 3 _ _ _ rL32_.out
      have X_0_ : (w6).cell? ⟨w4.heap.size, 0, none⟩ = some (.int .i64 (t : Int)) := cell_of_row _ _ 0 _ _ _ rX33_.out
      have X_1_ : (w6).cell? ⟨w4.heap.size, 1, none⟩ = some (.int .i64 (man : Int)) := cell_of_row _ _ 1 _ _ _ rX33_.out
      have X_2_ : (w6).cell? ⟨w4.heap.size, 2, none⟩ = some (.int .i64 (kn : Int)) := cell_of_row _ _ 2 _ _ _ rX33_.out
      have X_3_ : (w6).cell? ⟨w4.heap.size, 3, none⟩ = some (.slice xa xn xc) := cell_of_row _ _ 3 _ _ _ rX33_.out
      go_wp2_with fail
      have HRl0 := Lib.hid (HRl.out.grow HTl35_.out)
      have HRx0 := Lib.hid (HRx.out.grow HTx37_.out)
      have hwm_ := HWM.out
      have hwm2_ : decide (worst s man xs 16 ≤ worst t man xs 16) = true := decide_eq_true hwm_
      cases hbit : bitB man kn
      · skip
        have hrv : r = xs.getD kn 0 := by rw [HRR.out]; unfold repV; rw [hbit, if_neg (by simp)]
        have HRV := Lib.hid hrv
        have hr0 := HOK.out.2.2.2.1 kn (by omega)
        rw [← hrv] at hr0
        have hb0_ := bit_and0 man kn hm0 hbit
        have r1_ : (r == -1) = false := beq_eq_false_iff_ne.2 (by omega)
        have r2_ : (r == r) = true := by simp
        have hwr_ : r ≤ worst t man xs 16 := by rw [hrv]; exact worst_has (by rw [HTT.out]; exact rpS_bit s kn) hbit 16 (by omega)
        have hwr2_ : decide (r ≤ worst t man xs 16) = true := decide_eq_true hwr_
        have sv_ := (HTl35_.out).cell (HLC.out kn (by omega)) (by simp)
        rw [← hrv] at sv_
        have r3_ : ((0 : Int) == 1) = false := rfl
        clear hrv hbit
        refine wp_region_held_drew (S := fun w' => w'.cell? ⟨w2.heap.size, 0, none⟩ = some (.int .i64 (s : Int)) ∧ w'.cell? ⟨w2.heap.size, 1, none⟩ = some (.int .i64 (man : Int)) ∧ w'.cell? ⟨w2.heap.size, 2, none⟩ = some (.int .i64 fi) ∧ w'.cell? ⟨w2.heap.size, 3, none⟩ = some (.slice (some ⟨lb, lo, none⟩) 16 lc) ∧ w'.cell? ⟨w4.heap.size, 0, none⟩ = some (.int .i64 (t : Int)) ∧ w'.cell? ⟨w4.heap.size, 1, none⟩ = some (.int .i64 (man : Int)) ∧ w'.cell? ⟨w4.heap.size, 2, none⟩ = some (.int .i64 (kn : Int)) ∧ w'.cell? ⟨w4.heap.size, 3, none⟩ = some (.slice xa xn xc) ∧ w'.cell? ⟨lb, lo + kn, none⟩ = some (.int .i64 r)) (by kernel_rfl) (by (try dsimp only); exact ⟨L_0_, L_1_, L_2_, L_3_, X_0_, X_1_, X_2_, X_3_, sv_⟩) (fun hHeld => ?_)
        refine wpAnyH_take (i := 0) (oi := { dst := some 73, op := Op.move (Operand.tmp 7), type := 3, pos := "laws.go:1007", after := #[], guard := none }) (v := ?v0_r1_1) rfl (by kernel_rfl) (by kernel_rfl) (by kernel_rfl) (fun _ _ _ h => h) (Or.inl ⟨by rfl, ?y0_r1_1⟩) (by assumption) ?r0_r1_1
        case y0_r1_1 => (intro w hSw; (try dsimp only at hSw); go_simp; all_goals (with_reducible rfl))
        try simp only [Act.put, List.setIfInBounds_toArray, List.set_cons_zero, List.set_cons_succ]
        refine wpAnyH_take (i := 1) (oi := { dst := some 74, op := Op.binOp BinOp.eql 3 (Operand.tmp 73) (Operand.const (Value.int IntKind.i64 (-1))) 3, type := 4, pos := "laws.go:1007", after := #[{ on := 0, ground := Ground.data }], guard := none }) (v := ?v1_r1_2) rfl (by kernel_rfl) (by kernel_rfl) (by kernel_rfl) (fun _ _ _ h => h) (Or.inl ⟨by rfl, ?y1_r1_2⟩) (by assumption) ?r1_r1_2
        case y1_r1_2 => (intro w hSw; (try dsimp only at hSw); go_simp; all_goals (with_reducible rfl))
        try simp only [Act.put, List.setIfInBounds_toArray, List.set_cons_zero, List.set_cons_succ]
        refine wpAnyH_take (i := 2) (oi := { dst := some 75, op := Op.fieldAddr 26 (Operand.tmp 3) 1, type := 0, pos := "laws.go:1007", after := #[], guard := none }) (v := ?v2_r1_3) rfl (by kernel_rfl) (by kernel_rfl) (by kernel_rfl) (fun _ _ _ h => h) (Or.inl ⟨by rfl, ?y2_r1_3⟩) (by assumption) ?r2_r1_3
        case y2_r1_3 => (intro w hSw; (try dsimp only at hSw); go_simp; all_goals (with_reducible rfl))
        try simp only [Act.put, List.setIfInBounds_toArray, List.set_cons_zero, List.set_cons_succ]
        refine wpAnyH_take (i := 3) (oi := { dst := some 76, op := Op.load 3 (Operand.tmp 75), type := 3, pos := "laws.go:1007", after := #[{ on := 2, ground := Ground.data }], guard := none }) (v := ?v3_r1_4) rfl (by kernel_rfl) (by kernel_rfl) (by kernel_rfl) (fun _ _ _ h => h) (Or.inl ⟨by rfl, ?y3_r1_4⟩) (by assumption) ?r3_r1_4
        case y3_r1_4 => (intro w hSw; (try dsimp only at hSw); go_simp; all_goals (with_reducible rfl))
        try simp only [Act.put, List.setIfInBounds_toArray, List.set_cons_zero, List.set_cons_succ]
        refine wpAnyH_take (i := 4) (oi := { dst := some 77, op := Op.move (Operand.tmp 5), type := 3, pos := "laws.go:1007", after := #[], guard := none }) (v := ?v4_r1_5) rfl (by kernel_rfl) (by kernel_rfl) (by kernel_rfl) (fun _ _ _ h => h) (Or.inl ⟨by rfl, ?y4_r1_5⟩) (by assumption) ?r4_r1_5
        case y4_r1_5 => (intro w hSw; (try dsimp only at hSw); go_simp; all_goals (with_reducible rfl))
        try simp only [Act.put, List.setIfInBounds_toArray, List.set_cons_zero, List.set_cons_succ]
        refine wpAnyH_take (i := 5) (oi := { dst := some 78, op := Op.binOp BinOp.shr 3 (Operand.tmp 76) (Operand.tmp 77) 3, type := 3, pos := "laws.go:1007", after := #[{ on := 3, ground := Ground.data }, { on := 4, ground := Ground.data }], guard := none }) (v := ?v5_r1_6) rfl (by kernel_rfl) (by kernel_rfl) (by kernel_rfl) (fun _ _ _ h => h) (Or.inl ⟨by rfl, ?y5_r1_6⟩) (by assumption) ?r5_r1_6
        case y5_r1_6 => (intro w hSw; (try dsimp only at hSw); go_simp; all_goals (with_reducible rfl))
        try simp only [Act.put, List.setIfInBounds_toArray, List.set_cons_zero, List.set_cons_succ]
        refine wpAnyH_take (i := 6) (oi := { dst := some 79, op := Op.binOp BinOp.and 3 (Operand.tmp 78) (Operand.const (Value.int IntKind.i64 1)) 3, type := 3, pos := "laws.go:1007", after := #[{ on := 5, ground := Ground.data }], guard := none }) (v := ?v6_r1_7) rfl (by kernel_rfl) (by kernel_rfl) (by kernel_rfl) (fun _ _ _ h => h) (Or.inl ⟨by rfl, ?y6_r1_7⟩) (by assumption) ?r6_r1_7
        case y6_r1_7 => (intro w hSw; (try dsimp only at hSw); go_simp; all_goals (with_reducible rfl))
        try simp only [Act.put, List.setIfInBounds_toArray, List.set_cons_zero, List.set_cons_succ]
        refine wpAnyH_take (i := 7) (oi := { dst := some 80, op := Op.binOp BinOp.eql 3 (Operand.tmp 79) (Operand.const (Value.int IntKind.i64 1)) 3, type := 4, pos := "laws.go:1007", after := #[{ on := 6, ground := Ground.data }], guard := none }) (v := ?v7_r1_8) rfl (by kernel_rfl) (by kernel_rfl) (by kernel_rfl) (fun _ _ _ h => h) (Or.inl ⟨by rfl, ?y7_r1_8⟩) (by assumption) ?r7_r1_8
        case y7_r1_8 => (intro w hSw; (try dsimp only at hSw); go_simp; all_goals (with_reducible rfl))
        try simp only [Act.put, List.setIfInBounds_toArray, List.set_cons_zero, List.set_cons_succ]
        refine wpAnyH_take (i := 8) (oi := { dst := some 81, op := Op.binOp BinOp.eql 4 (Operand.tmp 74) (Operand.tmp 80) 4, type := 4, pos := "laws.go:1007", after := #[{ on := 1, ground := Ground.data }, { on := 7, ground := Ground.data }], guard := none }) (v := ?v8_r1_9) rfl (by kernel_rfl) (by kernel_rfl) (by kernel_rfl) (fun _ _ _ h => h) (Or.inl ⟨by rfl, ?y8_r1_9⟩) (by assumption) ?r8_r1_9
        case y8_r1_9 => (intro w hSw; (try dsimp only at hSw); go_simp; all_goals (with_reducible rfl))
        try simp only [Act.put, List.setIfInBounds_toArray, List.set_cons_zero, List.set_cons_succ]
        refine wpAnyH_take (i := 9) (oi := { dst := some 82, op := Op.move (Operand.tmp 81), type := 4, pos := "laws.go:1007", after := #[{ on := 8, ground := Ground.data }], guard := none }) (v := ?v9_r1_10) rfl (by kernel_rfl) (by kernel_rfl) (by kernel_rfl) (fun _ _ _ h => h) (Or.inl ⟨by rfl, ?y9_r1_10⟩) (by assumption) ?r9_r1_10
        case y9_r1_10 => (intro w hSw; (try dsimp only at hSw); go_simp; all_goals (with_reducible rfl))
        try simp only [Act.put, List.setIfInBounds_toArray, List.set_cons_zero, List.set_cons_succ]
        refine wpAnyH_take (i := 10) (oi := { dst := some 83, op := Op.move (Operand.tmp 7), type := 3, pos := "laws.go:1007", after := #[{ on := 9, ground := Ground.guard }], guard := some (9, true) }) (v := ?v10_r1_11) rfl (by kernel_rfl) (by kernel_rfl) (by kernel_rfl) (fun _ _ _ h => h) (Or.inl ⟨by rfl, ?y10_r1_11⟩) (by assumption) ?r10_r1_11
        case y10_r1_11 => (intro w hSw; (try dsimp only at hSw); go_simp; all_goals (with_reducible rfl))
        try simp only [Act.put, List.setIfInBounds_toArray, List.set_cons_zero, List.set_cons_succ]
        refine wpAnyH_take (i := 11) (oi := { dst := some 84, op := Op.binOp BinOp.eql 3 (Operand.tmp 83) (Operand.const (Value.int IntKind.i64 (-1))) 3, type := 4, pos := "laws.go:1007", after := #[{ on := 10, ground := Ground.data }, { on := 9, ground := Ground.guard }], guard := some (9, true) }) (v := ?v11_r1_12) rfl (by kernel_rfl) (by kernel_rfl) (by kernel_rfl) (fun _ _ _ h => h) (Or.inl ⟨by rfl, ?y11_r1_12⟩) (by assumption) ?r11_r1_12
        case y11_r1_12 => (intro w hSw; (try dsimp only at hSw); go_simp; all_goals (with_reducible rfl))
        try simp only [Act.put, List.setIfInBounds_toArray, List.set_cons_zero, List.set_cons_succ]
        refine wpAnyH_take (i := 12) (oi := { dst := some 85, op := Op.move (Operand.tmp 84), type := 4, pos := "laws.go:1007", after := #[{ on := 11, ground := Ground.data }, { on := 9, ground := Ground.chain }, { on := 9, ground := Ground.guard }], guard := some (9, true) }) (v := ?v12_r1_13) rfl (by kernel_rfl) (by kernel_rfl) (by kernel_rfl) (fun _ _ _ h => h) (Or.inl ⟨by rfl, ?y12_r1_13⟩) (by assumption) ?r12_r1_13
        case y12_r1_13 => (intro w hSw; (try dsimp only at hSw); go_simp; all_goals (with_reducible rfl))
        try simp only [Act.put, List.setIfInBounds_toArray, List.set_cons_zero, List.set_cons_succ]
        refine wpAnyH_take (i := 13) (oi := { dst := some 86, op := Op.move (Operand.tmp 7), type := 3, pos := "laws.go:1007", after := #[{ on := 12, ground := Ground.guard }], guard := some (12, false) }) (v := ?v13_r1_14) rfl (by kernel_rfl) (by kernel_rfl) (by kernel_rfl) (fun _ _ _ h => h) (Or.inl ⟨by rfl, ?y13_r1_14⟩) (by assumption) ?r13_r1_14
        case y13_r1_14 => (intro w hSw; (try dsimp only at hSw); go_simp; all_goals (with_reducible rfl))
        try simp only [Act.put, List.setIfInBounds_toArray, List.set_cons_zero, List.set_cons_succ]
        refine wpAnyH_take (i := 14) (oi := { dst := some 87, op := Op.fieldAddr 26 (Operand.tmp 3) 3, type := 0, pos := "laws.go:1007", after := #[{ on := 12, ground := Ground.guard }], guard := some (12, false) }) (v := ?v14_r1_15) rfl (by kernel_rfl) (by kernel_rfl) (by kernel_rfl) (fun _ _ _ h => h) (Or.inl ⟨by rfl, ?y14_r1_15⟩) (by assumption) ?r14_r1_15
        case y14_r1_15 => (intro w hSw; (try dsimp only at hSw); go_simp; all_goals (with_reducible rfl))
        try simp only [Act.put, List.setIfInBounds_toArray, List.set_cons_zero, List.set_cons_succ]
        refine wpAnyH_take (i := 15) (oi := { dst := some 88, op := Op.load 22 (Operand.tmp 87), type := 22, pos := "laws.go:1007", after := #[{ on := 14, ground := Ground.data }, { on := 12, ground := Ground.guard }], guard := some (12, false) }) (v := ?v15_r1_16) rfl (by kernel_rfl) (by kernel_rfl) (by kernel_rfl) (fun _ _ _ h => h) (Or.inl ⟨by rfl, ?y15_r1_16⟩) (by assumption) ?r15_r1_16
        case y15_r1_16 => (intro w hSw; (try dsimp only at hSw); go_simp; all_goals (with_reducible rfl))
        try simp only [Act.put, List.setIfInBounds_toArray, List.set_cons_zero, List.set_cons_succ]
        refine wpAnyH_take (i := 16) (oi := { dst := some 89, op := Op.move (Operand.tmp 5), type := 3, pos := "laws.go:1007", after := #[{ on := 12, ground := Ground.guard }], guard := some (12, false) }) (v := ?v16_r1_17) rfl (by kernel_rfl) (by kernel_rfl) (by kernel_rfl) (fun _ _ _ h => h) (Or.inl ⟨by rfl, ?y16_r1_17⟩) (by assumption) ?r16_r1_17
        case y16_r1_17 => (intro w hSw; (try dsimp only at hSw); go_simp; all_goals (with_reducible rfl))
        try simp only [Act.put, List.setIfInBounds_toArray, List.set_cons_zero, List.set_cons_succ]
        refine wpAnyH_take (i := 17) (oi := { dst := some 90, op := Op.indexAddr 22 (Operand.tmp 88) (Operand.tmp 89), type := 0, pos := "laws.go:1007", after := #[{ on := 15, ground := Ground.data }, { on := 16, ground := Ground.data }, { on := 12, ground := Ground.guard }], guard := some (12, false) }) (v := ?v17_r1_18) rfl (by kernel_rfl) (by kernel_rfl) (by kernel_rfl) (fun _ _ _ h => h) (Or.inl ⟨by rfl, ?y17_r1_18⟩) (by assumption) ?r17_r1_18
        case y17_r1_18 => (intro w hSw; (try dsimp only at hSw); go_simp; all_goals (with_reducible rfl))
        try simp only [Act.put, List.setIfInBounds_toArray, List.set_cons_zero, List.set_cons_succ]
        refine wpAnyH_take (i := 18) (oi := { dst := some 91, op := Op.load 3 (Operand.tmp 90), type := 3, pos := "laws.go:1007", after := #[{ on := 17, ground := Ground.data }, { on := 12, ground := Ground.guard }], guard := some (12, false) }) (v := ?v18_r1_19) rfl (by kernel_rfl) (by kernel_rfl) (by kernel_rfl) (fun _ _ _ h => h) (Or.inl ⟨by rfl, ?y18_r1_19⟩) (by assumption) ?r18_r1_19
        case y18_r1_19 => (intro w hSw; (try dsimp only at hSw); go_simp; all_goals (with_reducible rfl))
        try simp only [Act.put, List.setIfInBounds_toArray, List.set_cons_zero, List.set_cons_succ]
        refine wpAnyH_take (i := 19) (oi := { dst := some 92, op := Op.binOp BinOp.eql 3 (Operand.tmp 86) (Operand.tmp 91) 3, type := 4, pos := "laws.go:1007", after := #[{ on := 13, ground := Ground.data }, { on := 18, ground := Ground.data }, { on := 12, ground := Ground.guard }], guard := some (12, false) }) (v := ?v19_r1_20) rfl (by kernel_rfl) (by kernel_rfl) (by kernel_rfl) (fun _ _ _ h => h) (Or.inl ⟨by rfl, ?y19_r1_20⟩) (by assumption) ?r19_r1_20
        case y19_r1_20 => (intro w hSw; (try dsimp only at hSw); go_simp; all_goals (with_reducible rfl))
        try simp only [Act.put, List.setIfInBounds_toArray, List.set_cons_zero, List.set_cons_succ]
        refine wpAnyH_take (i := 20) (oi := { dst := some 93, op := Op.move (Operand.tmp 92), type := 4, pos := "laws.go:1007", after := #[{ on := 19, ground := Ground.data }, { on := 12, ground := Ground.chain }, { on := 12, ground := Ground.guard }], guard := some (12, false) }) (v := ?v20_r1_21) rfl (by kernel_rfl) (by kernel_rfl) (by kernel_rfl) (fun _ _ _ h => h) (Or.inl ⟨by rfl, ?y20_r1_21⟩) (by assumption) ?r20_r1_21
        case y20_r1_21 => (intro w hSw; (try dsimp only at hSw); go_simp; all_goals (with_reducible rfl))
        try simp only [Act.put, List.setIfInBounds_toArray, List.set_cons_zero, List.set_cons_succ]
        refine wpAnyH_take (i := 21) (oi := { dst := some 94, op := Op.load 26 (Operand.tmp 6), type := 26, pos := "laws.go:1007", after := #[{ on := 20, ground := Ground.guard }], guard := some (20, true) }) (v := ?v21_r1_22) rfl (by kernel_rfl) (by kernel_rfl) (by kernel_rfl) (fun _ _ _ h => h) (Or.inl ⟨by rfl, ?y21_r1_22⟩) (by assumption) ?r21_r1_22
        case y21_r1_22 => (intro w hSw; (try dsimp only at hSw); go_simp; all_goals (with_reducible rfl))
        try simp only [Act.put, List.setIfInBounds_toArray, List.set_cons_zero, List.set_cons_succ]
        refine wpAnyH_take (i := 23) (oi := { dst := some 96, op := Op.move (Operand.tmp 7), type := 3, pos := "laws.go:1007", after := #[{ on := 20, ground := Ground.guard }], guard := some (20, true) }) (v := ?v23_r1_23) rfl (by kernel_rfl) (by kernel_rfl) (by kernel_rfl) (fun _ _ _ h => h) (Or.inl ⟨by rfl, ?y23_r1_23⟩) (by assumption) ?r23_r1_23
        case y23_r1_23 => (intro w hSw; (try dsimp only at hSw); go_simp; all_goals (with_reducible rfl))
        try simp only [Act.put, List.setIfInBounds_toArray, List.set_cons_zero, List.set_cons_succ]
        refine wpAnyH_ready (rs := [22]) (by kernel_rfl) (by simp) ?_
        refine AllReadyH.cons (o := { dst := some 95, op := Op.call { callee := Callee.value (Operand.func 24), args := #[Operand.tmp 94], argTypes := #[26] }, type := 3, pos := "laws.go:1007", after := #[{ on := 21, ground := Ground.data }, { on := 20, ground := Ground.chain }, { on := 20, ground := Ground.guard }], guard := some (20, true) }) rfl (fun K hK => ?_) AllReadyH.nil
        go_simp
        go_at_call 24
        refine (implWorst_yes _ t man _ _ xs (HRx0.out.grow (gby_drew (gby_refl _ none))) HLX.out HTK.out).mono ?_
        rintro e wH24 ⟨rfl, gH24⟩
        have m24_L_0_ : wH24.cell? _ = some _ := gH24.cell L_0_ (by simp); have m24_L_1_ : wH24.cell? _ = some _ := gH24.cell L_1_ (by simp); have m24_L_2_ : wH24.cell? _ = some _ := gH24.cell L_2_ (by simp); have m24_L_3_ : wH24.cell? _ = some _ := gH24.cell L_3_ (by simp); have m24_X_0_ : wH24.cell? _ = some _ := gH24.cell X_0_ (by simp); have m24_X_1_ : wH24.cell? _ = some _ := gH24.cell X_1_ (by simp); have m24_X_2_ : wH24.cell? _ = some _ := gH24.cell X_2_ (by simp); have m24_X_3_ : wH24.cell? _ = some _ := gH24.cell X_3_ (by simp); have m24_sv_ : wH24.cell? _ = some _ := gH24.cell sv_ (by simp)
        go_wp2_with fail
        clear hHeld
        refine hK.out _ _ ?s22_r1_24 (fun hHeld => ?_)
        case s22_r1_24 => exact ⟨m24_L_0_, m24_L_1_, m24_L_2_, m24_L_3_, m24_X_0_, m24_X_1_, m24_X_2_, m24_X_3_, m24_sv_⟩
        clear hK K
        try simp only [Act.put, List.setIfInBounds_toArray, List.set_cons_zero, List.set_cons_succ]
        refine wpAnyH_take (i := 24) (oi := { dst := some 97, op := Op.binOp BinOp.geq 3 (Operand.tmp 95) (Operand.tmp 96) 3, type := 4, pos := "laws.go:1007", after := #[{ on := 22, ground := Ground.data }, { on := 23, ground := Ground.data }, { on := 20, ground := Ground.guard }], guard := some (20, true) }) (v := ?v24_r1_25) rfl (by kernel_rfl) (by kernel_rfl) (by kernel_rfl) (fun _ _ _ h => h) (Or.inl ⟨by rfl, ?y24_r1_25⟩) (by assumption) ?r24_r1_25
        case y24_r1_25 => (intro w hSw; (try dsimp only at hSw); go_simp; all_goals (with_reducible rfl))
        try simp only [Act.put, List.setIfInBounds_toArray, List.set_cons_zero, List.set_cons_succ]
        refine wpAnyH_take (i := 25) (oi := { dst := some 98, op := Op.pick (Operand.tmp 93) (Operand.tmp 97) (Operand.const (Value.bool false)), type := 4, pos := "laws.go:1007", after := #[{ on := 20, ground := Ground.data }, { on := 24, ground := Ground.data }, { on := 12, ground := Ground.guard }], guard := some (12, false) }) (v := ?v25_r1_26) rfl (by kernel_rfl) (by kernel_rfl) (by kernel_rfl) (fun _ _ _ h => h) (Or.inl ⟨by rfl, ?y25_r1_26⟩) (by assumption) ?r25_r1_26
        case y25_r1_26 => (intro w hSw; (try dsimp only at hSw); go_simp; all_goals (with_reducible rfl))
        try simp only [Act.put, List.setIfInBounds_toArray, List.set_cons_zero, List.set_cons_succ]
        refine wpAnyH_take (i := 26) (oi := { dst := some 99, op := Op.pick (Operand.tmp 85) (Operand.const (Value.bool true)) (Operand.tmp 98), type := 4, pos := "laws.go:1007", after := #[{ on := 12, ground := Ground.data }, { on := 25, ground := Ground.data }, { on := 9, ground := Ground.guard }], guard := some (9, true) }) (v := ?v26_r1_27) rfl (by kernel_rfl) (by kernel_rfl) (by kernel_rfl) (fun _ _ _ h => h) (Or.inl ⟨by rfl, ?y26_r1_27⟩) (by assumption) ?r26_r1_27
        case y26_r1_27 => (intro w hSw; (try dsimp only at hSw); go_simp; all_goals (with_reducible rfl))
        try simp only [Act.put, List.setIfInBounds_toArray, List.set_cons_zero, List.set_cons_succ]
        refine wpAnyH_take (i := 27) (oi := { dst := some 100, op := Op.pick (Operand.tmp 82) (Operand.tmp 99) (Operand.const (Value.bool false)), type := 4, pos := "laws.go:1007", after := #[{ on := 9, ground := Ground.data }, { on := 26, ground := Ground.data }], guard := none }) (v := ?v27_r1_28) rfl (by kernel_rfl) (by kernel_rfl) (by kernel_rfl) (fun _ _ _ h => h) (Or.inl ⟨by rfl, ?y27_r1_28⟩) (by assumption) ?r27_r1_28
        case y27_r1_28 => (intro w hSw; (try dsimp only at hSw); go_simp; all_goals (with_reducible rfl))
        try simp only [Act.put, List.setIfInBounds_toArray, List.set_cons_zero, List.set_cons_succ]
        refine wpAnyH_take (i := 28) (oi := { dst := some 101, op := Op.move (Operand.tmp 100), type := 4, pos := "laws.go:1007", after := #[{ on := 27, ground := Ground.data }, { on := 22, ground := Ground.chain }], guard := none }) (v := ?v28_r1_29) rfl (by kernel_rfl) (by kernel_rfl) (by kernel_rfl) (fun _ _ _ h => h) (Or.inl ⟨by rfl, ?y28_r1_29⟩) (by assumption) ?r28_r1_29
        case y28_r1_29 => (intro w hSw; (try dsimp only at hSw); go_simp; all_goals (with_reducible rfl))
        try simp only [Act.put, List.setIfInBounds_toArray, List.set_cons_zero, List.set_cons_succ]
        refine wpAnyH_take (i := 29) (oi := { dst := some 102, op := Op.load 26 (Operand.tmp 6), type := 26, pos := "laws.go:1007", after := #[{ on := 28, ground := Ground.guard }], guard := some (28, true) }) (v := ?v29_r1_30) rfl (by kernel_rfl) (by kernel_rfl) (by kernel_rfl) (fun _ _ _ h => h) (Or.inl ⟨by rfl, ?y29_r1_30⟩) (by assumption) ?r29_r1_30
        case y29_r1_30 => (intro w hSw; (try dsimp only at hSw); go_simp; all_goals (with_reducible rfl))
        try simp only [Act.put, List.setIfInBounds_toArray, List.set_cons_zero, List.set_cons_succ]
        refine wpAnyH_take (i := 31) (oi := { dst := some 104, op := Op.load 26 (Operand.tmp 3), type := 26, pos := "laws.go:1007", after := #[{ on := 28, ground := Ground.guard }], guard := some (28, true) }) (v := ?v31_r1_31) rfl (by kernel_rfl) (by kernel_rfl) (by kernel_rfl) (fun _ _ _ h => h) (Or.inl ⟨by rfl, ?y31_r1_31⟩) (by assumption) ?r31_r1_31
        case y31_r1_31 => (intro w hSw; (try dsimp only at hSw); go_simp; all_goals (with_reducible rfl))
        try simp only [Act.put, List.setIfInBounds_toArray, List.set_cons_zero, List.set_cons_succ]
        refine wpAnyH_ready (rs := [30]) (by kernel_rfl) (by simp) ?_
        refine AllReadyH.cons (o := { dst := some 103, op := Op.call { callee := Callee.value (Operand.func 24), args := #[Operand.tmp 102], argTypes := #[26] }, type := 3, pos := "laws.go:1007", after := #[{ on := 29, ground := Ground.data }, { on := 28, ground := Ground.chain }, { on := 28, ground := Ground.guard }], guard := some (28, true) }) rfl (fun K hK => ?_) AllReadyH.nil
        go_simp
        go_at_call 24
        refine (implWorst_yes _ t man _ _ xs (HRx0.out.grow (gby_trans (gby_drew (gby_refl _ none)) gH24)) HLX.out HTK.out).mono ?_
        rintro e wH32 ⟨rfl, gH32⟩
        have m32_L_0_ : wH32.cell? _ = some _ := gH32.cell m24_L_0_ (by simp); have m32_L_1_ : wH32.cell? _ = some _ := gH32.cell m24_L_1_ (by simp); have m32_L_2_ : wH32.cell? _ = some _ := gH32.cell m24_L_2_ (by simp); have m32_L_3_ : wH32.cell? _ = some _ := gH32.cell m24_L_3_ (by simp); have m32_X_0_ : wH32.cell? _ = some _ := gH32.cell m24_X_0_ (by simp); have m32_X_1_ : wH32.cell? _ = some _ := gH32.cell m24_X_1_ (by simp); have m32_X_2_ : wH32.cell? _ = some _ := gH32.cell m24_X_2_ (by simp); have m32_X_3_ : wH32.cell? _ = some _ := gH32.cell m24_X_3_ (by simp); have m32_sv_ : wH32.cell? _ = some _ := gH32.cell m24_sv_ (by simp)
        go_wp2_with fail
        clear hHeld
        refine hK.out _ _ ?s30_r1_32 (fun hHeld => ?_)
        case s30_r1_32 => exact ⟨m32_L_0_, m32_L_1_, m32_L_2_, m32_L_3_, m32_X_0_, m32_X_1_, m32_X_2_, m32_X_3_, m32_sv_⟩
        clear hK K
        try simp only [Act.put, List.setIfInBounds_toArray, List.set_cons_zero, List.set_cons_succ]
        refine wpAnyH_ready (rs := [32]) (by kernel_rfl) (by simp) ?_
        refine AllReadyH.cons (o := { dst := some 105, op := Op.call { callee := Callee.value (Operand.func 24), args := #[Operand.tmp 104], argTypes := #[26] }, type := 3, pos := "laws.go:1007", after := #[{ on := 31, ground := Ground.data }, { on := 30, ground := Ground.chain }, { on := 28, ground := Ground.guard }], guard := some (28, true) }) rfl (fun K hK => ?_) AllReadyH.nil
        go_simp
        go_at_call 24
        refine (implWorst_yes _ s man _ _ xs (HRl0.out.grow (gby_trans (gby_trans (gby_drew (gby_refl _ none)) gH24) gH32)) HLX.out HOK.out).mono ?_
        rintro e wH33 ⟨rfl, gH33⟩
        have m33_L_0_ : wH33.cell? _ = some _ := gH33.cell m32_L_0_ (by simp); have m33_L_1_ : wH33.cell? _ = some _ := gH33.cell m32_L_1_ (by simp); have m33_L_2_ : wH33.cell? _ = some _ := gH33.cell m32_L_2_ (by simp); have m33_L_3_ : wH33.cell? _ = some _ := gH33.cell m32_L_3_ (by simp); have m33_X_0_ : wH33.cell? _ = some _ := gH33.cell m32_X_0_ (by simp); have m33_X_1_ : wH33.cell? _ = some _ := gH33.cell m32_X_1_ (by simp); have m33_X_2_ : wH33.cell? _ = some _ := gH33.cell m32_X_2_ (by simp); have m33_X_3_ : wH33.cell? _ = some _ := gH33.cell m32_X_3_ (by simp); have m33_sv_ : wH33.cell? _ = some _ := gH33.cell m32_sv_ (by simp)
        go_wp2_with fail
        clear hHeld
        refine hK.out _ _ ?s32_r1_33 (fun hHeld => ?_)
        case s32_r1_33 => exact ⟨m33_L_0_, m33_L_1_, m33_L_2_, m33_L_3_, m33_X_0_, m33_X_1_, m33_X_2_, m33_X_3_, m33_sv_⟩
        clear hK K
        try simp only [Act.put, List.setIfInBounds_toArray, List.set_cons_zero, List.set_cons_succ]
        refine wpAnyH_take (i := 33) (oi := { dst := some 106, op := Op.binOp BinOp.geq 3 (Operand.tmp 103) (Operand.tmp 105) 3, type := 4, pos := "laws.go:1007", after := #[{ on := 30, ground := Ground.data }, { on := 32, ground := Ground.data }, { on := 28, ground := Ground.guard }], guard := some (28, true) }) (v := ?v33_r1_34) rfl (by kernel_rfl) (by kernel_rfl) (by kernel_rfl) (fun _ _ _ h => h) (Or.inl ⟨by rfl, ?y33_r1_34⟩) (by assumption) ?r33_r1_34
        case y33_r1_34 => (intro w hSw; (try dsimp only at hSw); go_simp; all_goals (with_reducible rfl))
        try simp only [Act.put, List.setIfInBounds_toArray, List.set_cons_zero, List.set_cons_succ]
        refine wpAnyH_take (i := 34) (oi := { dst := some 107, op := Op.pick (Operand.tmp 101) (Operand.tmp 106) (Operand.const (Value.bool false)), type := 4, pos := "laws.go:1007", after := #[{ on := 28, ground := Ground.data }, { on := 33, ground := Ground.data }], guard := none }) (v := ?v34_r1_35) rfl (by kernel_rfl) (by kernel_rfl) (by kernel_rfl) (fun _ _ _ h => h) (Or.inl ⟨by rfl, ?y34_r1_35⟩) (by assumption) ?r34_r1_35
        case y34_r1_35 => (intro w hSw; (try dsimp only at hSw); go_simp; all_goals (with_reducible rfl))
        try simp only [Act.put, List.setIfInBounds_toArray, List.set_cons_zero, List.set_cons_succ]
        refine wpAnyH_take (i := 35) (oi := { dst := some 2, op := Op.assign (Operand.tmp 107), type := 4, pos := "laws.go:1007", after := #[{ on := 34, ground := Ground.data }, { on := 32, ground := Ground.chain }, { on := 0, ground := Ground.phase }, { on := 1, ground := Ground.phase }, { on := 2, ground := Ground.phase }, { on := 3, ground := Ground.phase }, { on := 4, ground := Ground.phase }, { on := 5, ground := Ground.phase }, { on := 6, ground := Ground.phase }, { on := 7, ground := Ground.phase }, { on := 8, ground := Ground.phase }, { on := 9, ground := Ground.phase }, { on := 10, ground := Ground.phase }, { on := 11, ground := Ground.phase }, { on := 12, ground := Ground.phase }, { on := 13, ground := Ground.phase }, { on := 14, ground := Ground.phase }, { on := 15, ground := Ground.phase }, { on := 16, ground := Ground.phase }, { on := 17, ground := Ground.phase }, { on := 18, ground := Ground.phase }, { on := 19, ground := Ground.phase }, { on := 20, ground := Ground.phase }, { on := 21, ground := Ground.phase }, { on := 22, ground := Ground.phase }, { on := 23, ground := Ground.phase }, { on := 24, ground := Ground.phase }, { on := 25, ground := Ground.phase }, { on := 26, ground := Ground.phase }, { on := 27, ground := Ground.phase }, { on := 28, ground := Ground.phase }, { on := 29, ground := Ground.phase }, { on := 30, ground := Ground.phase }, { on := 31, ground := Ground.phase }, { on := 32, ground := Ground.phase }, { on := 33, ground := Ground.phase }, { on := 34, ground := Ground.phase }], guard := none }) (v := ?v35_r1_36) rfl (by kernel_rfl) (by kernel_rfl) (by kernel_rfl) (fun _ _ _ h => h) (Or.inl ⟨by rfl, ?y35_r1_36⟩) (by assumption) ?r35_r1_36
        case y35_r1_36 => (intro w hSw; (try dsimp only at hSw); go_simp; all_goals (with_reducible rfl))
        try simp only [Act.put, List.setIfInBounds_toArray, List.set_cons_zero, List.set_cons_succ]
        refine wpAnyH_done (by kernel_rfl) ?_ _
        go_wp2
        go_ret
        exact ⟨rfl, gby_below (gby_trans G34_.out (gby_trans (gby_trans (gby_trans (gby_drew (gby_refl _ none)) gH24) gH32) gH33))⟩
      · skip
        have hrv : r = -1 := by rw [HRR.out]; unfold repV; rw [hbit, if_pos rfl]
        have hb0_ := bit_and1 man kn hm0 hbit
        have r1_ : ((-1 : Int) == -1) = true := rfl
        have r3_ : ((1 : Int) == 1) = true := rfl
        clear HRR hbit
        subst hrv
        refine wp_region_held_drew (S := fun w' => w'.cell? ⟨w2.heap.size, 0, none⟩ = some (.int .i64 (s : Int)) ∧ w'.cell? ⟨w2.heap.size, 1, none⟩ = some (.int .i64 (man : Int)) ∧ w'.cell? ⟨w2.heap.size, 2, none⟩ = some (.int .i64 fi) ∧ w'.cell? ⟨w2.heap.size, 3, none⟩ = some (.slice (some ⟨lb, lo, none⟩) 16 lc) ∧ w'.cell? ⟨w4.heap.size, 0, none⟩ = some (.int .i64 (t : Int)) ∧ w'.cell? ⟨w4.heap.size, 1, none⟩ = some (.int .i64 (man : Int)) ∧ w'.cell? ⟨w4.heap.size, 2, none⟩ = some (.int .i64 (kn : Int)) ∧ w'.cell? ⟨w4.heap.size, 3, none⟩ = some (.slice xa xn xc)) (by kernel_rfl) (by (try dsimp only); exact ⟨L_0_, L_1_, L_2_, L_3_, X_0_, X_1_, X_2_, X_3_⟩) (fun hHeld => ?_)
        refine wpAnyH_take (i := 0) (oi := { dst := some 73, op := Op.move (Operand.tmp 7), type := 3, pos := "laws.go:1007", after := #[], guard := none }) (v := ?v0_r2_1) rfl (by kernel_rfl) (by kernel_rfl) (by kernel_rfl) (fun _ _ _ h => h) (Or.inl ⟨by rfl, ?y0_r2_1⟩) (by assumption) ?r0_r2_1
        case y0_r2_1 => (intro w hSw; (try dsimp only at hSw); go_simp; all_goals (with_reducible rfl))
        try simp only [Act.put, List.setIfInBounds_toArray, List.set_cons_zero, List.set_cons_succ]
        refine wpAnyH_take (i := 1) (oi := { dst := some 74, op := Op.binOp BinOp.eql 3 (Operand.tmp 73) (Operand.const (Value.int IntKind.i64 (-1))) 3, type := 4, pos := "laws.go:1007", after := #[{ on := 0, ground := Ground.data }], guard := none }) (v := ?v1_r2_2) rfl (by kernel_rfl) (by kernel_rfl) (by kernel_rfl) (fun _ _ _ h => h) (Or.inl ⟨by rfl, ?y1_r2_2⟩) (by assumption) ?r1_r2_2
        case y1_r2_2 => (intro w hSw; (try dsimp only at hSw); go_simp; all_goals (with_reducible rfl))
        try simp only [Act.put, List.setIfInBounds_toArray, List.set_cons_zero, List.set_cons_succ]
        refine wpAnyH_take (i := 2) (oi := { dst := some 75, op := Op.fieldAddr 26 (Operand.tmp 3) 1, type := 0, pos := "laws.go:1007", after := #[], guard := none }) (v := ?v2_r2_3) rfl (by kernel_rfl) (by kernel_rfl) (by kernel_rfl) (fun _ _ _ h => h) (Or.inl ⟨by rfl, ?y2_r2_3⟩) (by assumption) ?r2_r2_3
        case y2_r2_3 => (intro w hSw; (try dsimp only at hSw); go_simp; all_goals (with_reducible rfl))
        try simp only [Act.put, List.setIfInBounds_toArray, List.set_cons_zero, List.set_cons_succ]
        refine wpAnyH_take (i := 3) (oi := { dst := some 76, op := Op.load 3 (Operand.tmp 75), type := 3, pos := "laws.go:1007", after := #[{ on := 2, ground := Ground.data }], guard := none }) (v := ?v3_r2_4) rfl (by kernel_rfl) (by kernel_rfl) (by kernel_rfl) (fun _ _ _ h => h) (Or.inl ⟨by rfl, ?y3_r2_4⟩) (by assumption) ?r3_r2_4
        case y3_r2_4 => (intro w hSw; (try dsimp only at hSw); go_simp; all_goals (with_reducible rfl))
        try simp only [Act.put, List.setIfInBounds_toArray, List.set_cons_zero, List.set_cons_succ]
        refine wpAnyH_take (i := 4) (oi := { dst := some 77, op := Op.move (Operand.tmp 5), type := 3, pos := "laws.go:1007", after := #[], guard := none }) (v := ?v4_r2_5) rfl (by kernel_rfl) (by kernel_rfl) (by kernel_rfl) (fun _ _ _ h => h) (Or.inl ⟨by rfl, ?y4_r2_5⟩) (by assumption) ?r4_r2_5
        case y4_r2_5 => (intro w hSw; (try dsimp only at hSw); go_simp; all_goals (with_reducible rfl))
        try simp only [Act.put, List.setIfInBounds_toArray, List.set_cons_zero, List.set_cons_succ]
        refine wpAnyH_take (i := 5) (oi := { dst := some 78, op := Op.binOp BinOp.shr 3 (Operand.tmp 76) (Operand.tmp 77) 3, type := 3, pos := "laws.go:1007", after := #[{ on := 3, ground := Ground.data }, { on := 4, ground := Ground.data }], guard := none }) (v := ?v5_r2_6) rfl (by kernel_rfl) (by kernel_rfl) (by kernel_rfl) (fun _ _ _ h => h) (Or.inl ⟨by rfl, ?y5_r2_6⟩) (by assumption) ?r5_r2_6
        case y5_r2_6 => (intro w hSw; (try dsimp only at hSw); go_simp; all_goals (with_reducible rfl))
        try simp only [Act.put, List.setIfInBounds_toArray, List.set_cons_zero, List.set_cons_succ]
        refine wpAnyH_take (i := 6) (oi := { dst := some 79, op := Op.binOp BinOp.and 3 (Operand.tmp 78) (Operand.const (Value.int IntKind.i64 1)) 3, type := 3, pos := "laws.go:1007", after := #[{ on := 5, ground := Ground.data }], guard := none }) (v := ?v6_r2_7) rfl (by kernel_rfl) (by kernel_rfl) (by kernel_rfl) (fun _ _ _ h => h) (Or.inl ⟨by rfl, ?y6_r2_7⟩) (by assumption) ?r6_r2_7
        case y6_r2_7 => (intro w hSw; (try dsimp only at hSw); go_simp; all_goals (with_reducible rfl))
        try simp only [Act.put, List.setIfInBounds_toArray, List.set_cons_zero, List.set_cons_succ]
        refine wpAnyH_take (i := 7) (oi := { dst := some 80, op := Op.binOp BinOp.eql 3 (Operand.tmp 79) (Operand.const (Value.int IntKind.i64 1)) 3, type := 4, pos := "laws.go:1007", after := #[{ on := 6, ground := Ground.data }], guard := none }) (v := ?v7_r2_8) rfl (by kernel_rfl) (by kernel_rfl) (by kernel_rfl) (fun _ _ _ h => h) (Or.inl ⟨by rfl, ?y7_r2_8⟩) (by assumption) ?r7_r2_8
        case y7_r2_8 => (intro w hSw; (try dsimp only at hSw); go_simp; all_goals (with_reducible rfl))
        try simp only [Act.put, List.setIfInBounds_toArray, List.set_cons_zero, List.set_cons_succ]
        refine wpAnyH_take (i := 8) (oi := { dst := some 81, op := Op.binOp BinOp.eql 4 (Operand.tmp 74) (Operand.tmp 80) 4, type := 4, pos := "laws.go:1007", after := #[{ on := 1, ground := Ground.data }, { on := 7, ground := Ground.data }], guard := none }) (v := ?v8_r2_9) rfl (by kernel_rfl) (by kernel_rfl) (by kernel_rfl) (fun _ _ _ h => h) (Or.inl ⟨by rfl, ?y8_r2_9⟩) (by assumption) ?r8_r2_9
        case y8_r2_9 => (intro w hSw; (try dsimp only at hSw); go_simp; all_goals (with_reducible rfl))
        try simp only [Act.put, List.setIfInBounds_toArray, List.set_cons_zero, List.set_cons_succ]
        refine wpAnyH_take (i := 9) (oi := { dst := some 82, op := Op.move (Operand.tmp 81), type := 4, pos := "laws.go:1007", after := #[{ on := 8, ground := Ground.data }], guard := none }) (v := ?v9_r2_10) rfl (by kernel_rfl) (by kernel_rfl) (by kernel_rfl) (fun _ _ _ h => h) (Or.inl ⟨by rfl, ?y9_r2_10⟩) (by assumption) ?r9_r2_10
        case y9_r2_10 => (intro w hSw; (try dsimp only at hSw); go_simp; all_goals (with_reducible rfl))
        try simp only [Act.put, List.setIfInBounds_toArray, List.set_cons_zero, List.set_cons_succ]
        refine wpAnyH_take (i := 10) (oi := { dst := some 83, op := Op.move (Operand.tmp 7), type := 3, pos := "laws.go:1007", after := #[{ on := 9, ground := Ground.guard }], guard := some (9, true) }) (v := ?v10_r2_11) rfl (by kernel_rfl) (by kernel_rfl) (by kernel_rfl) (fun _ _ _ h => h) (Or.inl ⟨by rfl, ?y10_r2_11⟩) (by assumption) ?r10_r2_11
        case y10_r2_11 => (intro w hSw; (try dsimp only at hSw); go_simp; all_goals (with_reducible rfl))
        try simp only [Act.put, List.setIfInBounds_toArray, List.set_cons_zero, List.set_cons_succ]
        refine wpAnyH_take (i := 11) (oi := { dst := some 84, op := Op.binOp BinOp.eql 3 (Operand.tmp 83) (Operand.const (Value.int IntKind.i64 (-1))) 3, type := 4, pos := "laws.go:1007", after := #[{ on := 10, ground := Ground.data }, { on := 9, ground := Ground.guard }], guard := some (9, true) }) (v := ?v11_r2_12) rfl (by kernel_rfl) (by kernel_rfl) (by kernel_rfl) (fun _ _ _ h => h) (Or.inl ⟨by rfl, ?y11_r2_12⟩) (by assumption) ?r11_r2_12
        case y11_r2_12 => (intro w hSw; (try dsimp only at hSw); go_simp; all_goals (with_reducible rfl))
        try simp only [Act.put, List.setIfInBounds_toArray, List.set_cons_zero, List.set_cons_succ]
        refine wpAnyH_take (i := 12) (oi := { dst := some 85, op := Op.move (Operand.tmp 84), type := 4, pos := "laws.go:1007", after := #[{ on := 11, ground := Ground.data }, { on := 9, ground := Ground.chain }, { on := 9, ground := Ground.guard }], guard := some (9, true) }) (v := ?v12_r2_13) rfl (by kernel_rfl) (by kernel_rfl) (by kernel_rfl) (fun _ _ _ h => h) (Or.inl ⟨by rfl, ?y12_r2_13⟩) (by assumption) ?r12_r2_13
        case y12_r2_13 => (intro w hSw; (try dsimp only at hSw); go_simp; all_goals (with_reducible rfl))
        try simp only [Act.put, List.setIfInBounds_toArray, List.set_cons_zero, List.set_cons_succ]
        refine wpAnyH_take (i := 13) (oi := { dst := some 86, op := Op.move (Operand.tmp 7), type := 3, pos := "laws.go:1007", after := #[{ on := 12, ground := Ground.guard }], guard := some (12, false) }) (v := undef) rfl (by kernel_rfl) (by kernel_rfl) (by kernel_rfl) (fun _ _ _ h => h) (Or.inr ⟨by rfl, rfl⟩) (by assumption) ?r13_r2_14
        try simp only [Act.put, List.setIfInBounds_toArray, List.set_cons_zero, List.set_cons_succ]
        refine wpAnyH_take (i := 14) (oi := { dst := some 87, op := Op.fieldAddr 26 (Operand.tmp 3) 3, type := 0, pos := "laws.go:1007", after := #[{ on := 12, ground := Ground.guard }], guard := some (12, false) }) (v := undef) rfl (by kernel_rfl) (by kernel_rfl) (by kernel_rfl) (fun _ _ _ h => h) (Or.inr ⟨by rfl, rfl⟩) (by assumption) ?r14_r2_15
        try simp only [Act.put, List.setIfInBounds_toArray, List.set_cons_zero, List.set_cons_succ]
        refine wpAnyH_take (i := 15) (oi := { dst := some 88, op := Op.load 22 (Operand.tmp 87), type := 22, pos := "laws.go:1007", after := #[{ on := 14, ground := Ground.data }, { on := 12, ground := Ground.guard }], guard := some (12, false) }) (v := undef) rfl (by kernel_rfl) (by kernel_rfl) (by kernel_rfl) (fun _ _ _ h => h) (Or.inr ⟨by rfl, rfl⟩) (by assumption) ?r15_r2_16
        try simp only [Act.put, List.setIfInBounds_toArray, List.set_cons_zero, List.set_cons_succ]
        refine wpAnyH_take (i := 16) (oi := { dst := some 89, op := Op.move (Operand.tmp 5), type := 3, pos := "laws.go:1007", after := #[{ on := 12, ground := Ground.guard }], guard := some (12, false) }) (v := undef) rfl (by kernel_rfl) (by kernel_rfl) (by kernel_rfl) (fun _ _ _ h => h) (Or.inr ⟨by rfl, rfl⟩) (by assumption) ?r16_r2_17
        try simp only [Act.put, List.setIfInBounds_toArray, List.set_cons_zero, List.set_cons_succ]
        refine wpAnyH_take (i := 17) (oi := { dst := some 90, op := Op.indexAddr 22 (Operand.tmp 88) (Operand.tmp 89), type := 0, pos := "laws.go:1007", after := #[{ on := 15, ground := Ground.data }, { on := 16, ground := Ground.data }, { on := 12, ground := Ground.guard }], guard := some (12, false) }) (v := undef) rfl (by kernel_rfl) (by kernel_rfl) (by kernel_rfl) (fun _ _ _ h => h) (Or.inr ⟨by rfl, rfl⟩) (by assumption) ?r17_r2_18
        try simp only [Act.put, List.setIfInBounds_toArray, List.set_cons_zero, List.set_cons_succ]
        refine wpAnyH_take (i := 18) (oi := { dst := some 91, op := Op.load 3 (Operand.tmp 90), type := 3, pos := "laws.go:1007", after := #[{ on := 17, ground := Ground.data }, { on := 12, ground := Ground.guard }], guard := some (12, false) }) (v := undef) rfl (by kernel_rfl) (by kernel_rfl) (by kernel_rfl) (fun _ _ _ h => h) (Or.inr ⟨by rfl, rfl⟩) (by assumption) ?r18_r2_19
        try simp only [Act.put, List.setIfInBounds_toArray, List.set_cons_zero, List.set_cons_succ]
        refine wpAnyH_take (i := 19) (oi := { dst := some 92, op := Op.binOp BinOp.eql 3 (Operand.tmp 86) (Operand.tmp 91) 3, type := 4, pos := "laws.go:1007", after := #[{ on := 13, ground := Ground.data }, { on := 18, ground := Ground.data }, { on := 12, ground := Ground.guard }], guard := some (12, false) }) (v := undef) rfl (by kernel_rfl) (by kernel_rfl) (by kernel_rfl) (fun _ _ _ h => h) (Or.inr ⟨by rfl, rfl⟩) (by assumption) ?r19_r2_20
        try simp only [Act.put, List.setIfInBounds_toArray, List.set_cons_zero, List.set_cons_succ]
        refine wpAnyH_take (i := 20) (oi := { dst := some 93, op := Op.move (Operand.tmp 92), type := 4, pos := "laws.go:1007", after := #[{ on := 19, ground := Ground.data }, { on := 12, ground := Ground.chain }, { on := 12, ground := Ground.guard }], guard := some (12, false) }) (v := undef) rfl (by kernel_rfl) (by kernel_rfl) (by kernel_rfl) (fun _ _ _ h => h) (Or.inr ⟨by rfl, rfl⟩) (by assumption) ?r20_r2_21
        try simp only [Act.put, List.setIfInBounds_toArray, List.set_cons_zero, List.set_cons_succ]
        refine wpAnyH_take (i := 21) (oi := { dst := some 94, op := Op.load 26 (Operand.tmp 6), type := 26, pos := "laws.go:1007", after := #[{ on := 20, ground := Ground.guard }], guard := some (20, true) }) (v := undef) rfl (by kernel_rfl) (by kernel_rfl) (by kernel_rfl) (fun _ _ _ h => h) (Or.inr ⟨by rfl, rfl⟩) (by assumption) ?r21_r2_22
        try simp only [Act.put, List.setIfInBounds_toArray, List.set_cons_zero, List.set_cons_succ]
        refine wpAnyH_take (i := 22) (oi := { dst := some 95, op := Op.call { callee := Callee.value (Operand.func 24), args := #[Operand.tmp 94], argTypes := #[26] }, type := 3, pos := "laws.go:1007", after := #[{ on := 21, ground := Ground.data }, { on := 20, ground := Ground.chain }, { on := 20, ground := Ground.guard }], guard := some (20, true) }) (v := undef) rfl (by kernel_rfl) (by kernel_rfl) (by kernel_rfl) (fun _ _ _ h => h) (Or.inr ⟨by rfl, rfl⟩) (by assumption) ?r22_r2_23
        try simp only [Act.put, List.setIfInBounds_toArray, List.set_cons_zero, List.set_cons_succ]
        refine wpAnyH_take (i := 23) (oi := { dst := some 96, op := Op.move (Operand.tmp 7), type := 3, pos := "laws.go:1007", after := #[{ on := 20, ground := Ground.guard }], guard := some (20, true) }) (v := undef) rfl (by kernel_rfl) (by kernel_rfl) (by kernel_rfl) (fun _ _ _ h => h) (Or.inr ⟨by rfl, rfl⟩) (by assumption) ?r23_r2_24
        try simp only [Act.put, List.setIfInBounds_toArray, List.set_cons_zero, List.set_cons_succ]
        refine wpAnyH_take (i := 24) (oi := { dst := some 97, op := Op.binOp BinOp.geq 3 (Operand.tmp 95) (Operand.tmp 96) 3, type := 4, pos := "laws.go:1007", after := #[{ on := 22, ground := Ground.data }, { on := 23, ground := Ground.data }, { on := 20, ground := Ground.guard }], guard := some (20, true) }) (v := undef) rfl (by kernel_rfl) (by kernel_rfl) (by kernel_rfl) (fun _ _ _ h => h) (Or.inr ⟨by rfl, rfl⟩) (by assumption) ?r24_r2_25
        try simp only [Act.put, List.setIfInBounds_toArray, List.set_cons_zero, List.set_cons_succ]
        refine wpAnyH_take (i := 25) (oi := { dst := some 98, op := Op.pick (Operand.tmp 93) (Operand.tmp 97) (Operand.const (Value.bool false)), type := 4, pos := "laws.go:1007", after := #[{ on := 20, ground := Ground.data }, { on := 24, ground := Ground.data }, { on := 12, ground := Ground.guard }], guard := some (12, false) }) (v := undef) rfl (by kernel_rfl) (by kernel_rfl) (by kernel_rfl) (fun _ _ _ h => h) (Or.inr ⟨by rfl, rfl⟩) (by assumption) ?r25_r2_26
        try simp only [Act.put, List.setIfInBounds_toArray, List.set_cons_zero, List.set_cons_succ]
        refine wpAnyH_take (i := 26) (oi := { dst := some 99, op := Op.pick (Operand.tmp 85) (Operand.const (Value.bool true)) (Operand.tmp 98), type := 4, pos := "laws.go:1007", after := #[{ on := 12, ground := Ground.data }, { on := 25, ground := Ground.data }, { on := 9, ground := Ground.guard }], guard := some (9, true) }) (v := ?v26_r2_27) rfl (by kernel_rfl) (by kernel_rfl) (by kernel_rfl) (fun _ _ _ h => h) (Or.inl ⟨by rfl, ?y26_r2_27⟩) (by assumption) ?r26_r2_27
        case y26_r2_27 => (intro w hSw; (try dsimp only at hSw); go_simp; all_goals (with_reducible rfl))
        try simp only [Act.put, List.setIfInBounds_toArray, List.set_cons_zero, List.set_cons_succ]
        refine wpAnyH_take (i := 27) (oi := { dst := some 100, op := Op.pick (Operand.tmp 82) (Operand.tmp 99) (Operand.const (Value.bool false)), type := 4, pos := "laws.go:1007", after := #[{ on := 9, ground := Ground.data }, { on := 26, ground := Ground.data }], guard := none }) (v := ?v27_r2_28) rfl (by kernel_rfl) (by kernel_rfl) (by kernel_rfl) (fun _ _ _ h => h) (Or.inl ⟨by rfl, ?y27_r2_28⟩) (by assumption) ?r27_r2_28
        case y27_r2_28 => (intro w hSw; (try dsimp only at hSw); go_simp; all_goals (with_reducible rfl))
        try simp only [Act.put, List.setIfInBounds_toArray, List.set_cons_zero, List.set_cons_succ]
        refine wpAnyH_take (i := 28) (oi := { dst := some 101, op := Op.move (Operand.tmp 100), type := 4, pos := "laws.go:1007", after := #[{ on := 27, ground := Ground.data }, { on := 22, ground := Ground.chain }], guard := none }) (v := ?v28_r2_29) rfl (by kernel_rfl) (by kernel_rfl) (by kernel_rfl) (fun _ _ _ h => h) (Or.inl ⟨by rfl, ?y28_r2_29⟩) (by assumption) ?r28_r2_29
        case y28_r2_29 => (intro w hSw; (try dsimp only at hSw); go_simp; all_goals (with_reducible rfl))
        try simp only [Act.put, List.setIfInBounds_toArray, List.set_cons_zero, List.set_cons_succ]
        refine wpAnyH_take (i := 29) (oi := { dst := some 102, op := Op.load 26 (Operand.tmp 6), type := 26, pos := "laws.go:1007", after := #[{ on := 28, ground := Ground.guard }], guard := some (28, true) }) (v := ?v29_r2_30) rfl (by kernel_rfl) (by kernel_rfl) (by kernel_rfl) (fun _ _ _ h => h) (Or.inl ⟨by rfl, ?y29_r2_30⟩) (by assumption) ?r29_r2_30
        case y29_r2_30 => (intro w hSw; (try dsimp only at hSw); go_simp; all_goals (with_reducible rfl))
        try simp only [Act.put, List.setIfInBounds_toArray, List.set_cons_zero, List.set_cons_succ]
        refine wpAnyH_take (i := 31) (oi := { dst := some 104, op := Op.load 26 (Operand.tmp 3), type := 26, pos := "laws.go:1007", after := #[{ on := 28, ground := Ground.guard }], guard := some (28, true) }) (v := ?v31_r2_31) rfl (by kernel_rfl) (by kernel_rfl) (by kernel_rfl) (fun _ _ _ h => h) (Or.inl ⟨by rfl, ?y31_r2_31⟩) (by assumption) ?r31_r2_31
        case y31_r2_31 => (intro w hSw; (try dsimp only at hSw); go_simp; all_goals (with_reducible rfl))
        try simp only [Act.put, List.setIfInBounds_toArray, List.set_cons_zero, List.set_cons_succ]
        refine wpAnyH_ready (rs := [30]) (by kernel_rfl) (by simp) ?_
        refine AllReadyH.cons (o := { dst := some 103, op := Op.call { callee := Callee.value (Operand.func 24), args := #[Operand.tmp 102], argTypes := #[26] }, type := 3, pos := "laws.go:1007", after := #[{ on := 29, ground := Ground.data }, { on := 28, ground := Ground.chain }, { on := 28, ground := Ground.guard }], guard := some (28, true) }) rfl (fun K hK => ?_) AllReadyH.nil
        go_simp
        go_at_call 24
        refine (implWorst_yes _ t man _ _ xs (HRx0.out.grow (gby_drew (gby_refl _ none))) HLX.out HTK.out).mono ?_
        rintro e wH32 ⟨rfl, gH32⟩
        have m32_L_0_ : wH32.cell? _ = some _ := gH32.cell L_0_ (by simp); have m32_L_1_ : wH32.cell? _ = some _ := gH32.cell L_1_ (by simp); have m32_L_2_ : wH32.cell? _ = some _ := gH32.cell L_2_ (by simp); have m32_L_3_ : wH32.cell? _ = some _ := gH32.cell L_3_ (by simp); have m32_X_0_ : wH32.cell? _ = some _ := gH32.cell X_0_ (by simp); have m32_X_1_ : wH32.cell? _ = some _ := gH32.cell X_1_ (by simp); have m32_X_2_ : wH32.cell? _ = some _ := gH32.cell X_2_ (by simp); have m32_X_3_ : wH32.cell? _ = some _ := gH32.cell X_3_ (by simp)
        go_wp2_with fail
        clear hHeld
        refine hK.out _ _ ?s30_r2_32 (fun hHeld => ?_)
        case s30_r2_32 => exact ⟨m32_L_0_, m32_L_1_, m32_L_2_, m32_L_3_, m32_X_0_, m32_X_1_, m32_X_2_, m32_X_3_⟩
        clear hK K
        try simp only [Act.put, List.setIfInBounds_toArray, List.set_cons_zero, List.set_cons_succ]
        refine wpAnyH_ready (rs := [32]) (by kernel_rfl) (by simp) ?_
        refine AllReadyH.cons (o := { dst := some 105, op := Op.call { callee := Callee.value (Operand.func 24), args := #[Operand.tmp 104], argTypes := #[26] }, type := 3, pos := "laws.go:1007", after := #[{ on := 31, ground := Ground.data }, { on := 30, ground := Ground.chain }, { on := 28, ground := Ground.guard }], guard := some (28, true) }) rfl (fun K hK => ?_) AllReadyH.nil
        go_simp
        go_at_call 24
        refine (implWorst_yes _ s man _ _ xs (HRl0.out.grow (gby_trans (gby_drew (gby_refl _ none)) gH32)) HLX.out HOK.out).mono ?_
        rintro e wH33 ⟨rfl, gH33⟩
        have m33_L_0_ : wH33.cell? _ = some _ := gH33.cell m32_L_0_ (by simp); have m33_L_1_ : wH33.cell? _ = some _ := gH33.cell m32_L_1_ (by simp); have m33_L_2_ : wH33.cell? _ = some _ := gH33.cell m32_L_2_ (by simp); have m33_L_3_ : wH33.cell? _ = some _ := gH33.cell m32_L_3_ (by simp); have m33_X_0_ : wH33.cell? _ = some _ := gH33.cell m32_X_0_ (by simp); have m33_X_1_ : wH33.cell? _ = some _ := gH33.cell m32_X_1_ (by simp); have m33_X_2_ : wH33.cell? _ = some _ := gH33.cell m32_X_2_ (by simp); have m33_X_3_ : wH33.cell? _ = some _ := gH33.cell m32_X_3_ (by simp)
        go_wp2_with fail
        clear hHeld
        refine hK.out _ _ ?s32_r2_33 (fun hHeld => ?_)
        case s32_r2_33 => exact ⟨m33_L_0_, m33_L_1_, m33_L_2_, m33_L_3_, m33_X_0_, m33_X_1_, m33_X_2_, m33_X_3_⟩
        clear hK K
        try simp only [Act.put, List.setIfInBounds_toArray, List.set_cons_zero, List.set_cons_succ]
        refine wpAnyH_take (i := 33) (oi := { dst := some 106, op := Op.binOp BinOp.geq 3 (Operand.tmp 103) (Operand.tmp 105) 3, type := 4, pos := "laws.go:1007", after := #[{ on := 30, ground := Ground.data }, { on := 32, ground := Ground.data }, { on := 28, ground := Ground.guard }], guard := some (28, true) }) (v := ?v33_r2_34) rfl (by kernel_rfl) (by kernel_rfl) (by kernel_rfl) (fun _ _ _ h => h) (Or.inl ⟨by rfl, ?y33_r2_34⟩) (by assumption) ?r33_r2_34
        case y33_r2_34 => (intro w hSw; (try dsimp only at hSw); go_simp; all_goals (with_reducible rfl))
        try simp only [Act.put, List.setIfInBounds_toArray, List.set_cons_zero, List.set_cons_succ]
        refine wpAnyH_take (i := 34) (oi := { dst := some 107, op := Op.pick (Operand.tmp 101) (Operand.tmp 106) (Operand.const (Value.bool false)), type := 4, pos := "laws.go:1007", after := #[{ on := 28, ground := Ground.data }, { on := 33, ground := Ground.data }], guard := none }) (v := ?v34_r2_35) rfl (by kernel_rfl) (by kernel_rfl) (by kernel_rfl) (fun _ _ _ h => h) (Or.inl ⟨by rfl, ?y34_r2_35⟩) (by assumption) ?r34_r2_35
        case y34_r2_35 => (intro w hSw; (try dsimp only at hSw); go_simp; all_goals (with_reducible rfl))
        try simp only [Act.put, List.setIfInBounds_toArray, List.set_cons_zero, List.set_cons_succ]
        refine wpAnyH_take (i := 35) (oi := { dst := some 2, op := Op.assign (Operand.tmp 107), type := 4, pos := "laws.go:1007", after := #[{ on := 34, ground := Ground.data }, { on := 32, ground := Ground.chain }, { on := 0, ground := Ground.phase }, { on := 1, ground := Ground.phase }, { on := 2, ground := Ground.phase }, { on := 3, ground := Ground.phase }, { on := 4, ground := Ground.phase }, { on := 5, ground := Ground.phase }, { on := 6, ground := Ground.phase }, { on := 7, ground := Ground.phase }, { on := 8, ground := Ground.phase }, { on := 9, ground := Ground.phase }, { on := 10, ground := Ground.phase }, { on := 11, ground := Ground.phase }, { on := 12, ground := Ground.phase }, { on := 13, ground := Ground.phase }, { on := 14, ground := Ground.phase }, { on := 15, ground := Ground.phase }, { on := 16, ground := Ground.phase }, { on := 17, ground := Ground.phase }, { on := 18, ground := Ground.phase }, { on := 19, ground := Ground.phase }, { on := 20, ground := Ground.phase }, { on := 21, ground := Ground.phase }, { on := 22, ground := Ground.phase }, { on := 23, ground := Ground.phase }, { on := 24, ground := Ground.phase }, { on := 25, ground := Ground.phase }, { on := 26, ground := Ground.phase }, { on := 27, ground := Ground.phase }, { on := 28, ground := Ground.phase }, { on := 29, ground := Ground.phase }, { on := 30, ground := Ground.phase }, { on := 31, ground := Ground.phase }, { on := 32, ground := Ground.phase }, { on := 33, ground := Ground.phase }, { on := 34, ground := Ground.phase }], guard := none }) (v := ?v35_r2_36) rfl (by kernel_rfl) (by kernel_rfl) (by kernel_rfl) (fun _ _ _ h => h) (Or.inl ⟨by rfl, ?y35_r2_36⟩) (by assumption) ?r35_r2_36
        case y35_r2_36 => (intro w hSw; (try dsimp only at hSw); go_simp; all_goals (with_reducible rfl))
        try simp only [Act.put, List.setIfInBounds_toArray, List.set_cons_zero, List.set_cons_succ]
        refine wpAnyH_done (by kernel_rfl) ?_ _
        go_wp2
        go_ret
        exact ⟨rfl, gby_below (gby_trans G34_.out (gby_trans (gby_trans (gby_drew (gby_refl _ none)) gH32) gH33))⟩
    · have z1_ : ((s : Int) != 0) = true := bne_iff_ne.2 (by omega)
      have z2_ : ((s : Int) == 0) = false := beq_eq_false_iff_ne.2 (by omega)
      have hfk : f_ = fi := by rw [HFF.out]; unfold repF; rw [if_neg h0]
      have HFF2 := Lib.hid HFF
      clear HFF2 HFF h0
      subst hfk
      have q3_ : (f_ != f_) = false := by simp
      go_wp2_with fail
      go_at_call 23
      refine (implLog_yes _ _ _ _ _ xs (HRl.out.grow HTl22_.out) HLX.out HOK.out).mono ?_
      rintro e w5 ⟨rfl, g⟩
      have szw5 := g.size
      try simp only [World.size_alloc] at szw5
      try simp only [World.size_setCell] at szw5
      clear L_0_ L_1_ L_2_ L_3_ X_0_ X_1_ X_2_ X_3_
      have rL26_ := Lib.hid (show (w5).heap[w2.heap.size]? = some (.cells #[.int .i64 (s : Int), .int .i64 (man : Int), .int .i64 f_, .slice (some ⟨lb, lo, none⟩) 16 lc] 26 (0, 0)) from row_held g rL20_.out)
      clear rL20_
      have rX27_ := Lib.hid (show (w5).heap[w4.heap.size]? = some (.cells #[.int .i64 (t : Int), .int .i64 (man : Int), .int .i64 f_, .slice xa xn xc] 26 (0, 0)) from row_held g rX25_.out)
      clear rX25_
      have G28_ := Lib.hid (show (W).grownBy (w5) none from gby_trans G21_.out g)
      have HTl29_ := Lib.hid (show (w2).grownBy (w5) none from gby_trans HTl22_.out g)
      clear HTl22_
      have HTP30_ := Lib.hid (show (w3).grownBy (w5) none from gby_trans HTP23_.out g)
      clear HTP23_
      have HTx31_ := Lib.hid (show (w4).grownBy (w5) none from gby_trans HTx24_.out g)
      clear HTx24_
      clear g
      have L_0_ : (w5).cell? ⟨w2.heap.size, 0, none⟩ = some (.int .i64 (s : Int)) := cell_of_row _ _ 0 _ _ _ rL26_.out
      have L_1_ : (w5).cell? ⟨w2.heap.size, 1, none⟩ = some (.int .i64 (man : Int)) := cell_of_row _ _ 1 _ _ _ rL26_.out
      have L_2_ : (w5).cell? ⟨w2.heap.size, 2, none⟩ = some (.int .i64 f_) := cell_of_row _ _ 2 _ _ _ rL26_.out
      have L_3_ : (w5).cell? ⟨w2.heap.size, 3, none⟩ = some (.slice (some ⟨lb, lo, none⟩) 16 lc) := cell_of_row _ _ 3 _ _ _ rL26_.out
      have X_0_ : (w5).cell? ⟨w4.heap.size, 0, none⟩ = some (.int .i64 (t : Int)) := cell_of_row _ _ 0 _ _ _ rX27_.out
      have X_1_ : (w5).cell? ⟨w4.heap.size, 1, none⟩ = some (.int .i64 (man : Int)) := cell_of_row _ _ 1 _ _ _ rX27_.out
      have X_2_ : (w5).cell? ⟨w4.heap.size, 2, none⟩ = some (.int .i64 f_) := cell_of_row _ _ 2 _ _ _ rX27_.out
      have X_3_ : (w5).cell? ⟨w4.heap.size, 3, none⟩ = some (.slice xa xn xc) := cell_of_row _ _ 3 _ _ _ rX27_.out
      go_wp2_with fail
      go_at_call 23
      refine (implLog_yes _ _ _ _ _ xs (HRx.out.grow HTx31_.out) HLX.out HTK.out).mono ?_
      rintro e w6 ⟨rfl, g⟩
      have szw6 := g.size
      try simp only [World.size_alloc] at szw6
      try simp only [World.size_setCell] at szw6
      clear L_0_ L_1_ L_2_ L_3_ X_0_ X_1_ X_2_ X_3_
      have rL32_ := Lib.hid (show (w6).heap[w2.heap.size]? = some (.cells #[.int .i64 (s : Int), .int .i64 (man : Int), .int .i64 f_, .slice (some ⟨lb, lo, none⟩) 16 lc] 26 (0, 0)) from row_held g rL26_.out)
      clear rL26_
      have rX33_ := Lib.hid (show (w6).heap[w4.heap.size]? = some (.cells #[.int .i64 (t : Int), .int .i64 (man : Int), .int .i64 f_, .slice xa xn xc] 26 (0, 0)) from row_held g rX27_.out)
      clear rX27_
      have G34_ := Lib.hid (show (W).grownBy (w6) none from gby_trans G28_.out g)
      have HTl35_ := Lib.hid (show (w2).grownBy (w6) none from gby_trans HTl29_.out g)
      clear HTl29_
      have HTP36_ := Lib.hid (show (w3).grownBy (w6) none from gby_trans HTP30_.out g)
      clear HTP30_
      have HTx37_ := Lib.hid (show (w4).grownBy (w6) none from gby_trans HTx31_.out g)
      clear HTx31_
      clear g
      have L_0_ : (w6).cell? ⟨w2.heap.size, 0, none⟩ = some (.int .i64 (s : Int)) := cell_of_row _ _ 0 _ _ _ rL32_.out
      have L_1_ : (w6).cell? ⟨w2.heap.size, 1, none⟩ = some (.int .i64 (man : Int)) := cell_of_row _ _ 1 _ _ _ rL32_.out
      have L_2_ : (w6).cell? ⟨w2.heap.size, 2, none⟩ = some (.int .i64 f_) := cell_of_row _ _ 2 _ _ _ rL32_.out
      have L_3_ : (w6).cell? ⟨w2.heap.size, 3, none⟩ = some (.slice (some ⟨lb, lo, none⟩) 16 lc) := cell_of_row _ _ 3 _ _ _ rL32_.out
      have X_0_ : (w6).cell? ⟨w4.heap.size, 0, none⟩ = some (.int .i64 (t : Int)) := cell_of_row _ _ 0 _ _ _ rX33_.out
      have X_1_ : (w6).cell? ⟨w4.heap.size, 1, none⟩ = some (.int .i64 (man : Int)) := cell_of_row _ _ 1 _ _ _ rX33_.out
      have X_2_ : (w6).cell? ⟨w4.heap.size, 2, none⟩ = some (.int .i64 f_) := cell_of_row _ _ 2 _ _ _ rX33_.out
      have X_3_ : (w6).cell? ⟨w4.heap.size, 3, none⟩ = some (.slice xa xn xc) := cell_of_row _ _ 3 _ _ _ rX33_.out
      go_wp2_with fail
      have HRl0 := Lib.hid (HRl.out.grow HTl35_.out)
      have HRx0 := Lib.hid (HRx.out.grow HTx37_.out)
      have hwm_ := HWM.out
      have hwm2_ : decide (worst s man xs 16 ≤ worst t man xs 16) = true := decide_eq_true hwm_
      cases hbit : bitB man kn
      · skip
        have hrv : r = xs.getD kn 0 := by rw [HRR.out]; unfold repV; rw [hbit, if_neg (by simp)]
        have HRV := Lib.hid hrv
        have hr0 := HOK.out.2.2.2.1 kn (by omega)
        rw [← hrv] at hr0
        have hb0_ := bit_and0 man kn hm0 hbit
        have r1_ : (r == -1) = false := beq_eq_false_iff_ne.2 (by omega)
        have r2_ : (r == r) = true := by simp
        have hwr_ : r ≤ worst t man xs 16 := by rw [hrv]; exact worst_has (by rw [HTT.out]; exact rpS_bit s kn) hbit 16 (by omega)
        have hwr2_ : decide (r ≤ worst t man xs 16) = true := decide_eq_true hwr_
        have sv_ := (HTl35_.out).cell (HLC.out kn (by omega)) (by simp)
        rw [← hrv] at sv_
        have r3_ : ((0 : Int) == 1) = false := rfl
        clear hrv hbit
        refine wp_region_held_drew (S := fun w' => w'.cell? ⟨w2.heap.size, 0, none⟩ = some (.int .i64 (s : Int)) ∧ w'.cell? ⟨w2.heap.size, 1, none⟩ = some (.int .i64 (man : Int)) ∧ w'.cell? ⟨w2.heap.size, 2, none⟩ = some (.int .i64 f_) ∧ w'.cell? ⟨w2.heap.size, 3, none⟩ = some (.slice (some ⟨lb, lo, none⟩) 16 lc) ∧ w'.cell? ⟨w4.heap.size, 0, none⟩ = some (.int .i64 (t : Int)) ∧ w'.cell? ⟨w4.heap.size, 1, none⟩ = some (.int .i64 (man : Int)) ∧ w'.cell? ⟨w4.heap.size, 2, none⟩ = some (.int .i64 f_) ∧ w'.cell? ⟨w4.heap.size, 3, none⟩ = some (.slice xa xn xc) ∧ w'.cell? ⟨lb, lo + kn, none⟩ = some (.int .i64 r)) (by kernel_rfl) (by (try dsimp only); exact ⟨L_0_, L_1_, L_2_, L_3_, X_0_, X_1_, X_2_, X_3_, sv_⟩) (fun hHeld => ?_)
        refine wpAnyH_take (i := 0) (oi := { dst := some 73, op := Op.move (Operand.tmp 7), type := 3, pos := "laws.go:1007", after := #[], guard := none }) (v := ?v0_r3_1) rfl (by kernel_rfl) (by kernel_rfl) (by kernel_rfl) (fun _ _ _ h => h) (Or.inl ⟨by rfl, ?y0_r3_1⟩) (by assumption) ?r0_r3_1
        case y0_r3_1 => (intro w hSw; (try dsimp only at hSw); go_simp; all_goals (with_reducible rfl))
        try simp only [Act.put, List.setIfInBounds_toArray, List.set_cons_zero, List.set_cons_succ]
        refine wpAnyH_take (i := 1) (oi := { dst := some 74, op := Op.binOp BinOp.eql 3 (Operand.tmp 73) (Operand.const (Value.int IntKind.i64 (-1))) 3, type := 4, pos := "laws.go:1007", after := #[{ on := 0, ground := Ground.data }], guard := none }) (v := ?v1_r3_2) rfl (by kernel_rfl) (by kernel_rfl) (by kernel_rfl) (fun _ _ _ h => h) (Or.inl ⟨by rfl, ?y1_r3_2⟩) (by assumption) ?r1_r3_2
        case y1_r3_2 => (intro w hSw; (try dsimp only at hSw); go_simp; all_goals (with_reducible rfl))
        try simp only [Act.put, List.setIfInBounds_toArray, List.set_cons_zero, List.set_cons_succ]
        refine wpAnyH_take (i := 2) (oi := { dst := some 75, op := Op.fieldAddr 26 (Operand.tmp 3) 1, type := 0, pos := "laws.go:1007", after := #[], guard := none }) (v := ?v2_r3_3) rfl (by kernel_rfl) (by kernel_rfl) (by kernel_rfl) (fun _ _ _ h => h) (Or.inl ⟨by rfl, ?y2_r3_3⟩) (by assumption) ?r2_r3_3
        case y2_r3_3 => (intro w hSw; (try dsimp only at hSw); go_simp; all_goals (with_reducible rfl))
        try simp only [Act.put, List.setIfInBounds_toArray, List.set_cons_zero, List.set_cons_succ]
        refine wpAnyH_take (i := 3) (oi := { dst := some 76, op := Op.load 3 (Operand.tmp 75), type := 3, pos := "laws.go:1007", after := #[{ on := 2, ground := Ground.data }], guard := none }) (v := ?v3_r3_4) rfl (by kernel_rfl) (by kernel_rfl) (by kernel_rfl) (fun _ _ _ h => h) (Or.inl ⟨by rfl, ?y3_r3_4⟩) (by assumption) ?r3_r3_4
        case y3_r3_4 => (intro w hSw; (try dsimp only at hSw); go_simp; all_goals (with_reducible rfl))
        try simp only [Act.put, List.setIfInBounds_toArray, List.set_cons_zero, List.set_cons_succ]
        refine wpAnyH_take (i := 4) (oi := { dst := some 77, op := Op.move (Operand.tmp 5), type := 3, pos := "laws.go:1007", after := #[], guard := none }) (v := ?v4_r3_5) rfl (by kernel_rfl) (by kernel_rfl) (by kernel_rfl) (fun _ _ _ h => h) (Or.inl ⟨by rfl, ?y4_r3_5⟩) (by assumption) ?r4_r3_5
        case y4_r3_5 => (intro w hSw; (try dsimp only at hSw); go_simp; all_goals (with_reducible rfl))
        try simp only [Act.put, List.setIfInBounds_toArray, List.set_cons_zero, List.set_cons_succ]
        refine wpAnyH_take (i := 5) (oi := { dst := some 78, op := Op.binOp BinOp.shr 3 (Operand.tmp 76) (Operand.tmp 77) 3, type := 3, pos := "laws.go:1007", after := #[{ on := 3, ground := Ground.data }, { on := 4, ground := Ground.data }], guard := none }) (v := ?v5_r3_6) rfl (by kernel_rfl) (by kernel_rfl) (by kernel_rfl) (fun _ _ _ h => h) (Or.inl ⟨by rfl, ?y5_r3_6⟩) (by assumption) ?r5_r3_6
        case y5_r3_6 => (intro w hSw; (try dsimp only at hSw); go_simp; all_goals (with_reducible rfl))
        try simp only [Act.put, List.setIfInBounds_toArray, List.set_cons_zero, List.set_cons_succ]
        refine wpAnyH_take (i := 6) (oi := { dst := some 79, op := Op.binOp BinOp.and 3 (Operand.tmp 78) (Operand.const (Value.int IntKind.i64 1)) 3, type := 3, pos := "laws.go:1007", after := #[{ on := 5, ground := Ground.data }], guard := none }) (v := ?v6_r3_7) rfl (by kernel_rfl) (by kernel_rfl) (by kernel_rfl) (fun _ _ _ h => h) (Or.inl ⟨by rfl, ?y6_r3_7⟩) (by assumption) ?r6_r3_7
        case y6_r3_7 => (intro w hSw; (try dsimp only at hSw); go_simp; all_goals (with_reducible rfl))
        try simp only [Act.put, List.setIfInBounds_toArray, List.set_cons_zero, List.set_cons_succ]
        refine wpAnyH_take (i := 7) (oi := { dst := some 80, op := Op.binOp BinOp.eql 3 (Operand.tmp 79) (Operand.const (Value.int IntKind.i64 1)) 3, type := 4, pos := "laws.go:1007", after := #[{ on := 6, ground := Ground.data }], guard := none }) (v := ?v7_r3_8) rfl (by kernel_rfl) (by kernel_rfl) (by kernel_rfl) (fun _ _ _ h => h) (Or.inl ⟨by rfl, ?y7_r3_8⟩) (by assumption) ?r7_r3_8
        case y7_r3_8 => (intro w hSw; (try dsimp only at hSw); go_simp; all_goals (with_reducible rfl))
        try simp only [Act.put, List.setIfInBounds_toArray, List.set_cons_zero, List.set_cons_succ]
        refine wpAnyH_take (i := 8) (oi := { dst := some 81, op := Op.binOp BinOp.eql 4 (Operand.tmp 74) (Operand.tmp 80) 4, type := 4, pos := "laws.go:1007", after := #[{ on := 1, ground := Ground.data }, { on := 7, ground := Ground.data }], guard := none }) (v := ?v8_r3_9) rfl (by kernel_rfl) (by kernel_rfl) (by kernel_rfl) (fun _ _ _ h => h) (Or.inl ⟨by rfl, ?y8_r3_9⟩) (by assumption) ?r8_r3_9
        case y8_r3_9 => (intro w hSw; (try dsimp only at hSw); go_simp; all_goals (with_reducible rfl))
        try simp only [Act.put, List.setIfInBounds_toArray, List.set_cons_zero, List.set_cons_succ]
        refine wpAnyH_take (i := 9) (oi := { dst := some 82, op := Op.move (Operand.tmp 81), type := 4, pos := "laws.go:1007", after := #[{ on := 8, ground := Ground.data }], guard := none }) (v := ?v9_r3_10) rfl (by kernel_rfl) (by kernel_rfl) (by kernel_rfl) (fun _ _ _ h => h) (Or.inl ⟨by rfl, ?y9_r3_10⟩) (by assumption) ?r9_r3_10
        case y9_r3_10 => (intro w hSw; (try dsimp only at hSw); go_simp; all_goals (with_reducible rfl))
        try simp only [Act.put, List.setIfInBounds_toArray, List.set_cons_zero, List.set_cons_succ]
        refine wpAnyH_take (i := 10) (oi := { dst := some 83, op := Op.move (Operand.tmp 7), type := 3, pos := "laws.go:1007", after := #[{ on := 9, ground := Ground.guard }], guard := some (9, true) }) (v := ?v10_r3_11) rfl (by kernel_rfl) (by kernel_rfl) (by kernel_rfl) (fun _ _ _ h => h) (Or.inl ⟨by rfl, ?y10_r3_11⟩) (by assumption) ?r10_r3_11
        case y10_r3_11 => (intro w hSw; (try dsimp only at hSw); go_simp; all_goals (with_reducible rfl))
        try simp only [Act.put, List.setIfInBounds_toArray, List.set_cons_zero, List.set_cons_succ]
        refine wpAnyH_take (i := 11) (oi := { dst := some 84, op := Op.binOp BinOp.eql 3 (Operand.tmp 83) (Operand.const (Value.int IntKind.i64 (-1))) 3, type := 4, pos := "laws.go:1007", after := #[{ on := 10, ground := Ground.data }, { on := 9, ground := Ground.guard }], guard := some (9, true) }) (v := ?v11_r3_12) rfl (by kernel_rfl) (by kernel_rfl) (by kernel_rfl) (fun _ _ _ h => h) (Or.inl ⟨by rfl, ?y11_r3_12⟩) (by assumption) ?r11_r3_12
        case y11_r3_12 => (intro w hSw; (try dsimp only at hSw); go_simp; all_goals (with_reducible rfl))
        try simp only [Act.put, List.setIfInBounds_toArray, List.set_cons_zero, List.set_cons_succ]
        refine wpAnyH_take (i := 12) (oi := { dst := some 85, op := Op.move (Operand.tmp 84), type := 4, pos := "laws.go:1007", after := #[{ on := 11, ground := Ground.data }, { on := 9, ground := Ground.chain }, { on := 9, ground := Ground.guard }], guard := some (9, true) }) (v := ?v12_r3_13) rfl (by kernel_rfl) (by kernel_rfl) (by kernel_rfl) (fun _ _ _ h => h) (Or.inl ⟨by rfl, ?y12_r3_13⟩) (by assumption) ?r12_r3_13
        case y12_r3_13 => (intro w hSw; (try dsimp only at hSw); go_simp; all_goals (with_reducible rfl))
        try simp only [Act.put, List.setIfInBounds_toArray, List.set_cons_zero, List.set_cons_succ]
        refine wpAnyH_take (i := 13) (oi := { dst := some 86, op := Op.move (Operand.tmp 7), type := 3, pos := "laws.go:1007", after := #[{ on := 12, ground := Ground.guard }], guard := some (12, false) }) (v := ?v13_r3_14) rfl (by kernel_rfl) (by kernel_rfl) (by kernel_rfl) (fun _ _ _ h => h) (Or.inl ⟨by rfl, ?y13_r3_14⟩) (by assumption) ?r13_r3_14
        case y13_r3_14 => (intro w hSw; (try dsimp only at hSw); go_simp; all_goals (with_reducible rfl))
        try simp only [Act.put, List.setIfInBounds_toArray, List.set_cons_zero, List.set_cons_succ]
        refine wpAnyH_take (i := 14) (oi := { dst := some 87, op := Op.fieldAddr 26 (Operand.tmp 3) 3, type := 0, pos := "laws.go:1007", after := #[{ on := 12, ground := Ground.guard }], guard := some (12, false) }) (v := ?v14_r3_15) rfl (by kernel_rfl) (by kernel_rfl) (by kernel_rfl) (fun _ _ _ h => h) (Or.inl ⟨by rfl, ?y14_r3_15⟩) (by assumption) ?r14_r3_15
        case y14_r3_15 => (intro w hSw; (try dsimp only at hSw); go_simp; all_goals (with_reducible rfl))
        try simp only [Act.put, List.setIfInBounds_toArray, List.set_cons_zero, List.set_cons_succ]
        refine wpAnyH_take (i := 15) (oi := { dst := some 88, op := Op.load 22 (Operand.tmp 87), type := 22, pos := "laws.go:1007", after := #[{ on := 14, ground := Ground.data }, { on := 12, ground := Ground.guard }], guard := some (12, false) }) (v := ?v15_r3_16) rfl (by kernel_rfl) (by kernel_rfl) (by kernel_rfl) (fun _ _ _ h => h) (Or.inl ⟨by rfl, ?y15_r3_16⟩) (by assumption) ?r15_r3_16
        case y15_r3_16 => (intro w hSw; (try dsimp only at hSw); go_simp; all_goals (with_reducible rfl))
        try simp only [Act.put, List.setIfInBounds_toArray, List.set_cons_zero, List.set_cons_succ]
        refine wpAnyH_take (i := 16) (oi := { dst := some 89, op := Op.move (Operand.tmp 5), type := 3, pos := "laws.go:1007", after := #[{ on := 12, ground := Ground.guard }], guard := some (12, false) }) (v := ?v16_r3_17) rfl (by kernel_rfl) (by kernel_rfl) (by kernel_rfl) (fun _ _ _ h => h) (Or.inl ⟨by rfl, ?y16_r3_17⟩) (by assumption) ?r16_r3_17
        case y16_r3_17 => (intro w hSw; (try dsimp only at hSw); go_simp; all_goals (with_reducible rfl))
        try simp only [Act.put, List.setIfInBounds_toArray, List.set_cons_zero, List.set_cons_succ]
        refine wpAnyH_take (i := 17) (oi := { dst := some 90, op := Op.indexAddr 22 (Operand.tmp 88) (Operand.tmp 89), type := 0, pos := "laws.go:1007", after := #[{ on := 15, ground := Ground.data }, { on := 16, ground := Ground.data }, { on := 12, ground := Ground.guard }], guard := some (12, false) }) (v := ?v17_r3_18) rfl (by kernel_rfl) (by kernel_rfl) (by kernel_rfl) (fun _ _ _ h => h) (Or.inl ⟨by rfl, ?y17_r3_18⟩) (by assumption) ?r17_r3_18
        case y17_r3_18 => (intro w hSw; (try dsimp only at hSw); go_simp; all_goals (with_reducible rfl))
        try simp only [Act.put, List.setIfInBounds_toArray, List.set_cons_zero, List.set_cons_succ]
        refine wpAnyH_take (i := 18) (oi := { dst := some 91, op := Op.load 3 (Operand.tmp 90), type := 3, pos := "laws.go:1007", after := #[{ on := 17, ground := Ground.data }, { on := 12, ground := Ground.guard }], guard := some (12, false) }) (v := ?v18_r3_19) rfl (by kernel_rfl) (by kernel_rfl) (by kernel_rfl) (fun _ _ _ h => h) (Or.inl ⟨by rfl, ?y18_r3_19⟩) (by assumption) ?r18_r3_19
        case y18_r3_19 => (intro w hSw; (try dsimp only at hSw); go_simp; all_goals (with_reducible rfl))
        try simp only [Act.put, List.setIfInBounds_toArray, List.set_cons_zero, List.set_cons_succ]
        refine wpAnyH_take (i := 19) (oi := { dst := some 92, op := Op.binOp BinOp.eql 3 (Operand.tmp 86) (Operand.tmp 91) 3, type := 4, pos := "laws.go:1007", after := #[{ on := 13, ground := Ground.data }, { on := 18, ground := Ground.data }, { on := 12, ground := Ground.guard }], guard := some (12, false) }) (v := ?v19_r3_20) rfl (by kernel_rfl) (by kernel_rfl) (by kernel_rfl) (fun _ _ _ h => h) (Or.inl ⟨by rfl, ?y19_r3_20⟩) (by assumption) ?r19_r3_20
        case y19_r3_20 => (intro w hSw; (try dsimp only at hSw); go_simp; all_goals (with_reducible rfl))
        try simp only [Act.put, List.setIfInBounds_toArray, List.set_cons_zero, List.set_cons_succ]
        refine wpAnyH_take (i := 20) (oi := { dst := some 93, op := Op.move (Operand.tmp 92), type := 4, pos := "laws.go:1007", after := #[{ on := 19, ground := Ground.data }, { on := 12, ground := Ground.chain }, { on := 12, ground := Ground.guard }], guard := some (12, false) }) (v := ?v20_r3_21) rfl (by kernel_rfl) (by kernel_rfl) (by kernel_rfl) (fun _ _ _ h => h) (Or.inl ⟨by rfl, ?y20_r3_21⟩) (by assumption) ?r20_r3_21
        case y20_r3_21 => (intro w hSw; (try dsimp only at hSw); go_simp; all_goals (with_reducible rfl))
        try simp only [Act.put, List.setIfInBounds_toArray, List.set_cons_zero, List.set_cons_succ]
        refine wpAnyH_take (i := 21) (oi := { dst := some 94, op := Op.load 26 (Operand.tmp 6), type := 26, pos := "laws.go:1007", after := #[{ on := 20, ground := Ground.guard }], guard := some (20, true) }) (v := ?v21_r3_22) rfl (by kernel_rfl) (by kernel_rfl) (by kernel_rfl) (fun _ _ _ h => h) (Or.inl ⟨by rfl, ?y21_r3_22⟩) (by assumption) ?r21_r3_22
        case y21_r3_22 => (intro w hSw; (try dsimp only at hSw); go_simp; all_goals (with_reducible rfl))
        try simp only [Act.put, List.setIfInBounds_toArray, List.set_cons_zero, List.set_cons_succ]
        refine wpAnyH_take (i := 23) (oi := { dst := some 96, op := Op.move (Operand.tmp 7), type := 3, pos := "laws.go:1007", after := #[{ on := 20, ground := Ground.guard }], guard := some (20, true) }) (v := ?v23_r3_23) rfl (by kernel_rfl) (by kernel_rfl) (by kernel_rfl) (fun _ _ _ h => h) (Or.inl ⟨by rfl, ?y23_r3_23⟩) (by assumption) ?r23_r3_23
        case y23_r3_23 => (intro w hSw; (try dsimp only at hSw); go_simp; all_goals (with_reducible rfl))
        try simp only [Act.put, List.setIfInBounds_toArray, List.set_cons_zero, List.set_cons_succ]
        refine wpAnyH_ready (rs := [22]) (by kernel_rfl) (by simp) ?_
        refine AllReadyH.cons (o := { dst := some 95, op := Op.call { callee := Callee.value (Operand.func 24), args := #[Operand.tmp 94], argTypes := #[26] }, type := 3, pos := "laws.go:1007", after := #[{ on := 21, ground := Ground.data }, { on := 20, ground := Ground.chain }, { on := 20, ground := Ground.guard }], guard := some (20, true) }) rfl (fun K hK => ?_) AllReadyH.nil
        go_simp
        go_at_call 24
        refine (implWorst_yes _ t man _ _ xs (HRx0.out.grow (gby_drew (gby_refl _ none))) HLX.out HTK.out).mono ?_
        rintro e wH24 ⟨rfl, gH24⟩
        have m24_L_0_ : wH24.cell? _ = some _ := gH24.cell L_0_ (by simp); have m24_L_1_ : wH24.cell? _ = some _ := gH24.cell L_1_ (by simp); have m24_L_2_ : wH24.cell? _ = some _ := gH24.cell L_2_ (by simp); have m24_L_3_ : wH24.cell? _ = some _ := gH24.cell L_3_ (by simp); have m24_X_0_ : wH24.cell? _ = some _ := gH24.cell X_0_ (by simp); have m24_X_1_ : wH24.cell? _ = some _ := gH24.cell X_1_ (by simp); have m24_X_2_ : wH24.cell? _ = some _ := gH24.cell X_2_ (by simp); have m24_X_3_ : wH24.cell? _ = some _ := gH24.cell X_3_ (by simp); have m24_sv_ : wH24.cell? _ = some _ := gH24.cell sv_ (by simp)
        go_wp2_with fail
        clear hHeld
        refine hK.out _ _ ?s22_r3_24 (fun hHeld => ?_)
        case s22_r3_24 => exact ⟨m24_L_0_, m24_L_1_, m24_L_2_, m24_L_3_, m24_X_0_, m24_X_1_, m24_X_2_, m24_X_3_, m24_sv_⟩
        clear hK K
        try simp only [Act.put, List.setIfInBounds_toArray, List.set_cons_zero, List.set_cons_succ]
        refine wpAnyH_take (i := 24) (oi := { dst := some 97, op := Op.binOp BinOp.geq 3 (Operand.tmp 95) (Operand.tmp 96) 3, type := 4, pos := "laws.go:1007", after := #[{ on := 22, ground := Ground.data }, { on := 23, ground := Ground.data }, { on := 20, ground := Ground.guard }], guard := some (20, true) }) (v := ?v24_r3_25) rfl (by kernel_rfl) (by kernel_rfl) (by kernel_rfl) (fun _ _ _ h => h) (Or.inl ⟨by rfl, ?y24_r3_25⟩) (by assumption) ?r24_r3_25
        case y24_r3_25 => (intro w hSw; (try dsimp only at hSw); go_simp; all_goals (with_reducible rfl))
        try simp only [Act.put, List.setIfInBounds_toArray, List.set_cons_zero, List.set_cons_succ]
        refine wpAnyH_take (i := 25) (oi := { dst := some 98, op := Op.pick (Operand.tmp 93) (Operand.tmp 97) (Operand.const (Value.bool false)), type := 4, pos := "laws.go:1007", after := #[{ on := 20, ground := Ground.data }, { on := 24, ground := Ground.data }, { on := 12, ground := Ground.guard }], guard := some (12, false) }) (v := ?v25_r3_26) rfl (by kernel_rfl) (by kernel_rfl) (by kernel_rfl) (fun _ _ _ h => h) (Or.inl ⟨by rfl, ?y25_r3_26⟩) (by assumption) ?r25_r3_26
        case y25_r3_26 => (intro w hSw; (try dsimp only at hSw); go_simp; all_goals (with_reducible rfl))
        try simp only [Act.put, List.setIfInBounds_toArray, List.set_cons_zero, List.set_cons_succ]
        refine wpAnyH_take (i := 26) (oi := { dst := some 99, op := Op.pick (Operand.tmp 85) (Operand.const (Value.bool true)) (Operand.tmp 98), type := 4, pos := "laws.go:1007", after := #[{ on := 12, ground := Ground.data }, { on := 25, ground := Ground.data }, { on := 9, ground := Ground.guard }], guard := some (9, true) }) (v := ?v26_r3_27) rfl (by kernel_rfl) (by kernel_rfl) (by kernel_rfl) (fun _ _ _ h => h) (Or.inl ⟨by rfl, ?y26_r3_27⟩) (by assumption) ?r26_r3_27
        case y26_r3_27 => (intro w hSw; (try dsimp only at hSw); go_simp; all_goals (with_reducible rfl))
        try simp only [Act.put, List.setIfInBounds_toArray, List.set_cons_zero, List.set_cons_succ]
        refine wpAnyH_take (i := 27) (oi := { dst := some 100, op := Op.pick (Operand.tmp 82) (Operand.tmp 99) (Operand.const (Value.bool false)), type := 4, pos := "laws.go:1007", after := #[{ on := 9, ground := Ground.data }, { on := 26, ground := Ground.data }], guard := none }) (v := ?v27_r3_28) rfl (by kernel_rfl) (by kernel_rfl) (by kernel_rfl) (fun _ _ _ h => h) (Or.inl ⟨by rfl, ?y27_r3_28⟩) (by assumption) ?r27_r3_28
        case y27_r3_28 => (intro w hSw; (try dsimp only at hSw); go_simp; all_goals (with_reducible rfl))
        try simp only [Act.put, List.setIfInBounds_toArray, List.set_cons_zero, List.set_cons_succ]
        refine wpAnyH_take (i := 28) (oi := { dst := some 101, op := Op.move (Operand.tmp 100), type := 4, pos := "laws.go:1007", after := #[{ on := 27, ground := Ground.data }, { on := 22, ground := Ground.chain }], guard := none }) (v := ?v28_r3_29) rfl (by kernel_rfl) (by kernel_rfl) (by kernel_rfl) (fun _ _ _ h => h) (Or.inl ⟨by rfl, ?y28_r3_29⟩) (by assumption) ?r28_r3_29
        case y28_r3_29 => (intro w hSw; (try dsimp only at hSw); go_simp; all_goals (with_reducible rfl))
        try simp only [Act.put, List.setIfInBounds_toArray, List.set_cons_zero, List.set_cons_succ]
        refine wpAnyH_take (i := 29) (oi := { dst := some 102, op := Op.load 26 (Operand.tmp 6), type := 26, pos := "laws.go:1007", after := #[{ on := 28, ground := Ground.guard }], guard := some (28, true) }) (v := ?v29_r3_30) rfl (by kernel_rfl) (by kernel_rfl) (by kernel_rfl) (fun _ _ _ h => h) (Or.inl ⟨by rfl, ?y29_r3_30⟩) (by assumption) ?r29_r3_30
        case y29_r3_30 => (intro w hSw; (try dsimp only at hSw); go_simp; all_goals (with_reducible rfl))
        try simp only [Act.put, List.setIfInBounds_toArray, List.set_cons_zero, List.set_cons_succ]
        refine wpAnyH_take (i := 31) (oi := { dst := some 104, op := Op.load 26 (Operand.tmp 3), type := 26, pos := "laws.go:1007", after := #[{ on := 28, ground := Ground.guard }], guard := some (28, true) }) (v := ?v31_r3_31) rfl (by kernel_rfl) (by kernel_rfl) (by kernel_rfl) (fun _ _ _ h => h) (Or.inl ⟨by rfl, ?y31_r3_31⟩) (by assumption) ?r31_r3_31
        case y31_r3_31 => (intro w hSw; (try dsimp only at hSw); go_simp; all_goals (with_reducible rfl))
        try simp only [Act.put, List.setIfInBounds_toArray, List.set_cons_zero, List.set_cons_succ]
        refine wpAnyH_ready (rs := [30]) (by kernel_rfl) (by simp) ?_
        refine AllReadyH.cons (o := { dst := some 103, op := Op.call { callee := Callee.value (Operand.func 24), args := #[Operand.tmp 102], argTypes := #[26] }, type := 3, pos := "laws.go:1007", after := #[{ on := 29, ground := Ground.data }, { on := 28, ground := Ground.chain }, { on := 28, ground := Ground.guard }], guard := some (28, true) }) rfl (fun K hK => ?_) AllReadyH.nil
        go_simp
        go_at_call 24
        refine (implWorst_yes _ t man _ _ xs (HRx0.out.grow (gby_trans (gby_drew (gby_refl _ none)) gH24)) HLX.out HTK.out).mono ?_
        rintro e wH32 ⟨rfl, gH32⟩
        have m32_L_0_ : wH32.cell? _ = some _ := gH32.cell m24_L_0_ (by simp); have m32_L_1_ : wH32.cell? _ = some _ := gH32.cell m24_L_1_ (by simp); have m32_L_2_ : wH32.cell? _ = some _ := gH32.cell m24_L_2_ (by simp); have m32_L_3_ : wH32.cell? _ = some _ := gH32.cell m24_L_3_ (by simp); have m32_X_0_ : wH32.cell? _ = some _ := gH32.cell m24_X_0_ (by simp); have m32_X_1_ : wH32.cell? _ = some _ := gH32.cell m24_X_1_ (by simp); have m32_X_2_ : wH32.cell? _ = some _ := gH32.cell m24_X_2_ (by simp); have m32_X_3_ : wH32.cell? _ = some _ := gH32.cell m24_X_3_ (by simp); have m32_sv_ : wH32.cell? _ = some _ := gH32.cell m24_sv_ (by simp)
        go_wp2_with fail
        clear hHeld
        refine hK.out _ _ ?s30_r3_32 (fun hHeld => ?_)
        case s30_r3_32 => exact ⟨m32_L_0_, m32_L_1_, m32_L_2_, m32_L_3_, m32_X_0_, m32_X_1_, m32_X_2_, m32_X_3_, m32_sv_⟩
        clear hK K
        try simp only [Act.put, List.setIfInBounds_toArray, List.set_cons_zero, List.set_cons_succ]
        refine wpAnyH_ready (rs := [32]) (by kernel_rfl) (by simp) ?_
        refine AllReadyH.cons (o := { dst := some 105, op := Op.call { callee := Callee.value (Operand.func 24), args := #[Operand.tmp 104], argTypes := #[26] }, type := 3, pos := "laws.go:1007", after := #[{ on := 31, ground := Ground.data }, { on := 30, ground := Ground.chain }, { on := 28, ground := Ground.guard }], guard := some (28, true) }) rfl (fun K hK => ?_) AllReadyH.nil
        go_simp
        go_at_call 24
        refine (implWorst_yes _ s man _ _ xs (HRl0.out.grow (gby_trans (gby_trans (gby_drew (gby_refl _ none)) gH24) gH32)) HLX.out HOK.out).mono ?_
        rintro e wH33 ⟨rfl, gH33⟩
        have m33_L_0_ : wH33.cell? _ = some _ := gH33.cell m32_L_0_ (by simp); have m33_L_1_ : wH33.cell? _ = some _ := gH33.cell m32_L_1_ (by simp); have m33_L_2_ : wH33.cell? _ = some _ := gH33.cell m32_L_2_ (by simp); have m33_L_3_ : wH33.cell? _ = some _ := gH33.cell m32_L_3_ (by simp); have m33_X_0_ : wH33.cell? _ = some _ := gH33.cell m32_X_0_ (by simp); have m33_X_1_ : wH33.cell? _ = some _ := gH33.cell m32_X_1_ (by simp); have m33_X_2_ : wH33.cell? _ = some _ := gH33.cell m32_X_2_ (by simp); have m33_X_3_ : wH33.cell? _ = some _ := gH33.cell m32_X_3_ (by simp); have m33_sv_ : wH33.cell? _ = some _ := gH33.cell m32_sv_ (by simp)
        go_wp2_with fail
        clear hHeld
        refine hK.out _ _ ?s32_r3_33 (fun hHeld => ?_)
        case s32_r3_33 => exact ⟨m33_L_0_, m33_L_1_, m33_L_2_, m33_L_3_, m33_X_0_, m33_X_1_, m33_X_2_, m33_X_3_, m33_sv_⟩
        clear hK K
        try simp only [Act.put, List.setIfInBounds_toArray, List.set_cons_zero, List.set_cons_succ]
        refine wpAnyH_take (i := 33) (oi := { dst := some 106, op := Op.binOp BinOp.geq 3 (Operand.tmp 103) (Operand.tmp 105) 3, type := 4, pos := "laws.go:1007", after := #[{ on := 30, ground := Ground.data }, { on := 32, ground := Ground.data }, { on := 28, ground := Ground.guard }], guard := some (28, true) }) (v := ?v33_r3_34) rfl (by kernel_rfl) (by kernel_rfl) (by kernel_rfl) (fun _ _ _ h => h) (Or.inl ⟨by rfl, ?y33_r3_34⟩) (by assumption) ?r33_r3_34
        case y33_r3_34 => (intro w hSw; (try dsimp only at hSw); go_simp; all_goals (with_reducible rfl))
        try simp only [Act.put, List.setIfInBounds_toArray, List.set_cons_zero, List.set_cons_succ]
        refine wpAnyH_take (i := 34) (oi := { dst := some 107, op := Op.pick (Operand.tmp 101) (Operand.tmp 106) (Operand.const (Value.bool false)), type := 4, pos := "laws.go:1007", after := #[{ on := 28, ground := Ground.data }, { on := 33, ground := Ground.data }], guard := none }) (v := ?v34_r3_35) rfl (by kernel_rfl) (by kernel_rfl) (by kernel_rfl) (fun _ _ _ h => h) (Or.inl ⟨by rfl, ?y34_r3_35⟩) (by assumption) ?r34_r3_35
        case y34_r3_35 => (intro w hSw; (try dsimp only at hSw); go_simp; all_goals (with_reducible rfl))
        try simp only [Act.put, List.setIfInBounds_toArray, List.set_cons_zero, List.set_cons_succ]
        refine wpAnyH_take (i := 35) (oi := { dst := some 2, op := Op.assign (Operand.tmp 107), type := 4, pos := "laws.go:1007", after := #[{ on := 34, ground := Ground.data }, { on := 32, ground := Ground.chain }, { on := 0, ground := Ground.phase }, { on := 1, ground := Ground.phase }, { on := 2, ground := Ground.phase }, { on := 3, ground := Ground.phase }, { on := 4, ground := Ground.phase }, { on := 5, ground := Ground.phase }, { on := 6, ground := Ground.phase }, { on := 7, ground := Ground.phase }, { on := 8, ground := Ground.phase }, { on := 9, ground := Ground.phase }, { on := 10, ground := Ground.phase }, { on := 11, ground := Ground.phase }, { on := 12, ground := Ground.phase }, { on := 13, ground := Ground.phase }, { on := 14, ground := Ground.phase }, { on := 15, ground := Ground.phase }, { on := 16, ground := Ground.phase }, { on := 17, ground := Ground.phase }, { on := 18, ground := Ground.phase }, { on := 19, ground := Ground.phase }, { on := 20, ground := Ground.phase }, { on := 21, ground := Ground.phase }, { on := 22, ground := Ground.phase }, { on := 23, ground := Ground.phase }, { on := 24, ground := Ground.phase }, { on := 25, ground := Ground.phase }, { on := 26, ground := Ground.phase }, { on := 27, ground := Ground.phase }, { on := 28, ground := Ground.phase }, { on := 29, ground := Ground.phase }, { on := 30, ground := Ground.phase }, { on := 31, ground := Ground.phase }, { on := 32, ground := Ground.phase }, { on := 33, ground := Ground.phase }, { on := 34, ground := Ground.phase }], guard := none }) (v := ?v35_r3_36) rfl (by kernel_rfl) (by kernel_rfl) (by kernel_rfl) (fun _ _ _ h => h) (Or.inl ⟨by rfl, ?y35_r3_36⟩) (by assumption) ?r35_r3_36
        case y35_r3_36 => (intro w hSw; (try dsimp only at hSw); go_simp; all_goals (with_reducible rfl))
        try simp only [Act.put, List.setIfInBounds_toArray, List.set_cons_zero, List.set_cons_succ]
        refine wpAnyH_done (by kernel_rfl) ?_ _
        go_wp2
        go_ret
        exact ⟨rfl, gby_below (gby_trans G34_.out (gby_trans (gby_trans (gby_trans (gby_drew (gby_refl _ none)) gH24) gH32) gH33))⟩
      · skip
        have hrv : r = -1 := by rw [HRR.out]; unfold repV; rw [hbit, if_pos rfl]
        have hb0_ := bit_and1 man kn hm0 hbit
        have r1_ : ((-1 : Int) == -1) = true := rfl
        have r3_ : ((1 : Int) == 1) = true := rfl
        clear HRR hbit
        subst hrv
        refine wp_region_held_drew (S := fun w' => w'.cell? ⟨w2.heap.size, 0, none⟩ = some (.int .i64 (s : Int)) ∧ w'.cell? ⟨w2.heap.size, 1, none⟩ = some (.int .i64 (man : Int)) ∧ w'.cell? ⟨w2.heap.size, 2, none⟩ = some (.int .i64 f_) ∧ w'.cell? ⟨w2.heap.size, 3, none⟩ = some (.slice (some ⟨lb, lo, none⟩) 16 lc) ∧ w'.cell? ⟨w4.heap.size, 0, none⟩ = some (.int .i64 (t : Int)) ∧ w'.cell? ⟨w4.heap.size, 1, none⟩ = some (.int .i64 (man : Int)) ∧ w'.cell? ⟨w4.heap.size, 2, none⟩ = some (.int .i64 f_) ∧ w'.cell? ⟨w4.heap.size, 3, none⟩ = some (.slice xa xn xc)) (by kernel_rfl) (by (try dsimp only); exact ⟨L_0_, L_1_, L_2_, L_3_, X_0_, X_1_, X_2_, X_3_⟩) (fun hHeld => ?_)
        refine wpAnyH_take (i := 0) (oi := { dst := some 73, op := Op.move (Operand.tmp 7), type := 3, pos := "laws.go:1007", after := #[], guard := none }) (v := ?v0_r4_1) rfl (by kernel_rfl) (by kernel_rfl) (by kernel_rfl) (fun _ _ _ h => h) (Or.inl ⟨by rfl, ?y0_r4_1⟩) (by assumption) ?r0_r4_1
        case y0_r4_1 => (intro w hSw; (try dsimp only at hSw); go_simp; all_goals (with_reducible rfl))
        try simp only [Act.put, List.setIfInBounds_toArray, List.set_cons_zero, List.set_cons_succ]
        refine wpAnyH_take (i := 1) (oi := { dst := some 74, op := Op.binOp BinOp.eql 3 (Operand.tmp 73) (Operand.const (Value.int IntKind.i64 (-1))) 3, type := 4, pos := "laws.go:1007", after := #[{ on := 0, ground := Ground.data }], guard := none }) (v := ?v1_r4_2) rfl (by kernel_rfl) (by kernel_rfl) (by kernel_rfl) (fun _ _ _ h => h) (Or.inl ⟨by rfl, ?y1_r4_2⟩) (by assumption) ?r1_r4_2
        case y1_r4_2 => (intro w hSw; (try dsimp only at hSw); go_simp; all_goals (with_reducible rfl))
        try simp only [Act.put, List.setIfInBounds_toArray, List.set_cons_zero, List.set_cons_succ]
        refine wpAnyH_take (i := 2) (oi := { dst := some 75, op := Op.fieldAddr 26 (Operand.tmp 3) 1, type := 0, pos := "laws.go:1007", after := #[], guard := none }) (v := ?v2_r4_3) rfl (by kernel_rfl) (by kernel_rfl) (by kernel_rfl) (fun _ _ _ h => h) (Or.inl ⟨by rfl, ?y2_r4_3⟩) (by assumption) ?r2_r4_3
        case y2_r4_3 => (intro w hSw; (try dsimp only at hSw); go_simp; all_goals (with_reducible rfl))
        try simp only [Act.put, List.setIfInBounds_toArray, List.set_cons_zero, List.set_cons_succ]
        refine wpAnyH_take (i := 3) (oi := { dst := some 76, op := Op.load 3 (Operand.tmp 75), type := 3, pos := "laws.go:1007", after := #[{ on := 2, ground := Ground.data }], guard := none }) (v := ?v3_r4_4) rfl (by kernel_rfl) (by kernel_rfl) (by kernel_rfl) (fun _ _ _ h => h) (Or.inl ⟨by rfl, ?y3_r4_4⟩) (by assumption) ?r3_r4_4
        case y3_r4_4 => (intro w hSw; (try dsimp only at hSw); go_simp; all_goals (with_reducible rfl))
        try simp only [Act.put, List.setIfInBounds_toArray, List.set_cons_zero, List.set_cons_succ]
        refine wpAnyH_take (i := 4) (oi := { dst := some 77, op := Op.move (Operand.tmp 5), type := 3, pos := "laws.go:1007", after := #[], guard := none }) (v := ?v4_r4_5) rfl (by kernel_rfl) (by kernel_rfl) (by kernel_rfl) (fun _ _ _ h => h) (Or.inl ⟨by rfl, ?y4_r4_5⟩) (by assumption) ?r4_r4_5
        case y4_r4_5 => (intro w hSw; (try dsimp only at hSw); go_simp; all_goals (with_reducible rfl))
        try simp only [Act.put, List.setIfInBounds_toArray, List.set_cons_zero, List.set_cons_succ]
        refine wpAnyH_take (i := 5) (oi := { dst := some 78, op := Op.binOp BinOp.shr 3 (Operand.tmp 76) (Operand.tmp 77) 3, type := 3, pos := "laws.go:1007", after := #[{ on := 3, ground := Ground.data }, { on := 4, ground := Ground.data }], guard := none }) (v := ?v5_r4_6) rfl (by kernel_rfl) (by kernel_rfl) (by kernel_rfl) (fun _ _ _ h => h) (Or.inl ⟨by rfl, ?y5_r4_6⟩) (by assumption) ?r5_r4_6
        case y5_r4_6 => (intro w hSw; (try dsimp only at hSw); go_simp; all_goals (with_reducible rfl))
        try simp only [Act.put, List.setIfInBounds_toArray, List.set_cons_zero, List.set_cons_succ]
        refine wpAnyH_take (i := 6) (oi := { dst := some 79, op := Op.binOp BinOp.and 3 (Operand.tmp 78) (Operand.const (Value.int IntKind.i64 1)) 3, type := 3, pos := "laws.go:1007", after := #[{ on := 5, ground := Ground.data }], guard := none }) (v := ?v6_r4_7) rfl (by kernel_rfl) (by kernel_rfl) (by kernel_rfl) (fun _ _ _ h => h) (Or.inl ⟨by rfl, ?y6_r4_7⟩) (by assumption) ?r6_r4_7
        case y6_r4_7 => (intro w hSw; (try dsimp only at hSw); go_simp; all_goals (with_reducible rfl))
        try simp only [Act.put, List.setIfInBounds_toArray, List.set_cons_zero, List.set_cons_succ]
        refine wpAnyH_take (i := 7) (oi := { dst := some 80, op := Op.binOp BinOp.eql 3 (Operand.tmp 79) (Operand.const (Value.int IntKind.i64 1)) 3, type := 4, pos := "laws.go:1007", after := #[{ on := 6, ground := Ground.data }], guard := none }) (v := ?v7_r4_8) rfl (by kernel_rfl) (by kernel_rfl) (by kernel_rfl) (fun _ _ _ h => h) (Or.inl ⟨by rfl, ?y7_r4_8⟩) (by assumption) ?r7_r4_8
        case y7_r4_8 => (intro w hSw; (try dsimp only at hSw); go_simp; all_goals (with_reducible rfl))
        try simp only [Act.put, List.setIfInBounds_toArray, List.set_cons_zero, List.set_cons_succ]
        refine wpAnyH_take (i := 8) (oi := { dst := some 81, op := Op.binOp BinOp.eql 4 (Operand.tmp 74) (Operand.tmp 80) 4, type := 4, pos := "laws.go:1007", after := #[{ on := 1, ground := Ground.data }, { on := 7, ground := Ground.data }], guard := none }) (v := ?v8_r4_9) rfl (by kernel_rfl) (by kernel_rfl) (by kernel_rfl) (fun _ _ _ h => h) (Or.inl ⟨by rfl, ?y8_r4_9⟩) (by assumption) ?r8_r4_9
        case y8_r4_9 => (intro w hSw; (try dsimp only at hSw); go_simp; all_goals (with_reducible rfl))
        try simp only [Act.put, List.setIfInBounds_toArray, List.set_cons_zero, List.set_cons_succ]
        refine wpAnyH_take (i := 9) (oi := { dst := some 82, op := Op.move (Operand.tmp 81), type := 4, pos := "laws.go:1007", after := #[{ on := 8, ground := Ground.data }], guard := none }) (v := ?v9_r4_10) rfl (by kernel_rfl) (by kernel_rfl) (by kernel_rfl) (fun _ _ _ h => h) (Or.inl ⟨by rfl, ?y9_r4_10⟩) (by assumption) ?r9_r4_10
        case y9_r4_10 => (intro w hSw; (try dsimp only at hSw); go_simp; all_goals (with_reducible rfl))
        try simp only [Act.put, List.setIfInBounds_toArray, List.set_cons_zero, List.set_cons_succ]
        refine wpAnyH_take (i := 10) (oi := { dst := some 83, op := Op.move (Operand.tmp 7), type := 3, pos := "laws.go:1007", after := #[{ on := 9, ground := Ground.guard }], guard := some (9, true) }) (v := ?v10_r4_11) rfl (by kernel_rfl) (by kernel_rfl) (by kernel_rfl) (fun _ _ _ h => h) (Or.inl ⟨by rfl, ?y10_r4_11⟩) (by assumption) ?r10_r4_11
        case y10_r4_11 => (intro w hSw; (try dsimp only at hSw); go_simp; all_goals (with_reducible rfl))
        try simp only [Act.put, List.setIfInBounds_toArray, List.set_cons_zero, List.set_cons_succ]
        refine wpAnyH_take (i := 11) (oi := { dst := some 84, op := Op.binOp BinOp.eql 3 (Operand.tmp 83) (Operand.const (Value.int IntKind.i64 (-1))) 3, type := 4, pos := "laws.go:1007", after := #[{ on := 10, ground := Ground.data }, { on := 9, ground := Ground.guard }], guard := some (9, true) }) (v := ?v11_r4_12) rfl (by kernel_rfl) (by kernel_rfl) (by kernel_rfl) (fun _ _ _ h => h) (Or.inl ⟨by rfl, ?y11_r4_12⟩) (by assumption) ?r11_r4_12
        case y11_r4_12 => (intro w hSw; (try dsimp only at hSw); go_simp; all_goals (with_reducible rfl))
        try simp only [Act.put, List.setIfInBounds_toArray, List.set_cons_zero, List.set_cons_succ]
        refine wpAnyH_take (i := 12) (oi := { dst := some 85, op := Op.move (Operand.tmp 84), type := 4, pos := "laws.go:1007", after := #[{ on := 11, ground := Ground.data }, { on := 9, ground := Ground.chain }, { on := 9, ground := Ground.guard }], guard := some (9, true) }) (v := ?v12_r4_13) rfl (by kernel_rfl) (by kernel_rfl) (by kernel_rfl) (fun _ _ _ h => h) (Or.inl ⟨by rfl, ?y12_r4_13⟩) (by assumption) ?r12_r4_13
        case y12_r4_13 => (intro w hSw; (try dsimp only at hSw); go_simp; all_goals (with_reducible rfl))
        try simp only [Act.put, List.setIfInBounds_toArray, List.set_cons_zero, List.set_cons_succ]
        refine wpAnyH_take (i := 13) (oi := { dst := some 86, op := Op.move (Operand.tmp 7), type := 3, pos := "laws.go:1007", after := #[{ on := 12, ground := Ground.guard }], guard := some (12, false) }) (v := undef) rfl (by kernel_rfl) (by kernel_rfl) (by kernel_rfl) (fun _ _ _ h => h) (Or.inr ⟨by rfl, rfl⟩) (by assumption) ?r13_r4_14
        try simp only [Act.put, List.setIfInBounds_toArray, List.set_cons_zero, List.set_cons_succ]
        refine wpAnyH_take (i := 14) (oi := { dst := some 87, op := Op.fieldAddr 26 (Operand.tmp 3) 3, type := 0, pos := "laws.go:1007", after := #[{ on := 12, ground := Ground.guard }], guard := some (12, false) }) (v := undef) rfl (by kernel_rfl) (by kernel_rfl) (by kernel_rfl) (fun _ _ _ h => h) (Or.inr ⟨by rfl, rfl⟩) (by assumption) ?r14_r4_15
        try simp only [Act.put, List.setIfInBounds_toArray, List.set_cons_zero, List.set_cons_succ]
        refine wpAnyH_take (i := 15) (oi := { dst := some 88, op := Op.load 22 (Operand.tmp 87), type := 22, pos := "laws.go:1007", after := #[{ on := 14, ground := Ground.data }, { on := 12, ground := Ground.guard }], guard := some (12, false) }) (v := undef) rfl (by kernel_rfl) (by kernel_rfl) (by kernel_rfl) (fun _ _ _ h => h) (Or.inr ⟨by rfl, rfl⟩) (by assumption) ?r15_r4_16
        try simp only [Act.put, List.setIfInBounds_toArray, List.set_cons_zero, List.set_cons_succ]
        refine wpAnyH_take (i := 16) (oi := { dst := some 89, op := Op.move (Operand.tmp 5), type := 3, pos := "laws.go:1007", after := #[{ on := 12, ground := Ground.guard }], guard := some (12, false) }) (v := undef) rfl (by kernel_rfl) (by kernel_rfl) (by kernel_rfl) (fun _ _ _ h => h) (Or.inr ⟨by rfl, rfl⟩) (by assumption) ?r16_r4_17
        try simp only [Act.put, List.setIfInBounds_toArray, List.set_cons_zero, List.set_cons_succ]
        refine wpAnyH_take (i := 17) (oi := { dst := some 90, op := Op.indexAddr 22 (Operand.tmp 88) (Operand.tmp 89), type := 0, pos := "laws.go:1007", after := #[{ on := 15, ground := Ground.data }, { on := 16, ground := Ground.data }, { on := 12, ground := Ground.guard }], guard := some (12, false) }) (v := undef) rfl (by kernel_rfl) (by kernel_rfl) (by kernel_rfl) (fun _ _ _ h => h) (Or.inr ⟨by rfl, rfl⟩) (by assumption) ?r17_r4_18
        try simp only [Act.put, List.setIfInBounds_toArray, List.set_cons_zero, List.set_cons_succ]
        refine wpAnyH_take (i := 18) (oi := { dst := some 91, op := Op.load 3 (Operand.tmp 90), type := 3, pos := "laws.go:1007", after := #[{ on := 17, ground := Ground.data }, { on := 12, ground := Ground.guard }], guard := some (12, false) }) (v := undef) rfl (by kernel_rfl) (by kernel_rfl) (by kernel_rfl) (fun _ _ _ h => h) (Or.inr ⟨by rfl, rfl⟩) (by assumption) ?r18_r4_19
        try simp only [Act.put, List.setIfInBounds_toArray, List.set_cons_zero, List.set_cons_succ]
        refine wpAnyH_take (i := 19) (oi := { dst := some 92, op := Op.binOp BinOp.eql 3 (Operand.tmp 86) (Operand.tmp 91) 3, type := 4, pos := "laws.go:1007", after := #[{ on := 13, ground := Ground.data }, { on := 18, ground := Ground.data }, { on := 12, ground := Ground.guard }], guard := some (12, false) }) (v := undef) rfl (by kernel_rfl) (by kernel_rfl) (by kernel_rfl) (fun _ _ _ h => h) (Or.inr ⟨by rfl, rfl⟩) (by assumption) ?r19_r4_20
        try simp only [Act.put, List.setIfInBounds_toArray, List.set_cons_zero, List.set_cons_succ]
        refine wpAnyH_take (i := 20) (oi := { dst := some 93, op := Op.move (Operand.tmp 92), type := 4, pos := "laws.go:1007", after := #[{ on := 19, ground := Ground.data }, { on := 12, ground := Ground.chain }, { on := 12, ground := Ground.guard }], guard := some (12, false) }) (v := undef) rfl (by kernel_rfl) (by kernel_rfl) (by kernel_rfl) (fun _ _ _ h => h) (Or.inr ⟨by rfl, rfl⟩) (by assumption) ?r20_r4_21
        try simp only [Act.put, List.setIfInBounds_toArray, List.set_cons_zero, List.set_cons_succ]
        refine wpAnyH_take (i := 21) (oi := { dst := some 94, op := Op.load 26 (Operand.tmp 6), type := 26, pos := "laws.go:1007", after := #[{ on := 20, ground := Ground.guard }], guard := some (20, true) }) (v := undef) rfl (by kernel_rfl) (by kernel_rfl) (by kernel_rfl) (fun _ _ _ h => h) (Or.inr ⟨by rfl, rfl⟩) (by assumption) ?r21_r4_22
        try simp only [Act.put, List.setIfInBounds_toArray, List.set_cons_zero, List.set_cons_succ]
        refine wpAnyH_take (i := 22) (oi := { dst := some 95, op := Op.call { callee := Callee.value (Operand.func 24), args := #[Operand.tmp 94], argTypes := #[26] }, type := 3, pos := "laws.go:1007", after := #[{ on := 21, ground := Ground.data }, { on := 20, ground := Ground.chain }, { on := 20, ground := Ground.guard }], guard := some (20, true) }) (v := undef) rfl (by kernel_rfl) (by kernel_rfl) (by kernel_rfl) (fun _ _ _ h => h) (Or.inr ⟨by rfl, rfl⟩) (by assumption) ?r22_r4_23
        try simp only [Act.put, List.setIfInBounds_toArray, List.set_cons_zero, List.set_cons_succ]
        refine wpAnyH_take (i := 23) (oi := { dst := some 96, op := Op.move (Operand.tmp 7), type := 3, pos := "laws.go:1007", after := #[{ on := 20, ground := Ground.guard }], guard := some (20, true) }) (v := undef) rfl (by kernel_rfl) (by kernel_rfl) (by kernel_rfl) (fun _ _ _ h => h) (Or.inr ⟨by rfl, rfl⟩) (by assumption) ?r23_r4_24
        try simp only [Act.put, List.setIfInBounds_toArray, List.set_cons_zero, List.set_cons_succ]
        refine wpAnyH_take (i := 24) (oi := { dst := some 97, op := Op.binOp BinOp.geq 3 (Operand.tmp 95) (Operand.tmp 96) 3, type := 4, pos := "laws.go:1007", after := #[{ on := 22, ground := Ground.data }, { on := 23, ground := Ground.data }, { on := 20, ground := Ground.guard }], guard := some (20, true) }) (v := undef) rfl (by kernel_rfl) (by kernel_rfl) (by kernel_rfl) (fun _ _ _ h => h) (Or.inr ⟨by rfl, rfl⟩) (by assumption) ?r24_r4_25
        try simp only [Act.put, List.setIfInBounds_toArray, List.set_cons_zero, List.set_cons_succ]
        refine wpAnyH_take (i := 25) (oi := { dst := some 98, op := Op.pick (Operand.tmp 93) (Operand.tmp 97) (Operand.const (Value.bool false)), type := 4, pos := "laws.go:1007", after := #[{ on := 20, ground := Ground.data }, { on := 24, ground := Ground.data }, { on := 12, ground := Ground.guard }], guard := some (12, false) }) (v := undef) rfl (by kernel_rfl) (by kernel_rfl) (by kernel_rfl) (fun _ _ _ h => h) (Or.inr ⟨by rfl, rfl⟩) (by assumption) ?r25_r4_26
        try simp only [Act.put, List.setIfInBounds_toArray, List.set_cons_zero, List.set_cons_succ]
        refine wpAnyH_take (i := 26) (oi := { dst := some 99, op := Op.pick (Operand.tmp 85) (Operand.const (Value.bool true)) (Operand.tmp 98), type := 4, pos := "laws.go:1007", after := #[{ on := 12, ground := Ground.data }, { on := 25, ground := Ground.data }, { on := 9, ground := Ground.guard }], guard := some (9, true) }) (v := ?v26_r4_27) rfl (by kernel_rfl) (by kernel_rfl) (by kernel_rfl) (fun _ _ _ h => h) (Or.inl ⟨by rfl, ?y26_r4_27⟩) (by assumption) ?r26_r4_27
        case y26_r4_27 => (intro w hSw; (try dsimp only at hSw); go_simp; all_goals (with_reducible rfl))
        try simp only [Act.put, List.setIfInBounds_toArray, List.set_cons_zero, List.set_cons_succ]
        refine wpAnyH_take (i := 27) (oi := { dst := some 100, op := Op.pick (Operand.tmp 82) (Operand.tmp 99) (Operand.const (Value.bool false)), type := 4, pos := "laws.go:1007", after := #[{ on := 9, ground := Ground.data }, { on := 26, ground := Ground.data }], guard := none }) (v := ?v27_r4_28) rfl (by kernel_rfl) (by kernel_rfl) (by kernel_rfl) (fun _ _ _ h => h) (Or.inl ⟨by rfl, ?y27_r4_28⟩) (by assumption) ?r27_r4_28
        case y27_r4_28 => (intro w hSw; (try dsimp only at hSw); go_simp; all_goals (with_reducible rfl))
        try simp only [Act.put, List.setIfInBounds_toArray, List.set_cons_zero, List.set_cons_succ]
        refine wpAnyH_take (i := 28) (oi := { dst := some 101, op := Op.move (Operand.tmp 100), type := 4, pos := "laws.go:1007", after := #[{ on := 27, ground := Ground.data }, { on := 22, ground := Ground.chain }], guard := none }) (v := ?v28_r4_29) rfl (by kernel_rfl) (by kernel_rfl) (by kernel_rfl) (fun _ _ _ h => h) (Or.inl ⟨by rfl, ?y28_r4_29⟩) (by assumption) ?r28_r4_29
        case y28_r4_29 => (intro w hSw; (try dsimp only at hSw); go_simp; all_goals (with_reducible rfl))
        try simp only [Act.put, List.setIfInBounds_toArray, List.set_cons_zero, List.set_cons_succ]
        refine wpAnyH_take (i := 29) (oi := { dst := some 102, op := Op.load 26 (Operand.tmp 6), type := 26, pos := "laws.go:1007", after := #[{ on := 28, ground := Ground.guard }], guard := some (28, true) }) (v := ?v29_r4_30) rfl (by kernel_rfl) (by kernel_rfl) (by kernel_rfl) (fun _ _ _ h => h) (Or.inl ⟨by rfl, ?y29_r4_30⟩) (by assumption) ?r29_r4_30
        case y29_r4_30 => (intro w hSw; (try dsimp only at hSw); go_simp; all_goals (with_reducible rfl))
        try simp only [Act.put, List.setIfInBounds_toArray, List.set_cons_zero, List.set_cons_succ]
        refine wpAnyH_take (i := 31) (oi := { dst := some 104, op := Op.load 26 (Operand.tmp 3), type := 26, pos := "laws.go:1007", after := #[{ on := 28, ground := Ground.guard }], guard := some (28, true) }) (v := ?v31_r4_31) rfl (by kernel_rfl) (by kernel_rfl) (by kernel_rfl) (fun _ _ _ h => h) (Or.inl ⟨by rfl, ?y31_r4_31⟩) (by assumption) ?r31_r4_31
        case y31_r4_31 => (intro w hSw; (try dsimp only at hSw); go_simp; all_goals (with_reducible rfl))
        try simp only [Act.put, List.setIfInBounds_toArray, List.set_cons_zero, List.set_cons_succ]
        refine wpAnyH_ready (rs := [30]) (by kernel_rfl) (by simp) ?_
        refine AllReadyH.cons (o := { dst := some 103, op := Op.call { callee := Callee.value (Operand.func 24), args := #[Operand.tmp 102], argTypes := #[26] }, type := 3, pos := "laws.go:1007", after := #[{ on := 29, ground := Ground.data }, { on := 28, ground := Ground.chain }, { on := 28, ground := Ground.guard }], guard := some (28, true) }) rfl (fun K hK => ?_) AllReadyH.nil
        go_simp
        go_at_call 24
        refine (implWorst_yes _ t man _ _ xs (HRx0.out.grow (gby_drew (gby_refl _ none))) HLX.out HTK.out).mono ?_
        rintro e wH32 ⟨rfl, gH32⟩
        have m32_L_0_ : wH32.cell? _ = some _ := gH32.cell L_0_ (by simp); have m32_L_1_ : wH32.cell? _ = some _ := gH32.cell L_1_ (by simp); have m32_L_2_ : wH32.cell? _ = some _ := gH32.cell L_2_ (by simp); have m32_L_3_ : wH32.cell? _ = some _ := gH32.cell L_3_ (by simp); have m32_X_0_ : wH32.cell? _ = some _ := gH32.cell X_0_ (by simp); have m32_X_1_ : wH32.cell? _ = some _ := gH32.cell X_1_ (by simp); have m32_X_2_ : wH32.cell? _ = some _ := gH32.cell X_2_ (by simp); have m32_X_3_ : wH32.cell? _ = some _ := gH32.cell X_3_ (by simp)
        go_wp2_with fail
        clear hHeld
        refine hK.out _ _ ?s30_r4_32 (fun hHeld => ?_)
        case s30_r4_32 => exact ⟨m32_L_0_, m32_L_1_, m32_L_2_, m32_L_3_, m32_X_0_, m32_X_1_, m32_X_2_, m32_X_3_⟩
        clear hK K
        try simp only [Act.put, List.setIfInBounds_toArray, List.set_cons_zero, List.set_cons_succ]
        refine wpAnyH_ready (rs := [32]) (by kernel_rfl) (by simp) ?_
        refine AllReadyH.cons (o := { dst := some 105, op := Op.call { callee := Callee.value (Operand.func 24), args := #[Operand.tmp 104], argTypes := #[26] }, type := 3, pos := "laws.go:1007", after := #[{ on := 31, ground := Ground.data }, { on := 30, ground := Ground.chain }, { on := 28, ground := Ground.guard }], guard := some (28, true) }) rfl (fun K hK => ?_) AllReadyH.nil
        go_simp
        go_at_call 24
        refine (implWorst_yes _ s man _ _ xs (HRl0.out.grow (gby_trans (gby_drew (gby_refl _ none)) gH32)) HLX.out HOK.out).mono ?_
        rintro e wH33 ⟨rfl, gH33⟩
        have m33_L_0_ : wH33.cell? _ = some _ := gH33.cell m32_L_0_ (by simp); have m33_L_1_ : wH33.cell? _ = some _ := gH33.cell m32_L_1_ (by simp); have m33_L_2_ : wH33.cell? _ = some _ := gH33.cell m32_L_2_ (by simp); have m33_L_3_ : wH33.cell? _ = some _ := gH33.cell m32_L_3_ (by simp); have m33_X_0_ : wH33.cell? _ = some _ := gH33.cell m32_X_0_ (by simp); have m33_X_1_ : wH33.cell? _ = some _ := gH33.cell m32_X_1_ (by simp); have m33_X_2_ : wH33.cell? _ = some _ := gH33.cell m32_X_2_ (by simp); have m33_X_3_ : wH33.cell? _ = some _ := gH33.cell m32_X_3_ (by simp)
        go_wp2_with fail
        clear hHeld
        refine hK.out _ _ ?s32_r4_33 (fun hHeld => ?_)
        case s32_r4_33 => exact ⟨m33_L_0_, m33_L_1_, m33_L_2_, m33_L_3_, m33_X_0_, m33_X_1_, m33_X_2_, m33_X_3_⟩
        clear hK K
        try simp only [Act.put, List.setIfInBounds_toArray, List.set_cons_zero, List.set_cons_succ]
        refine wpAnyH_take (i := 33) (oi := { dst := some 106, op := Op.binOp BinOp.geq 3 (Operand.tmp 103) (Operand.tmp 105) 3, type := 4, pos := "laws.go:1007", after := #[{ on := 30, ground := Ground.data }, { on := 32, ground := Ground.data }, { on := 28, ground := Ground.guard }], guard := some (28, true) }) (v := ?v33_r4_34) rfl (by kernel_rfl) (by kernel_rfl) (by kernel_rfl) (fun _ _ _ h => h) (Or.inl ⟨by rfl, ?y33_r4_34⟩) (by assumption) ?r33_r4_34
        case y33_r4_34 => (intro w hSw; (try dsimp only at hSw); go_simp; all_goals (with_reducible rfl))
        try simp only [Act.put, List.setIfInBounds_toArray, List.set_cons_zero, List.set_cons_succ]
        refine wpAnyH_take (i := 34) (oi := { dst := some 107, op := Op.pick (Operand.tmp 101) (Operand.tmp 106) (Operand.const (Value.bool false)), type := 4, pos := "laws.go:1007", after := #[{ on := 28, ground := Ground.data }, { on := 33, ground := Ground.data }], guard := none }) (v := ?v34_r4_35) rfl (by kernel_rfl) (by kernel_rfl) (by kernel_rfl) (fun _ _ _ h => h) (Or.inl ⟨by rfl, ?y34_r4_35⟩) (by assumption) ?r34_r4_35
        case y34_r4_35 => (intro w hSw; (try dsimp only at hSw); go_simp; all_goals (with_reducible rfl))
        try simp only [Act.put, List.setIfInBounds_toArray, List.set_cons_zero, List.set_cons_succ]
        refine wpAnyH_take (i := 35) (oi := { dst := some 2, op := Op.assign (Operand.tmp 107), type := 4, pos := "laws.go:1007", after := #[{ on := 34, ground := Ground.data }, { on := 32, ground := Ground.chain }, { on := 0, ground := Ground.phase }, { on := 1, ground := Ground.phase }, { on := 2, ground := Ground.phase }, { on := 3, ground := Ground.phase }, { on := 4, ground := Ground.phase }, { on := 5, ground := Ground.phase }, { on := 6, ground := Ground.phase }, { on := 7, ground := Ground.phase }, { on := 8, ground := Ground.phase }, { on := 9, ground := Ground.phase }, { on := 10, ground := Ground.phase }, { on := 11, ground := Ground.phase }, { on := 12, ground := Ground.phase }, { on := 13, ground := Ground.phase }, { on := 14, ground := Ground.phase }, { on := 15, ground := Ground.phase }, { on := 16, ground := Ground.phase }, { on := 17, ground := Ground.phase }, { on := 18, ground := Ground.phase }, { on := 19, ground := Ground.phase }, { on := 20, ground := Ground.phase }, { on := 21, ground := Ground.phase }, { on := 22, ground := Ground.phase }, { on := 23, ground := Ground.phase }, { on := 24, ground := Ground.phase }, { on := 25, ground := Ground.phase }, { on := 26, ground := Ground.phase }, { on := 27, ground := Ground.phase }, { on := 28, ground := Ground.phase }, { on := 29, ground := Ground.phase }, { on := 30, ground := Ground.phase }, { on := 31, ground := Ground.phase }, { on := 32, ground := Ground.phase }, { on := 33, ground := Ground.phase }, { on := 34, ground := Ground.phase }], guard := none }) (v := ?v35_r4_36) rfl (by kernel_rfl) (by kernel_rfl) (by kernel_rfl) (fun _ _ _ h => h) (Or.inl ⟨by rfl, ?y35_r4_36⟩) (by assumption) ?r35_r4_36
        case y35_r4_36 => (intro w hSw; (try dsimp only at hSw); go_simp; all_goals (with_reducible rfl))
        try simp only [Act.put, List.setIfInBounds_toArray, List.set_cons_zero, List.set_cons_succ]
        refine wpAnyH_done (by kernel_rfl) ?_ _
        go_wp2
        go_ret
        exact ⟨rfl, gby_below (gby_trans G34_.out (gby_trans (gby_trans (gby_drew (gby_refl _ none)) gH32) gH33))⟩

end Go.Proofs.Ytgagbhkidponnad
