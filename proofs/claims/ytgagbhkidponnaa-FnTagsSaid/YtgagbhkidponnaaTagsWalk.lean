/-
  The walk of FnTags.
-/
import Derived.Test.YtgagbhkidponnaaDrawTags
import Derived.Test.YtgagbhkidponnaaTake28
import Derived.Test.YtgagbhkidponnaaBPost0
import Derived.Test.YtgagbhkidponnaaBig
import Derived.Test.YtgagbhkidponnaaDrawPlaces
import Derived.Deep.QuietTactic
import Derived.Deep.RegionHeld3
namespace Go.Proofs.Ytgagbhkidponnaa
open Go Go.RowKit
set_option linter.unusedVariables false

theorem cnt_set {xs : List Bool} {k : Nat} (hk : k < xs.length) (h : xs.getD k false = false) : cntB (xs.set k true) (xs.set k true).length = cntB xs xs.length + 1 := by
  unfold cntB
  rw [List.take_length, List.take_length, List.count_set hk]
  rw [List.getD_eq_getElem?_getD, List.getElem?_eq_getElem hk] at h
  simp at h
  simp [h]
theorem cnt_all {xs : List Bool} (h : ∀ j, j < xs.length → xs.getD j false = true) : cntB xs xs.length = xs.length := by
  unfold cntB
  rw [List.take_length]
  refine List.count_eq_length.2 fun b hb => ?_
  obtain ⟨j, hj, rfl⟩ := List.mem_iff_getElem.1 hb
  have := h j hj
  rw [List.getD_eq_getElem?_getD, List.getElem?_eq_getElem hj] at this
  simpa using this.symm
theorem set_back {xs : List Bool} {k : Nat} (hk : k < xs.length) (h : xs.getD k false = false) : (xs.set k true).set k false = xs := by
  rw [List.set_set]
  refine List.ext_getElem (by simp) fun i h1 h2 => ?_
  rw [List.getElem_set]
  split
  · next e => subst e; rw [List.getD_eq_getElem?_getD, List.getElem?_eq_getElem hk] at h; simpa using h.symm
  · rfl
theorem set_at {xs : List Bool} {k : Nat} (hk : k < xs.length) : (xs.set k true).getD k false = true := by
  rw [List.getD_eq_getElem?_getD, List.getElem?_set]; simp [hk]
set_option maxRecDepth 8000 in
set_option maxHeartbeats 8000000 in
theorem walk_tags (a : Option Addr) (len cap : Nat) (zs : List Int) (W : World) (hB : Bytes W a len zs) :
    Calls Try.prog 7 #[.slice a len cap] W fun e w' => e = .returned (.bool true) ∧ Below W.heap.size W w' := by
  have HB := Lib.hid hB
  clear hB
  by_cases hbig : (1048576 : Int) < (len : Int)
  · go_enter Try.func7, Try.ntmps7
    go_wp2
    go_ret
    exact ⟨rfl, Below.refl _ _⟩
  · skip
    go_enter Try.func7, Try.ntmps7
    go_wp2_with fail
    go_at_call 21
    refine (big_any _ _ _ _).mono ?_
    rintro e w1 ⟨rfl, rfl⟩
    go_wp2_with fail
    go_at_call 38
    refine (drawTags_any _ _ _ _ _ (bytes_grow HB.out (gby_refl _ _)) (by omega)).mono ?_
    rintro e w2 ⟨v_, xs, rfl, h8, o, g⟩
    have HLX : Hid (szL shB xs ≤ 1048576) := Lib.hid (by rw [szL_B]; omega)
    obtain ⟨ta_, tc, rfl, _, hi_⟩ := rdB_in (OwU.rd o)
    obtain ⟨tb, to, rfl, hlc⟩ := hi_.resolve_left (by omega)
    have HTC := Lib.hid hlc
    have HRt := Lib.hid (OwU.rd o)
    have H8 := Lib.hid h8
    rw [h8] at HRt HTC ⊢
    clear o hlc h8
    have szw2 := g.size
    try simp only [World.size_alloc] at szw2
    have G1_ := Lib.hid (show (W).grownBy (w2) none from gby_trans (gby_refl _ _) g)
    clear g
    have HTt2_ := Lib.hid (gby_refl (w2) none)
    have MG3_ := Lib.hid (show (W).grownBy (w2) none from G1_.out)
    have al_ : (w2).grownBy ((w2).alloc (.cells #[.slice (some ⟨tb, to, none⟩) 8 tc] 57)) none := gby_alloc (gby_refl _ _) _
    have G4_ := Lib.hid (show (W).grownBy ((w2.alloc (.cells #[.slice (some ⟨tb, to, none⟩) 8 tc] 57))) none from gby_trans G1_.out al_)
    have HTt5_ := Lib.hid (show (w2).grownBy ((w2.alloc (.cells #[.slice (some ⟨tb, to, none⟩) 8 tc] 57))) none from gby_trans HTt2_.out al_)
    clear HTt2_
    have rT6_ := Lib.hid (show ((w2.alloc (.cells #[.slice (some ⟨tb, to, none⟩) 8 tc] 57))).heap[w2.heap.size]? = some (.cells #[.slice (some ⟨tb, to, none⟩) 8 tc] 57 (0, 0)) from by first | exact heap_alloc_new _ _ | exact heap_pair _ _ _ | exact heap_trip _ _ _ _)
    clear al_
    have T_0_ : ((w2.alloc (.cells #[.slice (some ⟨tb, to, none⟩) 8 tc] 57))).cell? ⟨w2.heap.size, 0, none⟩ = some (.slice (some ⟨tb, to, none⟩) 8 tc) := cell_of_row _ _ 0 _ _ _ rT6_.out
    have hfo := free_or xs
    rcases hfo with ⟨k0, hf⟩ | hall
    rotate_left
    · have HALL := Lib.hid hall
      clear hall
      have HCN := Lib.hid (show ∀ (W : World) (v : Value), RdL shB W v xs → Calls Try.prog 40 #[vTags v] W (AnsN (.int .i64 8) W) from fun W v H => by have q := implCount W v xs H HLX.out; rw [cnt_all HALL.out, H8.out] at q; exact q)
      go_wp2_with fail
      go_at_call 39
      refine (implTake_busy _ _ xs (HRt.out.grow HTt5_.out) HLX.out H8.out HALL.out).mono ?_
      rintro e w3 ⟨v1_, rfl, o, g⟩
      have szw3 := g.size
      try simp only [World.size_alloc] at szw3
      clear T_0_
      have rT7_ := Lib.hid (show (w3).heap[w2.heap.size]? = some (.cells #[.slice (some ⟨tb, to, none⟩) 8 tc] 57 (0, 0)) from row_held g rT6_.out)
      clear rT6_
      have G8_ := Lib.hid (show (W).grownBy (w3) none from gby_trans G4_.out g)
      have HTt9_ := Lib.hid (show (w2).grownBy (w3) none from gby_trans HTt5_.out g)
      clear HTt5_
      clear g
      obtain ⟨xa, xn, xc, hv_⟩ := RdL.form (OwU.rd o)
      subst hv_
      clear o
      have T_0_ : (w3).cell? ⟨w2.heap.size, 0, none⟩ = some (.slice (some ⟨tb, to, none⟩) 8 tc) := cell_of_row _ _ 0 _ _ _ rT7_.out
      clear T_0_
      have al_ : (w3).grownBy ((w3).alloc (.cells #[.slice xa xn xc] 57)) none := gby_alloc (gby_refl _ _) _
      have rT10_ := Lib.hid (show ((w3.alloc (.cells #[.slice xa xn xc] 57))).heap[w2.heap.size]? = some (.cells #[.slice (some ⟨tb, to, none⟩) 8 tc] 57 (0, 0)) from row_held al_ rT7_.out)
      clear rT7_
      have G11_ := Lib.hid (show (W).grownBy ((w3.alloc (.cells #[.slice xa xn xc] 57))) none from gby_trans G8_.out al_)
      have HTt12_ := Lib.hid (show (w2).grownBy ((w3.alloc (.cells #[.slice xa xn xc] 57))) none from gby_trans HTt9_.out al_)
      clear HTt9_
      have rX13_ := Lib.hid (show ((w3.alloc (.cells #[.slice xa xn xc] 57))).heap[w3.heap.size]? = some (.cells #[.slice xa xn xc] 57 (0, 0)) from by first | exact heap_alloc_new _ _ | exact heap_pair _ _ _ | exact heap_trip _ _ _ _)
      clear al_
      have T_0_ : ((w3.alloc (.cells #[.slice xa xn xc] 57))).cell? ⟨w2.heap.size, 0, none⟩ = some (.slice (some ⟨tb, to, none⟩) 8 tc) := cell_of_row _ _ 0 _ _ _ rT10_.out
      have X_0_ : ((w3.alloc (.cells #[.slice xa xn xc] 57))).cell? ⟨w3.heap.size, 0, none⟩ = some (.slice xa xn xc) := cell_of_row _ _ 0 _ _ _ rX13_.out
      have hm1 : (-1 : Int) < 0 := by omega
      go_wp2_with fail
      go_at_call 40
      refine (HCN.out _ _ (HRt.out.grow HTt12_.out)).mono ?_
      rintro e w4 ⟨rfl, g⟩
      have szw4 := g.size
      try simp only [World.size_alloc] at szw4
      try simp only [World.size_setCell] at szw4
      clear T_0_ X_0_
      have rT14_ := Lib.hid (show (w4).heap[w2.heap.size]? = some (.cells #[.slice (some ⟨tb, to, none⟩) 8 tc] 57 (0, 0)) from row_held g rT10_.out)
      clear rT10_
      have rX15_ := Lib.hid (show (w4).heap[w3.heap.size]? = some (.cells #[.slice xa xn xc] 57 (0, 0)) from row_held g rX13_.out)
      clear rX13_
      have G16_ := Lib.hid (show (W).grownBy (w4) none from gby_trans G11_.out g)
      have HTt17_ := Lib.hid (show (w2).grownBy (w4) none from gby_trans HTt12_.out g)
      clear HTt12_
      clear g
      have T_0_ : (w4).cell? ⟨w2.heap.size, 0, none⟩ = some (.slice (some ⟨tb, to, none⟩) 8 tc) := cell_of_row _ _ 0 _ _ _ rT14_.out
      have X_0_ : (w4).cell? ⟨w3.heap.size, 0, none⟩ = some (.slice xa xn xc) := cell_of_row _ _ 0 _ _ _ rX15_.out
      go_wp2
      go_ret
      exact ⟨rfl, gby_below G16_.out⟩
    obtain ⟨hk8, hf0, _⟩ := id hf
    have HF := Lib.hid hf
    have HF0 := Lib.hid hf0
    have HK8 := Lib.hid hk8
    rw [H8.out] at hk8
    have hk0 : (0 : Int) ≤ (k0 : Int) := by omega
    have hkn : ¬ (k0 : Int) < 0 := by omega
    have htk : ((k0 : Int)).toNat = k0 := by omega
    have hk8i : (k0 : Int) < 8 := by omega
    obtain ⟨xs1, hx1⟩ : ∃ x, x = xs.set k0 true := ⟨_, rfl⟩
    have HX8 := Lib.hid (show xs1.length = 8 by rw [hx1, List.length_set]; exact H8.out)
    have HLX1 : Hid (szL shB xs1 ≤ 1048576) := Lib.hid (by rw [szL_B]; have := HX8.out; omega)
    have HXA := Lib.hid (show xs1.getD k0 false = true by rw [hx1]; exact set_at HK8.out)
    have HXB := Lib.hid (show xs1.set k0 false = xs by rw [hx1]; exact set_back HK8.out HF0.out)
    obtain ⟨cn, hcn⟩ : ∃ c, c = cntB xs xs.length := ⟨_, rfl⟩
    have hcn8 : cn ≤ 8 := by rw [hcn]; have := cntB_le xs xs.length; have := H8.out; omega
    have HC1 := Lib.hid (show ∀ (W : World) (v : Value), RdL shB W v xs → Calls Try.prog 40 #[vTags v] W (AnsN (.int .i64 (cn : Int)) W) from fun W v H => by have q := implCount W v xs H HLX.out; rw [← hcn] at q; exact q)
    have HC2 := Lib.hid (show ∀ (W : World) (v : Value), RdL shB W v xs1 → Calls Try.prog 40 #[vTags v] W (AnsN (.int .i64 ((cn : Int) + 1)) W) from fun W v H => by have q := implCount W v xs1 H HLX1.out; rw [hx1, cnt_set HK8.out HF0.out, ← hcn] at q; exact q)
    have HT1 := Lib.hid (show ∀ (W : World) (v : Value), RdL shB W v xs → Calls Try.prog 39 #[vTags v] W (ResITakeTag xs1 (k0 : Int) W) from fun W v H => by rw [hx1]; exact implTake_yes W v xs H HLX.out H8.out k0 HF.out)
    have HF1 := Lib.hid (show ∀ (W : World) (v : Value), RdL shB W v xs1 → Calls Try.prog 41 #[vTags v, .int .i64 (k0 : Int)] W (ResIFreeTag xs true W) from fun W v H => by have q := implFree_in W v xs1 H HLX1.out (k0 : Int) k0 rfl HX8.out hk8; rw [HXA.out, HXB.out] at q; exact q)
    have HF2 := Lib.hid (show ∀ (W : World) (v : Value), RdL shB W v xs → Calls Try.prog 41 #[vTags v, .int .i64 (k0 : Int)] W (ResIFreeTag xs false W) from fun W v H => by have q := implFree_in W v xs H HLX.out (k0 : Int) k0 rfl H8.out hk8; rw [HF0.out, set_same xs k0 HK8.out HF0.out] at q; exact q)
    clear hcn hf hf0 hx1
    go_wp2_with fail
    go_at_call 39
    refine (HT1.out _ _ (HRt.out.grow HTt5_.out)).mono ?_
    rintro e w3 ⟨v1_, rfl, o, g⟩
    have szw3 := g.size
    try simp only [World.size_alloc] at szw3
    obtain ⟨xa_, xc, rfl, _, hi_⟩ := rdB_in (OwU.rd o)
    obtain ⟨xb, xo, rfl, hlc⟩ := hi_.resolve_left (by have := HX8.out; omega)
    have HXC := Lib.hid (show ∀ k, k < 8 → w3.cell? ⟨xb, xo + k, none⟩ = some (.bool (xs1.getD k false)) from fun k hk => hlc k (by have := HX8.out; omega))
    have HRx := Lib.hid (OwU.rd o)
    rw [HX8.out] at HRx ⊢
    clear o hlc
    clear T_0_
    have rT7_ := Lib.hid (show (w3).heap[w2.heap.size]? = some (.cells #[.slice (some ⟨tb, to, none⟩) 8 tc] 57 (0, 0)) from row_held g rT6_.out)
    clear rT6_
    have G8_ := Lib.hid (show (W).grownBy (w3) none from gby_trans G4_.out g)
    have HTt9_ := Lib.hid (show (w2).grownBy (w3) none from gby_trans HTt5_.out g)
    clear HTt5_
    clear g
    have T_0_ : (w3).cell? ⟨w2.heap.size, 0, none⟩ = some (.slice (some ⟨tb, to, none⟩) 8 tc) := cell_of_row _ _ 0 _ _ _ rT7_.out
    have HTx10_ := Lib.hid (gby_refl (w3) none)
    have MG11_ := Lib.hid (show (W).grownBy (w3) none from G8_.out)
    have MR12_ := Lib.hid rT7_.out
    clear T_0_
    have al_ : (w3).grownBy ((w3).alloc (.cells #[.slice (some ⟨xb, xo, none⟩) 8 xc] 57)) none := gby_alloc (gby_refl _ _) _
    have rT13_ := Lib.hid (show ((w3.alloc (.cells #[.slice (some ⟨xb, xo, none⟩) 8 xc] 57))).heap[w2.heap.size]? = some (.cells #[.slice (some ⟨tb, to, none⟩) 8 tc] 57 (0, 0)) from row_held al_ rT7_.out)
    clear rT7_
    have G14_ := Lib.hid (show (W).grownBy ((w3.alloc (.cells #[.slice (some ⟨xb, xo, none⟩) 8 xc] 57))) none from gby_trans G8_.out al_)
    have HTt15_ := Lib.hid (show (w2).grownBy ((w3.alloc (.cells #[.slice (some ⟨xb, xo, none⟩) 8 xc] 57))) none from gby_trans HTt9_.out al_)
    clear HTt9_
    have HTx16_ := Lib.hid (show (w3).grownBy ((w3.alloc (.cells #[.slice (some ⟨xb, xo, none⟩) 8 xc] 57))) none from gby_trans HTx10_.out al_)
    clear HTx10_
    have rX17_ := Lib.hid (show ((w3.alloc (.cells #[.slice (some ⟨xb, xo, none⟩) 8 xc] 57))).heap[w3.heap.size]? = some (.cells #[.slice (some ⟨xb, xo, none⟩) 8 xc] 57 (0, 0)) from by first | exact heap_alloc_new _ _ | exact heap_pair _ _ _ | exact heap_trip _ _ _ _)
    clear al_
    have T_0_ : ((w3.alloc (.cells #[.slice (some ⟨xb, xo, none⟩) 8 xc] 57))).cell? ⟨w2.heap.size, 0, none⟩ = some (.slice (some ⟨tb, to, none⟩) 8 tc) := cell_of_row _ _ 0 _ _ _ rT13_.out
    have X_0_ : ((w3.alloc (.cells #[.slice (some ⟨xb, xo, none⟩) 8 xc] 57))).cell? ⟨w3.heap.size, 0, none⟩ = some (.slice (some ⟨xb, xo, none⟩) 8 xc) := cell_of_row _ _ 0 _ _ _ rX17_.out
    go_wp2_with fail
    go_at_call 41
    refine (HF1.out _ _ (HRx.out.grow HTx16_.out)).mono ?_
    rintro e w4 ⟨v2_, rfl, o, g⟩
    have szw4 := g.size
    try simp only [World.size_alloc] at szw4
    obtain ⟨ya, yn, yc, hv_⟩ := RdL.form (OwU.rd o)
    subst hv_
    have HRy := Lib.hid (OwU.rd o)
    clear o
    clear T_0_ X_0_
    have rT18_ := Lib.hid (show (w4).heap[w2.heap.size]? = some (.cells #[.slice (some ⟨tb, to, none⟩) 8 tc] 57 (0, 0)) from row_held g rT13_.out)
    clear rT13_
    have rX19_ := Lib.hid (show (w4).heap[w3.heap.size]? = some (.cells #[.slice (some ⟨xb, xo, none⟩) 8 xc] 57 (0, 0)) from row_held g rX17_.out)
    clear rX17_
    have G20_ := Lib.hid (show (W).grownBy (w4) none from gby_trans G14_.out g)
    have HTt21_ := Lib.hid (show (w2).grownBy (w4) none from gby_trans HTt15_.out g)
    clear HTt15_
    have HTx22_ := Lib.hid (show (w3).grownBy (w4) none from gby_trans HTx16_.out g)
    clear HTx16_
    clear g
    have T_0_ : (w4).cell? ⟨w2.heap.size, 0, none⟩ = some (.slice (some ⟨tb, to, none⟩) 8 tc) := cell_of_row _ _ 0 _ _ _ rT18_.out
    have X_0_ : (w4).cell? ⟨w3.heap.size, 0, none⟩ = some (.slice (some ⟨xb, xo, none⟩) 8 xc) := cell_of_row _ _ 0 _ _ _ rX19_.out
    have HTy23_ := Lib.hid (gby_refl (w4) none)
    have MG24_ := Lib.hid (show (W).grownBy (w4) none from G20_.out)
    have MR25_ := Lib.hid rT18_.out
    have MR26_ := Lib.hid rX19_.out
    clear T_0_ X_0_
    have al_ : (w4).grownBy ((w4).alloc (.cells #[.slice ya yn yc] 57)) none := gby_alloc (gby_refl _ _) _
    have rT27_ := Lib.hid (show ((w4.alloc (.cells #[.slice ya yn yc] 57))).heap[w2.heap.size]? = some (.cells #[.slice (some ⟨tb, to, none⟩) 8 tc] 57 (0, 0)) from row_held al_ rT18_.out)
    clear rT18_
    have rX28_ := Lib.hid (show ((w4.alloc (.cells #[.slice ya yn yc] 57))).heap[w3.heap.size]? = some (.cells #[.slice (some ⟨xb, xo, none⟩) 8 xc] 57 (0, 0)) from row_held al_ rX19_.out)
    clear rX19_
    have G29_ := Lib.hid (show (W).grownBy ((w4.alloc (.cells #[.slice ya yn yc] 57))) none from gby_trans G20_.out al_)
    have HTt30_ := Lib.hid (show (w2).grownBy ((w4.alloc (.cells #[.slice ya yn yc] 57))) none from gby_trans HTt21_.out al_)
    clear HTt21_
    have HTx31_ := Lib.hid (show (w3).grownBy ((w4.alloc (.cells #[.slice ya yn yc] 57))) none from gby_trans HTx22_.out al_)
    clear HTx22_
    have HTy32_ := Lib.hid (show (w4).grownBy ((w4.alloc (.cells #[.slice ya yn yc] 57))) none from gby_trans HTy23_.out al_)
    clear HTy23_
    have rY33_ := Lib.hid (show ((w4.alloc (.cells #[.slice ya yn yc] 57))).heap[w4.heap.size]? = some (.cells #[.slice ya yn yc] 57 (0, 0)) from by first | exact heap_alloc_new _ _ | exact heap_pair _ _ _ | exact heap_trip _ _ _ _)
    clear al_
    have T_0_ : ((w4.alloc (.cells #[.slice ya yn yc] 57))).cell? ⟨w2.heap.size, 0, none⟩ = some (.slice (some ⟨tb, to, none⟩) 8 tc) := cell_of_row _ _ 0 _ _ _ rT27_.out
    have X_0_ : ((w4.alloc (.cells #[.slice ya yn yc] 57))).cell? ⟨w3.heap.size, 0, none⟩ = some (.slice (some ⟨xb, xo, none⟩) 8 xc) := cell_of_row _ _ 0 _ _ _ rX28_.out
    have Y_0_ : ((w4.alloc (.cells #[.slice ya yn yc] 57))).cell? ⟨w4.heap.size, 0, none⟩ = some (.slice ya yn yc) := cell_of_row _ _ 0 _ _ _ rY33_.out
    go_wp2_with fail
    go_at_call 41
    refine (HF2.out _ _ (HRy.out.grow HTy32_.out)).mono ?_
    rintro e w5 ⟨v3_, rfl, o, g⟩
    have szw5 := g.size
    try simp only [World.size_alloc] at szw5
    obtain ⟨za, zn, zc, hv_⟩ := RdL.form (OwU.rd o)
    subst hv_
    clear o
    clear T_0_ X_0_ Y_0_
    have rT34_ := Lib.hid (show (w5).heap[w2.heap.size]? = some (.cells #[.slice (some ⟨tb, to, none⟩) 8 tc] 57 (0, 0)) from row_held g rT27_.out)
    clear rT27_
    have rX35_ := Lib.hid (show (w5).heap[w3.heap.size]? = some (.cells #[.slice (some ⟨xb, xo, none⟩) 8 xc] 57 (0, 0)) from row_held g rX28_.out)
    clear rX28_
    have rY36_ := Lib.hid (show (w5).heap[w4.heap.size]? = some (.cells #[.slice ya yn yc] 57 (0, 0)) from row_held g rY33_.out)
    clear rY33_
    have G37_ := Lib.hid (show (W).grownBy (w5) none from gby_trans G29_.out g)
    have HTt38_ := Lib.hid (show (w2).grownBy (w5) none from gby_trans HTt30_.out g)
    clear HTt30_
    have HTx39_ := Lib.hid (show (w3).grownBy (w5) none from gby_trans HTx31_.out g)
    clear HTx31_
    have HTy40_ := Lib.hid (show (w4).grownBy (w5) none from gby_trans HTy32_.out g)
    clear HTy32_
    clear g
    have T_0_ : (w5).cell? ⟨w2.heap.size, 0, none⟩ = some (.slice (some ⟨tb, to, none⟩) 8 tc) := cell_of_row _ _ 0 _ _ _ rT34_.out
    have X_0_ : (w5).cell? ⟨w3.heap.size, 0, none⟩ = some (.slice (some ⟨xb, xo, none⟩) 8 xc) := cell_of_row _ _ 0 _ _ _ rX35_.out
    have Y_0_ : (w5).cell? ⟨w4.heap.size, 0, none⟩ = some (.slice ya yn yc) := cell_of_row _ _ 0 _ _ _ rY36_.out
    clear T_0_ X_0_ Y_0_
    have al_ : (w5).grownBy ((w5).alloc (.cells #[.slice za zn zc] 57)) none := gby_alloc (gby_refl _ _) _
    have rT41_ := Lib.hid (show ((w5.alloc (.cells #[.slice za zn zc] 57))).heap[w2.heap.size]? = some (.cells #[.slice (some ⟨tb, to, none⟩) 8 tc] 57 (0, 0)) from row_held al_ rT34_.out)
    clear rT34_
    have rX42_ := Lib.hid (show ((w5.alloc (.cells #[.slice za zn zc] 57))).heap[w3.heap.size]? = some (.cells #[.slice (some ⟨xb, xo, none⟩) 8 xc] 57 (0, 0)) from row_held al_ rX35_.out)
    clear rX35_
    have rY43_ := Lib.hid (show ((w5.alloc (.cells #[.slice za zn zc] 57))).heap[w4.heap.size]? = some (.cells #[.slice ya yn yc] 57 (0, 0)) from row_held al_ rY36_.out)
    clear rY36_
    have G44_ := Lib.hid (show (W).grownBy ((w5.alloc (.cells #[.slice za zn zc] 57))) none from gby_trans G37_.out al_)
    have HTt45_ := Lib.hid (show (w2).grownBy ((w5.alloc (.cells #[.slice za zn zc] 57))) none from gby_trans HTt38_.out al_)
    clear HTt38_
    have HTx46_ := Lib.hid (show (w3).grownBy ((w5.alloc (.cells #[.slice za zn zc] 57))) none from gby_trans HTx39_.out al_)
    clear HTx39_
    have HTy47_ := Lib.hid (show (w4).grownBy ((w5.alloc (.cells #[.slice za zn zc] 57))) none from gby_trans HTy40_.out al_)
    clear HTy40_
    have rU48_ := Lib.hid (show ((w5.alloc (.cells #[.slice za zn zc] 57))).heap[w5.heap.size]? = some (.cells #[.slice za zn zc] 57 (0, 0)) from by first | exact heap_alloc_new _ _ | exact heap_pair _ _ _ | exact heap_trip _ _ _ _)
    clear al_
    have T_0_ : ((w5.alloc (.cells #[.slice za zn zc] 57))).cell? ⟨w2.heap.size, 0, none⟩ = some (.slice (some ⟨tb, to, none⟩) 8 tc) := cell_of_row _ _ 0 _ _ _ rT41_.out
    have X_0_ : ((w5.alloc (.cells #[.slice za zn zc] 57))).cell? ⟨w3.heap.size, 0, none⟩ = some (.slice (some ⟨xb, xo, none⟩) 8 xc) := cell_of_row _ _ 0 _ _ _ rX42_.out
    have Y_0_ : ((w5.alloc (.cells #[.slice za zn zc] 57))).cell? ⟨w4.heap.size, 0, none⟩ = some (.slice ya yn yc) := cell_of_row _ _ 0 _ _ _ rY43_.out
    have U_0_ : ((w5.alloc (.cells #[.slice za zn zc] 57))).cell? ⟨w5.heap.size, 0, none⟩ = some (.slice za zn zc) := cell_of_row _ _ 0 _ _ _ rU48_.out
    have tk_ := (HTt45_.out).cell (HTC.out k0 hk8) (by simp)
    have xk_ := (HTx46_.out).cell (HXC.out k0 hk8) (by simp)
    rw [HF0.out] at tk_
    rw [HXA.out] at xk_
    have w1_ : IntKind.i64.wrap ((cn : Int) + 1) = (cn : Int) + 1 := IntWalk.i64_in _ (by omega)
    have q1_ : (((cn : Int) + 1) != ((cn : Int) + 1)) = false := by simp
    have q2_ : ((cn : Int) == (cn : Int)) = true := by simp
    have q3_ : ((k0 : Int) == (k0 : Int)) = true := by simp
    have q4_ : decide ((k0 : Int) ≥ 8) = false := decide_eq_false (by omega)
    have q5_ : ¬ (k0 : Int) ≥ 8 := by omega
    have q6_ : ¬ (8 : Int) ≤ (k0 : Int) := by omega
    have q7_ : ((8 : Int) != 8) = false := rfl
    have q8_ : decide ((8 : Int) ≤ (k0 : Int)) = false := decide_eq_false q6_
    go_wp2_with fail
    have HRt0 := Lib.hid (HRt.out.grow HTt45_.out)
    have HRx0 := Lib.hid (HRx.out.grow HTx46_.out)
    have HRy0 := Lib.hid (HRy.out.grow HTy47_.out)
    refine wp_region_held_drew (S := fun w' => w'.cell? ⟨w2.heap.size, 0, none⟩ = some (.slice (some ⟨tb, to, none⟩) 8 tc) ∧ w'.cell? ⟨w3.heap.size, 0, none⟩ = some (.slice (some ⟨xb, xo, none⟩) 8 xc) ∧ w'.cell? ⟨tb, to + k0, none⟩ = some (.bool false) ∧ w'.cell? ⟨xb, xo + k0, none⟩ = some (.bool true)) (by kernel_rfl) (by (try dsimp only); exact ⟨T_0_, X_0_, tk_, xk_⟩) (fun hHeld => ?_)
    refine wpAnyH_take (i := 0) (oi := { dst := some 38, op := Op.move (Operand.tmp 7), type := 4, pos := "laws.go:892", after := #[], guard := none }) (v := ?v0_r1_1) rfl (by kernel_rfl) (by kernel_rfl) (by kernel_rfl) (fun _ _ _ h => h) (Or.inl ⟨by rfl, ?y0_r1_1⟩) (by assumption) ?r0_r1_1
    case y0_r1_1 => (intro w hSw; (try dsimp only at hSw); go_simp; all_goals (with_reducible rfl))
    try simp only [Act.put, List.setIfInBounds_toArray, List.set_cons_zero, List.set_cons_succ]
    refine wpAnyH_take (i := 1) (oi := { dst := some 39, op := Op.unOp UnOp.not 4 (Operand.tmp 38), type := 4, pos := "laws.go:892", after := #[{ on := 0, ground := Ground.data }], guard := none }) (v := ?v1_r1_2) rfl (by kernel_rfl) (by kernel_rfl) (by kernel_rfl) (fun _ _ _ h => h) (Or.inl ⟨by rfl, ?y1_r1_2⟩) (by assumption) ?r1_r1_2
    case y1_r1_2 => (intro w hSw; (try dsimp only at hSw); go_simp; all_goals (with_reducible rfl))
    try simp only [Act.put, List.setIfInBounds_toArray, List.set_cons_zero, List.set_cons_succ]
    refine wpAnyH_take (i := 2) (oi := { dst := some 40, op := Op.move (Operand.tmp 39), type := 4, pos := "laws.go:892", after := #[{ on := 1, ground := Ground.data }], guard := none }) (v := ?v2_r1_3) rfl (by kernel_rfl) (by kernel_rfl) (by kernel_rfl) (fun _ _ _ h => h) (Or.inl ⟨by rfl, ?y2_r1_3⟩) (by assumption) ?r2_r1_3
    case y2_r1_3 => (intro w hSw; (try dsimp only at hSw); go_simp; all_goals (with_reducible rfl))
    try simp only [Act.put, List.setIfInBounds_toArray, List.set_cons_zero, List.set_cons_succ]
    refine wpAnyH_take (i := 3) (oi := { dst := some 41, op := Op.move (Operand.tmp 9), type := 4, pos := "laws.go:892", after := #[{ on := 2, ground := Ground.guard }], guard := some (2, false) }) (v := ?v3_r1_4) rfl (by kernel_rfl) (by kernel_rfl) (by kernel_rfl) (fun _ _ _ h => h) (Or.inl ⟨by rfl, ?y3_r1_4⟩) (by assumption) ?r3_r1_4
    case y3_r1_4 => (intro w hSw; (try dsimp only at hSw); go_simp; all_goals (with_reducible rfl))
    try simp only [Act.put, List.setIfInBounds_toArray, List.set_cons_zero, List.set_cons_succ]
    refine wpAnyH_take (i := 4) (oi := { dst := some 42, op := Op.pick (Operand.tmp 40) (Operand.const (Value.bool true)) (Operand.tmp 41), type := 4, pos := "laws.go:892", after := #[{ on := 2, ground := Ground.data }, { on := 3, ground := Ground.data }], guard := none }) (v := ?v4_r1_5) rfl (by kernel_rfl) (by kernel_rfl) (by kernel_rfl) (fun _ _ _ h => h) (Or.inl ⟨by rfl, ?y4_r1_5⟩) (by assumption) ?r4_r1_5
    case y4_r1_5 => (intro w hSw; (try dsimp only at hSw); go_simp; all_goals (with_reducible rfl))
    try simp only [Act.put, List.setIfInBounds_toArray, List.set_cons_zero, List.set_cons_succ]
    refine wpAnyH_take (i := 5) (oi := { dst := some 43, op := Op.move (Operand.tmp 42), type := 4, pos := "laws.go:892", after := #[{ on := 4, ground := Ground.data }, { on := 2, ground := Ground.chain }], guard := none }) (v := ?v5_r1_6) rfl (by kernel_rfl) (by kernel_rfl) (by kernel_rfl) (fun _ _ _ h => h) (Or.inl ⟨by rfl, ?y5_r1_6⟩) (by assumption) ?r5_r1_6
    case y5_r1_6 => (intro w hSw; (try dsimp only at hSw); go_simp; all_goals (with_reducible rfl))
    try simp only [Act.put, List.setIfInBounds_toArray, List.set_cons_zero, List.set_cons_succ]
    refine wpAnyH_take (i := 6) (oi := { dst := some 44, op := Op.fieldAddr 57 (Operand.tmp 4) 0, type := 0, pos := "laws.go:892", after := #[{ on := 5, ground := Ground.guard }], guard := some (5, false) }) (v := ?v6_r1_7) rfl (by kernel_rfl) (by kernel_rfl) (by kernel_rfl) (fun _ _ _ h => h) (Or.inl ⟨by rfl, ?y6_r1_7⟩) (by assumption) ?r6_r1_7
    case y6_r1_7 => (intro w hSw; (try dsimp only at hSw); go_simp; all_goals (with_reducible rfl))
    try simp only [Act.put, List.setIfInBounds_toArray, List.set_cons_zero, List.set_cons_succ]
    refine wpAnyH_take (i := 7) (oi := { dst := some 45, op := Op.load 55 (Operand.tmp 44), type := 55, pos := "laws.go:892", after := #[{ on := 6, ground := Ground.data }, { on := 5, ground := Ground.guard }], guard := some (5, false) }) (v := ?v7_r1_8) rfl (by kernel_rfl) (by kernel_rfl) (by kernel_rfl) (fun _ _ _ h => h) (Or.inl ⟨by rfl, ?y7_r1_8⟩) (by assumption) ?r7_r1_8
    case y7_r1_8 => (intro w hSw; (try dsimp only at hSw); go_simp; all_goals (with_reducible rfl))
    try simp only [Act.put, List.setIfInBounds_toArray, List.set_cons_zero, List.set_cons_succ]
    refine wpAnyH_take (i := 8) (oi := { dst := some 46, op := Op.call { callee := Callee.builtin Builtin.len, args := #[Operand.tmp 45], argTypes := #[55] }, type := 3, pos := "laws.go:892", after := #[{ on := 7, ground := Ground.data }, { on := 5, ground := Ground.guard }], guard := some (5, false) }) (v := ?v8_r1_9) rfl (by kernel_rfl) (by kernel_rfl) (by kernel_rfl) (fun _ _ _ h => h) (Or.inl ⟨by rfl, ?y8_r1_9⟩) (by assumption) ?r8_r1_9
    case y8_r1_9 => (intro w hSw; (try dsimp only at hSw); go_simp; all_goals (with_reducible rfl))
    try simp only [Act.put, List.setIfInBounds_toArray, List.set_cons_zero, List.set_cons_succ]
    refine wpAnyH_take (i := 9) (oi := { dst := some 47, op := Op.fieldAddr 57 (Operand.tmp 3) 0, type := 0, pos := "laws.go:892", after := #[{ on := 5, ground := Ground.guard }], guard := some (5, false) }) (v := ?v9_r1_10) rfl (by kernel_rfl) (by kernel_rfl) (by kernel_rfl) (fun _ _ _ h => h) (Or.inl ⟨by rfl, ?y9_r1_10⟩) (by assumption) ?r9_r1_10
    case y9_r1_10 => (intro w hSw; (try dsimp only at hSw); go_simp; all_goals (with_reducible rfl))
    try simp only [Act.put, List.setIfInBounds_toArray, List.set_cons_zero, List.set_cons_succ]
    refine wpAnyH_take (i := 10) (oi := { dst := some 48, op := Op.load 55 (Operand.tmp 47), type := 55, pos := "laws.go:892", after := #[{ on := 9, ground := Ground.data }, { on := 5, ground := Ground.guard }], guard := some (5, false) }) (v := ?v10_r1_11) rfl (by kernel_rfl) (by kernel_rfl) (by kernel_rfl) (fun _ _ _ h => h) (Or.inl ⟨by rfl, ?y10_r1_11⟩) (by assumption) ?r10_r1_11
    case y10_r1_11 => (intro w hSw; (try dsimp only at hSw); go_simp; all_goals (with_reducible rfl))
    try simp only [Act.put, List.setIfInBounds_toArray, List.set_cons_zero, List.set_cons_succ]
    refine wpAnyH_take (i := 11) (oi := { dst := some 49, op := Op.call { callee := Callee.builtin Builtin.len, args := #[Operand.tmp 48], argTypes := #[55] }, type := 3, pos := "laws.go:892", after := #[{ on := 10, ground := Ground.data }, { on := 5, ground := Ground.guard }], guard := some (5, false) }) (v := ?v11_r1_12) rfl (by kernel_rfl) (by kernel_rfl) (by kernel_rfl) (fun _ _ _ h => h) (Or.inl ⟨by rfl, ?y11_r1_12⟩) (by assumption) ?r11_r1_12
    case y11_r1_12 => (intro w hSw; (try dsimp only at hSw); go_simp; all_goals (with_reducible rfl))
    try simp only [Act.put, List.setIfInBounds_toArray, List.set_cons_zero, List.set_cons_succ]
    refine wpAnyH_take (i := 12) (oi := { dst := some 50, op := Op.binOp BinOp.neq 3 (Operand.tmp 46) (Operand.tmp 49) 3, type := 4, pos := "laws.go:892", after := #[{ on := 8, ground := Ground.data }, { on := 11, ground := Ground.data }, { on := 5, ground := Ground.guard }], guard := some (5, false) }) (v := ?v12_r1_13) rfl (by kernel_rfl) (by kernel_rfl) (by kernel_rfl) (fun _ _ _ h => h) (Or.inl ⟨by rfl, ?y12_r1_13⟩) (by assumption) ?r12_r1_13
    case y12_r1_13 => (intro w hSw; (try dsimp only at hSw); go_simp; all_goals (with_reducible rfl))
    try simp only [Act.put, List.setIfInBounds_toArray, List.set_cons_zero, List.set_cons_succ]
    refine wpAnyH_take (i := 13) (oi := { dst := some 51, op := Op.pick (Operand.tmp 43) (Operand.const (Value.bool true)) (Operand.tmp 50), type := 4, pos := "laws.go:892", after := #[{ on := 5, ground := Ground.data }, { on := 12, ground := Ground.data }], guard := none }) (v := ?v13_r1_14) rfl (by kernel_rfl) (by kernel_rfl) (by kernel_rfl) (fun _ _ _ h => h) (Or.inl ⟨by rfl, ?y13_r1_14⟩) (by assumption) ?r13_r1_14
    case y13_r1_14 => (intro w hSw; (try dsimp only at hSw); go_simp; all_goals (with_reducible rfl))
    try simp only [Act.put, List.setIfInBounds_toArray, List.set_cons_zero, List.set_cons_succ]
    refine wpAnyH_take (i := 14) (oi := { dst := some 52, op := Op.move (Operand.tmp 51), type := 4, pos := "laws.go:892", after := #[{ on := 13, ground := Ground.data }, { on := 5, ground := Ground.chain }], guard := none }) (v := ?v14_r1_15) rfl (by kernel_rfl) (by kernel_rfl) (by kernel_rfl) (fun _ _ _ h => h) (Or.inl ⟨by rfl, ?y14_r1_15⟩) (by assumption) ?r14_r1_15
    case y14_r1_15 => (intro w hSw; (try dsimp only at hSw); go_simp; all_goals (with_reducible rfl))
    try simp only [Act.put, List.setIfInBounds_toArray, List.set_cons_zero, List.set_cons_succ]
    refine wpAnyH_take (i := 15) (oi := { dst := some 53, op := Op.move (Operand.tmp 5), type := 3, pos := "laws.go:892", after := #[{ on := 14, ground := Ground.guard }], guard := some (14, false) }) (v := ?v15_r1_16) rfl (by kernel_rfl) (by kernel_rfl) (by kernel_rfl) (fun _ _ _ h => h) (Or.inl ⟨by rfl, ?y15_r1_16⟩) (by assumption) ?r15_r1_16
    case y15_r1_16 => (intro w hSw; (try dsimp only at hSw); go_simp; all_goals (with_reducible rfl))
    try simp only [Act.put, List.setIfInBounds_toArray, List.set_cons_zero, List.set_cons_succ]
    refine wpAnyH_take (i := 16) (oi := { dst := some 54, op := Op.fieldAddr 57 (Operand.tmp 3) 0, type := 0, pos := "laws.go:892", after := #[{ on := 14, ground := Ground.guard }], guard := some (14, false) }) (v := ?v16_r1_17) rfl (by kernel_rfl) (by kernel_rfl) (by kernel_rfl) (fun _ _ _ h => h) (Or.inl ⟨by rfl, ?y16_r1_17⟩) (by assumption) ?r16_r1_17
    case y16_r1_17 => (intro w hSw; (try dsimp only at hSw); go_simp; all_goals (with_reducible rfl))
    try simp only [Act.put, List.setIfInBounds_toArray, List.set_cons_zero, List.set_cons_succ]
    refine wpAnyH_take (i := 17) (oi := { dst := some 55, op := Op.load 55 (Operand.tmp 54), type := 55, pos := "laws.go:892", after := #[{ on := 16, ground := Ground.data }, { on := 14, ground := Ground.guard }], guard := some (14, false) }) (v := ?v17_r1_18) rfl (by kernel_rfl) (by kernel_rfl) (by kernel_rfl) (fun _ _ _ h => h) (Or.inl ⟨by rfl, ?y17_r1_18⟩) (by assumption) ?r17_r1_18
    case y17_r1_18 => (intro w hSw; (try dsimp only at hSw); go_simp; all_goals (with_reducible rfl))
    try simp only [Act.put, List.setIfInBounds_toArray, List.set_cons_zero, List.set_cons_succ]
    refine wpAnyH_take (i := 18) (oi := { dst := some 56, op := Op.call { callee := Callee.builtin Builtin.len, args := #[Operand.tmp 55], argTypes := #[55] }, type := 3, pos := "laws.go:892", after := #[{ on := 17, ground := Ground.data }, { on := 14, ground := Ground.guard }], guard := some (14, false) }) (v := ?v18_r1_19) rfl (by kernel_rfl) (by kernel_rfl) (by kernel_rfl) (fun _ _ _ h => h) (Or.inl ⟨by rfl, ?y18_r1_19⟩) (by assumption) ?r18_r1_19
    case y18_r1_19 => (intro w hSw; (try dsimp only at hSw); go_simp; all_goals (with_reducible rfl))
    try simp only [Act.put, List.setIfInBounds_toArray, List.set_cons_zero, List.set_cons_succ]
    refine wpAnyH_take (i := 19) (oi := { dst := some 57, op := Op.binOp BinOp.geq 3 (Operand.tmp 53) (Operand.tmp 56) 3, type := 4, pos := "laws.go:892", after := #[{ on := 15, ground := Ground.data }, { on := 18, ground := Ground.data }, { on := 14, ground := Ground.guard }], guard := some (14, false) }) (v := ?v19_r1_20) rfl (by kernel_rfl) (by kernel_rfl) (by kernel_rfl) (fun _ _ _ h => h) (Or.inl ⟨by rfl, ?y19_r1_20⟩) (by assumption) ?r19_r1_20
    case y19_r1_20 => (intro w hSw; (try dsimp only at hSw); go_simp; all_goals (with_reducible rfl))
    try simp only [Act.put, List.setIfInBounds_toArray, List.set_cons_zero, List.set_cons_succ]
    refine wpAnyH_take (i := 20) (oi := { dst := some 58, op := Op.pick (Operand.tmp 52) (Operand.const (Value.bool true)) (Operand.tmp 57), type := 4, pos := "laws.go:892", after := #[{ on := 14, ground := Ground.data }, { on := 19, ground := Ground.data }], guard := none }) (v := ?v20_r1_21) rfl (by kernel_rfl) (by kernel_rfl) (by kernel_rfl) (fun _ _ _ h => h) (Or.inl ⟨by rfl, ?y20_r1_21⟩) (by assumption) ?r20_r1_21
    case y20_r1_21 => (intro w hSw; (try dsimp only at hSw); go_simp; all_goals (with_reducible rfl))
    try simp only [Act.put, List.setIfInBounds_toArray, List.set_cons_zero, List.set_cons_succ]
    refine wpAnyH_take (i := 21) (oi := { dst := some 59, op := Op.move (Operand.tmp 58), type := 4, pos := "laws.go:892", after := #[{ on := 20, ground := Ground.data }, { on := 14, ground := Ground.chain }], guard := none }) (v := ?v21_r1_22) rfl (by kernel_rfl) (by kernel_rfl) (by kernel_rfl) (fun _ _ _ h => h) (Or.inl ⟨by rfl, ?y21_r1_22⟩) (by assumption) ?r21_r1_22
    case y21_r1_22 => (intro w hSw; (try dsimp only at hSw); go_simp; all_goals (with_reducible rfl))
    try simp only [Act.put, List.setIfInBounds_toArray, List.set_cons_zero, List.set_cons_succ]
    refine wpAnyH_take (i := 22) (oi := { dst := some 60, op := Op.fieldAddr 57 (Operand.tmp 3) 0, type := 0, pos := "laws.go:892", after := #[{ on := 21, ground := Ground.guard }], guard := some (21, false) }) (v := ?v22_r1_23) rfl (by kernel_rfl) (by kernel_rfl) (by kernel_rfl) (fun _ _ _ h => h) (Or.inl ⟨by rfl, ?y22_r1_23⟩) (by assumption) ?r22_r1_23
    case y22_r1_23 => (intro w hSw; (try dsimp only at hSw); go_simp; all_goals (with_reducible rfl))
    try simp only [Act.put, List.setIfInBounds_toArray, List.set_cons_zero, List.set_cons_succ]
    refine wpAnyH_take (i := 23) (oi := { dst := some 61, op := Op.load 55 (Operand.tmp 60), type := 55, pos := "laws.go:892", after := #[{ on := 22, ground := Ground.data }, { on := 21, ground := Ground.guard }], guard := some (21, false) }) (v := ?v23_r1_24) rfl (by kernel_rfl) (by kernel_rfl) (by kernel_rfl) (fun _ _ _ h => h) (Or.inl ⟨by rfl, ?y23_r1_24⟩) (by assumption) ?r23_r1_24
    case y23_r1_24 => (intro w hSw; (try dsimp only at hSw); go_simp; all_goals (with_reducible rfl))
    try simp only [Act.put, List.setIfInBounds_toArray, List.set_cons_zero, List.set_cons_succ]
    refine wpAnyH_take (i := 24) (oi := { dst := some 62, op := Op.move (Operand.tmp 5), type := 3, pos := "laws.go:892", after := #[{ on := 21, ground := Ground.guard }], guard := some (21, false) }) (v := ?v24_r1_25) rfl (by kernel_rfl) (by kernel_rfl) (by kernel_rfl) (fun _ _ _ h => h) (Or.inl ⟨by rfl, ?y24_r1_25⟩) (by assumption) ?r24_r1_25
    case y24_r1_25 => (intro w hSw; (try dsimp only at hSw); go_simp; all_goals (with_reducible rfl))
    try simp only [Act.put, List.setIfInBounds_toArray, List.set_cons_zero, List.set_cons_succ]
    refine wpAnyH_take (i := 25) (oi := { dst := some 63, op := Op.indexAddr 55 (Operand.tmp 61) (Operand.tmp 62), type := 0, pos := "laws.go:892", after := #[{ on := 23, ground := Ground.data }, { on := 24, ground := Ground.data }, { on := 21, ground := Ground.guard }], guard := some (21, false) }) (v := ?v25_r1_26) rfl (by kernel_rfl) (by kernel_rfl) (by kernel_rfl) (fun _ _ _ h => h) (Or.inl ⟨by rfl, ?y25_r1_26⟩) (by assumption) ?r25_r1_26
    case y25_r1_26 => (intro w hSw; (try dsimp only at hSw); go_simp; all_goals (with_reducible rfl))
    try simp only [Act.put, List.setIfInBounds_toArray, List.set_cons_zero, List.set_cons_succ]
    refine wpAnyH_take (i := 26) (oi := { dst := some 64, op := Op.load 4 (Operand.tmp 63), type := 4, pos := "laws.go:892", after := #[{ on := 25, ground := Ground.data }, { on := 21, ground := Ground.guard }], guard := some (21, false) }) (v := ?v26_r1_27) rfl (by kernel_rfl) (by kernel_rfl) (by kernel_rfl) (fun _ _ _ h => h) (Or.inl ⟨by rfl, ?y26_r1_27⟩) (by assumption) ?r26_r1_27
    case y26_r1_27 => (intro w hSw; (try dsimp only at hSw); go_simp; all_goals (with_reducible rfl))
    try simp only [Act.put, List.setIfInBounds_toArray, List.set_cons_zero, List.set_cons_succ]
    refine wpAnyH_take (i := 27) (oi := { dst := some 65, op := Op.pick (Operand.tmp 59) (Operand.const (Value.bool true)) (Operand.tmp 64), type := 4, pos := "laws.go:892", after := #[{ on := 21, ground := Ground.data }, { on := 26, ground := Ground.data }], guard := none }) (v := ?v27_r1_28) rfl (by kernel_rfl) (by kernel_rfl) (by kernel_rfl) (fun _ _ _ h => h) (Or.inl ⟨by rfl, ?y27_r1_28⟩) (by assumption) ?r27_r1_28
    case y27_r1_28 => (intro w hSw; (try dsimp only at hSw); go_simp; all_goals (with_reducible rfl))
    try simp only [Act.put, List.setIfInBounds_toArray, List.set_cons_zero, List.set_cons_succ]
    refine wpAnyH_take (i := 28) (oi := { dst := some 66, op := Op.move (Operand.tmp 65), type := 4, pos := "laws.go:892", after := #[{ on := 27, ground := Ground.data }, { on := 21, ground := Ground.chain }], guard := none }) (v := ?v28_r1_29) rfl (by kernel_rfl) (by kernel_rfl) (by kernel_rfl) (fun _ _ _ h => h) (Or.inl ⟨by rfl, ?y28_r1_29⟩) (by assumption) ?r28_r1_29
    case y28_r1_29 => (intro w hSw; (try dsimp only at hSw); go_simp; all_goals (with_reducible rfl))
    try simp only [Act.put, List.setIfInBounds_toArray, List.set_cons_zero, List.set_cons_succ]
    refine wpAnyH_take (i := 29) (oi := { dst := some 67, op := Op.fieldAddr 57 (Operand.tmp 4) 0, type := 0, pos := "laws.go:892", after := #[{ on := 28, ground := Ground.guard }], guard := some (28, false) }) (v := ?v29_r1_30) rfl (by kernel_rfl) (by kernel_rfl) (by kernel_rfl) (fun _ _ _ h => h) (Or.inl ⟨by rfl, ?y29_r1_30⟩) (by assumption) ?r29_r1_30
    case y29_r1_30 => (intro w hSw; (try dsimp only at hSw); go_simp; all_goals (with_reducible rfl))
    try simp only [Act.put, List.setIfInBounds_toArray, List.set_cons_zero, List.set_cons_succ]
    refine wpAnyH_take (i := 30) (oi := { dst := some 68, op := Op.load 55 (Operand.tmp 67), type := 55, pos := "laws.go:892", after := #[{ on := 29, ground := Ground.data }, { on := 28, ground := Ground.guard }], guard := some (28, false) }) (v := ?v30_r1_31) rfl (by kernel_rfl) (by kernel_rfl) (by kernel_rfl) (fun _ _ _ h => h) (Or.inl ⟨by rfl, ?y30_r1_31⟩) (by assumption) ?r30_r1_31
    case y30_r1_31 => (intro w hSw; (try dsimp only at hSw); go_simp; all_goals (with_reducible rfl))
    try simp only [Act.put, List.setIfInBounds_toArray, List.set_cons_zero, List.set_cons_succ]
    refine wpAnyH_take (i := 31) (oi := { dst := some 69, op := Op.move (Operand.tmp 5), type := 3, pos := "laws.go:892", after := #[{ on := 28, ground := Ground.guard }], guard := some (28, false) }) (v := ?v31_r1_32) rfl (by kernel_rfl) (by kernel_rfl) (by kernel_rfl) (fun _ _ _ h => h) (Or.inl ⟨by rfl, ?y31_r1_32⟩) (by assumption) ?r31_r1_32
    case y31_r1_32 => (intro w hSw; (try dsimp only at hSw); go_simp; all_goals (with_reducible rfl))
    try simp only [Act.put, List.setIfInBounds_toArray, List.set_cons_zero, List.set_cons_succ]
    refine wpAnyH_take (i := 32) (oi := { dst := some 70, op := Op.indexAddr 55 (Operand.tmp 68) (Operand.tmp 69), type := 0, pos := "laws.go:892", after := #[{ on := 30, ground := Ground.data }, { on := 31, ground := Ground.data }, { on := 28, ground := Ground.guard }], guard := some (28, false) }) (v := ?v32_r1_33) rfl (by kernel_rfl) (by kernel_rfl) (by kernel_rfl) (fun _ _ _ h => h) (Or.inl ⟨by rfl, ?y32_r1_33⟩) (by assumption) ?r32_r1_33
    case y32_r1_33 => (intro w hSw; (try dsimp only at hSw); go_simp; all_goals (with_reducible rfl))
    try simp only [Act.put, List.setIfInBounds_toArray, List.set_cons_zero, List.set_cons_succ]
    refine wpAnyH_take (i := 33) (oi := { dst := some 71, op := Op.load 4 (Operand.tmp 70), type := 4, pos := "laws.go:892", after := #[{ on := 32, ground := Ground.data }, { on := 28, ground := Ground.guard }], guard := some (28, false) }) (v := ?v33_r1_34) rfl (by kernel_rfl) (by kernel_rfl) (by kernel_rfl) (fun _ _ _ h => h) (Or.inl ⟨by rfl, ?y33_r1_34⟩) (by assumption) ?r33_r1_34
    case y33_r1_34 => (intro w hSw; (try dsimp only at hSw); go_simp; all_goals (with_reducible rfl))
    try simp only [Act.put, List.setIfInBounds_toArray, List.set_cons_zero, List.set_cons_succ]
    refine wpAnyH_take (i := 34) (oi := { dst := some 72, op := Op.unOp UnOp.not 4 (Operand.tmp 71), type := 4, pos := "laws.go:892", after := #[{ on := 33, ground := Ground.data }, { on := 28, ground := Ground.guard }], guard := some (28, false) }) (v := ?v34_r1_35) rfl (by kernel_rfl) (by kernel_rfl) (by kernel_rfl) (fun _ _ _ h => h) (Or.inl ⟨by rfl, ?y34_r1_35⟩) (by assumption) ?r34_r1_35
    case y34_r1_35 => (intro w hSw; (try dsimp only at hSw); go_simp; all_goals (with_reducible rfl))
    try simp only [Act.put, List.setIfInBounds_toArray, List.set_cons_zero, List.set_cons_succ]
    refine wpAnyH_take (i := 35) (oi := { dst := some 73, op := Op.pick (Operand.tmp 66) (Operand.const (Value.bool true)) (Operand.tmp 72), type := 4, pos := "laws.go:892", after := #[{ on := 28, ground := Ground.data }, { on := 34, ground := Ground.data }], guard := none }) (v := ?v35_r1_36) rfl (by kernel_rfl) (by kernel_rfl) (by kernel_rfl) (fun _ _ _ h => h) (Or.inl ⟨by rfl, ?y35_r1_36⟩) (by assumption) ?r35_r1_36
    case y35_r1_36 => (intro w hSw; (try dsimp only at hSw); go_simp; all_goals (with_reducible rfl))
    try simp only [Act.put, List.setIfInBounds_toArray, List.set_cons_zero, List.set_cons_succ]
    refine wpAnyH_take (i := 36) (oi := { dst := some 74, op := Op.move (Operand.tmp 73), type := 4, pos := "laws.go:892", after := #[{ on := 35, ground := Ground.data }, { on := 28, ground := Ground.chain }], guard := none }) (v := ?v36_r1_37) rfl (by kernel_rfl) (by kernel_rfl) (by kernel_rfl) (fun _ _ _ h => h) (Or.inl ⟨by rfl, ?y36_r1_37⟩) (by assumption) ?r36_r1_37
    case y36_r1_37 => (intro w hSw; (try dsimp only at hSw); go_simp; all_goals (with_reducible rfl))
    try simp only [Act.put, List.setIfInBounds_toArray, List.set_cons_zero, List.set_cons_succ]
    refine wpAnyH_take (i := 37) (oi := { dst := some 75, op := Op.load 57 (Operand.tmp 4), type := 57, pos := "laws.go:892", after := #[{ on := 36, ground := Ground.guard }], guard := some (36, false) }) (v := ?v37_r1_38) rfl (by kernel_rfl) (by kernel_rfl) (by kernel_rfl) (fun _ _ _ h => h) (Or.inl ⟨by rfl, ?y37_r1_38⟩) (by assumption) ?r37_r1_38
    case y37_r1_38 => (intro w hSw; (try dsimp only at hSw); go_simp; all_goals (with_reducible rfl))
    try simp only [Act.put, List.setIfInBounds_toArray, List.set_cons_zero, List.set_cons_succ]
    refine wpAnyH_take (i := 39) (oi := { dst := some 77, op := Op.load 57 (Operand.tmp 3), type := 57, pos := "laws.go:892", after := #[{ on := 36, ground := Ground.guard }], guard := some (36, false) }) (v := ?v39_r1_39) rfl (by kernel_rfl) (by kernel_rfl) (by kernel_rfl) (fun _ _ _ h => h) (Or.inl ⟨by rfl, ?y39_r1_39⟩) (by assumption) ?r39_r1_39
    case y39_r1_39 => (intro w hSw; (try dsimp only at hSw); go_simp; all_goals (with_reducible rfl))
    try simp only [Act.put, List.setIfInBounds_toArray, List.set_cons_zero, List.set_cons_succ]
    refine wpAnyH_ready (rs := [38]) (by kernel_rfl) (by simp) ?_
    refine AllReadyH.cons (o := { dst := some 76, op := Op.call { callee := Callee.value (Operand.func 40), args := #[Operand.tmp 75], argTypes := #[57] }, type := 3, pos := "laws.go:892", after := #[{ on := 37, ground := Ground.data }, { on := 36, ground := Ground.chain }, { on := 36, ground := Ground.guard }], guard := some (36, false) }) rfl (fun K hK => ?_) AllReadyH.nil
    go_simp
    go_at_call 40
    refine (HC2.out _ _ (HRx0.out.grow (gby_drew (gby_refl _ none)))).mono ?_
    rintro e wH40_r1 ⟨rfl, gH40_r1⟩
    have m40_T_0_ : wH40_r1.cell? _ = some _ := gH40_r1.cell T_0_ (by simp); have m40_X_0_ : wH40_r1.cell? _ = some _ := gH40_r1.cell X_0_ (by simp); have m40_tk_ : wH40_r1.cell? _ = some _ := gH40_r1.cell tk_ (by simp); have m40_xk_ : wH40_r1.cell? _ = some _ := gH40_r1.cell xk_ (by simp)
    go_wp2_with fail
    clear hHeld
    refine hK.out _ _ ?s38_r1_40 (fun hHeld => ?_)
    case s38_r1_40 => exact ⟨m40_T_0_, m40_X_0_, m40_tk_, m40_xk_⟩
    clear hK K
    try simp only [Act.put, List.setIfInBounds_toArray, List.set_cons_zero, List.set_cons_succ]
    refine wpAnyH_ready (rs := [40]) (by kernel_rfl) (by simp) ?_
    refine AllReadyH.cons (o := { dst := some 78, op := Op.call { callee := Callee.value (Operand.func 40), args := #[Operand.tmp 77], argTypes := #[57] }, type := 3, pos := "laws.go:892", after := #[{ on := 39, ground := Ground.data }, { on := 38, ground := Ground.chain }, { on := 36, ground := Ground.guard }], guard := some (36, false) }) rfl (fun K hK => ?_) AllReadyH.nil
    go_simp
    go_at_call 40
    refine (HC1.out _ _ (HRt0.out.grow (gby_trans (gby_drew (gby_refl _ none)) gH40_r1))).mono ?_
    rintro e wH41_r1 ⟨rfl, gH41_r1⟩
    have m41_T_0_ : wH41_r1.cell? _ = some _ := gH41_r1.cell m40_T_0_ (by simp); have m41_X_0_ : wH41_r1.cell? _ = some _ := gH41_r1.cell m40_X_0_ (by simp); have m41_tk_ : wH41_r1.cell? _ = some _ := gH41_r1.cell m40_tk_ (by simp); have m41_xk_ : wH41_r1.cell? _ = some _ := gH41_r1.cell m40_xk_ (by simp)
    go_wp2_with fail
    clear hHeld
    refine hK.out _ _ ?s40_r1_41 (fun hHeld => ?_)
    case s40_r1_41 => exact ⟨m41_T_0_, m41_X_0_, m41_tk_, m41_xk_⟩
    clear hK K
    try simp only [Act.put, List.setIfInBounds_toArray, List.set_cons_zero, List.set_cons_succ]
    refine wpAnyH_take (i := 41) (oi := { dst := some 79, op := Op.binOp BinOp.add 3 (Operand.tmp 78) (Operand.const (Value.int IntKind.i64 1)) 3, type := 3, pos := "laws.go:892", after := #[{ on := 40, ground := Ground.data }, { on := 36, ground := Ground.guard }], guard := some (36, false) }) (v := ?v41_r1_42) rfl (by kernel_rfl) (by kernel_rfl) (by kernel_rfl) (fun _ _ _ h => h) (Or.inl ⟨by rfl, ?y41_r1_42⟩) (by assumption) ?r41_r1_42
    case y41_r1_42 => (intro w hSw; (try dsimp only at hSw); go_simp; all_goals (with_reducible rfl))
    try simp only [Act.put, List.setIfInBounds_toArray, List.set_cons_zero, List.set_cons_succ]
    refine wpAnyH_take (i := 42) (oi := { dst := some 80, op := Op.binOp BinOp.neq 3 (Operand.tmp 76) (Operand.tmp 79) 3, type := 4, pos := "laws.go:892", after := #[{ on := 38, ground := Ground.data }, { on := 41, ground := Ground.data }, { on := 36, ground := Ground.guard }], guard := some (36, false) }) (v := ?v42_r1_43) rfl (by kernel_rfl) (by kernel_rfl) (by kernel_rfl) (fun _ _ _ h => h) (Or.inl ⟨by rfl, ?y42_r1_43⟩) (by assumption) ?r42_r1_43
    case y42_r1_43 => (intro w hSw; (try dsimp only at hSw); go_simp; all_goals (with_reducible rfl))
    try simp only [Act.put, List.setIfInBounds_toArray, List.set_cons_zero, List.set_cons_succ]
    refine wpAnyH_take (i := 43) (oi := { dst := some 81, op := Op.pick (Operand.tmp 74) (Operand.const (Value.bool true)) (Operand.tmp 80), type := 4, pos := "laws.go:892", after := #[{ on := 36, ground := Ground.data }, { on := 42, ground := Ground.data }], guard := none }) (v := ?v43_r1_44) rfl (by kernel_rfl) (by kernel_rfl) (by kernel_rfl) (fun _ _ _ h => h) (Or.inl ⟨by rfl, ?y43_r1_44⟩) (by assumption) ?r43_r1_44
    case y43_r1_44 => (intro w hSw; (try dsimp only at hSw); go_simp; all_goals (with_reducible rfl))
    try simp only [Act.put, List.setIfInBounds_toArray, List.set_cons_zero, List.set_cons_succ]
    refine wpAnyH_done (by kernel_rfl) ?_ _
    have gR_ := (gby_trans (gby_trans (gby_drew (gby_refl _ none)) gH40_r1) gH41_r1)
    have szR_ := gR_.size
    try simp only [World.size_alloc] at szR_
    clear T_0_ X_0_ Y_0_ U_0_
    have rT49_ := Lib.hid (show (wH41_r1).heap[w2.heap.size]? = some (.cells #[.slice (some ⟨tb, to, none⟩) 8 tc] 57 (0, 0)) from row_held gR_ rT41_.out)
    clear rT41_
    have rX50_ := Lib.hid (show (wH41_r1).heap[w3.heap.size]? = some (.cells #[.slice (some ⟨xb, xo, none⟩) 8 xc] 57 (0, 0)) from row_held gR_ rX42_.out)
    clear rX42_
    have rY51_ := Lib.hid (show (wH41_r1).heap[w4.heap.size]? = some (.cells #[.slice ya yn yc] 57 (0, 0)) from row_held gR_ rY43_.out)
    clear rY43_
    have rU52_ := Lib.hid (show (wH41_r1).heap[w5.heap.size]? = some (.cells #[.slice za zn zc] 57 (0, 0)) from row_held gR_ rU48_.out)
    clear rU48_
    have G53_ := Lib.hid (show (W).grownBy (wH41_r1) none from gby_trans G44_.out gR_)
    have HTt54_ := Lib.hid (show (w2).grownBy (wH41_r1) none from gby_trans HTt45_.out gR_)
    clear HTt45_
    have HTx55_ := Lib.hid (show (w3).grownBy (wH41_r1) none from gby_trans HTx46_.out gR_)
    clear HTx46_
    have HTy56_ := Lib.hid (show (w4).grownBy (wH41_r1) none from gby_trans HTy47_.out gR_)
    clear HTy47_
    clear gR_
    have T_0_ : (wH41_r1).cell? ⟨w2.heap.size, 0, none⟩ = some (.slice (some ⟨tb, to, none⟩) 8 tc) := cell_of_row _ _ 0 _ _ _ rT49_.out
    have X_0_ : (wH41_r1).cell? ⟨w3.heap.size, 0, none⟩ = some (.slice (some ⟨xb, xo, none⟩) 8 xc) := cell_of_row _ _ 0 _ _ _ rX50_.out
    have Y_0_ : (wH41_r1).cell? ⟨w4.heap.size, 0, none⟩ = some (.slice ya yn yc) := cell_of_row _ _ 0 _ _ _ rY51_.out
    have U_0_ : (wH41_r1).cell? ⟨w5.heap.size, 0, none⟩ = some (.slice za zn zc) := cell_of_row _ _ 0 _ _ _ rU52_.out
    go_wp2_with fail
    go_at_call 39
    refine (HT1.out _ _ (HRy.out.grow HTy56_.out)).mono ?_
    rintro e w6 ⟨v4_, rfl, o, g⟩
    have szw6 := g.size
    try simp only [World.size_alloc] at szw6
    obtain ⟨ua, un, uc, hv_⟩ := RdL.form (OwU.rd o)
    subst hv_
    clear o
    clear T_0_ X_0_ Y_0_ U_0_
    have rT57_ := Lib.hid (show (w6).heap[w2.heap.size]? = some (.cells #[.slice (some ⟨tb, to, none⟩) 8 tc] 57 (0, 0)) from row_held g rT49_.out)
    clear rT49_
    have rX58_ := Lib.hid (show (w6).heap[w3.heap.size]? = some (.cells #[.slice (some ⟨xb, xo, none⟩) 8 xc] 57 (0, 0)) from row_held g rX50_.out)
    clear rX50_
    have rY59_ := Lib.hid (show (w6).heap[w4.heap.size]? = some (.cells #[.slice ya yn yc] 57 (0, 0)) from row_held g rY51_.out)
    clear rY51_
    have rU60_ := Lib.hid (show (w6).heap[w5.heap.size]? = some (.cells #[.slice za zn zc] 57 (0, 0)) from row_held g rU52_.out)
    clear rU52_
    have G61_ := Lib.hid (show (W).grownBy (w6) none from gby_trans G53_.out g)
    have HTt62_ := Lib.hid (show (w2).grownBy (w6) none from gby_trans HTt54_.out g)
    clear HTt54_
    have HTx63_ := Lib.hid (show (w3).grownBy (w6) none from gby_trans HTx55_.out g)
    clear HTx55_
    have HTy64_ := Lib.hid (show (w4).grownBy (w6) none from gby_trans HTy56_.out g)
    clear HTy56_
    clear g
    have T_0_ : (w6).cell? ⟨w2.heap.size, 0, none⟩ = some (.slice (some ⟨tb, to, none⟩) 8 tc) := cell_of_row _ _ 0 _ _ _ rT57_.out
    have X_0_ : (w6).cell? ⟨w3.heap.size, 0, none⟩ = some (.slice (some ⟨xb, xo, none⟩) 8 xc) := cell_of_row _ _ 0 _ _ _ rX58_.out
    have Y_0_ : (w6).cell? ⟨w4.heap.size, 0, none⟩ = some (.slice ya yn yc) := cell_of_row _ _ 0 _ _ _ rY59_.out
    have U_0_ : (w6).cell? ⟨w5.heap.size, 0, none⟩ = some (.slice za zn zc) := cell_of_row _ _ 0 _ _ _ rU60_.out
    clear T_0_ X_0_ Y_0_ U_0_
    have al_ : (w6).grownBy ((w6).alloc (.cells #[.slice ua un uc] 57)) none := gby_alloc (gby_refl _ _) _
    have rT65_ := Lib.hid (show ((w6.alloc (.cells #[.slice ua un uc] 57))).heap[w2.heap.size]? = some (.cells #[.slice (some ⟨tb, to, none⟩) 8 tc] 57 (0, 0)) from row_held al_ rT57_.out)
    clear rT57_
    have rX66_ := Lib.hid (show ((w6.alloc (.cells #[.slice ua un uc] 57))).heap[w3.heap.size]? = some (.cells #[.slice (some ⟨xb, xo, none⟩) 8 xc] 57 (0, 0)) from row_held al_ rX58_.out)
    clear rX58_
    have rY67_ := Lib.hid (show ((w6.alloc (.cells #[.slice ua un uc] 57))).heap[w4.heap.size]? = some (.cells #[.slice ya yn yc] 57 (0, 0)) from row_held al_ rY59_.out)
    clear rY59_
    have rU68_ := Lib.hid (show ((w6.alloc (.cells #[.slice ua un uc] 57))).heap[w5.heap.size]? = some (.cells #[.slice za zn zc] 57 (0, 0)) from row_held al_ rU60_.out)
    clear rU60_
    have G69_ := Lib.hid (show (W).grownBy ((w6.alloc (.cells #[.slice ua un uc] 57))) none from gby_trans G61_.out al_)
    have HTt70_ := Lib.hid (show (w2).grownBy ((w6.alloc (.cells #[.slice ua un uc] 57))) none from gby_trans HTt62_.out al_)
    clear HTt62_
    have HTx71_ := Lib.hid (show (w3).grownBy ((w6.alloc (.cells #[.slice ua un uc] 57))) none from gby_trans HTx63_.out al_)
    clear HTx63_
    have HTy72_ := Lib.hid (show (w4).grownBy ((w6.alloc (.cells #[.slice ua un uc] 57))) none from gby_trans HTy64_.out al_)
    clear HTy64_
    have rV73_ := Lib.hid (show ((w6.alloc (.cells #[.slice ua un uc] 57))).heap[w6.heap.size]? = some (.cells #[.slice ua un uc] 57 (0, 0)) from by first | exact heap_alloc_new _ _ | exact heap_pair _ _ _ | exact heap_trip _ _ _ _)
    clear al_
    have T_0_ : ((w6.alloc (.cells #[.slice ua un uc] 57))).cell? ⟨w2.heap.size, 0, none⟩ = some (.slice (some ⟨tb, to, none⟩) 8 tc) := cell_of_row _ _ 0 _ _ _ rT65_.out
    have X_0_ : ((w6.alloc (.cells #[.slice ua un uc] 57))).cell? ⟨w3.heap.size, 0, none⟩ = some (.slice (some ⟨xb, xo, none⟩) 8 xc) := cell_of_row _ _ 0 _ _ _ rX66_.out
    have Y_0_ : ((w6.alloc (.cells #[.slice ua un uc] 57))).cell? ⟨w4.heap.size, 0, none⟩ = some (.slice ya yn yc) := cell_of_row _ _ 0 _ _ _ rY67_.out
    have U_0_ : ((w6.alloc (.cells #[.slice ua un uc] 57))).cell? ⟨w5.heap.size, 0, none⟩ = some (.slice za zn zc) := cell_of_row _ _ 0 _ _ _ rU68_.out
    have V_0_ : ((w6.alloc (.cells #[.slice ua un uc] 57))).cell? ⟨w6.heap.size, 0, none⟩ = some (.slice ua un uc) := cell_of_row _ _ 0 _ _ _ rV73_.out
    go_wp2_with fail
    have HRt1 := Lib.hid (HRt.out.grow HTt70_.out)
    have HRy1 := Lib.hid (HRy.out.grow HTy72_.out)
    refine wp_region_held_drew (S := fun w' => w'.cell? ⟨w2.heap.size, 0, none⟩ = some (.slice (some ⟨tb, to, none⟩) 8 tc) ∧ w'.cell? ⟨w4.heap.size, 0, none⟩ = some (.slice ya yn yc)) (by kernel_rfl) (by (try dsimp only); exact ⟨T_0_, Y_0_⟩) (fun hHeld => ?_)
    refine wpAnyH_take (i := 0) (oi := { dst := some 87, op := Op.move (Operand.tmp 11), type := 3, pos := "laws.go:896", after := #[], guard := none }) (v := ?v0_r2_1) rfl (by kernel_rfl) (by kernel_rfl) (by kernel_rfl) (fun _ _ _ h => h) (Or.inl ⟨by rfl, ?y0_r2_1⟩) (by assumption) ?r0_r2_1
    case y0_r2_1 => (intro w hSw; (try dsimp only at hSw); go_simp; all_goals (with_reducible rfl))
    try simp only [Act.put, List.setIfInBounds_toArray, List.set_cons_zero, List.set_cons_succ]
    refine wpAnyH_take (i := 1) (oi := { dst := some 88, op := Op.move (Operand.tmp 5), type := 3, pos := "laws.go:896", after := #[], guard := none }) (v := ?v1_r2_2) rfl (by kernel_rfl) (by kernel_rfl) (by kernel_rfl) (fun _ _ _ h => h) (Or.inl ⟨by rfl, ?y1_r2_2⟩) (by assumption) ?r1_r2_2
    case y1_r2_2 => (intro w hSw; (try dsimp only at hSw); go_simp; all_goals (with_reducible rfl))
    try simp only [Act.put, List.setIfInBounds_toArray, List.set_cons_zero, List.set_cons_succ]
    refine wpAnyH_take (i := 2) (oi := { dst := some 89, op := Op.binOp BinOp.eql 3 (Operand.tmp 87) (Operand.tmp 88) 3, type := 4, pos := "laws.go:896", after := #[{ on := 0, ground := Ground.data }, { on := 1, ground := Ground.data }], guard := none }) (v := ?v2_r2_3) rfl (by kernel_rfl) (by kernel_rfl) (by kernel_rfl) (fun _ _ _ h => h) (Or.inl ⟨by rfl, ?y2_r2_3⟩) (by assumption) ?r2_r2_3
    case y2_r2_3 => (intro w hSw; (try dsimp only at hSw); go_simp; all_goals (with_reducible rfl))
    try simp only [Act.put, List.setIfInBounds_toArray, List.set_cons_zero, List.set_cons_succ]
    refine wpAnyH_take (i := 3) (oi := { dst := some 90, op := Op.move (Operand.tmp 89), type := 4, pos := "laws.go:896", after := #[{ on := 2, ground := Ground.data }], guard := none }) (v := ?v3_r2_4) rfl (by kernel_rfl) (by kernel_rfl) (by kernel_rfl) (fun _ _ _ h => h) (Or.inl ⟨by rfl, ?y3_r2_4⟩) (by assumption) ?r3_r2_4
    case y3_r2_4 => (intro w hSw; (try dsimp only at hSw); go_simp; all_goals (with_reducible rfl))
    try simp only [Act.put, List.setIfInBounds_toArray, List.set_cons_zero, List.set_cons_succ]
    refine wpAnyH_take (i := 4) (oi := { dst := some 91, op := Op.load 57 (Operand.tmp 6), type := 57, pos := "laws.go:896", after := #[{ on := 3, ground := Ground.guard }], guard := some (3, true) }) (v := ?v4_r2_5) rfl (by kernel_rfl) (by kernel_rfl) (by kernel_rfl) (fun _ _ _ h => h) (Or.inl ⟨by rfl, ?y4_r2_5⟩) (by assumption) ?r4_r2_5
    case y4_r2_5 => (intro w hSw; (try dsimp only at hSw); go_simp; all_goals (with_reducible rfl))
    try simp only [Act.put, List.setIfInBounds_toArray, List.set_cons_zero, List.set_cons_succ]
    refine wpAnyH_take (i := 6) (oi := { dst := some 93, op := Op.load 57 (Operand.tmp 3), type := 57, pos := "laws.go:896", after := #[{ on := 3, ground := Ground.guard }], guard := some (3, true) }) (v := ?v6_r2_6) rfl (by kernel_rfl) (by kernel_rfl) (by kernel_rfl) (fun _ _ _ h => h) (Or.inl ⟨by rfl, ?y6_r2_6⟩) (by assumption) ?r6_r2_6
    case y6_r2_6 => (intro w hSw; (try dsimp only at hSw); go_simp; all_goals (with_reducible rfl))
    try simp only [Act.put, List.setIfInBounds_toArray, List.set_cons_zero, List.set_cons_succ]
    refine wpAnyH_ready (rs := [5]) (by kernel_rfl) (by simp) ?_
    refine AllReadyH.cons (o := { dst := some 92, op := Op.call { callee := Callee.value (Operand.func 40), args := #[Operand.tmp 91], argTypes := #[57] }, type := 3, pos := "laws.go:896", after := #[{ on := 4, ground := Ground.data }, { on := 3, ground := Ground.chain }, { on := 3, ground := Ground.guard }], guard := some (3, true) }) rfl (fun K hK => ?_) AllReadyH.nil
    go_simp
    go_at_call 40
    refine (HC1.out _ _ (HRy1.out.grow (gby_drew (gby_refl _ none)))).mono ?_
    rintro e wH7_r2 ⟨rfl, gH7_r2⟩
    have m7_T_0_ : wH7_r2.cell? _ = some _ := gH7_r2.cell T_0_ (by simp); have m7_Y_0_ : wH7_r2.cell? _ = some _ := gH7_r2.cell Y_0_ (by simp)
    go_wp2_with fail
    clear hHeld
    refine hK.out _ _ ?s5_r2_7 (fun hHeld => ?_)
    case s5_r2_7 => exact ⟨m7_T_0_, m7_Y_0_⟩
    clear hK K
    try simp only [Act.put, List.setIfInBounds_toArray, List.set_cons_zero, List.set_cons_succ]
    refine wpAnyH_ready (rs := [7]) (by kernel_rfl) (by simp) ?_
    refine AllReadyH.cons (o := { dst := some 94, op := Op.call { callee := Callee.value (Operand.func 40), args := #[Operand.tmp 93], argTypes := #[57] }, type := 3, pos := "laws.go:896", after := #[{ on := 6, ground := Ground.data }, { on := 5, ground := Ground.chain }, { on := 3, ground := Ground.guard }], guard := some (3, true) }) rfl (fun K hK => ?_) AllReadyH.nil
    go_simp
    go_at_call 40
    refine (HC1.out _ _ (HRt1.out.grow (gby_trans (gby_drew (gby_refl _ none)) gH7_r2))).mono ?_
    rintro e wH8_r2 ⟨rfl, gH8_r2⟩
    have m8_T_0_ : wH8_r2.cell? _ = some _ := gH8_r2.cell m7_T_0_ (by simp); have m8_Y_0_ : wH8_r2.cell? _ = some _ := gH8_r2.cell m7_Y_0_ (by simp)
    go_wp2_with fail
    clear hHeld
    refine hK.out _ _ ?s7_r2_8 (fun hHeld => ?_)
    case s7_r2_8 => exact ⟨m8_T_0_, m8_Y_0_⟩
    clear hK K
    try simp only [Act.put, List.setIfInBounds_toArray, List.set_cons_zero, List.set_cons_succ]
    refine wpAnyH_take (i := 8) (oi := { dst := some 95, op := Op.binOp BinOp.eql 3 (Operand.tmp 92) (Operand.tmp 94) 3, type := 4, pos := "laws.go:896", after := #[{ on := 5, ground := Ground.data }, { on := 7, ground := Ground.data }, { on := 3, ground := Ground.guard }], guard := some (3, true) }) (v := ?v8_r2_9) rfl (by kernel_rfl) (by kernel_rfl) (by kernel_rfl) (fun _ _ _ h => h) (Or.inl ⟨by rfl, ?y8_r2_9⟩) (by assumption) ?r8_r2_9
    case y8_r2_9 => (intro w hSw; (try dsimp only at hSw); go_simp; all_goals (with_reducible rfl))
    try simp only [Act.put, List.setIfInBounds_toArray, List.set_cons_zero, List.set_cons_succ]
    refine wpAnyH_take (i := 9) (oi := { dst := some 96, op := Op.pick (Operand.tmp 90) (Operand.tmp 95) (Operand.const (Value.bool false)), type := 4, pos := "laws.go:896", after := #[{ on := 3, ground := Ground.data }, { on := 8, ground := Ground.data }], guard := none }) (v := ?v9_r2_10) rfl (by kernel_rfl) (by kernel_rfl) (by kernel_rfl) (fun _ _ _ h => h) (Or.inl ⟨by rfl, ?y9_r2_10⟩) (by assumption) ?r9_r2_10
    case y9_r2_10 => (intro w hSw; (try dsimp only at hSw); go_simp; all_goals (with_reducible rfl))
    try simp only [Act.put, List.setIfInBounds_toArray, List.set_cons_zero, List.set_cons_succ]
    refine wpAnyH_take (i := 10) (oi := { dst := some 2, op := Op.assign (Operand.tmp 96), type := 4, pos := "laws.go:896", after := #[{ on := 9, ground := Ground.data }, { on := 7, ground := Ground.chain }, { on := 0, ground := Ground.phase }, { on := 1, ground := Ground.phase }, { on := 2, ground := Ground.phase }, { on := 3, ground := Ground.phase }, { on := 4, ground := Ground.phase }, { on := 5, ground := Ground.phase }, { on := 6, ground := Ground.phase }, { on := 7, ground := Ground.phase }, { on := 8, ground := Ground.phase }, { on := 9, ground := Ground.phase }], guard := none }) (v := ?v10_r2_11) rfl (by kernel_rfl) (by kernel_rfl) (by kernel_rfl) (fun _ _ _ h => h) (Or.inl ⟨by rfl, ?y10_r2_11⟩) (by assumption) ?r10_r2_11
    case y10_r2_11 => (intro w hSw; (try dsimp only at hSw); go_simp; all_goals (with_reducible rfl))
    try simp only [Act.put, List.setIfInBounds_toArray, List.set_cons_zero, List.set_cons_succ]
    refine wpAnyH_done (by kernel_rfl) ?_ _
    go_wp2
    go_ret
    exact ⟨rfl, gby_below (gby_trans G69_.out (gby_trans (gby_trans (gby_drew (gby_refl _ none)) gH7_r2) gH8_r2))⟩

end Go.Proofs.Ytgagbhkidponnaa
