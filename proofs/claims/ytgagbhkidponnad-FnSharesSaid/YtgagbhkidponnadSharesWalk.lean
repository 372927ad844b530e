/-
  The walk of FnShares.
-/
import Derived.Test.YtgagbhkidponnadDrawArb
import Derived.Test.YtgagbhkidponnadRunG
import Derived.Test.YtgagbhkidponnadNewAb
import Derived.Test.YtgagbhkidponnadShares
import Derived.Test.YtgagbhkidponnadBig
import Derived.Test.YtgagbhkidponnadDrawPlaces
import Derived.Test.YtgagbhkidponnadAppP
import Derived.Test.YtgagbhkidponnadPlainRow
import Derived.Deep.QuietTactic
import Derived.Deep.RegionHeld3
import Derived.Deep.AppendLies
namespace Go.Proofs.Ytgagbhkidponnad
open Go Go.RowKit
set_option linter.unusedVariables false

def bls (xs : List Bool) : List Value := xs.flatMap (fun x => [Value.bool x])
theorem bls_append (xs ys : List Bool) : bls (xs ++ ys) = bls xs ++ bls ys := by simp [bls]
theorem owB_row' {w : World} {base : Nat} {v : Value} {xs : List Bool} {n : Nat} (hn : xs.length = n) (hm : n ≤ 1000000) (h : w.ownsRow base 4 1 v n (bls xs)) : OwL shB w base w.heap.size v xs := owP_row _ plainB.len plainB.ow (by omega) (by subst hn; exact h)
theorem own_shape {w : World} {base : Nat} {e : TypeId} {size : Nat} {v : Value} {n : Nat} {xs : List Value} (h : w.ownsRow base e size v n xs) : ∃ a c, v = .slice a n c := by
  obtain ⟨_, h2⟩ := h
  rcases h2 with ⟨rfl, h0⟩ | ⟨g, cap, cur, rfl, _⟩
  · exact ⟨none, 0, by rw [h0]⟩
  · exact ⟨_, cap, rfl⟩
theorem all_asks {n : Nat} {j : Nat} (h : j < n) : ak (List.replicate n true) j = true := by unfold ak; rw [List.getD_eq_getElem?_getD, List.getElem?_replicate, if_pos h]; rfl

theorem ga_wsum_le {xs : List Int} (hw : ∀ x ∈ xs, x ≤ 4) : ∀ j, j ≤ xs.length → ga_wsum xs j ≤ 4 * j
  | 0, _ => Nat.le_refl _
  | j + 1, hj => by
    have hy := hw (xs.getD j 0) (by rw [List.getD_eq_getElem?_getD, List.getElem?_eq_getElem (by omega)]; exact List.getElem_mem _)
    have := ga_wsum_le hw j (by omega)
    unfold ga_wsum
    omega
set_option maxRecDepth 8000 in
set_option maxHeartbeats 8000000 in
theorem walk_shares (a : Option Addr) (len cap : Nat) (zs : List Int) (W : World) (hB : Bytes W a len zs) :
    Calls Try.prog 10 #[.slice a len cap] W fun e w' => e = .returned (.bool true) ∧ Below W.heap.size W w' := by
  have HB := Lib.hid hB
  clear hB
  by_cases hbig : (1048576 : Int) < (len : Int)
  · go_enter Try.func10, Try.ntmps10
    go_wp2
    go_ret
    exact ⟨rfl, Below.refl _ _⟩
  · skip
    go_enter Try.func10, Try.ntmps10
    go_wp2_with fail
    go_at_call 20
    refine (big_any _ _ _ _).mono ?_
    rintro e w1 ⟨rfl, rfl⟩
    obtain ⟨i1_, hi1_, hz0_, hz1_, hz2_⟩ := info_parts infoBool
    go_wp2_with fail
    go_at_call 40
    refine (drawArb_any _ _ _ _ _ (bytes_grow HB.out (gby_refl _ _)) (by omega)).mono ?_
    rintro e w2 ⟨t, l, v_, xs, rfl, hok, hx4, o, g⟩
    have HOK := Lib.hid hok
    have HX4 := Lib.hid hx4
    have h14 : 1 ≤ xs.length ∧ xs.length ≤ 4 := ⟨hok.2.1, hok.2.2.1⟩
    have HLX : Hid (szL shI xs ≤ 1048576) := Lib.hid (by rw [szL_I]; omega)
    obtain ⟨xa_, xc, rfl, _, hi_⟩ := rdI1_in (OwU.rd o)
    obtain ⟨xb, xo, rfl, hxc⟩ := hi_.resolve_left (by omega)
    obtain ⟨n, hn⟩ : ∃ n, n = xs.length := ⟨_, rfl⟩
    have HRx_ := OwU.rd o
    rw [← hn] at HRx_ hxc h14 ⊢
    have HRx := Lib.hid HRx_
    have HXC := Lib.hid hxc
    have HN := Lib.hid hn
    clear hok hx4 o hxc hn HRx_
    have szw2 := g.size
    try simp only [World.size_alloc] at szw2
    have G1_ := Lib.hid (show (W).grownBy (w2) none from gby_trans (gby_refl _ _) g)
    clear g
    have HTx2_ := Lib.hid (gby_refl (w2) none)
    have MG3_ := Lib.hid (show (W).grownBy (w2) none from G1_.out)
    have al_ : (w2).grownBy ((w2).alloc (.cells #[.slice (some ⟨xb, xo, none⟩) n xc, .int .i64 t, .int .i64 l] 44)) none := gby_alloc (gby_refl _ _) _
    have G4_ := Lib.hid (show (W).grownBy ((w2.alloc (.cells #[.slice (some ⟨xb, xo, none⟩) n xc, .int .i64 t, .int .i64 l] 44))) none from gby_trans G1_.out al_)
    have HTx5_ := Lib.hid (show (w2).grownBy ((w2.alloc (.cells #[.slice (some ⟨xb, xo, none⟩) n xc, .int .i64 t, .int .i64 l] 44))) none from gby_trans HTx2_.out al_)
    clear HTx2_
    have rA6_ := Lib.hid (show ((w2.alloc (.cells #[.slice (some ⟨xb, xo, none⟩) n xc, .int .i64 t, .int .i64 l] 44))).heap[w2.heap.size]? = some (.cells #[.slice (some ⟨xb, xo, none⟩) n xc, .int .i64 t, .int .i64 l] 44 (0, 0)) from by first | exact heap_alloc_new _ _ | exact heap_pair _ _ _ | exact heap_trip _ _ _ _)
    clear al_
    have A_0_ : ((w2.alloc (.cells #[.slice (some ⟨xb, xo, none⟩) n xc, .int .i64 t, .int .i64 l] 44))).cell? ⟨w2.heap.size, 0, none⟩ = some (.slice (some ⟨xb, xo, none⟩) n xc) := cell_of_row _ _ 0 _ _ _ rA6_.out
    have A_1_ : ((w2.alloc (.cells #[.slice (some ⟨xb, xo, none⟩) n xc, .int .i64 t, .int .i64 l] 44))).cell? ⟨w2.heap.size, 1, none⟩ = some (.int .i64 t) := cell_of_row _ _ 1 _ _ _ rA6_.out
    have A_2_ : ((w2.alloc (.cells #[.slice (some ⟨xb, xo, none⟩) n xc, .int .i64 t, .int .i64 l] 44))).cell? ⟨w2.heap.size, 2, none⟩ = some (.int .i64 l) := cell_of_row _ _ 2 _ _ _ rA6_.out
    go_wp2_with fail
    go_at_call 22
    refine (places_any _ _ _ _ _ (bytes_grow HB.out G4_.out) (by omega)).mono ?_
    rintro e w3 ⟨v3, ps, rfl, hl12, hps, o3, g⟩
    obtain ⟨pb, po, pc, rfl, hpc⟩ := o3.twelve hl12
    have HPS := Lib.hid (fun j (hj : j < 12) => hps (ps.getD j 0) (by rw [List.getD_eq_getElem?_getD, List.getElem?_eq_getElem (by omega)]; exact List.getElem_mem _))
    have HPC := Lib.hid hpc
    clear o3 hpc hps hl12
    have szw3 := g.size
    try simp only [World.size_alloc] at szw3
    clear A_0_ A_1_ A_2_
    have rA7_ := Lib.hid (show (w3).heap[w2.heap.size]? = some (.cells #[.slice (some ⟨xb, xo, none⟩) n xc, .int .i64 t, .int .i64 l] 44 (0, 0)) from row_held g rA6_.out)
    clear rA6_
    have G8_ := Lib.hid (show (W).grownBy (w3) none from gby_trans G4_.out g)
    have HTx9_ := Lib.hid (show (w2).grownBy (w3) none from gby_trans HTx5_.out g)
    clear HTx5_
    clear g
    have A_0_ : (w3).cell? ⟨w2.heap.size, 0, none⟩ = some (.slice (some ⟨xb, xo, none⟩) n xc) := cell_of_row _ _ 0 _ _ _ rA7_.out
    have A_1_ : (w3).cell? ⟨w2.heap.size, 1, none⟩ = some (.int .i64 t) := cell_of_row _ _ 1 _ _ _ rA7_.out
    have A_2_ : (w3).cell? ⟨w2.heap.size, 2, none⟩ = some (.int .i64 l) := cell_of_row _ _ 2 _ _ _ rA7_.out
    have HTP10_ := Lib.hid (gby_refl (w3) none)
    have MG11_ := Lib.hid (show (W).grownBy (w3) none from G8_.out)
    have MR12_ := Lib.hid rA7_.out
    obtain ⟨x0, hx0⟩ : ∃ x, x = xs.getD 0 0 := ⟨_, rfl⟩
    have HOK0 := Lib.hid (show ArbOk xs 0 x0 from ⟨HOK.out.1, HOK.out.2.1, HOK.out.2.2.1, by omega, by have := HOK.out.2.1; omega, by rw [hx0]; have := HOK.out.1 (xs.getD 0 0) (by rw [List.getD_eq_getElem?_getD, List.getElem?_eq_getElem (by have := HOK.out.2.1; omega)]; exact List.getElem_mem _); omega, by rw [hx0]; exact Int.le_refl _⟩)
    have HX0 := Lib.hid hx0
    clear hx0
    go_wp2_with fail
    go_at_call 43
    refine (implNewAb_in _ _ n _ xs (rdI_in (HRx.out.grow HTx9_.out)) (by omega) (by omega) x0 HX0.out HOK0.out).mono ?_
    rintro e w4 ⟨d0, e0, rfl, ow, g⟩
    have szw4 := g.size
    try simp only [World.size_alloc] at szw4
    have HRb_ := rdI_out (by have := HN.out; omega) ow.rd1
    rw [← HN.out] at HRb_ ⊢
    have HRb := Lib.hid HRb_
    clear ow HRb_
    unfold abV
    clear A_0_ A_1_ A_2_
    have rA13_ := Lib.hid (show (w4).heap[w2.heap.size]? = some (.cells #[.slice (some ⟨xb, xo, none⟩) n xc, .int .i64 t, .int .i64 l] 44 (0, 0)) from row_held g rA7_.out)
    clear rA7_
    have G14_ := Lib.hid (show (W).grownBy (w4) none from gby_trans G8_.out g)
    have HTx15_ := Lib.hid (show (w2).grownBy (w4) none from gby_trans HTx9_.out g)
    clear HTx9_
    have HTP16_ := Lib.hid (show (w3).grownBy (w4) none from gby_trans HTP10_.out g)
    clear HTP10_
    clear g
    have A_0_ : (w4).cell? ⟨w2.heap.size, 0, none⟩ = some (.slice (some ⟨xb, xo, none⟩) n xc) := cell_of_row _ _ 0 _ _ _ rA13_.out
    have A_1_ : (w4).cell? ⟨w2.heap.size, 1, none⟩ = some (.int .i64 t) := cell_of_row _ _ 1 _ _ _ rA13_.out
    have A_2_ : (w4).cell? ⟨w2.heap.size, 2, none⟩ = some (.int .i64 l) := cell_of_row _ _ 2 _ _ _ rA13_.out
    have HTb17_ := Lib.hid (gby_refl (w4) none)
    have MG18_ := Lib.hid (show (W).grownBy (w4) none from G14_.out)
    have MR19_ := Lib.hid rA13_.out
    clear A_0_ A_1_ A_2_
    have al_ : (w4).grownBy ((w4).alloc (.cells #[.slice d0 n e0, .int .i64 0, .int .i64 x0] 44)) none := gby_alloc (gby_refl _ _) _
    have rA20_ := Lib.hid (show ((w4.alloc (.cells #[.slice d0 n e0, .int .i64 0, .int .i64 x0] 44))).heap[w2.heap.size]? = some (.cells #[.slice (some ⟨xb, xo, none⟩) n xc, .int .i64 t, .int .i64 l] 44 (0, 0)) from row_held al_ rA13_.out)
    clear rA13_
    have G21_ := Lib.hid (show (W).grownBy ((w4.alloc (.cells #[.slice d0 n e0, .int .i64 0, .int .i64 x0] 44))) none from gby_trans G14_.out al_)
    have HTx22_ := Lib.hid (show (w2).grownBy ((w4.alloc (.cells #[.slice d0 n e0, .int .i64 0, .int .i64 x0] 44))) none from gby_trans HTx15_.out al_)
    clear HTx15_
    have HTP23_ := Lib.hid (show (w3).grownBy ((w4.alloc (.cells #[.slice d0 n e0, .int .i64 0, .int .i64 x0] 44))) none from gby_trans HTP16_.out al_)
    clear HTP16_
    have HTb24_ := Lib.hid (show (w4).grownBy ((w4.alloc (.cells #[.slice d0 n e0, .int .i64 0, .int .i64 x0] 44))) none from gby_trans HTb17_.out al_)
    clear HTb17_
    have rB25_ := Lib.hid (show ((w4.alloc (.cells #[.slice d0 n e0, .int .i64 0, .int .i64 x0] 44))).heap[w4.heap.size]? = some (.cells #[.slice d0 n e0, .int .i64 0, .int .i64 x0] 44 (0, 0)) from by first | exact heap_alloc_new _ _ | exact heap_pair _ _ _ | exact heap_trip _ _ _ _)
    clear al_
    have A_0_ : ((w4.alloc (.cells #[.slice d0 n e0, .int .i64 0, .int .i64 x0] 44))).cell? ⟨w2.heap.size, 0, none⟩ = some (.slice (some ⟨xb, xo, none⟩) n xc) := cell_of_row _ _ 0 _ _ _ rA20_.out
    have A_1_ : ((w4.alloc (.cells #[.slice d0 n e0, .int .i64 0, .int .i64 x0] 44))).cell? ⟨w2.heap.size, 1, none⟩ = some (.int .i64 t) := cell_of_row _ _ 1 _ _ _ rA20_.out
    have A_2_ : ((w4.alloc (.cells #[.slice d0 n e0, .int .i64 0, .int .i64 x0] 44))).cell? ⟨w2.heap.size, 2, none⟩ = some (.int .i64 l) := cell_of_row _ _ 2 _ _ _ rA20_.out
    have B_0_ : ((w4.alloc (.cells #[.slice d0 n e0, .int .i64 0, .int .i64 x0] 44))).cell? ⟨w4.heap.size, 0, none⟩ = some (.slice d0 n e0) := cell_of_row _ _ 0 _ _ _ rB25_.out
    have B_1_ : ((w4.alloc (.cells #[.slice d0 n e0, .int .i64 0, .int .i64 x0] 44))).cell? ⟨w4.heap.size, 1, none⟩ = some (.int .i64 0) := cell_of_row _ _ 1 _ _ _ rB25_.out
    have B_2_ : ((w4.alloc (.cells #[.slice d0 n e0, .int .i64 0, .int .i64 x0] 44))).cell? ⟨w4.heap.size, 2, none⟩ = some (.int .i64 x0) := cell_of_row _ _ 2 _ _ _ rB25_.out
    have HTM26_ := Lib.hid (gby_refl ((w4.alloc (.cells #[.slice d0 n e0, .int .i64 0, .int .i64 x0] 44))) none)
    have MG27_ := Lib.hid (show (W).grownBy ((w4.alloc (.cells #[.slice d0 n e0, .int .i64 0, .int .i64 x0] 44))) none from G21_.out)
    have MR28_ := Lib.hid rA20_.out
    have MR29_ := Lib.hid rB25_.out
    have HXM := Lib.hid HTx22_.out
    have HBM := Lib.hid HTb24_.out
    have HPM := Lib.hid HTP23_.out
    clear A_0_ A_1_ A_2_ B_0_ B_1_ B_2_
    have al_ : ((w4.alloc (.cells #[.slice d0 n e0, .int .i64 0, .int .i64 x0] 44))).grownBy (((w4.alloc (.cells #[.slice d0 n e0, .int .i64 0, .int .i64 x0] 44))).alloc (.cells #[] 4)) none := gby_alloc (gby_refl _ _) _
    have rA30_ := Lib.hid (show (((w4.alloc (.cells #[.slice d0 n e0, .int .i64 0, .int .i64 x0] 44)).alloc (.cells #[] 4))).heap[w2.heap.size]? = some (.cells #[.slice (some ⟨xb, xo, none⟩) n xc, .int .i64 t, .int .i64 l] 44 (0, 0)) from row_held al_ rA20_.out)
    clear rA20_
    have rB31_ := Lib.hid (show (((w4.alloc (.cells #[.slice d0 n e0, .int .i64 0, .int .i64 x0] 44)).alloc (.cells #[] 4))).heap[w4.heap.size]? = some (.cells #[.slice d0 n e0, .int .i64 0, .int .i64 x0] 44 (0, 0)) from row_held al_ rB25_.out)
    clear rB25_
    have G32_ := Lib.hid (show (W).grownBy (((w4.alloc (.cells #[.slice d0 n e0, .int .i64 0, .int .i64 x0] 44)).alloc (.cells #[] 4))) none from gby_trans G21_.out al_)
    have HTx33_ := Lib.hid (show (w2).grownBy (((w4.alloc (.cells #[.slice d0 n e0, .int .i64 0, .int .i64 x0] 44)).alloc (.cells #[] 4))) none from gby_trans HTx22_.out al_)
    clear HTx22_
    have HTP34_ := Lib.hid (show (w3).grownBy (((w4.alloc (.cells #[.slice d0 n e0, .int .i64 0, .int .i64 x0] 44)).alloc (.cells #[] 4))) none from gby_trans HTP23_.out al_)
    clear HTP23_
    have HTb35_ := Lib.hid (show (w4).grownBy (((w4.alloc (.cells #[.slice d0 n e0, .int .i64 0, .int .i64 x0] 44)).alloc (.cells #[] 4))) none from gby_trans HTb24_.out al_)
    clear HTb24_
    have HTM36_ := Lib.hid (show ((w4.alloc (.cells #[.slice d0 n e0, .int .i64 0, .int .i64 x0] 44))).grownBy (((w4.alloc (.cells #[.slice d0 n e0, .int .i64 0, .int .i64 x0] 44)).alloc (.cells #[] 4))) none from gby_trans HTM26_.out al_)
    clear HTM26_
    have rT037_ := Lib.hid (show (((w4.alloc (.cells #[.slice d0 n e0, .int .i64 0, .int .i64 x0] 44)).alloc (.cells #[] 4))).heap[w4.heap.size + 1]? = some (.cells #[] 4 (0, 0)) from by first | exact heap_alloc_new _ _ | exact heap_pair _ _ _ | exact heap_trip _ _ _ _)
    clear al_
    have A_0_ : (((w4.alloc (.cells #[.slice d0 n e0, .int .i64 0, .int .i64 x0] 44)).alloc (.cells #[] 4))).cell? ⟨w2.heap.size, 0, none⟩ = some (.slice (some ⟨xb, xo, none⟩) n xc) := cell_of_row _ _ 0 _ _ _ rA30_.out
    have A_1_ : (((w4.alloc (.cells #[.slice d0 n e0, .int .i64 0, .int .i64 x0] 44)).alloc (.cells #[] 4))).cell? ⟨w2.heap.size, 1, none⟩ = some (.int .i64 t) := cell_of_row _ _ 1 _ _ _ rA30_.out
    have A_2_ : (((w4.alloc (.cells #[.slice d0 n e0, .int .i64 0, .int .i64 x0] 44)).alloc (.cells #[] 4))).cell? ⟨w2.heap.size, 2, none⟩ = some (.int .i64 l) := cell_of_row _ _ 2 _ _ _ rA30_.out
    have B_0_ : (((w4.alloc (.cells #[.slice d0 n e0, .int .i64 0, .int .i64 x0] 44)).alloc (.cells #[] 4))).cell? ⟨w4.heap.size, 0, none⟩ = some (.slice d0 n e0) := cell_of_row _ _ 0 _ _ _ rB31_.out
    have B_1_ : (((w4.alloc (.cells #[.slice d0 n e0, .int .i64 0, .int .i64 x0] 44)).alloc (.cells #[] 4))).cell? ⟨w4.heap.size, 1, none⟩ = some (.int .i64 0) := cell_of_row _ _ 1 _ _ _ rB31_.out
    have B_2_ : (((w4.alloc (.cells #[.slice d0 n e0, .int .i64 0, .int .i64 x0] 44)).alloc (.cells #[] 4))).cell? ⟨w4.heap.size, 2, none⟩ = some (.int .i64 x0) := cell_of_row _ _ 2 _ _ _ rB31_.out
    have hst_ : (((w4.alloc (.cells #[.slice d0 n e0, .int .i64 0, .int .i64 x0] 44)).alloc (.cells #[] 4))).ownsRow (w4.heap.size + 1) 4 1 (.slice (some ⟨w4.heap.size + 1, 0, none⟩) 0 0) 0 (bls (List.replicate 0 true)) := own_emptyP (e := 4) (n := 1) rT037_.out (Nat.le_refl _)
    go_wp2
    go_loopw [7, 8, 9] (fun s v k wr => ∃ m : Nat, m ≤ n ∧ s = .int .i64 ((ga_wsum xs m : Nat) : Int) ∧ k = .int .i64 (m : Int) ∧ wr.ownsRow (w4.heap.size + 1) 4 1 v m (bls (List.replicate m true)) ∧ ((w4.alloc (.cells #[.slice d0 n e0, .int .i64 0, .int .i64 x0] 44))).grownBy wr none) (fun _ _ k _ => n - (intOf k).toNat)
    case atStart => exact ⟨0, by omega, rfl, rfl, hst_, HTM36_.out⟩
    case round =>
      clear A_0_ A_1_ A_2_ B_0_ B_1_ B_2_
      clear rA30_
      clear rB31_
      clear rT037_
      clear HTx33_
      clear HTP34_
      clear HTb35_
      clear HTM36_
      obtain ⟨m, hm, rfl, rfl, hown, hg⟩ := hrel
      have szr_ := hg.size
      try simp only [World.size_alloc] at szr_
      try simp only [World.size_setCell] at szr_
      have G38_ := Lib.hid (show (W).grownBy (wr) none from gby_trans MG27_.out hg)
      have rA39_ := Lib.hid (show (wr).heap[w2.heap.size]? = some (.cells #[.slice (some ⟨xb, xo, none⟩) n xc, .int .i64 t, .int .i64 l] 44 (0, 0)) from row_held hg MR28_.out)
      have rB40_ := Lib.hid (show (wr).heap[w4.heap.size]? = some (.cells #[.slice d0 n e0, .int .i64 0, .int .i64 x0] 44 (0, 0)) from row_held hg MR29_.out)
      have HTM41_ := Lib.hid hg
      clear hg
      have A_0_ : (wr).cell? ⟨w2.heap.size, 0, none⟩ = some (.slice (some ⟨xb, xo, none⟩) n xc) := cell_of_row _ _ 0 _ _ _ rA39_.out
      have A_1_ : (wr).cell? ⟨w2.heap.size, 1, none⟩ = some (.int .i64 t) := cell_of_row _ _ 1 _ _ _ rA39_.out
      have A_2_ : (wr).cell? ⟨w2.heap.size, 2, none⟩ = some (.int .i64 l) := cell_of_row _ _ 2 _ _ _ rA39_.out
      have B_0_ : (wr).cell? ⟨w4.heap.size, 0, none⟩ = some (.slice d0 n e0) := cell_of_row _ _ 0 _ _ _ rB40_.out
      have B_1_ : (wr).cell? ⟨w4.heap.size, 1, none⟩ = some (.int .i64 0) := cell_of_row _ _ 1 _ _ _ rB40_.out
      have B_2_ : (wr).cell? ⟨w4.heap.size, 2, none⟩ = some (.int .i64 x0) := cell_of_row _ _ 2 _ _ _ rB40_.out
      try clear hst_
      have HO_ := Lib.hid hown
      clear hown
      have hn0 : (0 : Int) ≤ (m : Int) := by omega
      have htn : ((m : Int)).toNat = m := by omega
      have hbw_ : w4.heap.size + 1 ≤ wr.heap.size := by have := szr_; (try simp only [World.size_alloc] at this); omega
      by_cases hlt : m < n
      rotate_left
      · obtain rfl : m = n := by omega
        have hki : ¬ (m : Int) < (m : Int) := by omega
        obtain ⟨wl, hwl⟩ : ∃ w, w = wr := ⟨_, rfl⟩
        subst hwl
        obtain ⟨av, ac, hv_⟩ := own_shape HO_.out
        subst hv_
        have HU := Lib.hid (owB_row' (xs := List.replicate m true) (by simp) (by omega) HO_.out)
        clear HO_
        have HRu := Lib.hid HU.out.rd
        have HTu42_ := Lib.hid (gby_refl (wl) none)
        have MG43_ := Lib.hid (show (W).grownBy (wl) none from G38_.out)
        have MR44_ := Lib.hid rA39_.out
        have MR45_ := Lib.hid rB40_.out
        obtain ⟨q, hq⟩ : ∃ q, q = ps.getD 0 0 := ⟨_, rfl⟩
        obtain ⟨q1, q2⟩ := (show IsP q from by rw [hq]; exact HPS.out 0 (by omega))
        have p0_ : wl.cell? ⟨pb, po, none⟩ = some (.int .i64 q) := by have z := (gby_trans HPM.out HTM41_.out).cell (HPC.out 0 (by omega)) (by simp); rw [← hq] at z; exact z
        clear hq
        obtain ⟨rn, hrn⟩ : ∃ rn : Nat, q % 4 = (rn : Int) := ⟨(q % 4).toNat, by omega⟩
        have hr3 : rn ≤ 3 := by omega
        have e2_ : q.tmod 4 = (rn : Int) := by rw [Int.tmod_eq_emod_of_nonneg (by omega)]; exact hrn
        have e3_ : IntKind.i64.wrap (1 + (rn : Int)) = 1 + (rn : Int) := IntWalk.i64_in _ (by omega)
        obtain ⟨r1, hr1⟩ : ∃ r1, r1 = 1 + rn := ⟨_, rfl⟩
        have hws := ga_wsum_le (xs := xs) HX4.out m (by rw [← HN.out]; exact Nat.le_refl _)
        have hwp := ga_wsum_pos (xs := xs) HOK.out.1 HOK.out.2.1 m (by omega) (by rw [← HN.out]; exact Nat.le_refl _)
        obtain ⟨sm, hsm⟩ : ∃ s, s = ga_wsum xs m := ⟨_, rfl⟩
        rw [← hsm] at hws hwp ⊢
        have HSM := Lib.hid hsm
        clear hsm hrn
        obtain ⟨cn, hcn⟩ : ∃ c, c = r1 * sm := ⟨_, rfl⟩
        have hcb : 1 ≤ cn ∧ cn ≤ 64 := by
          rw [hcn]
          exact ⟨Nat.mul_pos (by omega) (by omega), Nat.le_trans (Nat.mul_le_mul (show r1 ≤ 4 by omega) (show sm ≤ 16 by omega)) (by omega)⟩
        have e4_ : (1 + (rn : Int)) * (sm : Int) = (cn : Int) := by rw [hcn, hr1]; simp
        have e5_ : IntKind.i64.wrap (cn : Int) = (cn : Int) := IntWalk.i64_in _ (by omega)
        have HE5 := Lib.hid (show wrap64 (cn : Int) = (cn : Int) from IntWalk.wrap64_in _ (by omega))
        have HE6 := Lib.hid e5_
        have HE4 := Lib.hid e4_
        have HE3 := Lib.hid e3_
        clear e5_ e4_ e3_
        have HR1 := Lib.hid hr1
        clear hr1
        have HCN := Lib.hid hcn
        clear hcn
        have hask : ∀ j, j < xs.length → ak (List.replicate m true) j = true := fun j hj => all_asks (by rw [HN.out]; exact hj)
        have hnx : NextAt (List.replicate m true) (0 : Int).toNat xs.length 1 := ⟨by omega, HOK.out.2.1, hask _ (Nat.mod_lt _ HOK.out.2.1), fun j h1 h2 => by omega⟩
        have HASK := Lib.hid hask
        have HGO := Lib.hid (show GOkS xs (List.replicate m true) (0, x0) from ⟨HOK0.out, by rw [List.length_replicate]; exact HN.out, 1, hnx⟩)
        have HNX := Lib.hid hnx
        clear hask hnx
        have HLU : Hid (szL shB (List.replicate m true) ≤ 1048576) := Lib.hid (by rw [szL_B, List.length_replicate]; omega)
        obtain ⟨gp, hgp⟩ : ∃ gp, gp = gports xs (List.replicate m true) (0, x0) cn := ⟨_, rfl⟩
        have HGP := Lib.hid hgp
        have c1_ : (1 : Int) ≤ (cn : Int) := by omega
        have c2_ : (cn : Int) ≤ 200 := by omega
        obtain ⟨ask, hak⟩ : ∃ a, a = List.replicate m true := ⟨_, rfl⟩
        rw [← hak] at HRu HGO HNX HLU HASK HGP hgp
        have HRG := Lib.hid (show ∀ (w : World) (v u : Value), RdL shI w v xs → RdL shB w u ask → Calls Try.prog 36 #[.agg #[v, .int .i64 0, .int .i64 x0], u, .int .i64 (cn : Int)] w (ResIRunGrants gp w) from fun w v u h1 h2 => by
          have q := implRun_good w 0 x0 v u xs ask h1 h2 HLX.out HLU.out (cn : Int) cn rfl c1_ c2_ HGO.out (fun w v u H1 H2 => canGrant_yes w 0 x0 v u xs ask H1 H2 HLX.out HLU.out HOK0.out HGO.out.2.1 1 HNX.out)
          rw [← HGP.out] at q
          exact q)
        clear hgp hak c1_ c2_
        have e3_ := HE3.out
        have e4_ := HE4.out
        have e5_ := HE6.out
        have e5b_ := HE5.out
        go_wp2_with fail
        go_at_call 36
        refine (HRG.out _ _ _ (HRb.out.grow (gby_trans HBM.out HTM41_.out)) HRu.out).mono ?_
        rintro e w5 ⟨v5_, rfl, o, g⟩
        clear e3_ e4_ e5_ e5b_
        have szw5 := g.size
        try simp only [World.size_alloc] at szw5
        have hgp := HGP.out
        have hgl : gp.length = cn := by rw [hgp, gports_len]
        have HGC := Lib.hid (show ∀ j, j < m → gp.count (j : Int) = r1 * (xs.getD j 0).toNat from fun j hj => by
          rw [hgp, HCN.out, HSM.out, HX0.out]
          have q := ga_shares (xs := xs) (ask := ask) HASK.out HOK.out.1 HOK.out.2.1 j (by rw [← HN.out]; exact hj) r1 (by have := HR1.out; omega)
          rw [← HN.out] at q
          exact q)
        obtain ⟨ga, gc, rfl, _, _⟩ := rdI1_in (OwU.rd o)
        have HRg_ := OwU.rd o
        rw [hgl] at HRg_ ⊢
        have HRg := Lib.hid HRg_
        have HGL := Lib.hid hgl
        clear o hgp HRg_ hgl
        clear A_0_ A_1_ A_2_ B_0_ B_1_ B_2_
        have rA46_ := Lib.hid (show (w5).heap[w2.heap.size]? = some (.cells #[.slice (some ⟨xb, xo, none⟩) m xc, .int .i64 t, .int .i64 l] 44 (0, 0)) from row_held g rA39_.out)
        clear rA39_
        have rB47_ := Lib.hid (show (w5).heap[w4.heap.size]? = some (.cells #[.slice d0 m e0, .int .i64 0, .int .i64 x0] 44 (0, 0)) from row_held g rB40_.out)
        clear rB40_
        have G48_ := Lib.hid (show (W).grownBy (w5) none from gby_trans G38_.out g)
        have HTM49_ := Lib.hid (show ((w4.alloc (.cells #[.slice d0 m e0, .int .i64 0, .int .i64 x0] 44))).grownBy (w5) none from gby_trans HTM41_.out g)
        clear HTM41_
        have HTu50_ := Lib.hid (show (wl).grownBy (w5) none from gby_trans HTu42_.out g)
        clear HTu42_
        clear g
        have A_0_ : (w5).cell? ⟨w2.heap.size, 0, none⟩ = some (.slice (some ⟨xb, xo, none⟩) m xc) := cell_of_row _ _ 0 _ _ _ rA46_.out
        have A_1_ : (w5).cell? ⟨w2.heap.size, 1, none⟩ = some (.int .i64 t) := cell_of_row _ _ 1 _ _ _ rA46_.out
        have A_2_ : (w5).cell? ⟨w2.heap.size, 2, none⟩ = some (.int .i64 l) := cell_of_row _ _ 2 _ _ _ rA46_.out
        have B_0_ : (w5).cell? ⟨w4.heap.size, 0, none⟩ = some (.slice d0 m e0) := cell_of_row _ _ 0 _ _ _ rB47_.out
        have B_1_ : (w5).cell? ⟨w4.heap.size, 1, none⟩ = some (.int .i64 0) := cell_of_row _ _ 1 _ _ _ rB47_.out
        have B_2_ : (w5).cell? ⟨w4.heap.size, 2, none⟩ = some (.int .i64 x0) := cell_of_row _ _ 2 _ _ _ rB47_.out
        have HTg51_ := Lib.hid (gby_refl (w5) none)
        have MG52_ := Lib.hid (show (W).grownBy (w5) none from G48_.out)
        have MR53_ := Lib.hid rA46_.out
        have MR54_ := Lib.hid rB47_.out
        have HMg := Lib.hid HTM49_.out
        go_wp2
        go_loopw [12] (fun k wr => ∃ j : Nat, j ≤ m ∧ k = .int .i64 (j : Int) ∧ (w5).grownBy wr none) (fun k _ => m - (intOf k).toNat)
        case atStart => exact ⟨0, by omega, rfl, gby_refl _ _⟩
        case round =>
          clear A_0_ A_1_ A_2_ B_0_ B_1_ B_2_
          obtain ⟨j, hj, rfl, hg⟩ := hrel
          have szrwr := hg.size
          try simp only [World.size_alloc] at szrwr
          try simp only [World.size_setCell] at szrwr
          have szr_ := szrwr
          have rA55_ := Lib.hid (show (wr).heap[w2.heap.size]? = some (.cells #[.slice (some ⟨xb, xo, none⟩) m xc, .int .i64 t, .int .i64 l] 44 (0, 0)) from row_held hg rA46_.out)
          clear rA46_
          have rB56_ := Lib.hid (show (wr).heap[w4.heap.size]? = some (.cells #[.slice d0 m e0, .int .i64 0, .int .i64 x0] 44 (0, 0)) from row_held hg rB47_.out)
          clear rB47_
          have G57_ := Lib.hid (show (W).grownBy (wr) none from gby_trans G48_.out hg)
          have HTM58_ := Lib.hid (show ((w4.alloc (.cells #[.slice d0 m e0, .int .i64 0, .int .i64 x0] 44))).grownBy (wr) none from gby_trans HTM49_.out hg)
          clear HTM49_
          have HTu59_ := Lib.hid (show (wl).grownBy (wr) none from gby_trans HTu50_.out hg)
          clear HTu50_
          have HTg60_ := Lib.hid (show (w5).grownBy (wr) none from gby_trans HTg51_.out hg)
          clear HTg51_
          have HTB_ := Lib.hid hg
          clear hg
          have A_0_ : (wr).cell? ⟨w2.heap.size, 0, none⟩ = some (.slice (some ⟨xb, xo, none⟩) m xc) := cell_of_row _ _ 0 _ _ _ rA55_.out
          have A_1_ : (wr).cell? ⟨w2.heap.size, 1, none⟩ = some (.int .i64 t) := cell_of_row _ _ 1 _ _ _ rA55_.out
          have A_2_ : (wr).cell? ⟨w2.heap.size, 2, none⟩ = some (.int .i64 l) := cell_of_row _ _ 2 _ _ _ rA55_.out
          have B_0_ : (wr).cell? ⟨w4.heap.size, 0, none⟩ = some (.slice d0 m e0) := cell_of_row _ _ 0 _ _ _ rB56_.out
          have B_1_ : (wr).cell? ⟨w4.heap.size, 1, none⟩ = some (.int .i64 0) := cell_of_row _ _ 1 _ _ _ rB56_.out
          have B_2_ : (wr).cell? ⟨w4.heap.size, 2, none⟩ = some (.int .i64 x0) := cell_of_row _ _ 2 _ _ _ rB56_.out
          have hj0 : (0 : Int) ≤ (j : Int) := by omega
          have htj : ((j : Int)).toNat = j := by omega
          by_cases hjt : j < m
          rotate_left
          · obtain rfl : j = m := by omega
            have hkj : ¬ (j : Int) < (j : Int) := by omega
            have q1_ : ((cn : Int) == (cn : Int)) = true := by simp
            have e4_ := HE4.out
            have e5_ := HE6.out
            have e5b_ := HE5.out
            go_wp2
            go_ret
            exact ⟨rfl, gby_below G57_.out⟩
          have hkj : (j : Int) < (m : Int) := by omega
          obtain ⟨y, hy⟩ : ∃ y, y = xs.getD j 0 := ⟨_, rfl⟩
          have hy9 := HOK.out.1 (xs.getD j 0) (by rw [List.getD_eq_getElem?_getD, List.getElem?_eq_getElem (by rw [← HN.out]; exact hjt)]; exact List.getElem_mem _)
          have hcj := HGC.out j hjt
          have xw_ := (gby_trans (gby_trans HXM.out HMg.out) HTB_.out).cell (HXC.out j hjt) (by simp)
          rw [← hy] at xw_ hy9 hcj
          obtain ⟨yn, hyn⟩ : ∃ n : Nat, y = (n : Int) := ⟨y.toNat, by omega⟩
          subst hyn
          rw [Int.toNat_natCast] at hcj
          obtain ⟨cj, hcj2⟩ : ∃ c, c = r1 * yn := ⟨_, rfl⟩
          rw [← hcj2] at hcj
          have hcjb : cj ≤ 36 := by rw [hcj2]; exact Nat.le_trans (Nat.mul_le_mul (show r1 ≤ 4 by have := HR1.out; omega) (show yn ≤ 9 by omega)) (by omega)
          have e6_ : (1 + (rn : Int)) * (yn : Int) = (cj : Int) := by rw [hcj2, HR1.out]; simp
          have HE7 := Lib.hid (show wrap64 (cj : Int) = (cj : Int) from IntWalk.wrap64_in _ (by omega))
          have HE8 := Lib.hid (show IntKind.i64.wrap (cj : Int) = (cj : Int) from IntWalk.i64_in _ (by omega))
          have HE9 := Lib.hid e6_
          clear e6_
          have q1_ : ((cj : Int) != (cj : Int)) = false := by simp
          have HSH := Lib.hid (show ∀ (W : World) (v : Value), RdL shI W v gp → Calls Try.prog 41 #[v, .int .i64 (j : Int)] W (AnsN (.int .i64 (cj : Int)) W) from fun W v H => by have z := implShares_any W v gp (j : Int) (rdI_in H) (by rw [HGL.out]; omega); rw [hcj] at z; exact z)
          have HRg0 := Lib.hid (HRg.out.grow HTg60_.out)
          clear hcj hcj2 hy
          have e6_ := HE9.out
          have e7_ := HE8.out
          have e7b_ := HE7.out
          go_wp2_with fail
          refine wp_region_held_drew (S := fun w' => w'.cell? ⟨w2.heap.size, 0, none⟩ = some (.slice (some ⟨xb, xo, none⟩) m xc) ∧ w'.cell? ⟨xb, xo + j, none⟩ = some (.int .i64 (yn : Int))) (by kernel_rfl) (by (try dsimp only); exact ⟨A_0_, xw_⟩) (fun hHeld => ?_)
          refine wpAnyH_take (i := 0) (oi := { dst := some 61, op := Op.move (Operand.tmp 11), type := 22, pos := "laws.go:560", after := #[], guard := none }) (v := ?v0_r1_1) rfl (by kernel_rfl) (by kernel_rfl) (by kernel_rfl) (fun _ _ _ h => h) (Or.inl ⟨by rfl, ?y0_r1_1⟩) (by assumption) ?r0_r1_1
          case y0_r1_1 => (intro w hSw; (try dsimp only at hSw); go_simp; all_goals (with_reducible rfl))
          try simp only [Act.put, List.setIfInBounds_toArray, List.set_cons_zero, List.set_cons_succ]
          refine wpAnyH_take (i := 1) (oi := { dst := some 62, op := Op.move (Operand.tmp 12), type := 3, pos := "laws.go:560", after := #[], guard := none }) (v := ?v1_r1_2) rfl (by kernel_rfl) (by kernel_rfl) (by kernel_rfl) (fun _ _ _ h => h) (Or.inl ⟨by rfl, ?y1_r1_2⟩) (by assumption) ?r1_r1_2
          case y1_r1_2 => (intro w hSw; (try dsimp only at hSw); go_simp; all_goals (with_reducible rfl))
          try simp only [Act.put, List.setIfInBounds_toArray, List.set_cons_zero, List.set_cons_succ]
          refine wpAnyH_take (i := 3) (oi := { dst := some 64, op := Op.move (Operand.tmp 10), type := 3, pos := "laws.go:560", after := #[], guard := none }) (v := ?v3_r1_3) rfl (by kernel_rfl) (by kernel_rfl) (by kernel_rfl) (fun _ _ _ h => h) (Or.inl ⟨by rfl, ?y3_r1_3⟩) (by assumption) ?r3_r1_3
          case y3_r1_3 => (intro w hSw; (try dsimp only at hSw); go_simp; all_goals (with_reducible rfl))
          try simp only [Act.put, List.setIfInBounds_toArray, List.set_cons_zero, List.set_cons_succ]
          refine wpAnyH_take (i := 4) (oi := { dst := some 65, op := Op.fieldAddr 44 (Operand.tmp 3) 0, type := 0, pos := "laws.go:560", after := #[], guard := none }) (v := ?v4_r1_4) rfl (by kernel_rfl) (by kernel_rfl) (by kernel_rfl) (fun _ _ _ h => h) (Or.inl ⟨by rfl, ?y4_r1_4⟩) (by assumption) ?r4_r1_4
          case y4_r1_4 => (intro w hSw; (try dsimp only at hSw); go_simp; all_goals (with_reducible rfl))
          try simp only [Act.put, List.setIfInBounds_toArray, List.set_cons_zero, List.set_cons_succ]
          refine wpAnyH_take (i := 5) (oi := { dst := some 66, op := Op.load 22 (Operand.tmp 65), type := 22, pos := "laws.go:560", after := #[{ on := 4, ground := Ground.data }], guard := none }) (v := ?v5_r1_5) rfl (by kernel_rfl) (by kernel_rfl) (by kernel_rfl) (fun _ _ _ h => h) (Or.inl ⟨by rfl, ?y5_r1_5⟩) (by assumption) ?r5_r1_5
          case y5_r1_5 => (intro w hSw; (try dsimp only at hSw); go_simp; all_goals (with_reducible rfl))
          try simp only [Act.put, List.setIfInBounds_toArray, List.set_cons_zero, List.set_cons_succ]
          refine wpAnyH_take (i := 6) (oi := { dst := some 67, op := Op.move (Operand.tmp 12), type := 3, pos := "laws.go:560", after := #[], guard := none }) (v := ?v6_r1_6) rfl (by kernel_rfl) (by kernel_rfl) (by kernel_rfl) (fun _ _ _ h => h) (Or.inl ⟨by rfl, ?y6_r1_6⟩) (by assumption) ?r6_r1_6
          case y6_r1_6 => (intro w hSw; (try dsimp only at hSw); go_simp; all_goals (with_reducible rfl))
          try simp only [Act.put, List.setIfInBounds_toArray, List.set_cons_zero, List.set_cons_succ]
          refine wpAnyH_take (i := 7) (oi := { dst := some 68, op := Op.indexAddr 22 (Operand.tmp 66) (Operand.tmp 67), type := 0, pos := "laws.go:560", after := #[{ on := 5, ground := Ground.data }, { on := 6, ground := Ground.data }], guard := none }) (v := ?v7_r1_7) rfl (by kernel_rfl) (by kernel_rfl) (by kernel_rfl) (fun _ _ _ h => h) (Or.inl ⟨by rfl, ?y7_r1_7⟩) (by assumption) ?r7_r1_7
          case y7_r1_7 => (intro w hSw; (try dsimp only at hSw); go_simp; all_goals (with_reducible rfl))
          try simp only [Act.put, List.setIfInBounds_toArray, List.set_cons_zero, List.set_cons_succ]
          refine wpAnyH_take (i := 8) (oi := { dst := some 69, op := Op.load 3 (Operand.tmp 68), type := 3, pos := "laws.go:560", after := #[{ on := 7, ground := Ground.data }], guard := none }) (v := ?v8_r1_8) rfl (by kernel_rfl) (by kernel_rfl) (by kernel_rfl) (fun _ _ _ h => h) (Or.inl ⟨by rfl, ?y8_r1_8⟩) (by assumption) ?r8_r1_8
          case y8_r1_8 => (intro w hSw; (try dsimp only at hSw); go_simp; all_goals (with_reducible rfl))
          try simp only [Act.put, List.setIfInBounds_toArray, List.set_cons_zero, List.set_cons_succ]
          refine wpAnyH_take (i := 9) (oi := { dst := some 70, op := Op.binOp BinOp.mul 3 (Operand.tmp 64) (Operand.tmp 69) 3, type := 3, pos := "laws.go:560", after := #[{ on := 3, ground := Ground.data }, { on := 8, ground := Ground.data }], guard := none }) (v := ?v9_r1_9) rfl (by kernel_rfl) (by kernel_rfl) (by kernel_rfl) (fun _ _ _ h => h) (Or.inl ⟨by rfl, ?y9_r1_9⟩) (by assumption) ?r9_r1_9
          case y9_r1_9 => (intro w hSw; (try dsimp only at hSw); go_simp; all_goals (with_reducible rfl))
          try simp only [Act.put, List.setIfInBounds_toArray, List.set_cons_zero, List.set_cons_succ]
          refine wpAnyH_ready (rs := [2]) (by kernel_rfl) (by simp) ?_
          refine AllReadyH.cons (o := { dst := some 63, op := Op.call { callee := Callee.value (Operand.func 41), args := #[Operand.tmp 61, Operand.tmp 62], argTypes := #[22, 3] }, type := 3, pos := "laws.go:560", after := #[{ on := 0, ground := Ground.data }, { on := 1, ground := Ground.data }], guard := none }) rfl (fun K hK => ?_) AllReadyH.nil
          go_simp
          go_at_call 41
          refine (HSH.out _ _ (HRg0.out.grow (gby_drew (gby_refl _ none)))).mono ?_
          rintro e wH10_r1 ⟨rfl, gH10_r1⟩
          have m10_A_0_ : wH10_r1.cell? _ = some _ := gH10_r1.cell A_0_ (by simp); have m10_xw_ : wH10_r1.cell? _ = some _ := gH10_r1.cell xw_ (by simp)
          go_wp2_with fail
          clear hHeld
          refine hK.out _ _ ?s2_r1_10 (fun hHeld => ?_)
          case s2_r1_10 => exact ⟨m10_A_0_, m10_xw_⟩
          clear hK K
          try simp only [Act.put, List.setIfInBounds_toArray, List.set_cons_zero, List.set_cons_succ]
          refine wpAnyH_take (i := 10) (oi := { dst := some 71, op := Op.binOp BinOp.neq 3 (Operand.tmp 63) (Operand.tmp 70) 3, type := 4, pos := "laws.go:560", after := #[{ on := 2, ground := Ground.data }, { on := 9, ground := Ground.data }], guard := none }) (v := ?v10_r1_11) rfl (by kernel_rfl) (by kernel_rfl) (by kernel_rfl) (fun _ _ _ h => h) (Or.inl ⟨by rfl, ?y10_r1_11⟩) (by assumption) ?r10_r1_11
          case y10_r1_11 => (intro w hSw; (try dsimp only at hSw); go_simp; all_goals (with_reducible rfl))
          try simp only [Act.put, List.setIfInBounds_toArray, List.set_cons_zero, List.set_cons_succ]
          refine wpAnyH_done (by kernel_rfl) ?_ _
          clear e6_ e7_ e7b_
          go_wp2
          exact ⟨⟨j + 1, by omega, by go_num, gby_trans HTB_.out (gby_trans (gby_drew (gby_refl _ none)) gH10_r1)⟩, by simp [intOf]; omega⟩
      have hki : (m : Int) < (n : Int) := by omega
      obtain ⟨y, hy⟩ : ∃ y, y = xs.getD m 0 := ⟨_, rfl⟩
      have xw_ := (gby_trans HXM.out HTM41_.out).cell (HXC.out m hlt) (by simp)
      have hy9 := HOK.out.1 (xs.getD m 0) (by rw [List.getD_eq_getElem?_getD, List.getElem?_eq_getElem (by rw [← HN.out]; exact hlt)]; exact List.getElem_mem _)
      rw [← hy] at xw_ hy9
      have hws := ga_wsum_le (xs := xs) HX4.out m (by rw [← HN.out]; omega)
      have e1_ : IntKind.i64.wrap (((ga_wsum xs m : Nat) : Int) + y) = ((ga_wsum xs (m + 1) : Nat) : Int) := by
        rw [IntWalk.i64_in _ (by omega)]
        show _ = ((ga_wsum xs m + (xs.getD m 0).toNat : Nat) : Int)
        rw [← hy]; omega
      obtain ⟨s2, hs2⟩ : ∃ s2 : Nat, s2 = ga_wsum xs (m + 1) := ⟨_, rfl⟩
      rw [← hs2] at e1_
      have HS2 := Lib.hid hs2
      obtain ⟨s1, hs1⟩ : ∃ s1 : Nat, s1 = ga_wsum xs m := ⟨_, rfl⟩
      rw [← hs1] at e1_ ⊢
      clear hs2 hs1 hy hws
      go_wp2_with (at_builtin; refine wpList_append_lies _ (by rfl) _ _ _ (by rfl) (w4.heap.size + 1) 4 i1_ _ 1 1 Try.underlying42 hi1_ hz0_ hz1_ hz2_ rfl (by omega) _ m (bls (List.replicate m true)) (by rfl) (HO_.out.alloc _) ⟨wr.heap.size, 0, none⟩ 1 1 [.bool true] (by rfl) (by rfl) (World.news_of_block (t := 4) (fr := (0, 0)) (heap_alloc_new wr _)) (by simp [Value.oneCell']) (by omega) (by unfold maxLen; omega) (by omega) (by simp; omega) _ (by rfl) ?_; intro gg cap2 wa hown_ hgr_ hat_ hlt2_; have HP := Lib.hid hown_; have HQ := Lib.hid hgr_; clear hown_ hgr_ hat_ hlt2_)
      refine ⟨⟨m + 1, by omega, ?_, by go_num, ?_, ?_⟩, by simp [intOf]; omega⟩
      · rw [← HS2.out]
      · rw [List.replicate_succ', bls_append]; exact HP.out
      · exact gby_new (gby_alloc HTM41_.out _) HQ.out (fun i hi => by have := own_from HO_.out i hi; (try simp only [World.size_alloc]); omega)

end Go.Proofs.Ytgagbhkidponnad
