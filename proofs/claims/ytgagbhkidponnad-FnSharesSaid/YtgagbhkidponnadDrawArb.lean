/-
  Arbiters drawn by the model.
-/
import Derived.Test.YtgagbhkidponnadArb
import Derived.Test.YtgagbhkidponnadDrawKit
import Derived.Test.YtgagbhkidponnadShpI
import Derived.Test.YtgagbhkidponnadBPost0
import Derived.Test.YtgagbhkidponnadIntInfo
import Derived.Test.YtgagbhkidponnadAppP
import Derived.Deep.AppendLies
namespace Go.Proofs.Ytgagbhkidponnad
open Go Go.RowKit
set_option linter.unusedVariables false

/-- a drawn valid arbiter, of weights up to 4 -/
def DrawnArb (r : Option Nat) (W : World) (e : Ending) (w' : World) : Prop := ∃ (t l : Int) (v : Value) (xs : List Int), e = .returned (.agg #[v, .int .i64 t, .int .i64 l]) ∧ ArbOk xs t l ∧ (∀ x ∈ xs, x ≤ 4) ∧ OwU w' W.heap.size w'.heap.size [] [own shI v xs] ∧ W.grownBy w' r
theorem own_keptA {w w' : World} {base c n size : Nat} {e : TypeId} {v : Value} {xs : List Value} (h : w.ownsRow base e size v n xs) (g : w.grownBy w' (some c)) (hc : c < base) : w'.ownsRow base e size v n xs :=
  h.kept g (.inr (fun e => by have := own_from h c e; omega))
theorem rdI_cell {w : World} {b o n c : Nat} {xs : List Int} (H : RdL shI w (.slice (some ⟨b, o, none⟩) n c) xs) (k : Nat) (hk : k < xs.length) : w.cell? ⟨b, o + k, none⟩ = some (.int .i64 (xs.getD k 0)) := by
  obtain ⟨a, cap, e, _, r⟩ := rdI1_in H
  obtain ⟨b2, o2, h2, hc⟩ := r.resolve_left (by omega)
  injection e with e1 e2 e3
  rw [h2] at e1
  injection e1 with e1
  injection e1 with e4 e5
  subst e4 e5
  exact hc k hk

set_option maxRecDepth 8000 in
set_option maxHeartbeats 4000000 in
theorem arb18_any (W : World) (c : Nat) (H : Cur W c) : Calls Try.prog 62 #[.pointer (some ⟨c, 0, none⟩)] W (DrawnArb (some c) W) := by
  have hcl_ := cur_lt H
  have HCU := Lib.hid H
  clear H
  obtain ⟨i1_, hi1_, hz0_, hz1_, hz2_⟩ := info_parts infoInt
  go_enter Try.func62, Try.ntmps62
  have rR1_ := Lib.hid (show ((W.alloc (.cells #[.slice none 0 0, .int .i64 0, .int .i64 0] 44))).heap[W.heap.size]? = some (.cells #[.slice none 0 0, .int .i64 0, .int .i64 0] 44 (0, 0)) from by exact heap_alloc_new _ _)
  have G2_ := Lib.hid (show (W).grownBy ((W.alloc (.cells #[.slice none 0 0, .int .i64 0, .int .i64 0] 44))) (some c) from (gby_alloc (gby_refl _ _) _))
  have HCU3_ := Lib.hid (show Cur ((W.alloc (.cells #[.slice none 0 0, .int .i64 0, .int .i64 0] 44))) c from cur_kept HCU.out (gby_alloc (gby_refl _ none) _) (by simp))
  have R_0_ : ((W.alloc (.cells #[.slice none 0 0, .int .i64 0, .int .i64 0] 44))).cell? ⟨W.heap.size, 0, none⟩ = some (.slice none 0 0) := cell_of_row _ _ 0 _ _ _ rR1_.out
  have R_1_ : ((W.alloc (.cells #[.slice none 0 0, .int .i64 0, .int .i64 0] 44))).cell? ⟨W.heap.size, 1, none⟩ = some (.int .i64 0) := cell_of_row _ _ 1 _ _ _ rR1_.out
  have R_2_ : ((W.alloc (.cells #[.slice none 0 0, .int .i64 0, .int .i64 0] 44))).cell? ⟨W.heap.size, 2, none⟩ = some (.int .i64 0) := cell_of_row _ _ 2 _ _ _ rR1_.out
  have HTM4_ := Lib.hid (gby_refl ((W.alloc (.cells #[.slice none 0 0, .int .i64 0, .int .i64 0] 44))) (some c))
  have MG5_ := Lib.hid (show (W).grownBy ((W.alloc (.cells #[.slice none 0 0, .int .i64 0, .int .i64 0] 44))) (some c) from G2_.out)
  have MR6_ := Lib.hid rR1_.out
  clear R_0_ R_1_ R_2_
  have al_ : ((W.alloc (.cells #[.slice none 0 0, .int .i64 0, .int .i64 0] 44))).grownBy (((W.alloc (.cells #[.slice none 0 0, .int .i64 0, .int .i64 0] 44))).alloc (.cells #[] 3)) none := gby_alloc (gby_refl _ _) _
  have rR7_ := Lib.hid (show (((W.alloc (.cells #[.slice none 0 0, .int .i64 0, .int .i64 0] 44)).alloc (.cells #[] 3))).heap[W.heap.size]? = some (.cells #[.slice none 0 0, .int .i64 0, .int .i64 0] 44 (0, 0)) from row_held al_ rR1_.out)
  clear rR1_
  have G8_ := Lib.hid (show (W).grownBy (((W.alloc (.cells #[.slice none 0 0, .int .i64 0, .int .i64 0] 44)).alloc (.cells #[] 3))) (some c) from gby_trans G2_.out (gby_some al_ _))
  have HCU9_ := Lib.hid (show Cur (((W.alloc (.cells #[.slice none 0 0, .int .i64 0, .int .i64 0] 44)).alloc (.cells #[] 3))) c from cur_kept HCU3_.out al_ (by simp))
  have HTM10_ := Lib.hid (show ((W.alloc (.cells #[.slice none 0 0, .int .i64 0, .int .i64 0] 44))).grownBy (((W.alloc (.cells #[.slice none 0 0, .int .i64 0, .int .i64 0] 44)).alloc (.cells #[] 3))) (some c) from gby_trans HTM4_.out (gby_some al_ _))
  clear HTM4_
  have rT011_ := Lib.hid (show (((W.alloc (.cells #[.slice none 0 0, .int .i64 0, .int .i64 0] 44)).alloc (.cells #[] 3))).heap[W.heap.size + 1]? = some (.cells #[] 3 (0, 0)) from by first | exact heap_alloc_new _ _ | exact heap_pair _ _ _ | exact heap_trip _ _ _ _)
  clear al_
  have R_0_ : (((W.alloc (.cells #[.slice none 0 0, .int .i64 0, .int .i64 0] 44)).alloc (.cells #[] 3))).cell? ⟨W.heap.size, 0, none⟩ = some (.slice none 0 0) := cell_of_row _ _ 0 _ _ _ rR7_.out
  have R_1_ : (((W.alloc (.cells #[.slice none 0 0, .int .i64 0, .int .i64 0] 44)).alloc (.cells #[] 3))).cell? ⟨W.heap.size, 1, none⟩ = some (.int .i64 0) := cell_of_row _ _ 1 _ _ _ rR7_.out
  have R_2_ : (((W.alloc (.cells #[.slice none 0 0, .int .i64 0, .int .i64 0] 44)).alloc (.cells #[] 3))).cell? ⟨W.heap.size, 2, none⟩ = some (.int .i64 0) := cell_of_row _ _ 2 _ _ _ rR7_.out
  go_wp2_with fail
  go_at_call 56
  refine (below_any _ _ _ HCU9_.out (by omega) (by omega)).mono ?_
  rintro e w1 ⟨x, ⟨x1, x2⟩, rfl, H1_, g⟩
  have szw1 := g.size
  try simp only [World.size_alloc] at szw1
  try simp only [World.size_setCell] at szw1
  clear R_0_ R_1_ R_2_
  have rR12_ := Lib.hid (show (w1).heap[W.heap.size]? = some (.cells #[.slice none 0 0, .int .i64 0, .int .i64 0] 44 (0, 0)) from Chg.keep (chg_cur g) rR7_.out (by omega))
  clear rR7_
  have rT013_ := Lib.hid (show (w1).heap[W.heap.size + 1]? = some (.cells #[] 3 (0, 0)) from Chg.keep (chg_cur g) rT011_.out (by omega))
  clear rT011_
  have G14_ := Lib.hid (show (W).grownBy (w1) (some c) from gby_trans G8_.out g)
  clear HCU9_
  have HCU15_ := Lib.hid (show Cur (w1) c from H1_)
  have HTM16_ := Lib.hid (show ((W.alloc (.cells #[.slice none 0 0, .int .i64 0, .int .i64 0] 44))).grownBy (w1) (some c) from gby_trans HTM10_.out g)
  clear HTM10_
  clear g H1_
  have R_0_ : (w1).cell? ⟨W.heap.size, 0, none⟩ = some (.slice none 0 0) := cell_of_row _ _ 0 _ _ _ rR12_.out
  have R_1_ : (w1).cell? ⟨W.heap.size, 1, none⟩ = some (.int .i64 0) := cell_of_row _ _ 1 _ _ _ rR12_.out
  have R_2_ : (w1).cell? ⟨W.heap.size, 2, none⟩ = some (.int .i64 0) := cell_of_row _ _ 2 _ _ _ rR12_.out
  have e1_ : IntKind.i64.wrap (1 + x) = 1 + x := IntWalk.i64_in _ (by omega)
  have hst_ : (w1).ownsRow (W.heap.size + 1) 3 1 (.slice (some ⟨W.heap.size + 1, 0, none⟩) 0 0) 0 (i64s []) := own_emptyP (e := 3) (n := 1) rT013_.out (Nat.le_refl _)
  go_wp2
  go_loopw [3, 5] (fun v k wr => ∃ (m : Nat) (xs : List Int), k = .int .i64 (m : Int) ∧ (m : Int) ≤ 1 + x ∧ xs.length = m ∧ (∀ y ∈ xs, 1 ≤ y ∧ y ≤ 4) ∧ wr.ownsRow (W.heap.size + 1) 3 1 v m (i64s xs) ∧ Cur wr c ∧ ((W.alloc (.cells #[.slice none 0 0, .int .i64 0, .int .i64 0] 44))).grownBy wr (some c)) (fun _ k _ => 5 - (intOf k).toNat)
  case atStart => exact ⟨0, [], rfl, by omega, rfl, (by intro y hy; cases hy), hst_, HCU15_.out, HTM16_.out⟩
  case round =>
    clear R_0_ R_1_ R_2_
    clear rR12_
    clear rT013_
    clear HTM16_
    clear HCU15_
    obtain ⟨m, xs, rfl, hm, hlen, hall, hown, hcu, hg⟩ := hrel
    have szr_ := hg.size
    try simp only [World.size_alloc] at szr_
    try simp only [World.size_setCell] at szr_
    have G17_ := Lib.hid (show (W).grownBy (wr) (some c) from gby_trans MG5_.out hg)
    have rR18_ := Lib.hid (show (wr).heap[W.heap.size]? = some (.cells #[.slice none 0 0, .int .i64 0, .int .i64 0] 44 (0, 0)) from Chg.keep (chg_cur hg) MR6_.out (by omega))
    have HCU19_ := Lib.hid (show Cur (wr) c from hcu)
    have HTM20_ := Lib.hid hg
    clear hg hcu
    have R_0_ : (wr).cell? ⟨W.heap.size, 0, none⟩ = some (.slice none 0 0) := cell_of_row _ _ 0 _ _ _ rR18_.out
    have R_1_ : (wr).cell? ⟨W.heap.size, 1, none⟩ = some (.int .i64 0) := cell_of_row _ _ 1 _ _ _ rR18_.out
    have R_2_ : (wr).cell? ⟨W.heap.size, 2, none⟩ = some (.int .i64 0) := cell_of_row _ _ 2 _ _ _ rR18_.out
    try clear hst_
    have HX := Lib.hid hall
    have HLN := Lib.hid hlen
    have HO := Lib.hid hown
    have hwr : W.heap.size < wr.heap.size := lt_of_block (rR18_.out)
    clear hall hlen hown
    have hn0 : (0 : Int) ≤ (m : Int) := by omega
    have htn : ((m : Int)).toNat = m := by omega
    by_cases hlt : (m : Int) < 1 + x
    rotate_left
    · have hmx : 1 + x = (m : Int) := by omega
      have hm1 : 1 ≤ m := by omega
      have hm4 : m ≤ 4 := by omega
      have HV := Lib.hid (show OwL shI wr (W.heap.size + 1) wr.heap.size _ xs from owI_out (by have := HLN.out; omega) (owI_row (by have q := HO.out; rw [← HLN.out] at q; exact q)))
      obtain ⟨va_, wc, hv_, _, hi_⟩ := rdI1_in HV.out.rd
      obtain ⟨wb, wo, hv2_, _⟩ := hi_.resolve_left (by have := HLN.out; omega)
      subst hv2_ hv_
      have hs_ := HV.out
      rw [HLN.out] at hs_
      have HV2 := Lib.hid hs_
      rw [HLN.out]
      clear hs_ HV HO
      have oV21_ := Lib.hid (show OwU (wr) ((W.heap.size + 1)) (wr.heap.size) [] [own shI (.slice (some ⟨wb, wo, none⟩) m wc) xs] from OwU.one HV2.out)
      go_wp2_with fail
      go_at_call 56
      refine (below_any _ _ _ HCU19_.out (by omega) (by omega)).mono ?_
      rintro e w2 ⟨y, ⟨y1, y2⟩, rfl, H1_, g⟩
      have szw2 := g.size
      try simp only [World.size_alloc] at szw2
      try simp only [World.size_setCell] at szw2
      clear R_0_ R_1_ R_2_
      have rR22_ := Lib.hid (show (w2).heap[W.heap.size]? = some (.cells #[.slice none 0 0, .int .i64 0, .int .i64 0] 44 (0, 0)) from Chg.keep (chg_cur g) rR18_.out (by omega))
      clear rR18_
      have oV23_ := Lib.hid (show OwU (w2) ((W.heap.size + 1)) (wr.heap.size) [] [own shI (.slice (some ⟨wb, wo, none⟩) m wc) xs] from OwU.keep (chg_cur g) (by omega) oV21_.out)
      clear oV21_
      have G24_ := Lib.hid (show (W).grownBy (w2) (some c) from gby_trans G17_.out g)
      clear HCU19_
      have HCU25_ := Lib.hid (show Cur (w2) c from H1_)
      have HTM26_ := Lib.hid (show ((W.alloc (.cells #[.slice none 0 0, .int .i64 0, .int .i64 0] 44))).grownBy (w2) (some c) from gby_trans HTM20_.out g)
      clear HTM20_
      clear g H1_
      have R_0_ : (w2).cell? ⟨W.heap.size, 0, none⟩ = some (.slice none 0 0) := cell_of_row _ _ 0 _ _ _ rR22_.out
      have R_1_ : (w2).cell? ⟨W.heap.size, 1, none⟩ = some (.int .i64 0) := cell_of_row _ _ 1 _ _ _ rR22_.out
      have R_2_ : (w2).cell? ⟨W.heap.size, 2, none⟩ = some (.int .i64 0) := cell_of_row _ _ 2 _ _ _ rR22_.out
      obtain ⟨yn, hyn⟩ : ∃ n : Nat, y = (n : Int) := ⟨y.toNat, by omega⟩
      subst hyn
      have hyl : yn < m := by omega
      have hy0 : (0 : Int) ≤ (yn : Int) := by omega
      have hyt : ((yn : Int)).toNat = yn := by omega
      have hyi : (yn : Int) < (m : Int) := by omega
      clear R_0_ R_1_ R_2_
      have al_ : (w2).grownBy ((w2).alloc (.cells #[.slice (some ⟨wb, wo, none⟩) m wc, .int .i64 (yn : Int), .int .i64 0] 44)) none := gby_alloc (gby_refl _ _) _
      have rR27_ := Lib.hid (show ((w2.alloc (.cells #[.slice (some ⟨wb, wo, none⟩) m wc, .int .i64 (yn : Int), .int .i64 0] 44))).heap[W.heap.size]? = some (.cells #[.slice none 0 0, .int .i64 0, .int .i64 0] 44 (0, 0)) from row_held al_ rR22_.out)
      clear rR22_
      have oV28_ := Lib.hid (show OwU ((w2.alloc (.cells #[.slice (some ⟨wb, wo, none⟩) m wc, .int .i64 (yn : Int), .int .i64 0] 44))) ((W.heap.size + 1)) (wr.heap.size) [] [own shI (.slice (some ⟨wb, wo, none⟩) m wc) xs] from OwU.grow oV23_.out al_)
      clear oV23_
      have G29_ := Lib.hid (show (W).grownBy ((w2.alloc (.cells #[.slice (some ⟨wb, wo, none⟩) m wc, .int .i64 (yn : Int), .int .i64 0] 44))) (some c) from gby_trans G24_.out (gby_some al_ _))
      have HCU30_ := Lib.hid (show Cur ((w2.alloc (.cells #[.slice (some ⟨wb, wo, none⟩) m wc, .int .i64 (yn : Int), .int .i64 0] 44))) c from cur_kept HCU25_.out al_ (by simp))
      have HTM31_ := Lib.hid (show ((W.alloc (.cells #[.slice none 0 0, .int .i64 0, .int .i64 0] 44))).grownBy ((w2.alloc (.cells #[.slice (some ⟨wb, wo, none⟩) m wc, .int .i64 (yn : Int), .int .i64 0] 44))) (some c) from gby_trans HTM26_.out (gby_some al_ _))
      clear HTM26_
      have rA32_ := Lib.hid (show ((w2.alloc (.cells #[.slice (some ⟨wb, wo, none⟩) m wc, .int .i64 (yn : Int), .int .i64 0] 44))).heap[w2.heap.size]? = some (.cells #[.slice (some ⟨wb, wo, none⟩) m wc, .int .i64 (yn : Int), .int .i64 0] 44 (0, 0)) from by first | exact heap_alloc_new _ _ | exact heap_pair _ _ _ | exact heap_trip _ _ _ _)
      clear al_
      have R_0_ : ((w2.alloc (.cells #[.slice (some ⟨wb, wo, none⟩) m wc, .int .i64 (yn : Int), .int .i64 0] 44))).cell? ⟨W.heap.size, 0, none⟩ = some (.slice none 0 0) := cell_of_row _ _ 0 _ _ _ rR27_.out
      have R_1_ : ((w2.alloc (.cells #[.slice (some ⟨wb, wo, none⟩) m wc, .int .i64 (yn : Int), .int .i64 0] 44))).cell? ⟨W.heap.size, 1, none⟩ = some (.int .i64 0) := cell_of_row _ _ 1 _ _ _ rR27_.out
      have R_2_ : ((w2.alloc (.cells #[.slice (some ⟨wb, wo, none⟩) m wc, .int .i64 (yn : Int), .int .i64 0] 44))).cell? ⟨W.heap.size, 2, none⟩ = some (.int .i64 0) := cell_of_row _ _ 2 _ _ _ rR27_.out
      have A_0_ : ((w2.alloc (.cells #[.slice (some ⟨wb, wo, none⟩) m wc, .int .i64 (yn : Int), .int .i64 0] 44))).cell? ⟨w2.heap.size, 0, none⟩ = some (.slice (some ⟨wb, wo, none⟩) m wc) := cell_of_row _ _ 0 _ _ _ rA32_.out
      have A_1_ : ((w2.alloc (.cells #[.slice (some ⟨wb, wo, none⟩) m wc, .int .i64 (yn : Int), .int .i64 0] 44))).cell? ⟨w2.heap.size, 1, none⟩ = some (.int .i64 (yn : Int)) := cell_of_row _ _ 1 _ _ _ rA32_.out
      have A_2_ : ((w2.alloc (.cells #[.slice (some ⟨wb, wo, none⟩) m wc, .int .i64 (yn : Int), .int .i64 0] 44))).cell? ⟨w2.heap.size, 2, none⟩ = some (.int .i64 0) := cell_of_row _ _ 2 _ _ _ rA32_.out
      obtain ⟨z, hz⟩ : ∃ z, z = xs.getD yn 0 := ⟨_, rfl⟩
      have hzz := HX.out (xs.getD yn 0) (by rw [List.getD_eq_getElem?_getD, List.getElem?_eq_getElem (by have := HLN.out; omega)]; exact List.getElem_mem _)
      have zc_ := rdI_cell (OwU.rd oV28_.out) yn (by have := HLN.out; omega)
      rw [← hz] at hzz zc_
      have HZ := Lib.hid hz
      clear hz
      have e2_ : IntKind.i64.wrap (z + 1) = z + 1 := IntWalk.i64_in _ (by omega)
      go_wp2_with fail
      go_at_call 56
      refine (below_any _ _ _ HCU30_.out (by omega) (by omega)).mono ?_
      rintro e w3 ⟨l, ⟨l1, l2⟩, rfl, H1_, g⟩
      have szw3 := g.size
      try simp only [World.size_alloc] at szw3
      try simp only [World.size_setCell] at szw3
      clear R_0_ R_1_ R_2_ A_0_ A_1_ A_2_
      have rR33_ := Lib.hid (show (w3).heap[W.heap.size]? = some (.cells #[.slice none 0 0, .int .i64 0, .int .i64 0] 44 (0, 0)) from Chg.keep (chg_cur g) rR27_.out (by omega))
      clear rR27_
      have rA34_ := Lib.hid (show (w3).heap[w2.heap.size]? = some (.cells #[.slice (some ⟨wb, wo, none⟩) m wc, .int .i64 (yn : Int), .int .i64 0] 44 (0, 0)) from Chg.keep (chg_cur g) rA32_.out (by omega))
      clear rA32_
      have oV35_ := Lib.hid (show OwU (w3) ((W.heap.size + 1)) (wr.heap.size) [] [own shI (.slice (some ⟨wb, wo, none⟩) m wc) xs] from OwU.keep (chg_cur g) (by omega) oV28_.out)
      clear oV28_
      have G36_ := Lib.hid (show (W).grownBy (w3) (some c) from gby_trans G29_.out g)
      clear HCU30_
      have HCU37_ := Lib.hid (show Cur (w3) c from H1_)
      have HTM38_ := Lib.hid (show ((W.alloc (.cells #[.slice none 0 0, .int .i64 0, .int .i64 0] 44))).grownBy (w3) (some c) from gby_trans HTM31_.out g)
      clear HTM31_
      clear g H1_
      have R_0_ : (w3).cell? ⟨W.heap.size, 0, none⟩ = some (.slice none 0 0) := cell_of_row _ _ 0 _ _ _ rR33_.out
      have R_1_ : (w3).cell? ⟨W.heap.size, 1, none⟩ = some (.int .i64 0) := cell_of_row _ _ 1 _ _ _ rR33_.out
      have R_2_ : (w3).cell? ⟨W.heap.size, 2, none⟩ = some (.int .i64 0) := cell_of_row _ _ 2 _ _ _ rR33_.out
      have A_0_ : (w3).cell? ⟨w2.heap.size, 0, none⟩ = some (.slice (some ⟨wb, wo, none⟩) m wc) := cell_of_row _ _ 0 _ _ _ rA34_.out
      have A_1_ : (w3).cell? ⟨w2.heap.size, 1, none⟩ = some (.int .i64 (yn : Int)) := cell_of_row _ _ 1 _ _ _ rA34_.out
      have A_2_ : (w3).cell? ⟨w2.heap.size, 2, none⟩ = some (.int .i64 0) := cell_of_row _ _ 2 _ _ _ rA34_.out
      clear R_0_ R_1_ R_2_ A_0_ A_1_ A_2_
      have hRA_ : ¬ W.heap.size = w2.heap.size := by omega
      have hAR_ : ¬ w2.heap.size = W.heap.size := by omega
      have R_0_ : (w3).cell? ⟨W.heap.size, 0, none⟩ = some (.slice none 0 0) := cell_of_row _ _ 0 _ _ _ rR33_.out
      have R_1_ : (w3).cell? ⟨W.heap.size, 1, none⟩ = some (.int .i64 0) := cell_of_row _ _ 1 _ _ _ rR33_.out
      have R_2_ : (w3).cell? ⟨W.heap.size, 2, none⟩ = some (.int .i64 0) := cell_of_row _ _ 2 _ _ _ rR33_.out
      have Rf0_ : (w3).frozen? ⟨W.heap.size, 0, none⟩ = false := frozen_of_row _ _ 0 _ _ rR33_.out
      have Rf1_ : (w3).frozen? ⟨W.heap.size, 1, none⟩ = false := frozen_of_row _ _ 1 _ _ rR33_.out
      have Rf2_ : (w3).frozen? ⟨W.heap.size, 2, none⟩ = false := frozen_of_row _ _ 2 _ _ rR33_.out
      have A_0_ : (w3).cell? ⟨w2.heap.size, 0, none⟩ = some (.slice (some ⟨wb, wo, none⟩) m wc) := cell_of_row _ _ 0 _ _ _ rA34_.out
      have A_1_ : (w3).cell? ⟨w2.heap.size, 1, none⟩ = some (.int .i64 (yn : Int)) := cell_of_row _ _ 1 _ _ _ rA34_.out
      have A_2_ : (w3).cell? ⟨w2.heap.size, 2, none⟩ = some (.int .i64 0) := cell_of_row _ _ 2 _ _ _ rA34_.out
      have Af0_ : (w3).frozen? ⟨w2.heap.size, 0, none⟩ = false := frozen_of_row _ _ 0 _ _ rA34_.out
      have Af1_ : (w3).frozen? ⟨w2.heap.size, 1, none⟩ = false := frozen_of_row _ _ 1 _ _ rA34_.out
      have Af2_ : (w3).frozen? ⟨w2.heap.size, 2, none⟩ = false := frozen_of_row _ _ 2 _ _ rA34_.out
      have zr_ := Lib.hid (show (((((w3.setCell ⟨w2.heap.size, 2, none⟩ (.int .i64 l)).setCell ⟨W.heap.size, 0, none⟩ (.slice (some ⟨wb, wo, none⟩) m wc)).setCell ⟨W.heap.size, 1, none⟩ (.int .i64 (yn : Int))).setCell ⟨W.heap.size, 2, none⟩ (.int .i64 l))).heap[W.heap.size]? = some (.cells #[.slice (some ⟨wb, wo, none⟩) m wc, .int .i64 (yn : Int), .int .i64 l] 44 (0, 0)) from (heap_setCell_same _ _ 2 _ _ _ (heap_setCell_same _ _ 1 _ _ _ (heap_setCell_same _ _ 0 _ _ _ (set_far rR33_.out (by dsimp only; omega))))))
      have z0_ : (((((w3.setCell ⟨w2.heap.size, 2, none⟩ (.int .i64 l)).setCell ⟨W.heap.size, 0, none⟩ (.slice (some ⟨wb, wo, none⟩) m wc)).setCell ⟨W.heap.size, 1, none⟩ (.int .i64 (yn : Int))).setCell ⟨W.heap.size, 2, none⟩ (.int .i64 l))).cell? ⟨W.heap.size, 0, none⟩ = some (.slice (some ⟨wb, wo, none⟩) m wc) := cell_of_row _ _ 0 _ _ _ zr_.out
      have z1_ : (((((w3.setCell ⟨w2.heap.size, 2, none⟩ (.int .i64 l)).setCell ⟨W.heap.size, 0, none⟩ (.slice (some ⟨wb, wo, none⟩) m wc)).setCell ⟨W.heap.size, 1, none⟩ (.int .i64 (yn : Int))).setCell ⟨W.heap.size, 2, none⟩ (.int .i64 l))).cell? ⟨W.heap.size, 1, none⟩ = some (.int .i64 (yn : Int)) := cell_of_row _ _ 1 _ _ _ zr_.out
      have z2_ : (((((w3.setCell ⟨w2.heap.size, 2, none⟩ (.int .i64 l)).setCell ⟨W.heap.size, 0, none⟩ (.slice (some ⟨wb, wo, none⟩) m wc)).setCell ⟨W.heap.size, 1, none⟩ (.int .i64 (yn : Int))).setCell ⟨W.heap.size, 2, none⟩ (.int .i64 l))).cell? ⟨W.heap.size, 2, none⟩ = some (.int .i64 l) := cell_of_row _ _ 2 _ _ _ zr_.out
      go_wp2
      refine bodyPost_ret (v := .agg #[.slice (some ⟨wb, wo, none⟩) m wc, .int .i64 (yn : Int), .int .i64 l]) (by simp [results, go_sem, z0_, z1_, z2_]) rfl ⟨(yn : Int), l, _, xs, rfl, ⟨fun x hx => ⟨(HX.out x hx).1, by have := (HX.out x hx).2; omega⟩, by rw [HLN.out]; exact hm1, by rw [HLN.out]; exact hm4, hy0, by rw [HLN.out]; exact hyi, l1, by rw [hyt, ← HZ.out]; omega⟩, fun x hx => (HX.out x hx).2, ?_, ?_⟩
      · exact OwU.wide (by omega) (by simp only [World.size_setCell]; omega) (OwU.keep (chg_one _ _ _ _) (.inr (by omega)) (OwU.keep (chg_one _ _ _ _) (.inr (by omega)) (OwU.keep (chg_one _ _ _ _) (.inr (by omega)) (OwU.keep (chg_one _ _ _ _) (.inl (by omega)) oV35_.out))))
      · exact (gby_setnew (gby_setnew (gby_setnew (gby_setnew G36_.out _ (by dsimp only; omega) _) _ (by dsimp only; omega) _) _ (by dsimp only; omega) _) _ (by dsimp only; omega) _)
    go_wp2_with fail
    go_at_call 56
    refine (below_any _ _ _ HCU19_.out (by omega) (by omega)).mono ?_
    rintro e w2 ⟨y, ⟨y1, y2⟩, rfl, H1_, g⟩
    have szw2 := g.size
    have HO2 := Lib.hid (own_keptA HO.out g (by omega))
    clear R_0_ R_1_ R_2_
    have rR21_ := Lib.hid (show (w2).heap[W.heap.size]? = some (.cells #[.slice none 0 0, .int .i64 0, .int .i64 0] 44 (0, 0)) from Chg.keep (chg_cur g) rR18_.out (by omega))
    clear rR18_
    have G22_ := Lib.hid (show (W).grownBy (w2) (some c) from gby_trans G17_.out g)
    clear HCU19_
    have HCU23_ := Lib.hid (show Cur (w2) c from H1_)
    have HTM24_ := Lib.hid (show ((W.alloc (.cells #[.slice none 0 0, .int .i64 0, .int .i64 0] 44))).grownBy (w2) (some c) from gby_trans HTM20_.out g)
    clear HTM20_
    clear g H1_
    have R_0_ : (w2).cell? ⟨W.heap.size, 0, none⟩ = some (.slice none 0 0) := cell_of_row _ _ 0 _ _ _ rR21_.out
    have R_1_ : (w2).cell? ⟨W.heap.size, 1, none⟩ = some (.int .i64 0) := cell_of_row _ _ 1 _ _ _ rR21_.out
    have R_2_ : (w2).cell? ⟨W.heap.size, 2, none⟩ = some (.int .i64 0) := cell_of_row _ _ 2 _ _ _ rR21_.out
    have e3_ : IntKind.i64.wrap (1 + y) = 1 + y := IntWalk.i64_in _ (by omega)
    go_wp2_with (at_builtin; refine wpList_append_lies _ (by rfl) _ _ _ (by rfl) (W.heap.size + 1) 3 i1_ _ 1 8 Try.underlying22 hi1_ hz0_ hz1_ hz2_ rfl (by omega) _ m (i64s xs) (by rfl) (HO2.out.alloc _) ⟨w2.heap.size, 0, none⟩ 1 1 [.int .i64 (1 + y)] (by rfl) (by rfl) (World.news_of_block (t := 3) (fr := (0, 0)) (heap_alloc_new w2 _)) (by simp [Value.oneCell']) (by omega) (by unfold maxLen; omega) (by omega) (by simp; omega) _ (by rfl) ?_; intro gg cap2 wa hown_ hgr_ hat_ hlt2_; have HP := Lib.hid hown_; have HQ := Lib.hid hgr_; clear hown_ hgr_ hat_ hlt2_)
    refine ⟨⟨m + 1, xs ++ [1 + y], by go_num, by omega, by have := HLN.out; simp [this], ?_, by rw [i64s_append]; exact HP.out, ?_, ?_⟩, by simp [intOf]; omega⟩
    · intro q hq
      rcases List.mem_append.1 hq with hq | hq
      · exact HX.out q hq
      · obtain rfl := List.mem_singleton.1 hq; exact ⟨by omega, by omega⟩
    · exact cur_other (cur_kept HCU23_.out (World.grownBy_alloc _ _ none) (by simp)) HQ.out (fun i hi => by have := own_from HO2.out i hi; omega)
    · exact gby_new (gby_alloc HTM24_.out _) HQ.out (fun i hi => by have := own_from HO2.out i hi; (try simp only [World.size_alloc]); omega)

set_option maxHeartbeats 1000000 in
theorem drawArb_any (W : World) (a : Option Addr) (len cap : Nat) (zs : List Int) (hB : Bytes W a len zs) (hl : len ≤ 1048576) : Calls Try.prog 40 #[.slice a len cap] W (DrawnArb none W) := by
  have HB := Lib.hid hB
  clear hB
  go_enter Try.func40, Try.ntmps40
  have HB0 := Lib.hid (bytes_grow HB.out (gby_alloc (gby_refl W none) (.cells #[.slice none 0 0, .int .i64 0, .int .i64 0] 44)))
  have r0 := Lib.hid (heap_alloc_new W (.cells #[.slice none 0 0, .int .i64 0, .int .i64 0] 44))
  have G0 := Lib.hid (gby_alloc (gby_refl W none) (.cells #[.slice none 0 0, .int .i64 0, .int .i64 0] 44))
  go_wp2_with fail
  go_at_call 55
  refine (new_any _ _ _ _ _ HB0.out hl).mono ?_
  rintro e w1 ⟨c, rfl, hc, H1, G1⟩
  simp only [World.size_alloc] at hc
  have HC1 := Lib.hid H1
  have r1 := Lib.hid (row_held G1 r0.out)
  have hs1 := G1.size
  simp only [World.size_alloc] at hs1
  have HG1 := Lib.hid (gby_trans G0.out G1)
  have hcl := cur_lt H1
  clear H1 G1
  go_wp2_with fail
  go_at_call 62
  refine (arb18_any _ c HC1.out).mono ?_
  rintro e w2 ⟨t, l, v, xs, rfl, hok, hx4, o, g⟩
  obtain ⟨va, vn, vc, hv_⟩ := RdL.form (OwU.rd o)
  subst hv_
  have hs2 := g.size
  have r2 := Lib.hid (show w2.heap[W.heap.size]? = some (.cells #[.slice none 0 0, .int .i64 0, .int .i64 0] 44 (0, 0)) from Chg.keep (chg_cur g) r1.out (by omega))
  have HG2 := Lib.hid (gby_own HG1.out g (by omega))
  have HO := Lib.hid o
  have HOK := Lib.hid hok
  have HX4 := Lib.hid hx4
  clear g o hok hx4
  have c0 := cell_of_row _ _ 0 _ _ _ r2.out
  have f0 := frozen_of_row _ _ 0 _ _ r2.out
  have c1 := cell_of_row _ _ 1 _ _ _ r2.out
  have f1 := frozen_of_row _ _ 1 _ _ r2.out
  have c2 := cell_of_row _ _ 2 _ _ _ r2.out
  have f2 := frozen_of_row _ _ 2 _ _ r2.out
  have zr_ := Lib.hid (show ((((w2.setCell ⟨W.heap.size, 0, none⟩ (.slice va vn vc)).setCell ⟨W.heap.size, 1, none⟩ (.int .i64 t)).setCell ⟨W.heap.size, 2, none⟩ (.int .i64 l))).heap[W.heap.size]? = some (.cells #[.slice va vn vc, .int .i64 t, .int .i64 l] 44 (0, 0)) from (heap_setCell_same _ _ 2 _ _ _ (heap_setCell_same _ _ 1 _ _ _ (heap_setCell_same _ _ 0 _ _ _ r2.out))))
  have z0_ : ((((w2.setCell ⟨W.heap.size, 0, none⟩ (.slice va vn vc)).setCell ⟨W.heap.size, 1, none⟩ (.int .i64 t)).setCell ⟨W.heap.size, 2, none⟩ (.int .i64 l))).cell? ⟨W.heap.size, 0, none⟩ = some (.slice va vn vc) := cell_of_row _ _ 0 _ _ _ zr_.out
  have z1_ : ((((w2.setCell ⟨W.heap.size, 0, none⟩ (.slice va vn vc)).setCell ⟨W.heap.size, 1, none⟩ (.int .i64 t)).setCell ⟨W.heap.size, 2, none⟩ (.int .i64 l))).cell? ⟨W.heap.size, 1, none⟩ = some (.int .i64 t) := cell_of_row _ _ 1 _ _ _ zr_.out
  have z2_ : ((((w2.setCell ⟨W.heap.size, 0, none⟩ (.slice va vn vc)).setCell ⟨W.heap.size, 1, none⟩ (.int .i64 t)).setCell ⟨W.heap.size, 2, none⟩ (.int .i64 l))).cell? ⟨W.heap.size, 2, none⟩ = some (.int .i64 l) := cell_of_row _ _ 2 _ _ _ zr_.out
  go_wp2
  refine bodyPost_ret (v := .agg #[.slice va vn vc, .int .i64 t, .int .i64 l]) (by simp [results, go_sem, z0_, z1_, z2_]) rfl ⟨t, l, _, xs, rfl, HOK.out, HX4.out, ?_, ?_⟩
  · exact OwU.wide (by omega) (by simp only [World.size_setCell]; omega) (OwU.keep (chg_one _ _ _ _) (.inr (by omega)) (OwU.keep (chg_one _ _ _ _) (.inr (by omega)) (OwU.keep (chg_one _ _ _ _) (.inr (by omega)) HO.out)))
  · exact (gby_setnew (gby_setnew (gby_setnew HG2.out _ (by dsimp only; omega) _) _ (by dsimp only; omega) _) _ (by dsimp only; omega) _)

end Go.Proofs.Ytgagbhkidponnad
