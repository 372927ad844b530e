/-
  Valid logs drawn by the model; ReportError at a valid log.
-/
import Derived.Test.YtgagbhkidponnadLogMath
import Derived.Test.YtgagbhkidponnadDrawKit
import Derived.Test.YtgagbhkidponnadDrawPlaces
import Derived.Deep.RegionHeld3
import Derived.Deep.AppendLies
import Derived.Deep.RegionLaw
namespace Go.Proofs.Ytgagbhkidponnad
open Go Go.RowKit
set_option linter.unusedVariables false

def repF (s : Nat) (fi : Int) (k : Nat) : Int := if s = 0 then (k : Int) else fi
def repV (ma : Nat) (xs : List Int) (k : Nat) : Int := if bitB ma k = true then -1 else xs.getD k 0

theorem specReport_in (W : World) (s man k : Nat) (fi : Int) (v : Value) (xs : List Int) (H : RdL shI W v xs) (hl : szL shI xs ≤ 1048576) (hb : LOk (s : Int) (man : Int) fi xs) (hk : k ≤ 15) : Calls Try.prog 12 #[vLog (s : Int) (man : Int) fi v, .int .i64 (k : Int)] W (ResIReportError (rpS s k : Nat) (man : Int) (repF s fi k) xs (repV man xs k) W) := by
  have hs : s ≤ 65535 := by have := hb.1; omega
  have hma : man ≤ 65535 := by have := hb.2.1; omega
  rw [← rep_bits hs hk]
  by_cases h0 : s = 0
  · have e0 : ((s : Int) == 0) = true := by rw [h0]; rfl
    have ef : repF s fi k = (k : Int) := if_pos h0
    rw [ef]
    cases hbit : bitB man k with
    | true =>
      rw [show repV man xs k = -1 from if_pos hbit]
      exact specReport_01 W _ man k _ v _ H hl hb hma hk e0 (Lib.hid hbit)
    | false =>
      rw [show repV man xs k = xs.getD k 0 from if_neg (by rw [hbit]; simp)]
      exact specReport_00 W _ man k _ v _ H hl hb hma hk e0 (Lib.hid hbit) _ (Lib.hid rfl)
  · have e0 : ((s : Int) == 0) = false := beq_eq_false_iff_ne.2 (by omega)
    have ef : repF s fi k = fi := if_neg h0
    rw [ef]
    cases hbit : bitB man k with
    | true =>
      rw [show repV man xs k = -1 from if_pos hbit]
      exact specReport_11 W _ man k _ v _ H hl hb hma hk e0 (Lib.hid hbit)
    | false =>
      rw [show repV man xs k = xs.getD k 0 from if_neg (by rw [hbit]; simp)]
      exact specReport_10 W _ man k _ v _ H hl hb hma hk e0 (Lib.hid hbit) _ (Lib.hid rfl)

theorem implReport_in (W : World) (s man k : Nat) (fi : Int) (v : Value) (xs : List Int) (H : RdL shI W v xs) (hl : szL shI xs ≤ 1048576) (hb : LOk (s : Int) (man : Int) fi xs) (hk : k ≤ 15) : Calls Try.prog 14 #[vLog (s : Int) (man : Int) fi v, .int .i64 (k : Int)] W (ResIReportError (rpS s k : Nat) (man : Int) (repF s fi k) xs (repV man xs k) W) := by
  have hs : s ≤ 65535 := by have := hb.1; omega
  have hma : man ≤ 65535 := by have := hb.2.1; omega
  rw [← rep_bits hs hk]
  by_cases h0 : s = 0
  · have e0 : ((s : Int) == 0) = true := by rw [h0]; rfl
    have ef : repF s fi k = (k : Int) := if_pos h0
    rw [ef]
    cases hbit : bitB man k with
    | true =>
      rw [show repV man xs k = -1 from if_pos hbit]
      exact implReport_01 W _ man k _ v _ H hl hb hma hk e0 (Lib.hid hbit)
    | false =>
      rw [show repV man xs k = xs.getD k 0 from if_neg (by rw [hbit]; simp)]
      exact implReport_00 W _ man k _ v _ H hl hb hma hk e0 (Lib.hid hbit) _ (Lib.hid rfl)
  · have e0 : ((s : Int) == 0) = false := beq_eq_false_iff_ne.2 (by omega)
    have ef : repF s fi k = fi := if_neg h0
    rw [ef]
    cases hbit : bitB man k with
    | true =>
      rw [show repV man xs k = -1 from if_pos hbit]
      exact implReport_11 W _ man k _ v _ H hl hb hma hk e0 (Lib.hid hbit)
    | false =>
      rw [show repV man xs k = xs.getD k 0 from if_neg (by rw [hbit]; simp)]
      exact implReport_10 W _ man k _ v _ H hl hb hma hk e0 (Lib.hid hbit) _ (Lib.hid rfl)

theorem rep_log {s man k : Nat} {fi : Int} {xs : List Int} (hb : LOk (s : Int) (man : Int) fi xs) (hk : k ≤ 15) : LOk (rpS s k : Nat) (man : Int) (repF s fi k) xs := by
  refine report_ok hb hk _ ?_
  unfold repF
  split
  · next q => exact .inl ⟨q, rfl⟩
  · next q => exact .inr ⟨q, rfl⟩

/-- a drawn valid log -/
def DrawnLog (c : Nat) (W : World) (e : Ending) (w' : World) : Prop := ∃ (s man : Nat) (fi : Int) (v : Value) (xs : List Int), e = .returned (vLog (s : Int) (man : Int) fi v) ∧ LOk (s : Int) (man : Int) fi xs ∧ OwU w' W.heap.size w'.heap.size [] [own shI v xs] ∧ W.grownBy w' (some c)

set_option maxRecDepth 8000 in
set_option maxHeartbeats 4000000 in
theorem log32_any (W : World) (c : Nat) (H : Cur W c) : Calls Try.prog 54 #[.pointer (some ⟨c, 0, none⟩)] W (DrawnLog c W) := by
  have hcl_ := cur_lt H
  have HCU := Lib.hid H
  clear H
  obtain ⟨i1_, hi1_, hz0_, hz1_, hz2_⟩ := info_parts infoInt
  go_enter Try.func54, Try.ntmps54
  have rR1_ := Lib.hid (show ((W.alloc (.cells #[.int .i64 0, .int .i64 0, .int .i64 0, .slice none 0 0] 26))).heap[W.heap.size]? = some (.cells #[.int .i64 0, .int .i64 0, .int .i64 0, .slice none 0 0] 26 (0, 0)) from by exact heap_alloc_new _ _)
  have G2_ := Lib.hid (show (W).grownBy ((W.alloc (.cells #[.int .i64 0, .int .i64 0, .int .i64 0, .slice none 0 0] 26))) (some c) from (gby_alloc (gby_refl _ _) _))
  have HCU3_ := Lib.hid (show Cur ((W.alloc (.cells #[.int .i64 0, .int .i64 0, .int .i64 0, .slice none 0 0] 26))) c from cur_kept HCU.out (gby_alloc (gby_refl _ none) _) (by simp))
  have R_0_ : ((W.alloc (.cells #[.int .i64 0, .int .i64 0, .int .i64 0, .slice none 0 0] 26))).cell? ⟨W.heap.size, 0, none⟩ = some (.int .i64 0) := cell_of_row _ _ 0 _ _ _ rR1_.out
  have R_1_ : ((W.alloc (.cells #[.int .i64 0, .int .i64 0, .int .i64 0, .slice none 0 0] 26))).cell? ⟨W.heap.size, 1, none⟩ = some (.int .i64 0) := cell_of_row _ _ 1 _ _ _ rR1_.out
  have R_2_ : ((W.alloc (.cells #[.int .i64 0, .int .i64 0, .int .i64 0, .slice none 0 0] 26))).cell? ⟨W.heap.size, 2, none⟩ = some (.int .i64 0) := cell_of_row _ _ 2 _ _ _ rR1_.out
  have R_3_ : ((W.alloc (.cells #[.int .i64 0, .int .i64 0, .int .i64 0, .slice none 0 0] 26))).cell? ⟨W.heap.size, 3, none⟩ = some (.slice none 0 0) := cell_of_row _ _ 3 _ _ _ rR1_.out
  clear R_0_ R_1_ R_2_ R_3_
  have al_ : ((W.alloc (.cells #[.int .i64 0, .int .i64 0, .int .i64 0, .slice none 0 0] 26))).grownBy (((W.alloc (.cells #[.int .i64 0, .int .i64 0, .int .i64 0, .slice none 0 0] 26))).alloc (.cells #[.int .i64 0, .int .i64 1, .int .i64 4369, .int .i64 65535] 3)) none := gby_alloc (gby_refl _ _) _
  have rR4_ := Lib.hid (show (((W.alloc (.cells #[.int .i64 0, .int .i64 0, .int .i64 0, .slice none 0 0] 26)).alloc (.cells #[.int .i64 0, .int .i64 1, .int .i64 4369, .int .i64 65535] 3))).heap[W.heap.size]? = some (.cells #[.int .i64 0, .int .i64 0, .int .i64 0, .slice none 0 0] 26 (0, 0)) from row_held al_ rR1_.out)
  clear rR1_
  have G5_ := Lib.hid (show (W).grownBy (((W.alloc (.cells #[.int .i64 0, .int .i64 0, .int .i64 0, .slice none 0 0] 26)).alloc (.cells #[.int .i64 0, .int .i64 1, .int .i64 4369, .int .i64 65535] 3))) (some c) from gby_trans G2_.out (gby_some al_ _))
  have HCU6_ := Lib.hid (show Cur (((W.alloc (.cells #[.int .i64 0, .int .i64 0, .int .i64 0, .slice none 0 0] 26)).alloc (.cells #[.int .i64 0, .int .i64 1, .int .i64 4369, .int .i64 65535] 3))) c from cur_kept HCU3_.out al_ (by simp))
  have rL7_ := Lib.hid (show (((W.alloc (.cells #[.int .i64 0, .int .i64 0, .int .i64 0, .slice none 0 0] 26)).alloc (.cells #[.int .i64 0, .int .i64 1, .int .i64 4369, .int .i64 65535] 3))).heap[W.heap.size + 1]? = some (.cells #[.int .i64 0, .int .i64 1, .int .i64 4369, .int .i64 65535] 3 (0, 0)) from by first | exact heap_alloc_new _ _ | exact heap_pair _ _ _ | exact heap_trip _ _ _ _)
  clear al_
  have R_0_ : (((W.alloc (.cells #[.int .i64 0, .int .i64 0, .int .i64 0, .slice none 0 0] 26)).alloc (.cells #[.int .i64 0, .int .i64 1, .int .i64 4369, .int .i64 65535] 3))).cell? ⟨W.heap.size, 0, none⟩ = some (.int .i64 0) := cell_of_row _ _ 0 _ _ _ rR4_.out
  have R_1_ : (((W.alloc (.cells #[.int .i64 0, .int .i64 0, .int .i64 0, .slice none 0 0] 26)).alloc (.cells #[.int .i64 0, .int .i64 1, .int .i64 4369, .int .i64 65535] 3))).cell? ⟨W.heap.size, 1, none⟩ = some (.int .i64 0) := cell_of_row _ _ 1 _ _ _ rR4_.out
  have R_2_ : (((W.alloc (.cells #[.int .i64 0, .int .i64 0, .int .i64 0, .slice none 0 0] 26)).alloc (.cells #[.int .i64 0, .int .i64 1, .int .i64 4369, .int .i64 65535] 3))).cell? ⟨W.heap.size, 2, none⟩ = some (.int .i64 0) := cell_of_row _ _ 2 _ _ _ rR4_.out
  have R_3_ : (((W.alloc (.cells #[.int .i64 0, .int .i64 0, .int .i64 0, .slice none 0 0] 26)).alloc (.cells #[.int .i64 0, .int .i64 1, .int .i64 4369, .int .i64 65535] 3))).cell? ⟨W.heap.size, 3, none⟩ = some (.slice none 0 0) := cell_of_row _ _ 3 _ _ _ rR4_.out
  have L_0_ : (((W.alloc (.cells #[.int .i64 0, .int .i64 0, .int .i64 0, .slice none 0 0] 26)).alloc (.cells #[.int .i64 0, .int .i64 1, .int .i64 4369, .int .i64 65535] 3))).cell? ⟨W.heap.size + 1, 0, none⟩ = some (.int .i64 0) := cell_of_row _ _ 0 _ _ _ rL7_.out
  have L_1_ : (((W.alloc (.cells #[.int .i64 0, .int .i64 0, .int .i64 0, .slice none 0 0] 26)).alloc (.cells #[.int .i64 0, .int .i64 1, .int .i64 4369, .int .i64 65535] 3))).cell? ⟨W.heap.size + 1, 1, none⟩ = some (.int .i64 1) := cell_of_row _ _ 1 _ _ _ rL7_.out
  have L_2_ : (((W.alloc (.cells #[.int .i64 0, .int .i64 0, .int .i64 0, .slice none 0 0] 26)).alloc (.cells #[.int .i64 0, .int .i64 1, .int .i64 4369, .int .i64 65535] 3))).cell? ⟨W.heap.size + 1, 2, none⟩ = some (.int .i64 4369) := cell_of_row _ _ 2 _ _ _ rL7_.out
  have L_3_ : (((W.alloc (.cells #[.int .i64 0, .int .i64 0, .int .i64 0, .slice none 0 0] 26)).alloc (.cells #[.int .i64 0, .int .i64 1, .int .i64 4369, .int .i64 65535] 3))).cell? ⟨W.heap.size + 1, 3, none⟩ = some (.int .i64 65535) := cell_of_row _ _ 3 _ _ _ rL7_.out
  go_wp2_with fail
  go_at_call 65
  refine (pickInt_any _ c (W.heap.size + 1) 4 4 (fun n => 0 ≤ n ∧ n ≤ 65535) HCU6_.out (by omega) (by omega) (by omega) (fun k hk => by match k, hk with | 0, _ => exact ⟨0, L_0_, by omega⟩ | 1, _ => exact ⟨1, L_1_, by omega⟩ | 2, _ => exact ⟨4369, L_2_, by omega⟩ | 3, _ => exact ⟨65535, L_3_, by omega⟩)).mono ?_
  rintro e w1 ⟨m_, ⟨m1, m2⟩, rfl, H1_, g⟩
  have szw1 := g.size
  try simp only [World.size_alloc] at szw1
  try simp only [World.size_setCell] at szw1
  clear R_0_ R_1_ R_2_ R_3_ L_0_ L_1_ L_2_ L_3_
  have rR8_ := Lib.hid (show (w1).heap[W.heap.size]? = some (.cells #[.int .i64 0, .int .i64 0, .int .i64 0, .slice none 0 0] 26 (0, 0)) from Chg.keep (chg_cur g) rR4_.out (by omega))
  clear rR4_
  have rL9_ := Lib.hid (show (w1).heap[W.heap.size + 1]? = some (.cells #[.int .i64 0, .int .i64 1, .int .i64 4369, .int .i64 65535] 3 (0, 0)) from Chg.keep (chg_cur g) rL7_.out (by omega))
  clear rL7_
  have G10_ := Lib.hid (show (W).grownBy (w1) (some c) from gby_trans G5_.out g)
  clear HCU6_
  have HCU11_ := Lib.hid (show Cur (w1) c from H1_)
  clear g H1_
  have R_0_ : (w1).cell? ⟨W.heap.size, 0, none⟩ = some (.int .i64 0) := cell_of_row _ _ 0 _ _ _ rR8_.out
  have R_1_ : (w1).cell? ⟨W.heap.size, 1, none⟩ = some (.int .i64 0) := cell_of_row _ _ 1 _ _ _ rR8_.out
  have R_2_ : (w1).cell? ⟨W.heap.size, 2, none⟩ = some (.int .i64 0) := cell_of_row _ _ 2 _ _ _ rR8_.out
  have R_3_ : (w1).cell? ⟨W.heap.size, 3, none⟩ = some (.slice none 0 0) := cell_of_row _ _ 3 _ _ _ rR8_.out
  have L_0_ : (w1).cell? ⟨W.heap.size + 1, 0, none⟩ = some (.int .i64 0) := cell_of_row _ _ 0 _ _ _ rL9_.out
  have L_1_ : (w1).cell? ⟨W.heap.size + 1, 1, none⟩ = some (.int .i64 1) := cell_of_row _ _ 1 _ _ _ rL9_.out
  have L_2_ : (w1).cell? ⟨W.heap.size + 1, 2, none⟩ = some (.int .i64 4369) := cell_of_row _ _ 2 _ _ _ rL9_.out
  have L_3_ : (w1).cell? ⟨W.heap.size + 1, 3, none⟩ = some (.int .i64 65535) := cell_of_row _ _ 3 _ _ _ rL9_.out
  obtain ⟨man, hm_⟩ : ∃ n : Nat, m_ = (n : Int) := ⟨m_.toNat, by omega⟩
  subst hm_
  have HTM12_ := Lib.hid (gby_refl (w1) (some c))
  have MG13_ := Lib.hid (show (W).grownBy (w1) (some c) from G10_.out)
  have MR14_ := Lib.hid rR8_.out
  have MR15_ := Lib.hid rL9_.out
  clear R_0_ R_1_ R_2_ R_3_ L_0_ L_1_ L_2_ L_3_
  have al_ : (w1).grownBy ((w1).alloc (.cells #[.int .i64 0, .int .i64 (man : Int), .int .i64 (-1), .slice none 0 0] 26)) none := gby_alloc (gby_refl _ _) _
  have rR16_ := Lib.hid (show ((w1.alloc (.cells #[.int .i64 0, .int .i64 (man : Int), .int .i64 (-1), .slice none 0 0] 26))).heap[W.heap.size]? = some (.cells #[.int .i64 0, .int .i64 0, .int .i64 0, .slice none 0 0] 26 (0, 0)) from row_held al_ rR8_.out)
  clear rR8_
  have rL17_ := Lib.hid (show ((w1.alloc (.cells #[.int .i64 0, .int .i64 (man : Int), .int .i64 (-1), .slice none 0 0] 26))).heap[W.heap.size + 1]? = some (.cells #[.int .i64 0, .int .i64 1, .int .i64 4369, .int .i64 65535] 3 (0, 0)) from row_held al_ rL9_.out)
  clear rL9_
  have G18_ := Lib.hid (show (W).grownBy ((w1.alloc (.cells #[.int .i64 0, .int .i64 (man : Int), .int .i64 (-1), .slice none 0 0] 26))) (some c) from gby_trans G10_.out (gby_some al_ _))
  have HCU19_ := Lib.hid (show Cur ((w1.alloc (.cells #[.int .i64 0, .int .i64 (man : Int), .int .i64 (-1), .slice none 0 0] 26))) c from cur_kept HCU11_.out al_ (by simp))
  have HTM20_ := Lib.hid (show (w1).grownBy ((w1.alloc (.cells #[.int .i64 0, .int .i64 (man : Int), .int .i64 (-1), .slice none 0 0] 26))) (some c) from gby_trans HTM12_.out (gby_some al_ _))
  clear HTM12_
  have rB21_ := Lib.hid (show ((w1.alloc (.cells #[.int .i64 0, .int .i64 (man : Int), .int .i64 (-1), .slice none 0 0] 26))).heap[w1.heap.size]? = some (.cells #[.int .i64 0, .int .i64 (man : Int), .int .i64 (-1), .slice none 0 0] 26 (0, 0)) from by first | exact heap_alloc_new _ _ | exact heap_pair _ _ _ | exact heap_trip _ _ _ _)
  clear al_
  have R_0_ : ((w1.alloc (.cells #[.int .i64 0, .int .i64 (man : Int), .int .i64 (-1), .slice none 0 0] 26))).cell? ⟨W.heap.size, 0, none⟩ = some (.int .i64 0) := cell_of_row _ _ 0 _ _ _ rR16_.out
  have R_1_ : ((w1.alloc (.cells #[.int .i64 0, .int .i64 (man : Int), .int .i64 (-1), .slice none 0 0] 26))).cell? ⟨W.heap.size, 1, none⟩ = some (.int .i64 0) := cell_of_row _ _ 1 _ _ _ rR16_.out
  have R_2_ : ((w1.alloc (.cells #[.int .i64 0, .int .i64 (man : Int), .int .i64 (-1), .slice none 0 0] 26))).cell? ⟨W.heap.size, 2, none⟩ = some (.int .i64 0) := cell_of_row _ _ 2 _ _ _ rR16_.out
  have R_3_ : ((w1.alloc (.cells #[.int .i64 0, .int .i64 (man : Int), .int .i64 (-1), .slice none 0 0] 26))).cell? ⟨W.heap.size, 3, none⟩ = some (.slice none 0 0) := cell_of_row _ _ 3 _ _ _ rR16_.out
  have L_0_ : ((w1.alloc (.cells #[.int .i64 0, .int .i64 (man : Int), .int .i64 (-1), .slice none 0 0] 26))).cell? ⟨W.heap.size + 1, 0, none⟩ = some (.int .i64 0) := cell_of_row _ _ 0 _ _ _ rL17_.out
  have L_1_ : ((w1.alloc (.cells #[.int .i64 0, .int .i64 (man : Int), .int .i64 (-1), .slice none 0 0] 26))).cell? ⟨W.heap.size + 1, 1, none⟩ = some (.int .i64 1) := cell_of_row _ _ 1 _ _ _ rL17_.out
  have L_2_ : ((w1.alloc (.cells #[.int .i64 0, .int .i64 (man : Int), .int .i64 (-1), .slice none 0 0] 26))).cell? ⟨W.heap.size + 1, 2, none⟩ = some (.int .i64 4369) := cell_of_row _ _ 2 _ _ _ rL17_.out
  have L_3_ : ((w1.alloc (.cells #[.int .i64 0, .int .i64 (man : Int), .int .i64 (-1), .slice none 0 0] 26))).cell? ⟨W.heap.size + 1, 3, none⟩ = some (.int .i64 65535) := cell_of_row _ _ 3 _ _ _ rL17_.out
  have B_0_ : ((w1.alloc (.cells #[.int .i64 0, .int .i64 (man : Int), .int .i64 (-1), .slice none 0 0] 26))).cell? ⟨w1.heap.size, 0, none⟩ = some (.int .i64 0) := cell_of_row _ _ 0 _ _ _ rB21_.out
  have B_1_ : ((w1.alloc (.cells #[.int .i64 0, .int .i64 (man : Int), .int .i64 (-1), .slice none 0 0] 26))).cell? ⟨w1.heap.size, 1, none⟩ = some (.int .i64 (man : Int)) := cell_of_row _ _ 1 _ _ _ rB21_.out
  have B_2_ : ((w1.alloc (.cells #[.int .i64 0, .int .i64 (man : Int), .int .i64 (-1), .slice none 0 0] 26))).cell? ⟨w1.heap.size, 2, none⟩ = some (.int .i64 (-1)) := cell_of_row _ _ 2 _ _ _ rB21_.out
  have B_3_ : ((w1.alloc (.cells #[.int .i64 0, .int .i64 (man : Int), .int .i64 (-1), .slice none 0 0] 26))).cell? ⟨w1.heap.size, 3, none⟩ = some (.slice none 0 0) := cell_of_row _ _ 3 _ _ _ rB21_.out
  have HB0 := Lib.hid (show ((w1.alloc (.cells #[.int .i64 0, .int .i64 (man : Int), .int .i64 (-1), .slice none 0 0] 26))).heap[w1.heap.size]? = some (.cells #[.int .i64 0, .int .i64 (man : Int), .int .i64 (-1), .slice none 0 0] 26 (0, 0)) from rB21_.out)
  go_wp2
  go_loopw [4] (fun k wr => ∃ (n : Nat) (xs : List Int) (sv : Value), k = .int .i64 (n : Int) ∧ n ≤ 16 ∧ xs.length = n ∧ (∀ x ∈ xs, 0 ≤ x ∧ x ≤ 2) ∧ wr.heap[w1.heap.size]? = some (.cells #[.int .i64 0, .int .i64 (man : Int), .int .i64 (-1), sv] 26 (0, 0)) ∧ wr.ownsRow (w1.heap.size + 1) 3 1 sv n (i64s xs) ∧ Cur wr c ∧ (w1).grownBy wr (some c)) (fun k _ => 16 - (intOf k).toNat)
  case atStart => exact ⟨0, [], _, rfl, by omega, rfl, (by intro x hx; cases hx), HB0.out, ⟨rfl, .inl ⟨rfl, rfl⟩⟩, HCU19_.out, HTM20_.out⟩
  case round =>
    clear R_0_ R_1_ R_2_ R_3_ L_0_ L_1_ L_2_ L_3_ B_0_ B_1_ B_2_ B_3_
    clear rR16_
    clear rL17_
    clear rB21_
    clear HTM20_
    clear HCU19_
    obtain ⟨n, xs, sv, rfl, hn, hlen, hxs, hbx, hown, hcu, hg⟩ := hrel
    have szr_ := hg.size
    try simp only [World.size_alloc, World.size_setCell] at szr_
    have G22_ := Lib.hid (show (W).grownBy (wr) (some c) from gby_trans MG13_.out hg)
    have rR23_ := Lib.hid (show (wr).heap[W.heap.size]? = some (.cells #[.int .i64 0, .int .i64 0, .int .i64 0, .slice none 0 0] 26 (0, 0)) from Chg.keep (chg_cur hg) MR14_.out (by omega))
    have rL24_ := Lib.hid (show (wr).heap[W.heap.size + 1]? = some (.cells #[.int .i64 0, .int .i64 1, .int .i64 4369, .int .i64 65535] 3 (0, 0)) from Chg.keep (chg_cur hg) MR15_.out (by omega))
    have HCU25_ := Lib.hid (show Cur (wr) c from hcu)
    have HTM26_ := Lib.hid hg
    clear hg hcu
    have R_0_ : (wr).cell? ⟨W.heap.size, 0, none⟩ = some (.int .i64 0) := cell_of_row _ _ 0 _ _ _ rR23_.out
    have R_1_ : (wr).cell? ⟨W.heap.size, 1, none⟩ = some (.int .i64 0) := cell_of_row _ _ 1 _ _ _ rR23_.out
    have R_2_ : (wr).cell? ⟨W.heap.size, 2, none⟩ = some (.int .i64 0) := cell_of_row _ _ 2 _ _ _ rR23_.out
    have R_3_ : (wr).cell? ⟨W.heap.size, 3, none⟩ = some (.slice none 0 0) := cell_of_row _ _ 3 _ _ _ rR23_.out
    have L_0_ : (wr).cell? ⟨W.heap.size + 1, 0, none⟩ = some (.int .i64 0) := cell_of_row _ _ 0 _ _ _ rL24_.out
    have L_1_ : (wr).cell? ⟨W.heap.size + 1, 1, none⟩ = some (.int .i64 1) := cell_of_row _ _ 1 _ _ _ rL24_.out
    have L_2_ : (wr).cell? ⟨W.heap.size + 1, 2, none⟩ = some (.int .i64 4369) := cell_of_row _ _ 2 _ _ _ rL24_.out
    have L_3_ : (wr).cell? ⟨W.heap.size + 1, 3, none⟩ = some (.int .i64 65535) := cell_of_row _ _ 3 _ _ _ rL24_.out
    have HX := Lib.hid hxs
    have HLN := Lib.hid hlen
    have HO := Lib.hid hown
    clear hxs hlen hown
    have hn0 : (0 : Int) ≤ (n : Int) := by omega
    have htn : ((n : Int)).toNat = n := by omega
    have rB27_ := Lib.hid (show (wr).heap[w1.heap.size]? = some (.cells #[.int .i64 0, .int .i64 (man : Int), .int .i64 (-1), sv] 26 (0, 0)) from hbx)
    clear hbx
    have hwr : w1.heap.size < wr.heap.size := lt_of_block (rB27_.out)
    by_cases hlt : n < 16
    rotate_left
    · obtain rfl : n = 16 := by omega
      have hki : ¬ ((16 : Nat) : Int) < 16 := by omega
      have HLG := Lib.hid (show LOk ((0 : Nat) : Int) (man : Int) (-1) xs from ⟨⟨by omega, by omega⟩, ⟨by omega, by omega⟩, HLN.out, (fun k hk => by rw [List.getD_eq_getElem?_getD, List.getElem?_eq_getElem (by have := HLN.out; omega)]; exact HX.out _ (List.getElem_mem _)), (fun _ => rfl), (fun q => absurd rfl q)⟩)
      have HV := Lib.hid (show OwL shI wr (w1.heap.size + 1) wr.heap.size sv xs from owI_out (by have := HLN.out; omega) (owI_row (by have q := HO.out; rw [← HLN.out] at q; exact q)))
      have HBR := Lib.hid (rB27_.out)
      have HCR := Lib.hid HCU25_.out
      go_wp2
      go_loopw [5] (fun k wr => ∃ (n : Nat) (s : Nat) (fi : Int) (vv : Value), k = .int .i64 (n : Int) ∧ n ≤ 5 ∧ LOk (s : Int) (man : Int) fi xs ∧ wr.heap[w1.heap.size]? = some (.cells #[.int .i64 (s : Int), .int .i64 (man : Int), .int .i64 fi, vv] 26 (0, 0)) ∧ OwL shI wr (w1.heap.size + 1) wr.heap.size vv xs ∧ Cur wr c ∧ (w1).grownBy wr (some c)) (fun k _ => 5 - (intOf k).toNat)
      case atStart => exact ⟨0, 0, _, _, rfl, by omega, HLG.out, HBR.out, HV.out, HCU25_.out, HTM26_.out⟩
      case round =>
        clear R_0_ R_1_ R_2_ R_3_ L_0_ L_1_ L_2_ L_3_
        clear rR23_
        clear rL24_
        clear rB27_
        clear HTM26_
        clear HCU25_
        obtain ⟨n, s, fi, vv, rfl, hn, hlg, hbx, hvv, hcu, hg⟩ := hrel
        have szr_ := hg.size
        try simp only [World.size_alloc, World.size_setCell] at szr_
        have G28_ := Lib.hid (show (W).grownBy (wr) (some c) from gby_trans MG13_.out hg)
        have rR29_ := Lib.hid (show (wr).heap[W.heap.size]? = some (.cells #[.int .i64 0, .int .i64 0, .int .i64 0, .slice none 0 0] 26 (0, 0)) from Chg.keep (chg_cur hg) MR14_.out (by omega))
        have rL30_ := Lib.hid (show (wr).heap[W.heap.size + 1]? = some (.cells #[.int .i64 0, .int .i64 1, .int .i64 4369, .int .i64 65535] 3 (0, 0)) from Chg.keep (chg_cur hg) MR15_.out (by omega))
        have HCU31_ := Lib.hid (show Cur (wr) c from hcu)
        have HTM32_ := Lib.hid hg
        clear hg hcu
        have R_0_ : (wr).cell? ⟨W.heap.size, 0, none⟩ = some (.int .i64 0) := cell_of_row _ _ 0 _ _ _ rR29_.out
        have R_1_ : (wr).cell? ⟨W.heap.size, 1, none⟩ = some (.int .i64 0) := cell_of_row _ _ 1 _ _ _ rR29_.out
        have R_2_ : (wr).cell? ⟨W.heap.size, 2, none⟩ = some (.int .i64 0) := cell_of_row _ _ 2 _ _ _ rR29_.out
        have R_3_ : (wr).cell? ⟨W.heap.size, 3, none⟩ = some (.slice none 0 0) := cell_of_row _ _ 3 _ _ _ rR29_.out
        have L_0_ : (wr).cell? ⟨W.heap.size + 1, 0, none⟩ = some (.int .i64 0) := cell_of_row _ _ 0 _ _ _ rL30_.out
        have L_1_ : (wr).cell? ⟨W.heap.size + 1, 1, none⟩ = some (.int .i64 1) := cell_of_row _ _ 1 _ _ _ rL30_.out
        have L_2_ : (wr).cell? ⟨W.heap.size + 1, 2, none⟩ = some (.int .i64 4369) := cell_of_row _ _ 2 _ _ _ rL30_.out
        have L_3_ : (wr).cell? ⟨W.heap.size + 1, 3, none⟩ = some (.int .i64 65535) := cell_of_row _ _ 3 _ _ _ rL30_.out
        have HLG2 := Lib.hid hlg
        obtain ⟨va, vn, vc, hv_⟩ := RdL.form hvv.rd
        subst hv_
        have HVV := Lib.hid hvv
        clear hlg hvv
        have hn0 : (0 : Int) ≤ (n : Int) := by omega
        have htn : ((n : Int)).toNat = n := by omega
        have rB33_ := Lib.hid (show (wr).heap[w1.heap.size]? = some (.cells #[.int .i64 (s : Int), .int .i64 (man : Int), .int .i64 fi, .slice va vn vc] 26 (0, 0)) from hbx)
        clear hbx
        have hwr2 : w1.heap.size < wr.heap.size := lt_of_block (rB33_.out)
        have oV34_ := Lib.hid (show OwU (wr) ((w1.heap.size + 1)) (wr.heap.size) [] [own shI (.slice va vn vc) xs] from OwU.one HVV.out)
        clear HVV
        go_wp2_with fail
        go_at_call 56
        refine (below_any _ _ _ HCU31_.out (by omega) (by omega)).mono ?_
        rintro e w2 ⟨x, ⟨x1, x2⟩, rfl, H1_, g⟩
        have szw2 := g.size
        try simp only [World.size_alloc] at szw2
        try simp only [World.size_setCell] at szw2
        clear R_0_ R_1_ R_2_ R_3_ L_0_ L_1_ L_2_ L_3_
        have rR35_ := Lib.hid (show (w2).heap[W.heap.size]? = some (.cells #[.int .i64 0, .int .i64 0, .int .i64 0, .slice none 0 0] 26 (0, 0)) from Chg.keep (chg_cur g) rR29_.out (by omega))
        clear rR29_
        have rL36_ := Lib.hid (show (w2).heap[W.heap.size + 1]? = some (.cells #[.int .i64 0, .int .i64 1, .int .i64 4369, .int .i64 65535] 3 (0, 0)) from Chg.keep (chg_cur g) rL30_.out (by omega))
        clear rL30_
        have rB37_ := Lib.hid (show (w2).heap[w1.heap.size]? = some (.cells #[.int .i64 (s : Int), .int .i64 (man : Int), .int .i64 fi, .slice va vn vc] 26 (0, 0)) from Chg.keep (chg_cur g) rB33_.out (by omega))
        clear rB33_
        have oV38_ := Lib.hid (show OwU (w2) ((w1.heap.size + 1)) (wr.heap.size) [] [own shI (.slice va vn vc) xs] from OwU.keep (chg_cur g) (by omega) oV34_.out)
        clear oV34_
        have G39_ := Lib.hid (show (W).grownBy (w2) (some c) from gby_trans G28_.out g)
        clear HCU31_
        have HCU40_ := Lib.hid (show Cur (w2) c from H1_)
        have HTM41_ := Lib.hid (show (w1).grownBy (w2) (some c) from gby_trans HTM32_.out g)
        clear HTM32_
        clear g H1_
        have R_0_ : (w2).cell? ⟨W.heap.size, 0, none⟩ = some (.int .i64 0) := cell_of_row _ _ 0 _ _ _ rR35_.out
        have R_1_ : (w2).cell? ⟨W.heap.size, 1, none⟩ = some (.int .i64 0) := cell_of_row _ _ 1 _ _ _ rR35_.out
        have R_2_ : (w2).cell? ⟨W.heap.size, 2, none⟩ = some (.int .i64 0) := cell_of_row _ _ 2 _ _ _ rR35_.out
        have R_3_ : (w2).cell? ⟨W.heap.size, 3, none⟩ = some (.slice none 0 0) := cell_of_row _ _ 3 _ _ _ rR35_.out
        have L_0_ : (w2).cell? ⟨W.heap.size + 1, 0, none⟩ = some (.int .i64 0) := cell_of_row _ _ 0 _ _ _ rL36_.out
        have L_1_ : (w2).cell? ⟨W.heap.size + 1, 1, none⟩ = some (.int .i64 1) := cell_of_row _ _ 1 _ _ _ rL36_.out
        have L_2_ : (w2).cell? ⟨W.heap.size + 1, 2, none⟩ = some (.int .i64 4369) := cell_of_row _ _ 2 _ _ _ rL36_.out
        have L_3_ : (w2).cell? ⟨W.heap.size + 1, 3, none⟩ = some (.int .i64 65535) := cell_of_row _ _ 3 _ _ _ rL36_.out
        have B_0_ : (w2).cell? ⟨w1.heap.size, 0, none⟩ = some (.int .i64 (s : Int)) := cell_of_row _ _ 0 _ _ _ rB37_.out
        have B_1_ : (w2).cell? ⟨w1.heap.size, 1, none⟩ = some (.int .i64 (man : Int)) := cell_of_row _ _ 1 _ _ _ rB37_.out
        have B_2_ : (w2).cell? ⟨w1.heap.size, 2, none⟩ = some (.int .i64 fi) := cell_of_row _ _ 2 _ _ _ rB37_.out
        have B_3_ : (w2).cell? ⟨w1.heap.size, 3, none⟩ = some (.slice va vn vc) := cell_of_row _ _ 3 _ _ _ rB37_.out
        by_cases hlt : (n : Int) < x
        rotate_left
        · skip
          clear R_0_ R_1_ R_2_ R_3_ L_0_ L_1_ L_2_ L_3_ B_0_ B_1_ B_2_ B_3_
          have R_0_ : (w2).cell? ⟨W.heap.size, 0, none⟩ = some (.int .i64 0) := cell_of_row _ _ 0 _ _ _ rR35_.out
          have R_1_ : (w2).cell? ⟨W.heap.size, 1, none⟩ = some (.int .i64 0) := cell_of_row _ _ 1 _ _ _ rR35_.out
          have R_2_ : (w2).cell? ⟨W.heap.size, 2, none⟩ = some (.int .i64 0) := cell_of_row _ _ 2 _ _ _ rR35_.out
          have R_3_ : (w2).cell? ⟨W.heap.size, 3, none⟩ = some (.slice none 0 0) := cell_of_row _ _ 3 _ _ _ rR35_.out
          have L_0_ : (w2).cell? ⟨W.heap.size + 1, 0, none⟩ = some (.int .i64 0) := cell_of_row _ _ 0 _ _ _ rL36_.out
          have L_1_ : (w2).cell? ⟨W.heap.size + 1, 1, none⟩ = some (.int .i64 1) := cell_of_row _ _ 1 _ _ _ rL36_.out
          have L_2_ : (w2).cell? ⟨W.heap.size + 1, 2, none⟩ = some (.int .i64 4369) := cell_of_row _ _ 2 _ _ _ rL36_.out
          have L_3_ : (w2).cell? ⟨W.heap.size + 1, 3, none⟩ = some (.int .i64 65535) := cell_of_row _ _ 3 _ _ _ rL36_.out
          have B_0_ : (w2).cell? ⟨w1.heap.size, 0, none⟩ = some (.int .i64 (s : Int)) := cell_of_row _ _ 0 _ _ _ rB37_.out
          have B_1_ : (w2).cell? ⟨w1.heap.size, 1, none⟩ = some (.int .i64 (man : Int)) := cell_of_row _ _ 1 _ _ _ rB37_.out
          have B_2_ : (w2).cell? ⟨w1.heap.size, 2, none⟩ = some (.int .i64 fi) := cell_of_row _ _ 2 _ _ _ rB37_.out
          have B_3_ : (w2).cell? ⟨w1.heap.size, 3, none⟩ = some (.slice va vn vc) := cell_of_row _ _ 3 _ _ _ rB37_.out
          have FR0 := frozen_of_row _ _ 0 _ _ rR35_.out
          have FR1 := frozen_of_row _ _ 1 _ _ rR35_.out
          have FR2 := frozen_of_row _ _ 2 _ _ rR35_.out
          have FR3 := frozen_of_row _ _ 3 _ _ rR35_.out
          have zr_ := Lib.hid (show (((((w2.setCell ⟨W.heap.size, 0, none⟩ (.int .i64 (s : Int))).setCell ⟨W.heap.size, 1, none⟩ (.int .i64 (man : Int))).setCell ⟨W.heap.size, 2, none⟩ (.int .i64 fi)).setCell ⟨W.heap.size, 3, none⟩ (.slice va vn vc))).heap[W.heap.size]? = some (.cells #[.int .i64 (s : Int), .int .i64 (man : Int), .int .i64 fi, .slice va vn vc] 26 (0, 0)) from (heap_setCell_same _ _ 3 _ _ _ (heap_setCell_same _ _ 2 _ _ _ (heap_setCell_same _ _ 1 _ _ _ (heap_setCell_same _ _ 0 _ _ _ rR35_.out)))))
          have z0_ : (((((w2.setCell ⟨W.heap.size, 0, none⟩ (.int .i64 (s : Int))).setCell ⟨W.heap.size, 1, none⟩ (.int .i64 (man : Int))).setCell ⟨W.heap.size, 2, none⟩ (.int .i64 fi)).setCell ⟨W.heap.size, 3, none⟩ (.slice va vn vc))).cell? ⟨W.heap.size, 0, none⟩ = some (.int .i64 (s : Int)) := cell_of_row _ _ 0 _ _ _ zr_.out
          have z1_ : (((((w2.setCell ⟨W.heap.size, 0, none⟩ (.int .i64 (s : Int))).setCell ⟨W.heap.size, 1, none⟩ (.int .i64 (man : Int))).setCell ⟨W.heap.size, 2, none⟩ (.int .i64 fi)).setCell ⟨W.heap.size, 3, none⟩ (.slice va vn vc))).cell? ⟨W.heap.size, 1, none⟩ = some (.int .i64 (man : Int)) := cell_of_row _ _ 1 _ _ _ zr_.out
          have z2_ : (((((w2.setCell ⟨W.heap.size, 0, none⟩ (.int .i64 (s : Int))).setCell ⟨W.heap.size, 1, none⟩ (.int .i64 (man : Int))).setCell ⟨W.heap.size, 2, none⟩ (.int .i64 fi)).setCell ⟨W.heap.size, 3, none⟩ (.slice va vn vc))).cell? ⟨W.heap.size, 2, none⟩ = some (.int .i64 fi) := cell_of_row _ _ 2 _ _ _ zr_.out
          have z3_ : (((((w2.setCell ⟨W.heap.size, 0, none⟩ (.int .i64 (s : Int))).setCell ⟨W.heap.size, 1, none⟩ (.int .i64 (man : Int))).setCell ⟨W.heap.size, 2, none⟩ (.int .i64 fi)).setCell ⟨W.heap.size, 3, none⟩ (.slice va vn vc))).cell? ⟨W.heap.size, 3, none⟩ = some (.slice va vn vc) := cell_of_row _ _ 3 _ _ _ zr_.out
          go_wp2
          refine bodyPost_ret (v := vLog (s : Int) (man : Int) fi (.slice va vn vc)) (by simp [vLog, results, go_sem, z0_, z1_, z2_, z3_]) rfl ⟨s, man, fi, _, xs, rfl, HLG2.out, ?_, ?_⟩
          · exact OwU.wide (by omega) (by simp only [World.size_setCell]; omega) (OwU.keep (chg_one _ _ _ _) (.inr (by omega)) (OwU.keep (chg_one _ _ _ _) (.inr (by omega)) (OwU.keep (chg_one _ _ _ _) (.inr (by omega)) (OwU.keep (chg_one _ _ _ _) (.inr (by omega)) oV38_.out))))
          · exact (gby_setnew (gby_setnew (gby_setnew (gby_setnew G39_.out _ (by dsimp only; omega) _) _ (by dsimp only; omega) _) _ (by dsimp only; omega) _) _ (by dsimp only; omega) _)
        have HLX : Hid (szL shI xs ≤ 1048576) := Lib.hid (by rw [szL_I, HLG2.out.2.2.1]; omega)
        clear R_0_ R_1_ R_2_ R_3_ L_0_ L_1_ L_2_ L_3_ B_0_ B_1_ B_2_ B_3_
        have c0 := cell_of_row _ _ 0 _ _ _ rB37_.out
        have c1 := cell_of_row _ _ 1 _ _ _ rB37_.out
        have c2 := cell_of_row _ _ 2 _ _ _ rB37_.out
        have c3 := cell_of_row _ _ 3 _ _ _ rB37_.out
        have HCD := Lib.hid (show Cur (w2).drew c from cur_kept HCU40_.out (gby_drew (gby_refl _ none)) (by simp))
        have HBD := Lib.hid (show (w2).drew.heap[w1.heap.size]? = some (.cells #[.int .i64 (s : Int), .int .i64 (man : Int), .int .i64 fi, (.slice va vn vc)] 26 (0, 0)) from rB37_.out)
        have HVD := Lib.hid (show OwU (w2).drew (w1.heap.size + 1) wr.heap.size [] [own shI (.slice va vn vc) xs] from OwU.grow oV38_.out (gby_drew (gby_refl _ none)))
        have HTD := Lib.hid (show (w1).grownBy (w2).drew (some c) from gby_drew HTM41_.out)
        go_wp2_with fail
        go_region_law (first
          | (go_simp; go_at_call 56; refine (below_any _ c 16 HCD.out (by omega) (by omega)).mono ?_; rintro e wA ⟨y, ⟨y1, y2⟩, rfl, HA, gA⟩; have ZA := Chg.keep (chg_cur gA) HBD.out (by omega); have a0 := cell_of_row wA _ 0 _ _ _ ZA; have a1 := cell_of_row wA _ 1 _ _ _ ZA; have a2 := cell_of_row wA _ 2 _ _ _ ZA; have a3 := cell_of_row wA _ 3 _ _ _ ZA; have VA := OwU.keep (chg_cur gA) (by omega) HVD.out; have sA := gA.size; (try simp only [World.size_drew] at sA); obtain ⟨kn, hkn⟩ : ∃ k : Nat, y = (k : Int) := ⟨y.toNat, by omega⟩; subst hkn)
          | (go_simp; go_at_call 12; refine (specReport_in wA s man kn fi _ xs (OwU.rd VA) HLX.out HLG2.out (by omega)).mono ?_; rintro e wB ⟨v3, rfl, oB, gB⟩; have ZB := row_held gB ZA; have sB := gB.size; obtain ⟨da, dn, dc, hd_⟩ := RdL.form (OwU.rd oB); subst hd_; have f0 := frozen_of_row wB _ 0 _ _ ZB; have f1 := frozen_of_row wB _ 1 _ _ ZB; have f2 := frozen_of_row wB _ 2 _ _ ZB; have f3 := frozen_of_row wB _ 3 _ _ ZB; have b0 := cell_of_row wB _ 0 _ _ _ ZB; have b1 := cell_of_row wB _ 1 _ _ _ ZB; have b2 := cell_of_row wB _ 2 _ _ _ ZB; have b3 := cell_of_row wB _ 3 _ _ _ ZB)
          | fail)
        all_goals
          obtain ⟨t, ht_⟩ : ∃ t, t = rpS s kn := ⟨_, rfl⟩
          have HL3 := Lib.hid (rep_log HLG2.out (show kn ≤ 15 by omega))
          obtain ⟨f_, hf_⟩ : ∃ f_, f_ = repF s fi kn := ⟨_, rfl⟩
          rw [← ht_, ← hf_] at HL3
          rw [← ht_, ← hf_]
          have HOB := Lib.hid oB
          have HGB := Lib.hid (show (w1).grownBy wB (some c) from gby_trans HTD.out (gby_trans gA (gby_some gB _)))
          have HCB := Lib.hid (show Cur wB c from cur_kept HA gB (by simp))
          have HZB := Lib.hid ZB
          clear a0 a1 a2 a3 b0 b1 b2 b3 c0 c1 c2 c3 VA ZA ZB HA gA gB oB ht_ hf_
          have zr_ := Lib.hid (show ((((wB.setCell ⟨w1.heap.size, 0, none⟩ (.int .i64 (t : Int))).setCell ⟨w1.heap.size, 1, none⟩ (.int .i64 (man : Int))).setCell ⟨w1.heap.size, 2, none⟩ (.int .i64 f_)).setCell ⟨w1.heap.size, 3, none⟩ (.slice da dn dc)).heap[w1.heap.size]? = some (.cells #[.int .i64 (t : Int), .int .i64 (man : Int), .int .i64 f_, (.slice da dn dc)] 26 (0, 0)) from (heap_setCell_same _ _ 3 _ _ _ (heap_setCell_same _ _ 2 _ _ _ (heap_setCell_same _ _ 1 _ _ _ (heap_setCell_same _ _ 0 _ _ _ HZB.out)))))
          go_wp2
          refine ⟨⟨n + 1, t, f_, _, by go_num, by omega, HL3.out, zr_.out, ?_, ?_, ?_⟩, by simp [intOf]; omega⟩
          · obtain ⟨p_, q_, h1_, h2_, _, h3_, _⟩ := (show OwU _ _ _ [] [own shI _ _] from HOB.out)
            exact OwL.keep (OwL.keep (OwL.keep (OwL.keep (OwL.wide h3_ (by omega) (by simp only [World.size_setCell]; omega)) (chg_one _ _ _ _) (.inr (by omega))) (chg_one _ _ _ _) (.inr (by omega))) (chg_one _ _ _ _) (.inr (by omega))) (chg_one _ _ _ _) (.inr (by omega))
          · exact cur_other (cur_other (cur_other (cur_other HCB.out (gby_set (gby_refl _ _) _ _) (fun i hi => by have h2 := Option.some.inj hi; omega)) (gby_set (gby_refl _ _) _ _) (fun i hi => by have h2 := Option.some.inj hi; omega)) (gby_set (gby_refl _ _) _ _) (fun i hi => by have h2 := Option.some.inj hi; omega)) (gby_set (gby_refl _ _) _ _) (fun i hi => by have h2 := Option.some.inj hi; omega)
          · exact gby_setnew (gby_setnew (gby_setnew (gby_setnew HGB.out _ (by dsimp only; omega) _) _ (by dsimp only; omega) _) _ (by dsimp only; omega) _) _ (by dsimp only; omega) _
    clear R_0_ R_1_ R_2_ R_3_ L_0_ L_1_ L_2_ L_3_
    have hki : (n : Int) < 16 := by omega
    obtain ⟨pa, pc, hv_, _⟩ := isl_own HO.out HLN.out
    subst hv_
    have c3 := cell_of_row _ _ 3 _ _ _ rB27_.out
    have HCD := Lib.hid (show Cur wr.drew c from cur_kept HCU25_.out (gby_drew (gby_refl _ none)) (by simp))
    have HBD := Lib.hid (show wr.drew.heap[w1.heap.size]? = some (.cells #[.int .i64 0, .int .i64 (man : Int), .int .i64 (-1), (.slice pa n pc)] 26 (0, 0)) from rB27_.out)
    have HOD := Lib.hid (show wr.drew.ownsRow (w1.heap.size + 1) 3 1 (.slice pa n pc) n (i64s xs) from HO.out.drew)
    have HTD := Lib.hid (show (w1).grownBy wr.drew (some c) from gby_drew HTM26_.out)
    go_wp2_with fail
    go_region_law (first
      | (go_simp; go_at_call 56; refine (below_any _ c 3 HCD.out (by omega) (by omega)).mono ?_; rintro e wA ⟨x, ⟨x1, x2⟩, rfl, HA, gA⟩; have ZA := Chg.keep (chg_cur gA) HBD.out (by omega); have a3 := cell_of_row wA _ 3 _ _ _ ZA; have ZC := row_held (gby_alloc (gby_refl wA none) (.cells #[.int .i64 x] 3)) ZA; have a3c := cell_of_row _ _ 3 _ _ _ ZC; have OA := own_kept HOD.out gA (by omega); have sA := gA.size; (try simp only [World.size_drew] at sA))
      | (refine step_append_lies _ (by rfl) _ _ _ (by rfl) (w1.heap.size + 1) 3 i1_ _ 1 8 Try.underlying22 hi1_ hz0_ hz1_ hz2_ rfl (by omega) _ n (i64s xs) (by rfl) (OA.alloc _) ⟨wA.heap.size, 0, none⟩ 1 1 _ (by rfl) (by rfl) (World.news_of_block (t := 3) (fr := (0, 0)) (heap_alloc_new wA _)) (by simp [Value.oneCell']) (by omega) (by unfold maxLen; omega) (by omega) (by simp; omega) (wA.heap.size + 1) (by simp) ?_; intro gg cap2 wB hownB hgB hatB hltB; have ZB : wB.heap[w1.heap.size]? = some (.cells #[.int .i64 0, .int .i64 (man : Int), .int .i64 (-1), (.slice pa n pc)] 26 (0, 0)) := (hgB.block w1.heap.size (by simp; omega) (fun e => by have := own_from OA _ e.symm; omega)).trans (row_held (gby_alloc (gby_refl wA none) _) ZA); have b3 := cell_of_row wB _ 3 _ _ _ ZB; have f3 := frozen_of_row wB _ 3 _ _ ZB)
      | fail)
    all_goals
      have HOB := Lib.hid hownB
      have HGB := Lib.hid (show (w1).grownBy wB (some c) from gby_new (gby_alloc (gby_trans HTD.out gA) _) hgB (fun i hi => by have := own_from OA i hi; omega))
      have HCB := Lib.hid (show Cur wB c from cur_other (cur_kept HA (World.grownBy_alloc wA _ none) (by simp)) hgB (fun i hi => by have := own_from OA i hi; omega))
      have HZB := Lib.hid ZB
      clear hownB hgB OA HA gA ZA ZB ZC b3 a3 a3c hatB hltB c3
      have zr_ := Lib.hid (show (wB.setCell ⟨w1.heap.size, 3, none⟩ (.slice (some ⟨gg, 0, none⟩) (n + 1) cap2)).heap[w1.heap.size]? = some (.cells #[.int .i64 0, .int .i64 (man : Int), .int .i64 (-1), (.slice (some ⟨gg, 0, none⟩) (n + 1) cap2)] 26 (0, 0)) from heap_setCell_same _ _ 3 _ _ _ HZB.out)
      go_wp2
      refine ⟨⟨n + 1, xs ++ [x], _, by go_num, by omega, by have := HLN.out; simp [this], ?_, zr_.out, by rw [i64s_append]; exact own_kept HOB.out (gby_set (gby_refl _ (some (w1.heap.size))) 3 _) (by omega), ?_, ?_⟩, by simp [intOf]; omega⟩
      · intro q hq
        rcases List.mem_append.1 hq with hq | hq
        · exact HX.out q hq
        · obtain rfl := List.mem_singleton.1 hq; exact ⟨by omega, by omega⟩
      · exact cur_other HCB.out (gby_set (gby_refl _ _) _ _) (fun i hi => by have h2 := Option.some.inj hi; omega)
      · exact gby_setnew HGB.out _ (by dsimp only; omega) _

def DrawnLogN (W : World) (e : Ending) (w' : World) : Prop := ∃ (s man : Nat) (fi : Int) (v : Value) (xs : List Int), e = .returned (vLog (s : Int) (man : Int) fi v) ∧ LOk (s : Int) (man : Int) fi xs ∧ OwU w' W.heap.size w'.heap.size [] [own shI v xs] ∧ W.grownBy w' none
set_option maxHeartbeats 1000000 in
theorem drawLog_any (W : World) (a : Option Addr) (len cap : Nat) (zs : List Int) (hB : Bytes W a len zs) (hl : len ≤ 1048576) : Calls Try.prog 21 #[.slice a len cap] W (DrawnLogN W) := by
  have HB := Lib.hid hB
  clear hB
  go_enter Try.func21, Try.ntmps21
  have HB0 := Lib.hid (bytes_grow HB.out (gby_alloc (gby_refl W none) (.cells #[.int .i64 0, .int .i64 0, .int .i64 0, .slice none 0 0] 26)))
  have r0 := Lib.hid (heap_alloc_new W (.cells #[.int .i64 0, .int .i64 0, .int .i64 0, .slice none 0 0] 26))
  have G0 := Lib.hid (gby_alloc (gby_refl W none) (.cells #[.int .i64 0, .int .i64 0, .int .i64 0, .slice none 0 0] 26))
  go_wp2_with fail
  go_at_call 55
  refine (new_any _ _ _ _ _ HB0.out hl).mono ?_
  rintro e w1 ⟨c, rfl, hc, H1, G1⟩
  simp only [World.size_alloc] at hc
  have HC1 := Lib.hid H1
  have r1 := Lib.hid (row_held G1 r0.out)
  have hs1 := G1.size
  simp only [World.size_alloc] at hs1
  have HG1 := Lib.hid (gby_trans G0.out G1)
  have hcl := cur_lt H1
  clear H1 G1
  go_wp2_with fail
  go_at_call 54
  refine (log32_any _ c HC1.out).mono ?_
  rintro e w2 ⟨s, man, fi, v, xs, rfl, hv, o, g⟩
  obtain ⟨va, vn, vc, hv_⟩ := RdL.form (OwU.rd o)
  subst hv_
  have HV := Lib.hid hv
  have HO := Lib.hid o
  have hs2 := g.size
  have r3 := Lib.hid (show w2.heap[W.heap.size]? = some (.cells #[.int .i64 0, .int .i64 0, .int .i64 0, .slice none 0 0] 26 (0, 0)) from Chg.keep (chg_cur g) r1.out (by omega))
  have HG3 := Lib.hid (gby_own HG1.out g (by omega))
  clear hv g o
  unfold vLog
  have c0 := cell_of_row _ _ 0 _ _ _ r3.out
  have f0 := frozen_of_row _ _ 0 _ _ r3.out
  have c1 := cell_of_row _ _ 1 _ _ _ r3.out
  have f1 := frozen_of_row _ _ 1 _ _ r3.out
  have c2 := cell_of_row _ _ 2 _ _ _ r3.out
  have f2 := frozen_of_row _ _ 2 _ _ r3.out
  have c3 := cell_of_row _ _ 3 _ _ _ r3.out
  have f3 := frozen_of_row _ _ 3 _ _ r3.out
  have zr_ := Lib.hid (show (((((w2.setCell ⟨W.heap.size, 0, none⟩ (.int .i64 (s : Int))).setCell ⟨W.heap.size, 1, none⟩ (.int .i64 (man : Int))).setCell ⟨W.heap.size, 2, none⟩ (.int .i64 fi)).setCell ⟨W.heap.size, 3, none⟩ (.slice va vn vc))).heap[W.heap.size]? = some (.cells #[.int .i64 (s : Int), .int .i64 (man : Int), .int .i64 fi, .slice va vn vc] 26 (0, 0)) from (heap_setCell_same _ _ 3 _ _ _ (heap_setCell_same _ _ 2 _ _ _ (heap_setCell_same _ _ 1 _ _ _ (heap_setCell_same _ _ 0 _ _ _ r3.out)))))
  have z0_ : (((((w2.setCell ⟨W.heap.size, 0, none⟩ (.int .i64 (s : Int))).setCell ⟨W.heap.size, 1, none⟩ (.int .i64 (man : Int))).setCell ⟨W.heap.size, 2, none⟩ (.int .i64 fi)).setCell ⟨W.heap.size, 3, none⟩ (.slice va vn vc))).cell? ⟨W.heap.size, 0, none⟩ = some (.int .i64 (s : Int)) := cell_of_row _ _ 0 _ _ _ zr_.out
  have z1_ : (((((w2.setCell ⟨W.heap.size, 0, none⟩ (.int .i64 (s : Int))).setCell ⟨W.heap.size, 1, none⟩ (.int .i64 (man : Int))).setCell ⟨W.heap.size, 2, none⟩ (.int .i64 fi)).setCell ⟨W.heap.size, 3, none⟩ (.slice va vn vc))).cell? ⟨W.heap.size, 1, none⟩ = some (.int .i64 (man : Int)) := cell_of_row _ _ 1 _ _ _ zr_.out
  have z2_ : (((((w2.setCell ⟨W.heap.size, 0, none⟩ (.int .i64 (s : Int))).setCell ⟨W.heap.size, 1, none⟩ (.int .i64 (man : Int))).setCell ⟨W.heap.size, 2, none⟩ (.int .i64 fi)).setCell ⟨W.heap.size, 3, none⟩ (.slice va vn vc))).cell? ⟨W.heap.size, 2, none⟩ = some (.int .i64 fi) := cell_of_row _ _ 2 _ _ _ zr_.out
  have z3_ : (((((w2.setCell ⟨W.heap.size, 0, none⟩ (.int .i64 (s : Int))).setCell ⟨W.heap.size, 1, none⟩ (.int .i64 (man : Int))).setCell ⟨W.heap.size, 2, none⟩ (.int .i64 fi)).setCell ⟨W.heap.size, 3, none⟩ (.slice va vn vc))).cell? ⟨W.heap.size, 3, none⟩ = some (.slice va vn vc) := cell_of_row _ _ 3 _ _ _ zr_.out
  go_wp2
  refine bodyPost_ret (v := vLog (s : Int) (man : Int) fi (.slice va vn vc)) (by simp [vLog, results, go_sem, z0_, z1_, z2_, z3_]) rfl ⟨s, man, fi, _, xs, rfl, HV.out, ?_, ?_⟩
  · exact OwU.wide (by omega) (by simp only [World.size_setCell]; omega) (OwU.keep (chg_one _ _ _ _) (.inr (by omega)) (OwU.keep (chg_one _ _ _ _) (.inr (by omega)) (OwU.keep (chg_one _ _ _ _) (.inr (by omega)) (OwU.keep (chg_one _ _ _ _) (.inr (by omega)) HO.out))))
  · exact (gby_setnew (gby_setnew (gby_setnew (gby_setnew HG3.out _ (by dsimp only; omega) _) _ (by dsimp only; omega) _) _ (by dsimp only; omega) _) _ (by dsimp only; omega) _)

end Go.Proofs.Ytgagbhkidponnad
