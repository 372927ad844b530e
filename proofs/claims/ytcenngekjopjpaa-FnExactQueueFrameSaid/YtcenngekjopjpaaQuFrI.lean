/-
  QueueFrame, the program.
-/
import Derived.Test.YtcenngekjopjpaaSndCpR
import Derived.Test.YtcenngekjopjpaaRQueueFrame
import Derived.Test.YtcenngekjopjpaaStepApp
import Derived.Deep.RegionLaw
namespace Go.Proofs.Ytcenngekjopjpaa
open Go Go.RowKit
set_option linter.unusedVariables false

theorem row_drewU {w : World} {b : Nat} {o : Obj} (h : w.heap[b]? = some o) : w.drew.heap[b]? = some o := h

/-- what the method queue does where there is room -/
def QuPost (bA : Nat) (m r : Int) (xs : List DFrame) (ys : List Int) (base : Nat) (W : World) (e : Ending) (w' : World) : Prop := ∃ v', e = .returned (.bool true) ∧ w'.heap[bA]? = some (.cells #[.int .i64 (nextQ m), v', .int .i64 r] 29 (0, 0)) ∧ OwR shFrame 37 w' base v' (xs ++ [⟨m, ys⟩]) ∧ (∀ b o, b < base → b ≠ bA → W.heap[b]? = some o → w'.heap[b]? = some o) ∧ W.heap.size ≤ w'.heap.size ∧ ∀ W0 : World, W0.grownBy W none → W0.heap.size ≤ bA → W0.heap.size ≤ base → W0.grownBy w' none

set_option maxRecDepth 8000 in
set_option maxHeartbeats 2000000 in
theorem queue_nob (W : World) (bA base : Nat) (m r : Int) (pd : Option Addr) (n0 cd : Nat) (xs : List DFrame) (pu : Option Addr) (nu cu : Nat) (ys : List Int) (hba : W.heap[bA]? = some (.cells #[.int .i64 m, .slice pd n0 cd, .int .i64 r] 29 (0, 0))) (Hu : RdL shI W (.slice pu nu cu) ys) (hly : szL shI ys ≤ 1048576) (hn0 : n0 = xs.length) (hb : ¬ AreB ys) : Calls Try.prog 50 #[.pointer (some ⟨bA, 0, none⟩), .slice pu nu cu] W (fun e w' => e = .returned (.bool false) ∧ W.grownBy w' none) := by
  have HBY := Lib.hid (show false = decide (AreB ys) from (decide_eq_false hb).symm)
  clear hb
  have HBA := Lib.hid hba
  have hbl_ := lt_of_block hba
  have HY := Lib.hid Hu
  have HYL := Lib.hid hly
  have HE := Lib.hid hn0
  clear hba Hu hly hn0
  go_enter Try.func50, Try.ntmps50
  have G1_ := Lib.hid (show (W).grownBy (W) none from gby_refl _ none)
  have rB2_ := Lib.hid (show (W).heap[bA]? = some (.cells #[.int .i64 m, .slice pd n0 cd, .int .i64 r] 29 (0, 0)) from HBA.out)
  have B_0_ : (W).cell? ⟨bA, 0, none⟩ = some (.int .i64 m) := cell_of_row _ _ 0 _ _ _ rB2_.out
  have B_1_ : (W).cell? ⟨bA, 1, none⟩ = some (.slice pd n0 cd) := cell_of_row _ _ 1 _ _ _ rB2_.out
  have B_2_ : (W).cell? ⟨bA, 2, none⟩ = some (.int .i64 r) := cell_of_row _ _ 2 _ _ _ rB2_.out
  go_wp2_with fail
  go_at_call 37
  refine (implByD _ _ ys (HY.out.grow G1_.out) HYL.out false HBY.out).mono ?_
  rintro e w1 ⟨rfl, g⟩
  have szw1 := g.size
  try simp only [World.size_alloc] at szw1
  try simp only [World.size_setCell] at szw1
  clear B_0_ B_1_ B_2_
  have rB3_ := Lib.hid (show (w1).heap[bA]? = some (.cells #[.int .i64 m, .slice pd n0 cd, .int .i64 r] 29 (0, 0)) from row_held g rB2_.out)
  clear rB2_
  have G4_ := Lib.hid (show (W).grownBy (w1) none from gby_trans G1_.out g)
  clear g
  have B_0_ : (w1).cell? ⟨bA, 0, none⟩ = some (.int .i64 m) := cell_of_row _ _ 0 _ _ _ rB3_.out
  have B_1_ : (w1).cell? ⟨bA, 1, none⟩ = some (.slice pd n0 cd) := cell_of_row _ _ 1 _ _ _ rB3_.out
  have B_2_ : (w1).cell? ⟨bA, 2, none⟩ = some (.int .i64 r) := cell_of_row _ _ 2 _ _ _ rB3_.out
  go_wp2
  go_ret
  exact ⟨rfl, G4_.out⟩

set_option maxRecDepth 8000 in
set_option maxHeartbeats 2000000 in
theorem queue_full (W : World) (bA base : Nat) (m r : Int) (pd : Option Addr) (n0 cd : Nat) (xs : List DFrame) (pu : Option Addr) (nu cu : Nat) (ys : List Int) (hba : W.heap[bA]? = some (.cells #[.int .i64 m, .slice pd n0 cd, .int .i64 r] 29 (0, 0))) (Hu : RdL shI W (.slice pu nu cu) ys) (hly : szL shI ys ≤ 1048576) (hn0 : n0 = xs.length) (hb : AreB ys) (h7 : xs.length = 7) : Calls Try.prog 50 #[.pointer (some ⟨bA, 0, none⟩), .slice pu nu cu] W (fun e w' => e = .returned (.bool false) ∧ W.grownBy w' none) := by
  have HBY := Lib.hid (show true = decide (AreB ys) from (decide_eq_true hb).symm)
  clear hb
  have HF7 := Lib.hid h7
  clear h7
  have HBA := Lib.hid hba
  have hbl_ := lt_of_block hba
  have HY := Lib.hid Hu
  have HYL := Lib.hid hly
  have HE := Lib.hid hn0
  clear hba Hu hly hn0
  go_enter Try.func50, Try.ntmps50
  have G1_ := Lib.hid (show (W).grownBy (W) none from gby_refl _ none)
  have rB2_ := Lib.hid (show (W).heap[bA]? = some (.cells #[.int .i64 m, .slice pd n0 cd, .int .i64 r] 29 (0, 0)) from HBA.out)
  have B_0_ : (W).cell? ⟨bA, 0, none⟩ = some (.int .i64 m) := cell_of_row _ _ 0 _ _ _ rB2_.out
  have B_1_ : (W).cell? ⟨bA, 1, none⟩ = some (.slice pd n0 cd) := cell_of_row _ _ 1 _ _ _ rB2_.out
  have B_2_ : (W).cell? ⟨bA, 2, none⟩ = some (.int .i64 r) := cell_of_row _ _ 2 _ _ _ rB2_.out
  go_wp2_with fail
  go_at_call 37
  refine (implByD _ _ ys (HY.out.grow G1_.out) HYL.out true HBY.out).mono ?_
  rintro e w1 ⟨rfl, g⟩
  have szw1 := g.size
  try simp only [World.size_alloc] at szw1
  try simp only [World.size_setCell] at szw1
  clear B_0_ B_1_ B_2_
  have rB3_ := Lib.hid (show (w1).heap[bA]? = some (.cells #[.int .i64 m, .slice pd n0 cd, .int .i64 r] 29 (0, 0)) from row_held g rB2_.out)
  clear rB2_
  have G4_ := Lib.hid (show (W).grownBy (w1) none from gby_trans G1_.out g)
  clear g
  have B_0_ : (w1).cell? ⟨bA, 0, none⟩ = some (.int .i64 m) := cell_of_row _ _ 0 _ _ _ rB3_.out
  have B_1_ : (w1).cell? ⟨bA, 1, none⟩ = some (.slice pd n0 cd) := cell_of_row _ _ 1 _ _ _ rB3_.out
  have B_2_ : (w1).cell? ⟨bA, 2, none⟩ = some (.int .i64 r) := cell_of_row _ _ 2 _ _ _ rB3_.out
  have h7_ : ((n0 : Int) == 7) = true := by have := HF7.out; have := HE.out; simp; omega
  go_wp2
  go_ret
  exact ⟨rfl, G4_.out⟩

set_option maxRecDepth 8000 in
set_option maxHeartbeats 4000000 in
theorem queue_yes (W : World) (bA base : Nat) (m r : Int) (pd : Option Addr) (n0 cd : Nat) (xs : List DFrame) (pu : Option Addr) (nu cu : Nat) (ys : List Int) (hba : W.heap[bA]? = some (.cells #[.int .i64 m, .slice pd n0 cd, .int .i64 r] 29 (0, 0))) (Hu : RdL shI W (.slice pu nu cu) ys) (hly : szL shI ys ≤ 1048576) (hn0 : n0 = xs.length) (HO_ : OwR shFrame 37 W base (.slice pd n0 cd) xs) (hbb_ : bA < base) (hbw_ : base ≤ W.heap.size) (hb : AreB ys) (h7 : xs.length < 7) : Calls Try.prog 50 #[.pointer (some ⟨bA, 0, none⟩), .slice pu nu cu] W (QuPost bA m r xs ys base W) := by
  have HBY := Lib.hid (show true = decide (AreB ys) from (decide_eq_true hb).symm)
  clear hb
  have HF7 := Lib.hid h7
  have HOR := Lib.hid HO_
  clear h7 HO_
  have HBA := Lib.hid hba
  have hbl_ := lt_of_block hba
  have HY := Lib.hid Hu
  have HYL := Lib.hid hly
  have HE := Lib.hid hn0
  clear hba Hu hly hn0
  go_enter Try.func50, Try.ntmps50
  have G1_ := Lib.hid (show (W).grownBy (W) none from gby_refl _ none)
  have rB2_ := Lib.hid (show (W).heap[bA]? = some (.cells #[.int .i64 m, .slice pd n0 cd, .int .i64 r] 29 (0, 0)) from HBA.out)
  have B_0_ : (W).cell? ⟨bA, 0, none⟩ = some (.int .i64 m) := cell_of_row _ _ 0 _ _ _ rB2_.out
  have B_1_ : (W).cell? ⟨bA, 1, none⟩ = some (.slice pd n0 cd) := cell_of_row _ _ 1 _ _ _ rB2_.out
  have B_2_ : (W).cell? ⟨bA, 2, none⟩ = some (.int .i64 r) := cell_of_row _ _ 2 _ _ _ rB2_.out
  go_wp2_with fail
  go_at_call 37
  refine (implByD _ _ ys (HY.out.grow G1_.out) HYL.out true HBY.out).mono ?_
  rintro e w1 ⟨rfl, g⟩
  have szw1 := g.size
  try simp only [World.size_alloc] at szw1
  try simp only [World.size_setCell] at szw1
  clear B_0_ B_1_ B_2_
  have rB3_ := Lib.hid (show (w1).heap[bA]? = some (.cells #[.int .i64 m, .slice pd n0 cd, .int .i64 r] 29 (0, 0)) from row_held g rB2_.out)
  clear rB2_
  have G4_ := Lib.hid (show (W).grownBy (w1) none from gby_trans G1_.out g)
  clear g
  have B_0_ : (w1).cell? ⟨bA, 0, none⟩ = some (.int .i64 m) := cell_of_row _ _ 0 _ _ _ rB3_.out
  have B_1_ : (w1).cell? ⟨bA, 1, none⟩ = some (.slice pd n0 cd) := cell_of_row _ _ 1 _ _ _ rB3_.out
  have B_2_ : (w1).cell? ⟨bA, 2, none⟩ = some (.int .i64 r) := cell_of_row _ _ 2 _ _ _ rB3_.out
  have h7_ : ((n0 : Int) == 7) = false := by have := HF7.out; have := HE.out; simp; omega
  clear B_0_ B_1_ B_2_
  have B_0_ : (w1).cell? ⟨bA, 0, none⟩ = some (.int .i64 m) := cell_of_row _ _ 0 _ _ _ rB3_.out
  have B_1_ : (w1).cell? ⟨bA, 1, none⟩ = some (.slice pd n0 cd) := cell_of_row _ _ 1 _ _ _ rB3_.out
  have B_2_ : (w1).cell? ⟨bA, 2, none⟩ = some (.int .i64 r) := cell_of_row _ _ 2 _ _ _ rB3_.out
  have Bf0_ : (w1).frozen? ⟨bA, 0, none⟩ = false := frozen_of_row _ _ 0 _ _ rB3_.out
  have Bf1_ : (w1).frozen? ⟨bA, 1, none⟩ = false := frozen_of_row _ _ 1 _ _ rB3_.out
  have Bf2_ : (w1).frozen? ⟨bA, 2, none⟩ = false := frozen_of_row _ _ 2 _ _ rB3_.out
  have al_ : (w1).grownBy ((w1).alloc (.cells #[.int .i64 m, .slice pu nu cu] 37)) none := gby_alloc (gby_refl _ _) _
  have rB5_ := Lib.hid (show ((w1.alloc (.cells #[.int .i64 m, .slice pu nu cu] 37))).heap[bA]? = some (.cells #[.int .i64 m, .slice pd n0 cd, .int .i64 r] 29 (0, 0)) from row_held al_ rB3_.out)
  clear rB3_
  have G6_ := Lib.hid (show (W).grownBy ((w1.alloc (.cells #[.int .i64 m, .slice pu nu cu] 37))) none from gby_trans G4_.out al_)
  have rF7_ := Lib.hid (show ((w1.alloc (.cells #[.int .i64 m, .slice pu nu cu] 37))).heap[w1.heap.size]? = some (.cells #[.int .i64 m, .slice pu nu cu] 37 (0, 0)) from by first | exact heap_alloc_new _ _ | exact heap_pair _ _ _ | exact heap_trip _ _ _ _)
  clear al_
  have B_0_ : ((w1.alloc (.cells #[.int .i64 m, .slice pu nu cu] 37))).cell? ⟨bA, 0, none⟩ = some (.int .i64 m) := cell_of_row _ _ 0 _ _ _ rB5_.out
  have B_1_ : ((w1.alloc (.cells #[.int .i64 m, .slice pu nu cu] 37))).cell? ⟨bA, 1, none⟩ = some (.slice pd n0 cd) := cell_of_row _ _ 1 _ _ _ rB5_.out
  have B_2_ : ((w1.alloc (.cells #[.int .i64 m, .slice pu nu cu] 37))).cell? ⟨bA, 2, none⟩ = some (.int .i64 r) := cell_of_row _ _ 2 _ _ _ rB5_.out
  have F_0_ : ((w1.alloc (.cells #[.int .i64 m, .slice pu nu cu] 37))).cell? ⟨w1.heap.size, 0, none⟩ = some (.int .i64 m) := cell_of_row _ _ 0 _ _ _ rF7_.out
  have F_1_ : ((w1.alloc (.cells #[.int .i64 m, .slice pu nu cu] 37))).cell? ⟨w1.heap.size, 1, none⟩ = some (.slice pu nu cu) := cell_of_row _ _ 1 _ _ _ rF7_.out
  have B_0_ : ((w1.alloc (.cells #[.int .i64 m, .slice pu nu cu] 37))).cell? ⟨bA, 0, none⟩ = some (.int .i64 m) := cell_of_row _ _ 0 _ _ _ rB5_.out
  have B_1_ : ((w1.alloc (.cells #[.int .i64 m, .slice pu nu cu] 37))).cell? ⟨bA, 1, none⟩ = some (.slice pd n0 cd) := cell_of_row _ _ 1 _ _ _ rB5_.out
  have B_2_ : ((w1.alloc (.cells #[.int .i64 m, .slice pu nu cu] 37))).cell? ⟨bA, 2, none⟩ = some (.int .i64 r) := cell_of_row _ _ 2 _ _ _ rB5_.out
  have Bf0_ : ((w1.alloc (.cells #[.int .i64 m, .slice pu nu cu] 37))).frozen? ⟨bA, 0, none⟩ = false := frozen_of_row _ _ 0 _ _ rB5_.out
  have Bf1_ : ((w1.alloc (.cells #[.int .i64 m, .slice pu nu cu] 37))).frozen? ⟨bA, 1, none⟩ = false := frozen_of_row _ _ 1 _ _ rB5_.out
  have Bf2_ : ((w1.alloc (.cells #[.int .i64 m, .slice pu nu cu] 37))).frozen? ⟨bA, 2, none⟩ = false := frozen_of_row _ _ 2 _ _ rB5_.out
  have F_0_ : ((w1.alloc (.cells #[.int .i64 m, .slice pu nu cu] 37))).cell? ⟨w1.heap.size, 0, none⟩ = some (.int .i64 m) := cell_of_row _ _ 0 _ _ _ rF7_.out
  have F_1_ : ((w1.alloc (.cells #[.int .i64 m, .slice pu nu cu] 37))).cell? ⟨w1.heap.size, 1, none⟩ = some (.slice pu nu cu) := cell_of_row _ _ 1 _ _ _ rF7_.out
  have HOR2 := Lib.hid (HOR.out.grow G6_.out)
  obtain ⟨cs, P, Q, hr_, hel_⟩ := HOR2.out
  rw [← HE.out] at hr_
  have HR1 := Lib.hid hr_
  have HEL := Lib.hid hel_
  clear hr_ hel_
  obtain ⟨i1_, hi1_, hz0_, hz1_, hz2_⟩ := info_parts infoFrameS
  have HRd := Lib.hid (show RdL shI ((w1.alloc (.cells #[.int .i64 m, .slice pu nu cu] 37))).drew (.slice pu nu cu) ys from HY.out.grow (gby_drew G6_.out))
  have hsf_ : W.heap.size ≤ ((w1.alloc (.cells #[.int .i64 m, .slice pu nu cu] 37))).heap.size := (G6_.out).size
  have hnl_ : n0 ≤ 7 := by have := HF7.out; have := HE.out; omega
  go_wp2_with fail
  go_region_law (first
    | (go_simp; go_at_call 55; refine (copiedFr_d _ m _ ys HRd.out HYL.out).mono ?_; rintro e wA ⟨vf, rfl, oA, gA⟩; unfold vFrame; obtain ⟨pf, nf, cf, hv_⟩ := RdL.form (OwU.rd oA); subst hv_; have sA := gA.size; (try simp only [World.size_drew] at sA); (try simp only [World.size_alloc] at sA oA); have ZA := row_held gA (row_drewU rB5_.out); have a1 := cell_of_row wA _ 1 _ _ _ ZA; have ZC := row_held (gby_alloc (gby_refl wA none) (.cells #[.int .i64 m, .slice pf nf cf] 37)) ZA; have a1c := cell_of_row _ _ 1 _ _ _ ZC; have OA1 := (World.ownsRow.drew HR1.out).grown gA)
    | (refine step_append_lies _ (by rfl) _ _ _ (by rfl) (base) 37 i1_ _ 2 32 Try.underlying27 hi1_ hz0_ hz1_ hz2_ rfl (by omega) _ n0 (flatN cs n0) (by rfl) (OA1.alloc _) ⟨wA.heap.size, 0, none⟩ 1 1 _ (by rfl) (by rfl) (World.news_of_block (t := 37) (fr := (0, 0)) (heap_alloc_new wA _)) (by simp [Value.oneCell']) (by omega) (by unfold maxLen; omega) (by omega) (by simp; omega) _ (by rfl) ?_; intro g3 cap3 wB hownB hgB hatB hltB; have ZB : wB.heap[bA]? = some (.cells #[.int .i64 m, .slice pd n0 cd, .int .i64 r] 29 (0, 0)) := (hgB.block bA (by (try simp only [World.size_alloc]); omega) (fun e => by have := own_from OA1 _ e.symm; omega)).trans ZC; have b1 := cell_of_row wB _ 1 _ _ _ ZB; have f1 := frozen_of_row wB _ 1 _ _ ZB)
    | fail)
  all_goals
    have GA := Lib.hid (show W.grownBy wA none from gby_trans (gby_drew G6_.out) gA)
    have HGB := Lib.hid hgB
    have HZB := Lib.hid ZB
    have HOA := Lib.hid OA1
    have oC := OwU.grow oA (gby_alloc (gby_refl wA none) (.cells #[.int .i64 m, .slice pf nf cf] 37))
    have oC2 : OwU (wA.alloc (.cells #[.int .i64 m, .slice pf nf cf] 37)) ((w1.alloc (.cells #[.int .i64 m, .slice pu nu cu] 37))).heap.size wA.heap.size [] [own shI (.slice pf nf cf) ys] := oC
    have HOB := Lib.hid (show OwR shFrame 37 wB base (.slice (some ⟨g3, 0, none⟩) (n0 + 1) cap3) (xs ++ [⟨m, ys⟩]) from by
      refine owR_app (own_blockS HR1.out) HEL.out (gby_alloc (gby_trans (gby_drew (gby_refl ((w1.alloc (.cells #[.int .i64 m, .slice pu nu cu] 37))) none)) gA) _) (a := ((w1.alloc (.cells #[.int .i64 m, .slice pu nu cu] 37))).heap.size) (b := wA.heap.size) ⟨_, rfl, oC2⟩ (Nat.le_refl _) (by omega) (by simp only [World.size_alloc]; omega) (by rw [← HE.out]; exact hownB) hgB (fun i hi => ?_)
      have hi2 : g3 = i := Option.some.inj hi
      rcases hatB with q | q
      · exact .inl (by rw [← hi2]; exact q)
      · exact .inr (by rw [← hi2, q]; exact Nat.le_refl _))
    have sB := hgB.size
    (try simp only [World.size_alloc, World.size_drew] at sB)
    have hsAw_ : W.heap.size ≤ wA.heap.size := GA.out.size
    clear oC oC2 hownB hgB hatB hltB ZB OA1 oA gA ZA ZC
    try clear a1
    try clear a1c
    have HB5 := Lib.hid (show (wB.setCell ⟨bA, 1, none⟩ (.slice (some ⟨g3, 0, none⟩) (n0 + 1) cap3)).heap[bA]? = some (.cells #[.int .i64 m, .slice (some ⟨g3, 0, none⟩) (n0 + 1) cap3, .int .i64 r] 29 (0, 0)) from heap_setCell_same _ _ 1 _ _ _ HZB.out)
    have HO5 := Lib.hid (show OwR shFrame 37 (wB.setCell ⟨bA, 1, none⟩ (.slice (some ⟨g3, 0, none⟩) (n0 + 1) cap3)) base (.slice (some ⟨g3, 0, none⟩) (n0 + 1) cap3) (xs ++ [⟨m, ys⟩]) from HOB.out.kept (gby_set (gby_refl _ _) _ _) (fun i hi => by have h2 := Option.some.inj hi; omega))
    have HK5 := Lib.hid (show ∀ b o, b < base → b ≠ bA → W.heap[b]? = some o → (wB.setCell ⟨bA, 1, none⟩ (.slice (some ⟨g3, 0, none⟩) (n0 + 1) cap3)).heap[b]? = some o from fun b o h1 h2 h3 => by
      have hb_ : b < wA.heap.size := by omega
      have q1 : wA.heap[b]? = some o := (GA.out.block b (by omega) (fun e => by cases e)).trans h3
      have q2 : wB.heap[b]? = some o := (HGB.out.block b (by simp only [World.size_alloc]; omega) (fun e => by have := own_from HOA.out _ e.symm; omega)).trans ((heap_alloc_old _ _ hb_).trans q1)
      exact set_far q2 (by dsimp only; exact h2))
    have HG5 := Lib.hid (show ∀ W0 : World, W0.grownBy W none → W0.heap.size ≤ bA → W0.heap.size ≤ base → W0.grownBy (wB.setCell ⟨bA, 1, none⟩ (.slice (some ⟨g3, 0, none⟩) (n0 + 1) cap3)) none from fun W0 g0 h1 h2 => gby_setnew (gby_new (gby_alloc (gby_trans g0 GA.out) _) HGB.out (fun i hi => by have := own_from HOA.out i hi; omega)) _ (by dsimp only; omega) _)
    have hs5 : W.heap.size ≤ (wB.setCell ⟨bA, 1, none⟩ (.slice (some ⟨g3, 0, none⟩) (n0 + 1) cap3)).heap.size := by simp only [World.size_setCell]; omega
    clear HOB HZB HGB HOA GA
    try clear b1
    try clear f1
    generalize (wB.setCell ⟨bA, 1, none⟩ (.slice (some ⟨g3, 0, none⟩) (n0 + 1) cap3)) = w5 at HB5 HO5 HK5 HG5 hs5 ⊢
    have k0_ := cell_of_row w5 _ 0 _ _ _ HB5.out
    have k1_ := cell_of_row w5 _ 1 _ _ _ HB5.out
    have k2_ := frozen_of_row w5 _ 0 _ _ HB5.out
    go_wp2_with fail
    go_at_call 58
    refine (implNext_any m _).mono ?_
    rintro e w6 ⟨rfl, hd⟩
    have g6 := Lib.hid hd
    have s6 := g6.out.size
    have HB6 := Lib.hid (row_held g6.out HB5.out)
    have HO6 := Lib.hid (HO5.out.grow g6.out)
    clear hd k0_ k1_ k2_
    have k0_ := cell_of_row w6 _ 0 _ _ _ HB6.out
    have k2_ := frozen_of_row w6 _ 0 _ _ HB6.out
    go_wp2
    go_ret
    exact ⟨_, rfl, heap_setCell_same _ _ 0 _ _ _ HB6.out, HO6.out.kept (gby_set (gby_refl _ _) _ _) (fun i hi => by have h2 := Option.some.inj hi; omega), fun b o h1 h2 h3 => set_far (row_held g6.out (HK5.out b o h1 h2 h3)) (by dsimp only; exact h2), by simp only [World.size_setCell]; omega, fun W0 g0 h1 h2 => gby_setnew (gby_trans (HG5.out W0 g0 h1 h2) g6.out) _ (by dsimp only; omega) _⟩

set_option maxRecDepth 8000 in
set_option maxHeartbeats 4000000 in
theorem implQu_bad (W : World) (m r : Int) (v : Value) (xs : List DFrame) (H : RdL shFrame W v xs) (hl : szL shFrame xs ≤ 1048576) (u : Value) (ys : List Int) (Hu : RdL shI W u ys) (hly : szL shI ys ≤ 1048576) (hv : ¬ SndP m r xs) : Calls Try.prog 26 #[.agg #[.int .i64 m, v, .int .i64 r], u] W (ResIQueueFrame m xs r false W) := by
  have HV := Lib.hid hv
  clear hv
  have HYL := Lib.hid hly
  obtain ⟨pu, nu, cu, rfl⟩ := RdL.form Hu
  have HY := Lib.hid Hu
  clear hly Hu
  have HX := Lib.hid H
  have HL := Lib.hid hl
  obtain ⟨a0, n0, cap0, rfl⟩ := RdL.form H
  have hn0 : n0 = xs.length := by obtain ⟨_, _, e, _⟩ := H; injection e
  have HE := Lib.hid hn0
  have hlx : n0 ≤ 1048576 := by have := szL_len shFrame xs; omega
  clear H hl hn0
  go_enter Try.func26, Try.ntmps26
  have rA1_ := Lib.hid (show (((W.alloc (.cells #[.int .i64 m, .slice a0 n0 cap0, .int .i64 r] 29)).alloc (.cells #[.int .i64 0, .slice none 0 0, .int .i64 0] 29))).heap[W.heap.size]? = some (.cells #[.int .i64 m, .slice a0 n0 cap0, .int .i64 r] 29 (0, 0)) from by rw [heap_alloc_old _ _ (by simp only [World.size_alloc]; omega)]; exact heap_alloc_new _ _)
  have rR2_ := Lib.hid (show (((W.alloc (.cells #[.int .i64 m, .slice a0 n0 cap0, .int .i64 r] 29)).alloc (.cells #[.int .i64 0, .slice none 0 0, .int .i64 0] 29))).heap[W.heap.size + 1]? = some (.cells #[.int .i64 0, .slice none 0 0, .int .i64 0] 29 (0, 0)) from by exact heap_pair _ _ _)
  have G3_ := Lib.hid (show (W).grownBy (((W.alloc (.cells #[.int .i64 m, .slice a0 n0 cap0, .int .i64 r] 29)).alloc (.cells #[.int .i64 0, .slice none 0 0, .int .i64 0] 29))) none from (gby_alloc (gby_alloc (gby_refl _ _) _) _))
  have A_0_ : (((W.alloc (.cells #[.int .i64 m, .slice a0 n0 cap0, .int .i64 r] 29)).alloc (.cells #[.int .i64 0, .slice none 0 0, .int .i64 0] 29))).cell? ⟨W.heap.size, 0, none⟩ = some (.int .i64 m) := cell_of_row _ _ 0 _ _ _ rA1_.out
  have A_1_ : (((W.alloc (.cells #[.int .i64 m, .slice a0 n0 cap0, .int .i64 r] 29)).alloc (.cells #[.int .i64 0, .slice none 0 0, .int .i64 0] 29))).cell? ⟨W.heap.size, 1, none⟩ = some (.slice a0 n0 cap0) := cell_of_row _ _ 1 _ _ _ rA1_.out
  have A_2_ : (((W.alloc (.cells #[.int .i64 m, .slice a0 n0 cap0, .int .i64 r] 29)).alloc (.cells #[.int .i64 0, .slice none 0 0, .int .i64 0] 29))).cell? ⟨W.heap.size, 2, none⟩ = some (.int .i64 r) := cell_of_row _ _ 2 _ _ _ rA1_.out
  have R_0_ : (((W.alloc (.cells #[.int .i64 m, .slice a0 n0 cap0, .int .i64 r] 29)).alloc (.cells #[.int .i64 0, .slice none 0 0, .int .i64 0] 29))).cell? ⟨W.heap.size + 1, 0, none⟩ = some (.int .i64 0) := cell_of_row _ _ 0 _ _ _ rR2_.out
  have R_1_ : (((W.alloc (.cells #[.int .i64 m, .slice a0 n0 cap0, .int .i64 r] 29)).alloc (.cells #[.int .i64 0, .slice none 0 0, .int .i64 0] 29))).cell? ⟨W.heap.size + 1, 1, none⟩ = some (.slice none 0 0) := cell_of_row _ _ 1 _ _ _ rR2_.out
  have R_2_ : (((W.alloc (.cells #[.int .i64 m, .slice a0 n0 cap0, .int .i64 r] 29)).alloc (.cells #[.int .i64 0, .slice none 0 0, .int .i64 0] 29))).cell? ⟨W.heap.size + 1, 2, none⟩ = some (.int .i64 0) := cell_of_row _ _ 2 _ _ _ rR2_.out
  go_wp2_with fail
  go_at_call 41
  refine (copiedSnd_d _ m r _ xs (HX.out.grow G3_.out) HL.out).mono ?_
  rintro e w1 ⟨d_, rfl, o, g⟩
  have szw1 := g.size
  try simp only [World.size_alloc] at szw1 o
  try unfold vSender
  clear A_0_ A_1_ A_2_ R_0_ R_1_ R_2_
  have rA4_ := Lib.hid (show (w1).heap[W.heap.size]? = some (.cells #[.int .i64 m, .slice a0 n0 cap0, .int .i64 r] 29 (0, 0)) from row_held g rA1_.out)
  clear rA1_
  have rR5_ := Lib.hid (show (w1).heap[W.heap.size + 1]? = some (.cells #[.int .i64 0, .slice none 0 0, .int .i64 0] 29 (0, 0)) from row_held g rR2_.out)
  clear rR2_
  have G6_ := Lib.hid (show (W).grownBy (w1) none from gby_trans G3_.out g)
  obtain ⟨pd, nd, cd, hv_⟩ := RdL.form (OwU.rd o)
  subst hv_
  clear g
  have oC7_ := Lib.hid (show OwU (w1) (W.heap.size + 1 + 1) (w1.heap.size) [] [own shFrame (.slice pd nd cd) xs] from o)
  clear o
  have A_0_ : (w1).cell? ⟨W.heap.size, 0, none⟩ = some (.int .i64 m) := cell_of_row _ _ 0 _ _ _ rA4_.out
  have A_1_ : (w1).cell? ⟨W.heap.size, 1, none⟩ = some (.slice a0 n0 cap0) := cell_of_row _ _ 1 _ _ _ rA4_.out
  have A_2_ : (w1).cell? ⟨W.heap.size, 2, none⟩ = some (.int .i64 r) := cell_of_row _ _ 2 _ _ _ rA4_.out
  have Af0_ : (w1).frozen? ⟨W.heap.size, 0, none⟩ = false := frozen_of_row _ _ 0 _ _ rA4_.out
  have Af1_ : (w1).frozen? ⟨W.heap.size, 1, none⟩ = false := frozen_of_row _ _ 1 _ _ rA4_.out
  have Af2_ : (w1).frozen? ⟨W.heap.size, 2, none⟩ = false := frozen_of_row _ _ 2 _ _ rA4_.out
  have R_0_ : (w1).cell? ⟨W.heap.size + 1, 0, none⟩ = some (.int .i64 0) := cell_of_row _ _ 0 _ _ _ rR5_.out
  have R_1_ : (w1).cell? ⟨W.heap.size + 1, 1, none⟩ = some (.slice none 0 0) := cell_of_row _ _ 1 _ _ _ rR5_.out
  have R_2_ : (w1).cell? ⟨W.heap.size + 1, 2, none⟩ = some (.int .i64 0) := cell_of_row _ _ 2 _ _ _ rR5_.out
  have zA_ := Lib.hid (show ((((w1.setCell ⟨W.heap.size, 0, none⟩ (.int .i64 m)).setCell ⟨W.heap.size, 1, none⟩ (.slice pd nd cd)).setCell ⟨W.heap.size, 2, none⟩ (.int .i64 r))).heap[W.heap.size]? = some (.cells #[.int .i64 m, .slice pd nd cd, .int .i64 r] 29 (0, 0)) from (heap_setCell_same _ _ 2 _ _ _ (heap_setCell_same _ _ 1 _ _ _ (heap_setCell_same _ _ 0 _ _ _ rA4_.out))))
  have z0_ : ((((w1.setCell ⟨W.heap.size, 0, none⟩ (.int .i64 m)).setCell ⟨W.heap.size, 1, none⟩ (.slice pd nd cd)).setCell ⟨W.heap.size, 2, none⟩ (.int .i64 r))).cell? ⟨W.heap.size, 0, none⟩ = some (.int .i64 m) := cell_of_row _ _ 0 _ _ _ zA_.out
  have z1_ : ((((w1.setCell ⟨W.heap.size, 0, none⟩ (.int .i64 m)).setCell ⟨W.heap.size, 1, none⟩ (.slice pd nd cd)).setCell ⟨W.heap.size, 2, none⟩ (.int .i64 r))).cell? ⟨W.heap.size, 1, none⟩ = some (.slice pd nd cd) := cell_of_row _ _ 1 _ _ _ zA_.out
  have z2_ : ((((w1.setCell ⟨W.heap.size, 0, none⟩ (.int .i64 m)).setCell ⟨W.heap.size, 1, none⟩ (.slice pd nd cd)).setCell ⟨W.heap.size, 2, none⟩ (.int .i64 r))).cell? ⟨W.heap.size, 2, none⟩ = some (.int .i64 r) := cell_of_row _ _ 2 _ _ _ zA_.out
  go_wp2_with fail
  go_at_call 11
  clear zA_ z0_ z1_ z2_
  clear A_0_ A_1_ A_2_ Af0_ Af1_ Af2_ R_0_ R_1_ R_2_
  have rA8_ := Lib.hid (show ((((w1.setCell ⟨W.heap.size, 0, none⟩ (.int .i64 m)).setCell ⟨W.heap.size, 1, none⟩ (.slice pd nd cd)).setCell ⟨W.heap.size, 2, none⟩ (.int .i64 r))).heap[W.heap.size]? = some (.cells #[.int .i64 m, .slice pd nd cd, .int .i64 r] 29 (0, 0)) from (heap_setCell_same _ _ 2 _ _ _ (heap_setCell_same _ _ 1 _ _ _ (heap_setCell_same _ _ 0 _ _ _ rA4_.out))))
  have rR9_ := Lib.hid (show ((((w1.setCell ⟨W.heap.size, 0, none⟩ (.int .i64 m)).setCell ⟨W.heap.size, 1, none⟩ (.slice pd nd cd)).setCell ⟨W.heap.size, 2, none⟩ (.int .i64 r))).heap[W.heap.size + 1]? = some (.cells #[.int .i64 0, .slice none 0 0, .int .i64 0] 29 (0, 0)) from (set_far (set_far (set_far rR5_.out (by dsimp only; omega)) (by dsimp only; omega)) (by dsimp only; omega)))
  have oC10_ := Lib.hid (show OwU ((((w1.setCell ⟨W.heap.size, 0, none⟩ (.int .i64 m)).setCell ⟨W.heap.size, 1, none⟩ (.slice pd nd cd)).setCell ⟨W.heap.size, 2, none⟩ (.int .i64 r))) (W.heap.size + 1 + 1) (w1.heap.size) [] [own shFrame (.slice pd nd cd) xs] from (OwU.keep (chg_one _ (W.heap.size) 2 (.int .i64 r)) (by omega) (OwU.keep (chg_one _ (W.heap.size) 1 (.slice pd nd cd)) (by omega) (OwU.keep (chg_one _ (W.heap.size) 0 (.int .i64 m)) (by omega) oC7_.out))))
  have G11_ := Lib.hid (show (W).grownBy ((((w1.setCell ⟨W.heap.size, 0, none⟩ (.int .i64 m)).setCell ⟨W.heap.size, 1, none⟩ (.slice pd nd cd)).setCell ⟨W.heap.size, 2, none⟩ (.int .i64 r))) none from (gby_setnew (gby_setnew (gby_setnew G6_.out _ (by dsimp only; omega) _) _ (by dsimp only; omega) _) _ (by dsimp only; omega) _))
  have hszwc_ : ((((w1.setCell ⟨W.heap.size, 0, none⟩ (.int .i64 m)).setCell ⟨W.heap.size, 1, none⟩ (.slice pd nd cd)).setCell ⟨W.heap.size, 2, none⟩ (.int .i64 r))).heap.size = (w1).heap.size := by first | rfl | simp only [World.size_setCell]
  generalize (((w1.setCell ⟨W.heap.size, 0, none⟩ (.int .i64 m)).setCell ⟨W.heap.size, 1, none⟩ (.slice pd nd cd)).setCell ⟨W.heap.size, 2, none⟩ (.int .i64 r)) = wc at rA8_ rR9_ oC10_ G11_ hszwc_ ⊢
  try simp only [World.size_alloc] at hszwc_
  clear rA4_
  clear rR5_
  clear oC7_
  refine ((implSnd _ m r _ xs (OwU.rd oC10_.out) HL.out).mono (bpost_no HV.out)).mono ?_
  rintro e w2 ⟨rfl, g⟩
  have szw2 := g.size
  have rA12_ := Lib.hid (show (w2).heap[W.heap.size]? = some (.cells #[.int .i64 m, .slice pd nd cd, .int .i64 r] 29 (0, 0)) from row_held g rA8_.out)
  clear rA8_
  have rR13_ := Lib.hid (show (w2).heap[W.heap.size + 1]? = some (.cells #[.int .i64 0, .slice none 0 0, .int .i64 0] 29 (0, 0)) from row_held g rR9_.out)
  clear rR9_
  have oC14_ := Lib.hid (show OwU (w2) (W.heap.size + 1 + 1) (w1.heap.size) [] [own shFrame (.slice pd nd cd) xs] from OwU.grow oC10_.out g)
  clear oC10_
  have G15_ := Lib.hid (show (W).grownBy (w2) none from gby_trans G11_.out g)
  clear g
  have A_0_ : (w2).cell? ⟨W.heap.size, 0, none⟩ = some (.int .i64 m) := cell_of_row _ _ 0 _ _ _ rA12_.out
  have A_1_ : (w2).cell? ⟨W.heap.size, 1, none⟩ = some (.slice pd nd cd) := cell_of_row _ _ 1 _ _ _ rA12_.out
  have A_2_ : (w2).cell? ⟨W.heap.size, 2, none⟩ = some (.int .i64 r) := cell_of_row _ _ 2 _ _ _ rA12_.out
  have R_0_ : (w2).cell? ⟨W.heap.size + 1, 0, none⟩ = some (.int .i64 0) := cell_of_row _ _ 0 _ _ _ rR13_.out
  have R_1_ : (w2).cell? ⟨W.heap.size + 1, 1, none⟩ = some (.slice none 0 0) := cell_of_row _ _ 1 _ _ _ rR13_.out
  have R_2_ : (w2).cell? ⟨W.heap.size + 1, 2, none⟩ = some (.int .i64 0) := cell_of_row _ _ 2 _ _ _ rR13_.out
  clear A_0_ A_1_ A_2_ R_0_ R_1_ R_2_
  have A_0_ : (w2).cell? ⟨W.heap.size, 0, none⟩ = some (.int .i64 m) := cell_of_row _ _ 0 _ _ _ rA12_.out
  have A_1_ : (w2).cell? ⟨W.heap.size, 1, none⟩ = some (.slice pd nd cd) := cell_of_row _ _ 1 _ _ _ rA12_.out
  have A_2_ : (w2).cell? ⟨W.heap.size, 2, none⟩ = some (.int .i64 r) := cell_of_row _ _ 2 _ _ _ rA12_.out
  have R_0_ : (w2).cell? ⟨W.heap.size + 1, 0, none⟩ = some (.int .i64 0) := cell_of_row _ _ 0 _ _ _ rR13_.out
  have R_1_ : (w2).cell? ⟨W.heap.size + 1, 1, none⟩ = some (.slice none 0 0) := cell_of_row _ _ 1 _ _ _ rR13_.out
  have R_2_ : (w2).cell? ⟨W.heap.size + 1, 2, none⟩ = some (.int .i64 0) := cell_of_row _ _ 2 _ _ _ rR13_.out
  have Rf0_ : (w2).frozen? ⟨W.heap.size + 1, 0, none⟩ = false := frozen_of_row _ _ 0 _ _ rR13_.out
  have Rf1_ : (w2).frozen? ⟨W.heap.size + 1, 1, none⟩ = false := frozen_of_row _ _ 1 _ _ rR13_.out
  have Rf2_ : (w2).frozen? ⟨W.heap.size + 1, 2, none⟩ = false := frozen_of_row _ _ 2 _ _ rR13_.out
  have hlo_ : W.heap.size ≤ W.heap.size + 1 + 1 := by omega
  go_wp2
  refine bodyPost_ret (v := .tuple #[.agg #[.int .i64 m, .slice pd nd cd, .int .i64 r], .bool false]) (by simp [results, go_sem, R_0_, R_1_, R_2_]) rfl ⟨_, rfl, ?_, ?_⟩
  · exact OwU.wide (lo := W.heap.size + 1 + 1) (hi := w1.heap.size) hlo_ (by simp only [World.size_setCell]; omega) (OwU.keep (chg_one _ (W.heap.size + 1) 2 (.int .i64 r)) (by omega) (OwU.keep (chg_one _ (W.heap.size + 1) 1 (.slice pd nd cd)) (by omega) (OwU.keep (chg_one _ (W.heap.size + 1) 0 (.int .i64 m)) (by omega) oC14_.out)))
  · exact (gby_setnew (gby_setnew (gby_setnew G15_.out _ (by dsimp only; omega) _) _ (by dsimp only; omega) _) _ (by dsimp only; omega) _)

set_option maxRecDepth 8000 in
set_option maxHeartbeats 4000000 in
theorem implQu_nob (W : World) (m r : Int) (v : Value) (xs : List DFrame) (H : RdL shFrame W v xs) (hl : szL shFrame xs ≤ 1048576) (u : Value) (ys : List Int) (Hu : RdL shI W u ys) (hly : szL shI ys ≤ 1048576) (hv : SndP m r xs) (hb : ¬ AreB ys) : Calls Try.prog 26 #[.agg #[.int .i64 m, v, .int .i64 r], u] W (ResIQueueFrame m xs r false W) := by
  have HV := Lib.hid hv
  clear hv
  have HBY := Lib.hid (show false = decide (AreB ys) from (decide_eq_false hb).symm)
  clear hb
  have HYL := Lib.hid hly
  obtain ⟨pu, nu, cu, rfl⟩ := RdL.form Hu
  have HY := Lib.hid Hu
  clear hly Hu
  have HX := Lib.hid H
  have HL := Lib.hid hl
  obtain ⟨a0, n0, cap0, rfl⟩ := RdL.form H
  have hn0 : n0 = xs.length := by obtain ⟨_, _, e, _⟩ := H; injection e
  have HE := Lib.hid hn0
  have hlx : n0 ≤ 1048576 := by have := szL_len shFrame xs; omega
  clear H hl hn0
  go_enter Try.func26, Try.ntmps26
  have rA1_ := Lib.hid (show (((W.alloc (.cells #[.int .i64 m, .slice a0 n0 cap0, .int .i64 r] 29)).alloc (.cells #[.int .i64 0, .slice none 0 0, .int .i64 0] 29))).heap[W.heap.size]? = some (.cells #[.int .i64 m, .slice a0 n0 cap0, .int .i64 r] 29 (0, 0)) from by rw [heap_alloc_old _ _ (by simp only [World.size_alloc]; omega)]; exact heap_alloc_new _ _)
  have rR2_ := Lib.hid (show (((W.alloc (.cells #[.int .i64 m, .slice a0 n0 cap0, .int .i64 r] 29)).alloc (.cells #[.int .i64 0, .slice none 0 0, .int .i64 0] 29))).heap[W.heap.size + 1]? = some (.cells #[.int .i64 0, .slice none 0 0, .int .i64 0] 29 (0, 0)) from by exact heap_pair _ _ _)
  have G3_ := Lib.hid (show (W).grownBy (((W.alloc (.cells #[.int .i64 m, .slice a0 n0 cap0, .int .i64 r] 29)).alloc (.cells #[.int .i64 0, .slice none 0 0, .int .i64 0] 29))) none from (gby_alloc (gby_alloc (gby_refl _ _) _) _))
  have A_0_ : (((W.alloc (.cells #[.int .i64 m, .slice a0 n0 cap0, .int .i64 r] 29)).alloc (.cells #[.int .i64 0, .slice none 0 0, .int .i64 0] 29))).cell? ⟨W.heap.size, 0, none⟩ = some (.int .i64 m) := cell_of_row _ _ 0 _ _ _ rA1_.out
  have A_1_ : (((W.alloc (.cells #[.int .i64 m, .slice a0 n0 cap0, .int .i64 r] 29)).alloc (.cells #[.int .i64 0, .slice none 0 0, .int .i64 0] 29))).cell? ⟨W.heap.size, 1, none⟩ = some (.slice a0 n0 cap0) := cell_of_row _ _ 1 _ _ _ rA1_.out
  have A_2_ : (((W.alloc (.cells #[.int .i64 m, .slice a0 n0 cap0, .int .i64 r] 29)).alloc (.cells #[.int .i64 0, .slice none 0 0, .int .i64 0] 29))).cell? ⟨W.heap.size, 2, none⟩ = some (.int .i64 r) := cell_of_row _ _ 2 _ _ _ rA1_.out
  have R_0_ : (((W.alloc (.cells #[.int .i64 m, .slice a0 n0 cap0, .int .i64 r] 29)).alloc (.cells #[.int .i64 0, .slice none 0 0, .int .i64 0] 29))).cell? ⟨W.heap.size + 1, 0, none⟩ = some (.int .i64 0) := cell_of_row _ _ 0 _ _ _ rR2_.out
  have R_1_ : (((W.alloc (.cells #[.int .i64 m, .slice a0 n0 cap0, .int .i64 r] 29)).alloc (.cells #[.int .i64 0, .slice none 0 0, .int .i64 0] 29))).cell? ⟨W.heap.size + 1, 1, none⟩ = some (.slice none 0 0) := cell_of_row _ _ 1 _ _ _ rR2_.out
  have R_2_ : (((W.alloc (.cells #[.int .i64 m, .slice a0 n0 cap0, .int .i64 r] 29)).alloc (.cells #[.int .i64 0, .slice none 0 0, .int .i64 0] 29))).cell? ⟨W.heap.size + 1, 2, none⟩ = some (.int .i64 0) := cell_of_row _ _ 2 _ _ _ rR2_.out
  go_wp2_with fail
  go_at_call 41
  refine (copiedSnd_d _ m r _ xs (HX.out.grow G3_.out) HL.out).mono ?_
  rintro e w1 ⟨d_, rfl, o, g⟩
  have szw1 := g.size
  try simp only [World.size_alloc] at szw1 o
  try unfold vSender
  clear A_0_ A_1_ A_2_ R_0_ R_1_ R_2_
  have rA4_ := Lib.hid (show (w1).heap[W.heap.size]? = some (.cells #[.int .i64 m, .slice a0 n0 cap0, .int .i64 r] 29 (0, 0)) from row_held g rA1_.out)
  clear rA1_
  have rR5_ := Lib.hid (show (w1).heap[W.heap.size + 1]? = some (.cells #[.int .i64 0, .slice none 0 0, .int .i64 0] 29 (0, 0)) from row_held g rR2_.out)
  clear rR2_
  have G6_ := Lib.hid (show (W).grownBy (w1) none from gby_trans G3_.out g)
  obtain ⟨pd, nd, cd, hv_⟩ := RdL.form (OwU.rd o)
  subst hv_
  clear g
  have oC7_ := Lib.hid (show OwU (w1) (W.heap.size + 1 + 1) (w1.heap.size) [] [own shFrame (.slice pd nd cd) xs] from o)
  clear o
  have A_0_ : (w1).cell? ⟨W.heap.size, 0, none⟩ = some (.int .i64 m) := cell_of_row _ _ 0 _ _ _ rA4_.out
  have A_1_ : (w1).cell? ⟨W.heap.size, 1, none⟩ = some (.slice a0 n0 cap0) := cell_of_row _ _ 1 _ _ _ rA4_.out
  have A_2_ : (w1).cell? ⟨W.heap.size, 2, none⟩ = some (.int .i64 r) := cell_of_row _ _ 2 _ _ _ rA4_.out
  have Af0_ : (w1).frozen? ⟨W.heap.size, 0, none⟩ = false := frozen_of_row _ _ 0 _ _ rA4_.out
  have Af1_ : (w1).frozen? ⟨W.heap.size, 1, none⟩ = false := frozen_of_row _ _ 1 _ _ rA4_.out
  have Af2_ : (w1).frozen? ⟨W.heap.size, 2, none⟩ = false := frozen_of_row _ _ 2 _ _ rA4_.out
  have R_0_ : (w1).cell? ⟨W.heap.size + 1, 0, none⟩ = some (.int .i64 0) := cell_of_row _ _ 0 _ _ _ rR5_.out
  have R_1_ : (w1).cell? ⟨W.heap.size + 1, 1, none⟩ = some (.slice none 0 0) := cell_of_row _ _ 1 _ _ _ rR5_.out
  have R_2_ : (w1).cell? ⟨W.heap.size + 1, 2, none⟩ = some (.int .i64 0) := cell_of_row _ _ 2 _ _ _ rR5_.out
  have zA_ := Lib.hid (show ((((w1.setCell ⟨W.heap.size, 0, none⟩ (.int .i64 m)).setCell ⟨W.heap.size, 1, none⟩ (.slice pd nd cd)).setCell ⟨W.heap.size, 2, none⟩ (.int .i64 r))).heap[W.heap.size]? = some (.cells #[.int .i64 m, .slice pd nd cd, .int .i64 r] 29 (0, 0)) from (heap_setCell_same _ _ 2 _ _ _ (heap_setCell_same _ _ 1 _ _ _ (heap_setCell_same _ _ 0 _ _ _ rA4_.out))))
  have z0_ : ((((w1.setCell ⟨W.heap.size, 0, none⟩ (.int .i64 m)).setCell ⟨W.heap.size, 1, none⟩ (.slice pd nd cd)).setCell ⟨W.heap.size, 2, none⟩ (.int .i64 r))).cell? ⟨W.heap.size, 0, none⟩ = some (.int .i64 m) := cell_of_row _ _ 0 _ _ _ zA_.out
  have z1_ : ((((w1.setCell ⟨W.heap.size, 0, none⟩ (.int .i64 m)).setCell ⟨W.heap.size, 1, none⟩ (.slice pd nd cd)).setCell ⟨W.heap.size, 2, none⟩ (.int .i64 r))).cell? ⟨W.heap.size, 1, none⟩ = some (.slice pd nd cd) := cell_of_row _ _ 1 _ _ _ zA_.out
  have z2_ : ((((w1.setCell ⟨W.heap.size, 0, none⟩ (.int .i64 m)).setCell ⟨W.heap.size, 1, none⟩ (.slice pd nd cd)).setCell ⟨W.heap.size, 2, none⟩ (.int .i64 r))).cell? ⟨W.heap.size, 2, none⟩ = some (.int .i64 r) := cell_of_row _ _ 2 _ _ _ zA_.out
  go_wp2_with fail
  go_at_call 11
  clear zA_ z0_ z1_ z2_
  clear A_0_ A_1_ A_2_ Af0_ Af1_ Af2_ R_0_ R_1_ R_2_
  have rA8_ := Lib.hid (show ((((w1.setCell ⟨W.heap.size, 0, none⟩ (.int .i64 m)).setCell ⟨W.heap.size, 1, none⟩ (.slice pd nd cd)).setCell ⟨W.heap.size, 2, none⟩ (.int .i64 r))).heap[W.heap.size]? = some (.cells #[.int .i64 m, .slice pd nd cd, .int .i64 r] 29 (0, 0)) from (heap_setCell_same _ _ 2 _ _ _ (heap_setCell_same _ _ 1 _ _ _ (heap_setCell_same _ _ 0 _ _ _ rA4_.out))))
  have rR9_ := Lib.hid (show ((((w1.setCell ⟨W.heap.size, 0, none⟩ (.int .i64 m)).setCell ⟨W.heap.size, 1, none⟩ (.slice pd nd cd)).setCell ⟨W.heap.size, 2, none⟩ (.int .i64 r))).heap[W.heap.size + 1]? = some (.cells #[.int .i64 0, .slice none 0 0, .int .i64 0] 29 (0, 0)) from (set_far (set_far (set_far rR5_.out (by dsimp only; omega)) (by dsimp only; omega)) (by dsimp only; omega)))
  have oC10_ := Lib.hid (show OwU ((((w1.setCell ⟨W.heap.size, 0, none⟩ (.int .i64 m)).setCell ⟨W.heap.size, 1, none⟩ (.slice pd nd cd)).setCell ⟨W.heap.size, 2, none⟩ (.int .i64 r))) (W.heap.size + 1 + 1) (w1.heap.size) [] [own shFrame (.slice pd nd cd) xs] from (OwU.keep (chg_one _ (W.heap.size) 2 (.int .i64 r)) (by omega) (OwU.keep (chg_one _ (W.heap.size) 1 (.slice pd nd cd)) (by omega) (OwU.keep (chg_one _ (W.heap.size) 0 (.int .i64 m)) (by omega) oC7_.out))))
  have G11_ := Lib.hid (show (W).grownBy ((((w1.setCell ⟨W.heap.size, 0, none⟩ (.int .i64 m)).setCell ⟨W.heap.size, 1, none⟩ (.slice pd nd cd)).setCell ⟨W.heap.size, 2, none⟩ (.int .i64 r))) none from (gby_setnew (gby_setnew (gby_setnew G6_.out _ (by dsimp only; omega) _) _ (by dsimp only; omega) _) _ (by dsimp only; omega) _))
  have hszwc_ : ((((w1.setCell ⟨W.heap.size, 0, none⟩ (.int .i64 m)).setCell ⟨W.heap.size, 1, none⟩ (.slice pd nd cd)).setCell ⟨W.heap.size, 2, none⟩ (.int .i64 r))).heap.size = (w1).heap.size := by first | rfl | simp only [World.size_setCell]
  generalize (((w1.setCell ⟨W.heap.size, 0, none⟩ (.int .i64 m)).setCell ⟨W.heap.size, 1, none⟩ (.slice pd nd cd)).setCell ⟨W.heap.size, 2, none⟩ (.int .i64 r)) = wc at rA8_ rR9_ oC10_ G11_ hszwc_ ⊢
  try simp only [World.size_alloc] at hszwc_
  clear rA4_
  clear rR5_
  clear oC7_
  refine ((implSnd _ m r _ xs (OwU.rd oC10_.out) HL.out).mono (bpost_yes HV.out)).mono ?_
  rintro e w2 ⟨rfl, g⟩
  have szw2 := g.size
  have rA12_ := Lib.hid (show (w2).heap[W.heap.size]? = some (.cells #[.int .i64 m, .slice pd nd cd, .int .i64 r] 29 (0, 0)) from row_held g rA8_.out)
  clear rA8_
  have rR13_ := Lib.hid (show (w2).heap[W.heap.size + 1]? = some (.cells #[.int .i64 0, .slice none 0 0, .int .i64 0] 29 (0, 0)) from row_held g rR9_.out)
  clear rR9_
  have oC14_ := Lib.hid (show OwU (w2) (W.heap.size + 1 + 1) (w1.heap.size) [] [own shFrame (.slice pd nd cd) xs] from OwU.grow oC10_.out g)
  clear oC10_
  have G15_ := Lib.hid (show (W).grownBy (w2) none from gby_trans G11_.out g)
  clear g
  have A_0_ : (w2).cell? ⟨W.heap.size, 0, none⟩ = some (.int .i64 m) := cell_of_row _ _ 0 _ _ _ rA12_.out
  have A_1_ : (w2).cell? ⟨W.heap.size, 1, none⟩ = some (.slice pd nd cd) := cell_of_row _ _ 1 _ _ _ rA12_.out
  have A_2_ : (w2).cell? ⟨W.heap.size, 2, none⟩ = some (.int .i64 r) := cell_of_row _ _ 2 _ _ _ rA12_.out
  have R_0_ : (w2).cell? ⟨W.heap.size + 1, 0, none⟩ = some (.int .i64 0) := cell_of_row _ _ 0 _ _ _ rR13_.out
  have R_1_ : (w2).cell? ⟨W.heap.size + 1, 1, none⟩ = some (.slice none 0 0) := cell_of_row _ _ 1 _ _ _ rR13_.out
  have R_2_ : (w2).cell? ⟨W.heap.size + 1, 2, none⟩ = some (.int .i64 0) := cell_of_row _ _ 2 _ _ _ rR13_.out
  have hnd_ : n0 = nd := by obtain ⟨_, _, e_, _⟩ := OwU.rd oC14_.out; injection e_ with e1_ e2_ e3_; rw [e2_]; exact HE.out
  subst hnd_
  clear A_0_ A_1_ A_2_ R_0_ R_1_ R_2_
  have A_0_ : (w2).cell? ⟨W.heap.size, 0, none⟩ = some (.int .i64 m) := cell_of_row _ _ 0 _ _ _ rA12_.out
  have A_1_ : (w2).cell? ⟨W.heap.size, 1, none⟩ = some (.slice pd n0 cd) := cell_of_row _ _ 1 _ _ _ rA12_.out
  have A_2_ : (w2).cell? ⟨W.heap.size, 2, none⟩ = some (.int .i64 r) := cell_of_row _ _ 2 _ _ _ rA12_.out
  go_wp2_with fail
  go_at_call 50
  refine (queue_nob _ _ 0 m r pd n0 cd xs pu nu cu ys rA12_.out (HY.out.grow G15_.out) HYL.out HE.out (of_decide_eq_false HBY.out.symm)).mono ?_
  rintro e w3 ⟨rfl, g⟩
  have szw3 := g.size
  try simp only [World.size_alloc] at szw3
  try simp only [World.size_setCell] at szw3
  clear A_0_ A_1_ A_2_
  have rA16_ := Lib.hid (show (w3).heap[W.heap.size]? = some (.cells #[.int .i64 m, .slice pd n0 cd, .int .i64 r] 29 (0, 0)) from row_held g rA12_.out)
  clear rA12_
  have rR17_ := Lib.hid (show (w3).heap[W.heap.size + 1]? = some (.cells #[.int .i64 0, .slice none 0 0, .int .i64 0] 29 (0, 0)) from row_held g rR13_.out)
  clear rR13_
  have oC18_ := Lib.hid (show OwU (w3) (W.heap.size + 1 + 1) (w1.heap.size) [] [own shFrame (.slice pd n0 cd) xs] from OwU.grow oC14_.out g)
  clear oC14_
  have G19_ := Lib.hid (show (W).grownBy (w3) none from gby_trans G15_.out g)
  clear g
  have A_0_ : (w3).cell? ⟨W.heap.size, 0, none⟩ = some (.int .i64 m) := cell_of_row _ _ 0 _ _ _ rA16_.out
  have A_1_ : (w3).cell? ⟨W.heap.size, 1, none⟩ = some (.slice pd n0 cd) := cell_of_row _ _ 1 _ _ _ rA16_.out
  have A_2_ : (w3).cell? ⟨W.heap.size, 2, none⟩ = some (.int .i64 r) := cell_of_row _ _ 2 _ _ _ rA16_.out
  have R_0_ : (w3).cell? ⟨W.heap.size + 1, 0, none⟩ = some (.int .i64 0) := cell_of_row _ _ 0 _ _ _ rR17_.out
  have R_1_ : (w3).cell? ⟨W.heap.size + 1, 1, none⟩ = some (.slice none 0 0) := cell_of_row _ _ 1 _ _ _ rR17_.out
  have R_2_ : (w3).cell? ⟨W.heap.size + 1, 2, none⟩ = some (.int .i64 0) := cell_of_row _ _ 2 _ _ _ rR17_.out
  clear A_0_ A_1_ A_2_ R_0_ R_1_ R_2_
  have A_0_ : (w3).cell? ⟨W.heap.size, 0, none⟩ = some (.int .i64 m) := cell_of_row _ _ 0 _ _ _ rA16_.out
  have A_1_ : (w3).cell? ⟨W.heap.size, 1, none⟩ = some (.slice pd n0 cd) := cell_of_row _ _ 1 _ _ _ rA16_.out
  have A_2_ : (w3).cell? ⟨W.heap.size, 2, none⟩ = some (.int .i64 r) := cell_of_row _ _ 2 _ _ _ rA16_.out
  have R_0_ : (w3).cell? ⟨W.heap.size + 1, 0, none⟩ = some (.int .i64 0) := cell_of_row _ _ 0 _ _ _ rR17_.out
  have R_1_ : (w3).cell? ⟨W.heap.size + 1, 1, none⟩ = some (.slice none 0 0) := cell_of_row _ _ 1 _ _ _ rR17_.out
  have R_2_ : (w3).cell? ⟨W.heap.size + 1, 2, none⟩ = some (.int .i64 0) := cell_of_row _ _ 2 _ _ _ rR17_.out
  have Rf0_ : (w3).frozen? ⟨W.heap.size + 1, 0, none⟩ = false := frozen_of_row _ _ 0 _ _ rR17_.out
  have Rf1_ : (w3).frozen? ⟨W.heap.size + 1, 1, none⟩ = false := frozen_of_row _ _ 1 _ _ rR17_.out
  have Rf2_ : (w3).frozen? ⟨W.heap.size + 1, 2, none⟩ = false := frozen_of_row _ _ 2 _ _ rR17_.out
  have hlo_ : W.heap.size ≤ W.heap.size + 1 + 1 := by omega
  go_wp2
  refine bodyPost_ret (v := .tuple #[.agg #[.int .i64 m, .slice pd n0 cd, .int .i64 r], .bool false]) (by simp [results, go_sem, R_0_, R_1_, R_2_]) rfl ⟨_, rfl, ?_, ?_⟩
  · exact OwU.wide (lo := W.heap.size + 1 + 1) (hi := w1.heap.size) hlo_ (by simp only [World.size_setCell]; omega) (OwU.keep (chg_one _ (W.heap.size + 1) 2 (.int .i64 r)) (by omega) (OwU.keep (chg_one _ (W.heap.size + 1) 1 (.slice pd n0 cd)) (by omega) (OwU.keep (chg_one _ (W.heap.size + 1) 0 (.int .i64 m)) (by omega) oC18_.out)))
  · exact (gby_setnew (gby_setnew (gby_setnew G19_.out _ (by dsimp only; omega) _) _ (by dsimp only; omega) _) _ (by dsimp only; omega) _)

set_option maxRecDepth 8000 in
set_option maxHeartbeats 4000000 in
theorem implQu_full (W : World) (m r : Int) (v : Value) (xs : List DFrame) (H : RdL shFrame W v xs) (hl : szL shFrame xs ≤ 1048576) (u : Value) (ys : List Int) (Hu : RdL shI W u ys) (hly : szL shI ys ≤ 1048576) (hv : SndP m r xs) (hb : AreB ys) (h7 : xs.length = 7) : Calls Try.prog 26 #[.agg #[.int .i64 m, v, .int .i64 r], u] W (ResIQueueFrame m xs r false W) := by
  have HV := Lib.hid hv
  clear hv
  have HBY := Lib.hid (show true = decide (AreB ys) from (decide_eq_true hb).symm)
  clear hb
  have HF7 := Lib.hid h7
  clear h7
  have HYL := Lib.hid hly
  obtain ⟨pu, nu, cu, rfl⟩ := RdL.form Hu
  have HY := Lib.hid Hu
  clear hly Hu
  have HX := Lib.hid H
  have HL := Lib.hid hl
  obtain ⟨a0, n0, cap0, rfl⟩ := RdL.form H
  have hn0 : n0 = xs.length := by obtain ⟨_, _, e, _⟩ := H; injection e
  have HE := Lib.hid hn0
  have hlx : n0 ≤ 1048576 := by have := szL_len shFrame xs; omega
  clear H hl hn0
  go_enter Try.func26, Try.ntmps26
  have rA1_ := Lib.hid (show (((W.alloc (.cells #[.int .i64 m, .slice a0 n0 cap0, .int .i64 r] 29)).alloc (.cells #[.int .i64 0, .slice none 0 0, .int .i64 0] 29))).heap[W.heap.size]? = some (.cells #[.int .i64 m, .slice a0 n0 cap0, .int .i64 r] 29 (0, 0)) from by rw [heap_alloc_old _ _ (by simp only [World.size_alloc]; omega)]; exact heap_alloc_new _ _)
  have rR2_ := Lib.hid (show (((W.alloc (.cells #[.int .i64 m, .slice a0 n0 cap0, .int .i64 r] 29)).alloc (.cells #[.int .i64 0, .slice none 0 0, .int .i64 0] 29))).heap[W.heap.size + 1]? = some (.cells #[.int .i64 0, .slice none 0 0, .int .i64 0] 29 (0, 0)) from by exact heap_pair _ _ _)
  have G3_ := Lib.hid (show (W).grownBy (((W.alloc (.cells #[.int .i64 m, .slice a0 n0 cap0, .int .i64 r] 29)).alloc (.cells #[.int .i64 0, .slice none 0 0, .int .i64 0] 29))) none from (gby_alloc (gby_alloc (gby_refl _ _) _) _))
  have A_0_ : (((W.alloc (.cells #[.int .i64 m, .slice a0 n0 cap0, .int .i64 r] 29)).alloc (.cells #[.int .i64 0, .slice none 0 0, .int .i64 0] 29))).cell? ⟨W.heap.size, 0, none⟩ = some (.int .i64 m) := cell_of_row _ _ 0 _ _ _ rA1_.out
  have A_1_ : (((W.alloc (.cells #[.int .i64 m, .slice a0 n0 cap0, .int .i64 r] 29)).alloc (.cells #[.int .i64 0, .slice none 0 0, .int .i64 0] 29))).cell? ⟨W.heap.size, 1, none⟩ = some (.slice a0 n0 cap0) := cell_of_row _ _ 1 _ _ _ rA1_.out
  have A_2_ : (((W.alloc (.cells #[.int .i64 m, .slice a0 n0 cap0, .int .i64 r] 29)).alloc (.cells #[.int .i64 0, .slice none 0 0, .int .i64 0] 29))).cell? ⟨W.heap.size, 2, none⟩ = some (.int .i64 r) := cell_of_row _ _ 2 _ _ _ rA1_.out
  have R_0_ : (((W.alloc (.cells #[.int .i64 m, .slice a0 n0 cap0, .int .i64 r] 29)).alloc (.cells #[.int .i64 0, .slice none 0 0, .int .i64 0] 29))).cell? ⟨W.heap.size + 1, 0, none⟩ = some (.int .i64 0) := cell_of_row _ _ 0 _ _ _ rR2_.out
  have R_1_ : (((W.alloc (.cells #[.int .i64 m, .slice a0 n0 cap0, .int .i64 r] 29)).alloc (.cells #[.int .i64 0, .slice none 0 0, .int .i64 0] 29))).cell? ⟨W.heap.size + 1, 1, none⟩ = some (.slice none 0 0) := cell_of_row _ _ 1 _ _ _ rR2_.out
  have R_2_ : (((W.alloc (.cells #[.int .i64 m, .slice a0 n0 cap0, .int .i64 r] 29)).alloc (.cells #[.int .i64 0, .slice none 0 0, .int .i64 0] 29))).cell? ⟨W.heap.size + 1, 2, none⟩ = some (.int .i64 0) := cell_of_row _ _ 2 _ _ _ rR2_.out
  go_wp2_with fail
  go_at_call 41
  refine (copiedSnd_d _ m r _ xs (HX.out.grow G3_.out) HL.out).mono ?_
  rintro e w1 ⟨d_, rfl, o, g⟩
  have szw1 := g.size
  try simp only [World.size_alloc] at szw1 o
  try unfold vSender
  clear A_0_ A_1_ A_2_ R_0_ R_1_ R_2_
  have rA4_ := Lib.hid (show (w1).heap[W.heap.size]? = some (.cells #[.int .i64 m, .slice a0 n0 cap0, .int .i64 r] 29 (0, 0)) from row_held g rA1_.out)
  clear rA1_
  have rR5_ := Lib.hid (show (w1).heap[W.heap.size + 1]? = some (.cells #[.int .i64 0, .slice none 0 0, .int .i64 0] 29 (0, 0)) from row_held g rR2_.out)
  clear rR2_
  have G6_ := Lib.hid (show (W).grownBy (w1) none from gby_trans G3_.out g)
  obtain ⟨pd, nd, cd, hv_⟩ := RdL.form (OwU.rd o)
  subst hv_
  clear g
  have oC7_ := Lib.hid (show OwU (w1) (W.heap.size + 1 + 1) (w1.heap.size) [] [own shFrame (.slice pd nd cd) xs] from o)
  clear o
  have A_0_ : (w1).cell? ⟨W.heap.size, 0, none⟩ = some (.int .i64 m) := cell_of_row _ _ 0 _ _ _ rA4_.out
  have A_1_ : (w1).cell? ⟨W.heap.size, 1, none⟩ = some (.slice a0 n0 cap0) := cell_of_row _ _ 1 _ _ _ rA4_.out
  have A_2_ : (w1).cell? ⟨W.heap.size, 2, none⟩ = some (.int .i64 r) := cell_of_row _ _ 2 _ _ _ rA4_.out
  have Af0_ : (w1).frozen? ⟨W.heap.size, 0, none⟩ = false := frozen_of_row _ _ 0 _ _ rA4_.out
  have Af1_ : (w1).frozen? ⟨W.heap.size, 1, none⟩ = false := frozen_of_row _ _ 1 _ _ rA4_.out
  have Af2_ : (w1).frozen? ⟨W.heap.size, 2, none⟩ = false := frozen_of_row _ _ 2 _ _ rA4_.out
  have R_0_ : (w1).cell? ⟨W.heap.size + 1, 0, none⟩ = some (.int .i64 0) := cell_of_row _ _ 0 _ _ _ rR5_.out
  have R_1_ : (w1).cell? ⟨W.heap.size + 1, 1, none⟩ = some (.slice none 0 0) := cell_of_row _ _ 1 _ _ _ rR5_.out
  have R_2_ : (w1).cell? ⟨W.heap.size + 1, 2, none⟩ = some (.int .i64 0) := cell_of_row _ _ 2 _ _ _ rR5_.out
  have zA_ := Lib.hid (show ((((w1.setCell ⟨W.heap.size, 0, none⟩ (.int .i64 m)).setCell ⟨W.heap.size, 1, none⟩ (.slice pd nd cd)).setCell ⟨W.heap.size, 2, none⟩ (.int .i64 r))).heap[W.heap.size]? = some (.cells #[.int .i64 m, .slice pd nd cd, .int .i64 r] 29 (0, 0)) from (heap_setCell_same _ _ 2 _ _ _ (heap_setCell_same _ _ 1 _ _ _ (heap_setCell_same _ _ 0 _ _ _ rA4_.out))))
  have z0_ : ((((w1.setCell ⟨W.heap.size, 0, none⟩ (.int .i64 m)).setCell ⟨W.heap.size, 1, none⟩ (.slice pd nd cd)).setCell ⟨W.heap.size, 2, none⟩ (.int .i64 r))).cell? ⟨W.heap.size, 0, none⟩ = some (.int .i64 m) := cell_of_row _ _ 0 _ _ _ zA_.out
  have z1_ : ((((w1.setCell ⟨W.heap.size, 0, none⟩ (.int .i64 m)).setCell ⟨W.heap.size, 1, none⟩ (.slice pd nd cd)).setCell ⟨W.heap.size, 2, none⟩ (.int .i64 r))).cell? ⟨W.heap.size, 1, none⟩ = some (.slice pd nd cd) := cell_of_row _ _ 1 _ _ _ zA_.out
  have z2_ : ((((w1.setCell ⟨W.heap.size, 0, none⟩ (.int .i64 m)).setCell ⟨W.heap.size, 1, none⟩ (.slice pd nd cd)).setCell ⟨W.heap.size, 2, none⟩ (.int .i64 r))).cell? ⟨W.heap.size, 2, none⟩ = some (.int .i64 r) := cell_of_row _ _ 2 _ _ _ zA_.out
  go_wp2_with fail
  go_at_call 11
  clear zA_ z0_ z1_ z2_
  clear A_0_ A_1_ A_2_ Af0_ Af1_ Af2_ R_0_ R_1_ R_2_
  have rA8_ := Lib.hid (show ((((w1.setCell ⟨W.heap.size, 0, none⟩ (.int .i64 m)).setCell ⟨W.heap.size, 1, none⟩ (.slice pd nd cd)).setCell ⟨W.heap.size, 2, none⟩ (.int .i64 r))).heap[W.heap.size]? = some (.cells #[.int .i64 m, .slice pd nd cd, .int .i64 r] 29 (0, 0)) from (heap_setCell_same _ _ 2 _ _ _ (heap_setCell_same _ _ 1 _ _ _ (heap_setCell_same _ _ 0 _ _ _ rA4_.out))))
  have rR9_ := Lib.hid (show ((((w1.setCell ⟨W.heap.size, 0, none⟩ (.int .i64 m)).setCell ⟨W.heap.size, 1, none⟩ (.slice pd nd cd)).setCell ⟨W.heap.size, 2, none⟩ (.int .i64 r))).heap[W.heap.size + 1]? = some (.cells #[.int .i64 0, .slice none 0 0, .int .i64 0] 29 (0, 0)) from (set_far (set_far (set_far rR5_.out (by dsimp only; omega)) (by dsimp only; omega)) (by dsimp only; omega)))
  have oC10_ := Lib.hid (show OwU ((((w1.setCell ⟨W.heap.size, 0, none⟩ (.int .i64 m)).setCell ⟨W.heap.size, 1, none⟩ (.slice pd nd cd)).setCell ⟨W.heap.size, 2, none⟩ (.int .i64 r))) (W.heap.size + 1 + 1) (w1.heap.size) [] [own shFrame (.slice pd nd cd) xs] from (OwU.keep (chg_one _ (W.heap.size) 2 (.int .i64 r)) (by omega) (OwU.keep (chg_one _ (W.heap.size) 1 (.slice pd nd cd)) (by omega) (OwU.keep (chg_one _ (W.heap.size) 0 (.int .i64 m)) (by omega) oC7_.out))))
  have G11_ := Lib.hid (show (W).grownBy ((((w1.setCell ⟨W.heap.size, 0, none⟩ (.int .i64 m)).setCell ⟨W.heap.size, 1, none⟩ (.slice pd nd cd)).setCell ⟨W.heap.size, 2, none⟩ (.int .i64 r))) none from (gby_setnew (gby_setnew (gby_setnew G6_.out _ (by dsimp only; omega) _) _ (by dsimp only; omega) _) _ (by dsimp only; omega) _))
  have hszwc_ : ((((w1.setCell ⟨W.heap.size, 0, none⟩ (.int .i64 m)).setCell ⟨W.heap.size, 1, none⟩ (.slice pd nd cd)).setCell ⟨W.heap.size, 2, none⟩ (.int .i64 r))).heap.size = (w1).heap.size := by first | rfl | simp only [World.size_setCell]
  generalize (((w1.setCell ⟨W.heap.size, 0, none⟩ (.int .i64 m)).setCell ⟨W.heap.size, 1, none⟩ (.slice pd nd cd)).setCell ⟨W.heap.size, 2, none⟩ (.int .i64 r)) = wc at rA8_ rR9_ oC10_ G11_ hszwc_ ⊢
  try simp only [World.size_alloc] at hszwc_
  clear rA4_
  clear rR5_
  clear oC7_
  refine ((implSnd _ m r _ xs (OwU.rd oC10_.out) HL.out).mono (bpost_yes HV.out)).mono ?_
  rintro e w2 ⟨rfl, g⟩
  have szw2 := g.size
  have rA12_ := Lib.hid (show (w2).heap[W.heap.size]? = some (.cells #[.int .i64 m, .slice pd nd cd, .int .i64 r] 29 (0, 0)) from row_held g rA8_.out)
  clear rA8_
  have rR13_ := Lib.hid (show (w2).heap[W.heap.size + 1]? = some (.cells #[.int .i64 0, .slice none 0 0, .int .i64 0] 29 (0, 0)) from row_held g rR9_.out)
  clear rR9_
  have oC14_ := Lib.hid (show OwU (w2) (W.heap.size + 1 + 1) (w1.heap.size) [] [own shFrame (.slice pd nd cd) xs] from OwU.grow oC10_.out g)
  clear oC10_
  have G15_ := Lib.hid (show (W).grownBy (w2) none from gby_trans G11_.out g)
  clear g
  have A_0_ : (w2).cell? ⟨W.heap.size, 0, none⟩ = some (.int .i64 m) := cell_of_row _ _ 0 _ _ _ rA12_.out
  have A_1_ : (w2).cell? ⟨W.heap.size, 1, none⟩ = some (.slice pd nd cd) := cell_of_row _ _ 1 _ _ _ rA12_.out
  have A_2_ : (w2).cell? ⟨W.heap.size, 2, none⟩ = some (.int .i64 r) := cell_of_row _ _ 2 _ _ _ rA12_.out
  have R_0_ : (w2).cell? ⟨W.heap.size + 1, 0, none⟩ = some (.int .i64 0) := cell_of_row _ _ 0 _ _ _ rR13_.out
  have R_1_ : (w2).cell? ⟨W.heap.size + 1, 1, none⟩ = some (.slice none 0 0) := cell_of_row _ _ 1 _ _ _ rR13_.out
  have R_2_ : (w2).cell? ⟨W.heap.size + 1, 2, none⟩ = some (.int .i64 0) := cell_of_row _ _ 2 _ _ _ rR13_.out
  have hnd_ : n0 = nd := by obtain ⟨_, _, e_, _⟩ := OwU.rd oC14_.out; injection e_ with e1_ e2_ e3_; rw [e2_]; exact HE.out
  subst hnd_
  clear A_0_ A_1_ A_2_ R_0_ R_1_ R_2_
  have A_0_ : (w2).cell? ⟨W.heap.size, 0, none⟩ = some (.int .i64 m) := cell_of_row _ _ 0 _ _ _ rA12_.out
  have A_1_ : (w2).cell? ⟨W.heap.size, 1, none⟩ = some (.slice pd n0 cd) := cell_of_row _ _ 1 _ _ _ rA12_.out
  have A_2_ : (w2).cell? ⟨W.heap.size, 2, none⟩ = some (.int .i64 r) := cell_of_row _ _ 2 _ _ _ rA12_.out
  go_wp2_with fail
  go_at_call 50
  refine (queue_full _ _ 0 m r pd n0 cd xs pu nu cu ys rA12_.out (HY.out.grow G15_.out) HYL.out HE.out (of_decide_eq_true HBY.out.symm) HF7.out).mono ?_
  rintro e w3 ⟨rfl, g⟩
  have szw3 := g.size
  try simp only [World.size_alloc] at szw3
  try simp only [World.size_setCell] at szw3
  clear A_0_ A_1_ A_2_
  have rA16_ := Lib.hid (show (w3).heap[W.heap.size]? = some (.cells #[.int .i64 m, .slice pd n0 cd, .int .i64 r] 29 (0, 0)) from row_held g rA12_.out)
  clear rA12_
  have rR17_ := Lib.hid (show (w3).heap[W.heap.size + 1]? = some (.cells #[.int .i64 0, .slice none 0 0, .int .i64 0] 29 (0, 0)) from row_held g rR13_.out)
  clear rR13_
  have oC18_ := Lib.hid (show OwU (w3) (W.heap.size + 1 + 1) (w1.heap.size) [] [own shFrame (.slice pd n0 cd) xs] from OwU.grow oC14_.out g)
  clear oC14_
  have G19_ := Lib.hid (show (W).grownBy (w3) none from gby_trans G15_.out g)
  clear g
  have A_0_ : (w3).cell? ⟨W.heap.size, 0, none⟩ = some (.int .i64 m) := cell_of_row _ _ 0 _ _ _ rA16_.out
  have A_1_ : (w3).cell? ⟨W.heap.size, 1, none⟩ = some (.slice pd n0 cd) := cell_of_row _ _ 1 _ _ _ rA16_.out
  have A_2_ : (w3).cell? ⟨W.heap.size, 2, none⟩ = some (.int .i64 r) := cell_of_row _ _ 2 _ _ _ rA16_.out
  have R_0_ : (w3).cell? ⟨W.heap.size + 1, 0, none⟩ = some (.int .i64 0) := cell_of_row _ _ 0 _ _ _ rR17_.out
  have R_1_ : (w3).cell? ⟨W.heap.size + 1, 1, none⟩ = some (.slice none 0 0) := cell_of_row _ _ 1 _ _ _ rR17_.out
  have R_2_ : (w3).cell? ⟨W.heap.size + 1, 2, none⟩ = some (.int .i64 0) := cell_of_row _ _ 2 _ _ _ rR17_.out
  clear A_0_ A_1_ A_2_ R_0_ R_1_ R_2_
  have A_0_ : (w3).cell? ⟨W.heap.size, 0, none⟩ = some (.int .i64 m) := cell_of_row _ _ 0 _ _ _ rA16_.out
  have A_1_ : (w3).cell? ⟨W.heap.size, 1, none⟩ = some (.slice pd n0 cd) := cell_of_row _ _ 1 _ _ _ rA16_.out
  have A_2_ : (w3).cell? ⟨W.heap.size, 2, none⟩ = some (.int .i64 r) := cell_of_row _ _ 2 _ _ _ rA16_.out
  have R_0_ : (w3).cell? ⟨W.heap.size + 1, 0, none⟩ = some (.int .i64 0) := cell_of_row _ _ 0 _ _ _ rR17_.out
  have R_1_ : (w3).cell? ⟨W.heap.size + 1, 1, none⟩ = some (.slice none 0 0) := cell_of_row _ _ 1 _ _ _ rR17_.out
  have R_2_ : (w3).cell? ⟨W.heap.size + 1, 2, none⟩ = some (.int .i64 0) := cell_of_row _ _ 2 _ _ _ rR17_.out
  have Rf0_ : (w3).frozen? ⟨W.heap.size + 1, 0, none⟩ = false := frozen_of_row _ _ 0 _ _ rR17_.out
  have Rf1_ : (w3).frozen? ⟨W.heap.size + 1, 1, none⟩ = false := frozen_of_row _ _ 1 _ _ rR17_.out
  have Rf2_ : (w3).frozen? ⟨W.heap.size + 1, 2, none⟩ = false := frozen_of_row _ _ 2 _ _ rR17_.out
  have hlo_ : W.heap.size ≤ W.heap.size + 1 + 1 := by omega
  go_wp2
  refine bodyPost_ret (v := .tuple #[.agg #[.int .i64 m, .slice pd n0 cd, .int .i64 r], .bool false]) (by simp [results, go_sem, R_0_, R_1_, R_2_]) rfl ⟨_, rfl, ?_, ?_⟩
  · exact OwU.wide (lo := W.heap.size + 1 + 1) (hi := w1.heap.size) hlo_ (by simp only [World.size_setCell]; omega) (OwU.keep (chg_one _ (W.heap.size + 1) 2 (.int .i64 r)) (by omega) (OwU.keep (chg_one _ (W.heap.size + 1) 1 (.slice pd n0 cd)) (by omega) (OwU.keep (chg_one _ (W.heap.size + 1) 0 (.int .i64 m)) (by omega) oC18_.out)))
  · exact (gby_setnew (gby_setnew (gby_setnew G19_.out _ (by dsimp only; omega) _) _ (by dsimp only; omega) _) _ (by dsimp only; omega) _)

set_option maxRecDepth 8000 in
set_option maxHeartbeats 4000000 in
theorem implQu_yes (W : World) (m r : Int) (v : Value) (xs : List DFrame) (H : RdL shFrame W v xs) (hl : szL shFrame xs ≤ 1048576) (u : Value) (ys : List Int) (Hu : RdL shI W u ys) (hly : szL shI ys ≤ 1048576) (hv : SndP m r xs) (hb : AreB ys) (h7 : xs.length < 7) : Calls Try.prog 26 #[.agg #[.int .i64 m, v, .int .i64 r], u] W (ResIQueueFrame (nextQ m) (xs ++ [⟨m, ys⟩]) r true W) := by
  have HV := Lib.hid hv
  clear hv
  have HBY := Lib.hid (show true = decide (AreB ys) from (decide_eq_true hb).symm)
  clear hb
  have HF7 := Lib.hid h7
  clear h7
  have HYL := Lib.hid hly
  obtain ⟨pu, nu, cu, rfl⟩ := RdL.form Hu
  have HY := Lib.hid Hu
  clear hly Hu
  have HX := Lib.hid H
  have HL := Lib.hid hl
  obtain ⟨a0, n0, cap0, rfl⟩ := RdL.form H
  have hn0 : n0 = xs.length := by obtain ⟨_, _, e, _⟩ := H; injection e
  have HE := Lib.hid hn0
  have hlx : n0 ≤ 1048576 := by have := szL_len shFrame xs; omega
  clear H hl hn0
  go_enter Try.func26, Try.ntmps26
  have rA1_ := Lib.hid (show (((W.alloc (.cells #[.int .i64 m, .slice a0 n0 cap0, .int .i64 r] 29)).alloc (.cells #[.int .i64 0, .slice none 0 0, .int .i64 0] 29))).heap[W.heap.size]? = some (.cells #[.int .i64 m, .slice a0 n0 cap0, .int .i64 r] 29 (0, 0)) from by rw [heap_alloc_old _ _ (by simp only [World.size_alloc]; omega)]; exact heap_alloc_new _ _)
  have rR2_ := Lib.hid (show (((W.alloc (.cells #[.int .i64 m, .slice a0 n0 cap0, .int .i64 r] 29)).alloc (.cells #[.int .i64 0, .slice none 0 0, .int .i64 0] 29))).heap[W.heap.size + 1]? = some (.cells #[.int .i64 0, .slice none 0 0, .int .i64 0] 29 (0, 0)) from by exact heap_pair _ _ _)
  have G3_ := Lib.hid (show (W).grownBy (((W.alloc (.cells #[.int .i64 m, .slice a0 n0 cap0, .int .i64 r] 29)).alloc (.cells #[.int .i64 0, .slice none 0 0, .int .i64 0] 29))) none from (gby_alloc (gby_alloc (gby_refl _ _) _) _))
  have A_0_ : (((W.alloc (.cells #[.int .i64 m, .slice a0 n0 cap0, .int .i64 r] 29)).alloc (.cells #[.int .i64 0, .slice none 0 0, .int .i64 0] 29))).cell? ⟨W.heap.size, 0, none⟩ = some (.int .i64 m) := cell_of_row _ _ 0 _ _ _ rA1_.out
  have A_1_ : (((W.alloc (.cells #[.int .i64 m, .slice a0 n0 cap0, .int .i64 r] 29)).alloc (.cells #[.int .i64 0, .slice none 0 0, .int .i64 0] 29))).cell? ⟨W.heap.size, 1, none⟩ = some (.slice a0 n0 cap0) := cell_of_row _ _ 1 _ _ _ rA1_.out
  have A_2_ : (((W.alloc (.cells #[.int .i64 m, .slice a0 n0 cap0, .int .i64 r] 29)).alloc (.cells #[.int .i64 0, .slice none 0 0, .int .i64 0] 29))).cell? ⟨W.heap.size, 2, none⟩ = some (.int .i64 r) := cell_of_row _ _ 2 _ _ _ rA1_.out
  have R_0_ : (((W.alloc (.cells #[.int .i64 m, .slice a0 n0 cap0, .int .i64 r] 29)).alloc (.cells #[.int .i64 0, .slice none 0 0, .int .i64 0] 29))).cell? ⟨W.heap.size + 1, 0, none⟩ = some (.int .i64 0) := cell_of_row _ _ 0 _ _ _ rR2_.out
  have R_1_ : (((W.alloc (.cells #[.int .i64 m, .slice a0 n0 cap0, .int .i64 r] 29)).alloc (.cells #[.int .i64 0, .slice none 0 0, .int .i64 0] 29))).cell? ⟨W.heap.size + 1, 1, none⟩ = some (.slice none 0 0) := cell_of_row _ _ 1 _ _ _ rR2_.out
  have R_2_ : (((W.alloc (.cells #[.int .i64 m, .slice a0 n0 cap0, .int .i64 r] 29)).alloc (.cells #[.int .i64 0, .slice none 0 0, .int .i64 0] 29))).cell? ⟨W.heap.size + 1, 2, none⟩ = some (.int .i64 0) := cell_of_row _ _ 2 _ _ _ rR2_.out
  go_wp2_with fail
  go_at_call 41
  refine (copiedSnd_r _ m r _ xs (HX.out.grow G3_.out) HL.out).mono ?_
  rintro e w1 ⟨d_, rfl, o, g⟩
  have szw1 := g.size
  try simp only [World.size_alloc] at szw1 o
  try unfold vSender
  clear A_0_ A_1_ A_2_ R_0_ R_1_ R_2_
  have rA4_ := Lib.hid (show (w1).heap[W.heap.size]? = some (.cells #[.int .i64 m, .slice a0 n0 cap0, .int .i64 r] 29 (0, 0)) from row_held g rA1_.out)
  clear rA1_
  have rR5_ := Lib.hid (show (w1).heap[W.heap.size + 1]? = some (.cells #[.int .i64 0, .slice none 0 0, .int .i64 0] 29 (0, 0)) from row_held g rR2_.out)
  clear rR2_
  have G6_ := Lib.hid (show (W).grownBy (w1) none from gby_trans G3_.out g)
  obtain ⟨pd, cd, hv_⟩ := OwR.form o
  rw [← HE.out] at hv_
  subst hv_
  have HOR := Lib.hid (OwR.low o (show W.heap.size + 1 + 1 ≤ _ by omega))
  clear g o
  have HTT7_ := Lib.hid (gby_refl (w1) none)
  have MG8_ := Lib.hid (show (W).grownBy (w1) none from G6_.out)
  have MR9_ := Lib.hid rA4_.out
  have MR10_ := Lib.hid rR5_.out
  have A_0_ : (w1).cell? ⟨W.heap.size, 0, none⟩ = some (.int .i64 m) := cell_of_row _ _ 0 _ _ _ rA4_.out
  have A_1_ : (w1).cell? ⟨W.heap.size, 1, none⟩ = some (.slice a0 n0 cap0) := cell_of_row _ _ 1 _ _ _ rA4_.out
  have A_2_ : (w1).cell? ⟨W.heap.size, 2, none⟩ = some (.int .i64 r) := cell_of_row _ _ 2 _ _ _ rA4_.out
  have Af0_ : (w1).frozen? ⟨W.heap.size, 0, none⟩ = false := frozen_of_row _ _ 0 _ _ rA4_.out
  have Af1_ : (w1).frozen? ⟨W.heap.size, 1, none⟩ = false := frozen_of_row _ _ 1 _ _ rA4_.out
  have Af2_ : (w1).frozen? ⟨W.heap.size, 2, none⟩ = false := frozen_of_row _ _ 2 _ _ rA4_.out
  have R_0_ : (w1).cell? ⟨W.heap.size + 1, 0, none⟩ = some (.int .i64 0) := cell_of_row _ _ 0 _ _ _ rR5_.out
  have R_1_ : (w1).cell? ⟨W.heap.size + 1, 1, none⟩ = some (.slice none 0 0) := cell_of_row _ _ 1 _ _ _ rR5_.out
  have R_2_ : (w1).cell? ⟨W.heap.size + 1, 2, none⟩ = some (.int .i64 0) := cell_of_row _ _ 2 _ _ _ rR5_.out
  have zA_ := Lib.hid (show ((((w1.setCell ⟨W.heap.size, 0, none⟩ (.int .i64 m)).setCell ⟨W.heap.size, 1, none⟩ (.slice pd n0 cd)).setCell ⟨W.heap.size, 2, none⟩ (.int .i64 r))).heap[W.heap.size]? = some (.cells #[.int .i64 m, .slice pd n0 cd, .int .i64 r] 29 (0, 0)) from (heap_setCell_same _ _ 2 _ _ _ (heap_setCell_same _ _ 1 _ _ _ (heap_setCell_same _ _ 0 _ _ _ rA4_.out))))
  have z0_ : ((((w1.setCell ⟨W.heap.size, 0, none⟩ (.int .i64 m)).setCell ⟨W.heap.size, 1, none⟩ (.slice pd n0 cd)).setCell ⟨W.heap.size, 2, none⟩ (.int .i64 r))).cell? ⟨W.heap.size, 0, none⟩ = some (.int .i64 m) := cell_of_row _ _ 0 _ _ _ zA_.out
  have z1_ : ((((w1.setCell ⟨W.heap.size, 0, none⟩ (.int .i64 m)).setCell ⟨W.heap.size, 1, none⟩ (.slice pd n0 cd)).setCell ⟨W.heap.size, 2, none⟩ (.int .i64 r))).cell? ⟨W.heap.size, 1, none⟩ = some (.slice pd n0 cd) := cell_of_row _ _ 1 _ _ _ zA_.out
  have z2_ : ((((w1.setCell ⟨W.heap.size, 0, none⟩ (.int .i64 m)).setCell ⟨W.heap.size, 1, none⟩ (.slice pd n0 cd)).setCell ⟨W.heap.size, 2, none⟩ (.int .i64 r))).cell? ⟨W.heap.size, 2, none⟩ = some (.int .i64 r) := cell_of_row _ _ 2 _ _ _ zA_.out
  go_wp2_with fail
  go_at_call 11
  clear zA_ z0_ z1_ z2_
  have HOR3 := Lib.hid (show OwR shFrame 37 ((((w1.setCell ⟨W.heap.size, 0, none⟩ (.int .i64 m)).setCell ⟨W.heap.size, 1, none⟩ (.slice pd n0 cd)).setCell ⟨W.heap.size, 2, none⟩ (.int .i64 r))) (W.heap.size + 1 + 1) (.slice pd n0 cd) xs from (OwR.kept (OwR.kept (OwR.kept HOR.out (gby_set (gby_refl _ _) _ _) (fun i hi => by have h2 := Option.some.inj hi; omega)) (gby_set (gby_refl _ _) _ _) (fun i hi => by have h2 := Option.some.inj hi; omega)) (gby_set (gby_refl _ _) _ _) (fun i hi => by have h2 := Option.some.inj hi; omega)))
  clear A_0_ A_1_ A_2_ Af0_ Af1_ Af2_ R_0_ R_1_ R_2_
  have rA11_ := Lib.hid (show ((((w1.setCell ⟨W.heap.size, 0, none⟩ (.int .i64 m)).setCell ⟨W.heap.size, 1, none⟩ (.slice pd n0 cd)).setCell ⟨W.heap.size, 2, none⟩ (.int .i64 r))).heap[W.heap.size]? = some (.cells #[.int .i64 m, .slice pd n0 cd, .int .i64 r] 29 (0, 0)) from (heap_setCell_same _ _ 2 _ _ _ (heap_setCell_same _ _ 1 _ _ _ (heap_setCell_same _ _ 0 _ _ _ rA4_.out))))
  have rR12_ := Lib.hid (show ((((w1.setCell ⟨W.heap.size, 0, none⟩ (.int .i64 m)).setCell ⟨W.heap.size, 1, none⟩ (.slice pd n0 cd)).setCell ⟨W.heap.size, 2, none⟩ (.int .i64 r))).heap[W.heap.size + 1]? = some (.cells #[.int .i64 0, .slice none 0 0, .int .i64 0] 29 (0, 0)) from (set_far (set_far (set_far rR5_.out (by dsimp only; omega)) (by dsimp only; omega)) (by dsimp only; omega)))
  have G13_ := Lib.hid (show W.grownBy ((((w1.setCell ⟨W.heap.size, 0, none⟩ (.int .i64 m)).setCell ⟨W.heap.size, 1, none⟩ (.slice pd n0 cd)).setCell ⟨W.heap.size, 2, none⟩ (.int .i64 r))) none from (gby_setnew (gby_setnew (gby_setnew G6_.out _ (by dsimp only; omega) _) _ (by dsimp only; omega) _) _ (by dsimp only; omega) _))
  have hszc_ : ((((w1.setCell ⟨W.heap.size, 0, none⟩ (.int .i64 m)).setCell ⟨W.heap.size, 1, none⟩ (.slice pd n0 cd)).setCell ⟨W.heap.size, 2, none⟩ (.int .i64 r))).heap.size = (w1).heap.size := by simp only [World.size_setCell]
  clear HOR
  generalize (((w1.setCell ⟨W.heap.size, 0, none⟩ (.int .i64 m)).setCell ⟨W.heap.size, 1, none⟩ (.slice pd n0 cd)).setCell ⟨W.heap.size, 2, none⟩ (.int .i64 r)) = wc at rA11_ rR12_ G13_ HOR3 hszc_ ⊢
  clear rA4_
  clear rR5_
  have HRD3 := Lib.hid (HOR3.out.rd (by have := HE.out; omega))
  refine ((implSnd _ m r _ xs (HRD3.out) HL.out).mono (bpost_yes HV.out)).mono ?_
  rintro e w2 ⟨rfl, g⟩
  have szw2 := g.size
  have HOR4 := Lib.hid (HOR3.out.grow g)
  have rA14_ := Lib.hid (show (w2).heap[W.heap.size]? = some (.cells #[.int .i64 m, .slice pd n0 cd, .int .i64 r] 29 (0, 0)) from row_held g rA11_.out)
  clear rA11_
  have rR15_ := Lib.hid (show (w2).heap[W.heap.size + 1]? = some (.cells #[.int .i64 0, .slice none 0 0, .int .i64 0] 29 (0, 0)) from row_held g rR12_.out)
  clear rR12_
  have G16_ := Lib.hid (show (W).grownBy (w2) none from gby_trans G13_.out g)
  clear g HOR3 HRD3
  have A_0_ : (w2).cell? ⟨W.heap.size, 0, none⟩ = some (.int .i64 m) := cell_of_row _ _ 0 _ _ _ rA14_.out
  have A_1_ : (w2).cell? ⟨W.heap.size, 1, none⟩ = some (.slice pd n0 cd) := cell_of_row _ _ 1 _ _ _ rA14_.out
  have A_2_ : (w2).cell? ⟨W.heap.size, 2, none⟩ = some (.int .i64 r) := cell_of_row _ _ 2 _ _ _ rA14_.out
  go_wp2_with fail
  go_at_call 50
  refine (queue_yes _ _ (W.heap.size + 1 + 1) m r pd n0 cd xs pu nu cu ys rA14_.out (HY.out.grow G16_.out) HYL.out HE.out HOR4.out (by omega) (by omega) (of_decide_eq_true HBY.out.symm) HF7.out).mono ?_
  rintro e w3 ⟨v9, rfl, hA7_, hO7_, hK7_, hS7_, hG7_⟩
  obtain ⟨p9, d9, hv_⟩ := OwR.form hO7_
  have e9_ : (xs ++ [(⟨m, ys⟩ : DFrame)]).length = n0 + 1 := by rw [List.length_append, List.length_singleton, ← HE.out]
  rw [e9_] at hv_
  subst hv_
  have GW7 := Lib.hid (hG7_ W G16_.out (by omega) (by omega))
  have HR7 := Lib.hid (hK7_ _ _ (by omega) (by omega) rR15_.out)
  have HA7 := Lib.hid hA7_
  have HO7 := Lib.hid (OwR.own hO7_ (by rw [e9_]; omega))
  clear hA7_ hO7_ hK7_ hG7_ e9_
  clear A_0_ A_1_ A_2_
  have rA17_ := Lib.hid (show (w3).heap[W.heap.size]? = some (.cells #[.int .i64 (nextQ m), .slice p9 (n0 + 1) d9, .int .i64 r] 29 (0, 0)) from HA7.out)
  have rR18_ := Lib.hid (show (w3).heap[W.heap.size + 1]? = some (.cells #[.int .i64 0, .slice none 0 0, .int .i64 0] 29 (0, 0)) from HR7.out)
  have G19_ := Lib.hid (show (W).grownBy (w3) none from GW7.out)
  have oC20_ := Lib.hid (show OwU (w3) (W.heap.size + 1 + 1) (w3.heap.size) [] [own shFrame (.slice p9 (n0 + 1) d9) (xs ++ [⟨m, ys⟩])] from OwU.one HO7.out)
  have A_0_ : (w3).cell? ⟨W.heap.size, 0, none⟩ = some (.int .i64 (nextQ m)) := cell_of_row _ _ 0 _ _ _ rA17_.out
  have A_1_ : (w3).cell? ⟨W.heap.size, 1, none⟩ = some (.slice p9 (n0 + 1) d9) := cell_of_row _ _ 1 _ _ _ rA17_.out
  have A_2_ : (w3).cell? ⟨W.heap.size, 2, none⟩ = some (.int .i64 r) := cell_of_row _ _ 2 _ _ _ rA17_.out
  have R_0_ : (w3).cell? ⟨W.heap.size + 1, 0, none⟩ = some (.int .i64 0) := cell_of_row _ _ 0 _ _ _ rR18_.out
  have R_1_ : (w3).cell? ⟨W.heap.size + 1, 1, none⟩ = some (.slice none 0 0) := cell_of_row _ _ 1 _ _ _ rR18_.out
  have R_2_ : (w3).cell? ⟨W.heap.size + 1, 2, none⟩ = some (.int .i64 0) := cell_of_row _ _ 2 _ _ _ rR18_.out
  have Rf0_ : (w3).frozen? ⟨W.heap.size + 1, 0, none⟩ = false := frozen_of_row _ _ 0 _ _ rR18_.out
  have Rf1_ : (w3).frozen? ⟨W.heap.size + 1, 1, none⟩ = false := frozen_of_row _ _ 1 _ _ rR18_.out
  have Rf2_ : (w3).frozen? ⟨W.heap.size + 1, 2, none⟩ = false := frozen_of_row _ _ 2 _ _ rR18_.out
  have hlo_ : W.heap.size ≤ W.heap.size + 1 + 1 := by omega
  go_wp2
  refine bodyPost_ret (v := .tuple #[.agg #[.int .i64 (nextQ m), .slice p9 (n0 + 1) d9, .int .i64 r], .bool true]) (by simp [results, go_sem, R_0_, R_1_, R_2_]) rfl ⟨_, rfl, ?_, ?_⟩
  · exact OwU.wide (lo := W.heap.size + 1 + 1) (hi := w3.heap.size) hlo_ (by simp only [World.size_setCell]; omega) (OwU.keep (chg_one _ (W.heap.size + 1) 2 (.int .i64 r)) (by omega) (OwU.keep (chg_one _ (W.heap.size + 1) 1 (.slice p9 (n0 + 1) d9)) (by omega) (OwU.keep (chg_one _ (W.heap.size + 1) 0 (.int .i64 (nextQ m))) (by omega) oC20_.out)))
  · exact (gby_setnew (gby_setnew (gby_setnew G19_.out _ (by dsimp only; omega) _) _ (by dsimp only; omega) _) _ (by dsimp only; omega) _)

end Go.Proofs.Ytcenngekjopjpaa
