/-
  Valid grants drawn by the model.
-/
import Derived.Test.YtgagbhkidponnabDrawKit
import Derived.Test.YtgagbhkidponnabStepRow
import Derived.Test.YtgagbhkidponnabClonePageGrant
import Derived.Test.YtgagbhkidponnabGrP
import Derived.Deep.RegionHeld3
import Derived.Deep.AppendLies
namespace Go.Proofs.Ytgagbhkidponnab
open Go Go.RowKit
set_option linter.unusedVariables false

theorem gsz9 {w w' : World} {r : Option Nat} (g : w.grownBy w' r) : w.heap.size ≤ w'.heap.size := g.size
theorem gok_nil : GOk [] := ⟨by simp, fun k hk => absurd hk (by simp), fun k hk => absurd hk (by simp)⟩

set_option maxRecDepth 8000 in
set_option maxHeartbeats 4000000 in
theorem grants36_any (W : World) (c : Nat) (H : Cur W c) : Calls Try.prog 46 #[.pointer (some ⟨c, 0, none⟩)] W (fun e w' => ∃ (v : Value) (xs : List DPageGrant), e = .returned v ∧ GOk xs ∧ OwL shPageGrant w' W.heap.size w'.heap.size v xs ∧ Cur w' c ∧ W.grownBy w' (some c)) := by
  have hcl_ := cur_lt H
  have HCU := Lib.hid H
  clear H
  obtain ⟨i1_, hi1_, hz0_, hz1_, hz2_⟩ := info_parts infoPageGrantS
  go_enter Try.func46, Try.ntmps46
  have HTM1_ := Lib.hid (gby_refl (W) (some c))
  have MG2_ := Lib.hid (show (W).grownBy (W) (some c) from (gby_refl _ _))
  have al_ : (W).grownBy ((W).alloc (.cells #[] 59)) none := gby_alloc (gby_refl _ _) _
  have G3_ := Lib.hid (show (W).grownBy ((W.alloc (.cells #[] 59))) (some c) from gby_trans (gby_refl _ _) (gby_some al_ _))
  have HCU4_ := Lib.hid (show Cur ((W.alloc (.cells #[] 59))) c from cur_kept HCU.out al_ (by simp))
  have HTM5_ := Lib.hid (show (W).grownBy ((W.alloc (.cells #[] 59))) (some c) from gby_trans HTM1_.out (gby_some al_ _))
  clear HTM1_
  have rT06_ := Lib.hid (show ((W.alloc (.cells #[] 59))).heap[W.heap.size]? = some (.cells #[] 59 (0, 0)) from by first | exact heap_alloc_new _ _ | exact heap_pair _ _ _ | exact heap_trip _ _ _ _)
  clear al_
  have HO0 := Lib.hid (show OwL shPageGrant ((W.alloc (.cells #[] 59))) W.heap.size ((W.alloc (.cells #[] 59))).heap.size (.slice (some ⟨W.heap.size, 0, none⟩) 0 0) ([] : List DPageGrant) from owL_empty (Nat.le_refl _) (by simp))
  go_wp2
  go_loopw [3, 4, 6] (fun v i z2 wr => ∃ (n : Nat) (xs : List DPageGrant), i = .int .i64 (n : Int) ∧ n ≤ 9 ∧ (∃ q, z2 = q) ∧ GOk xs ∧ OwL shPageGrant wr W.heap.size wr.heap.size v xs ∧ Cur wr c ∧ (W).grownBy wr (some c)) (fun _ i _ _ => 10 - (intOf i).toNat)
  case atStart => exact ⟨0, [], rfl, by omega, ⟨_, rfl⟩, gok_nil, HO0.out, HCU4_.out, HTM5_.out⟩
  case round =>
    clear rT06_
    clear HTM5_
    clear HCU4_
    obtain ⟨n, xs, rfl, hn, ⟨z2, rfl⟩, hto, hown, hcu, hg⟩ := hrel
    have szr_ := hg.size
    try simp only [World.size_alloc, World.size_setCell] at szr_
    have G7_ := Lib.hid (show (W).grownBy (wr) (some c) from gby_trans MG2_.out hg)
    have HCU8_ := Lib.hid (show Cur (wr) c from hcu)
    have HTM9_ := Lib.hid hg
    clear hg hcu
    have HTO := Lib.hid hto
    have hx2 := hto.1
    clear hto
    have hn0 : (0 : Int) ≤ (n : Int) := by omega
    have htn : ((n : Int)).toNat = n := by omega
    obtain ⟨pa, pn, pc, hv_⟩ := RdL.form hown.rd
    have hpn : pn = xs.length := by obtain ⟨_, _, e, _⟩ := hown.rd; rw [hv_] at e; injection e
    subst hv_
    have HPN := Lib.hid hpn
    have HO := Lib.hid hown
    have hpn12 : pn ≤ 40 := by omega
    clear hown hpn
    have oO10_ := Lib.hid (show OwU (wr) (W.heap.size) (wr.heap.size) [] [own shPageGrant (.slice pa pn pc) xs] from OwU.one HO.out)
    clear HO
    go_wp2_with fail
    go_at_call 48
    refine (below_any _ _ _ HCU8_.out (by omega) (by omega)).mono ?_
    rintro e w1 ⟨x, ⟨x1, x2⟩, rfl, H1_, g⟩
    have szw1 := g.size
    try simp only [World.size_alloc] at szw1
    try simp only [World.size_setCell] at szw1
    have oO11_ := Lib.hid (show OwU (w1) (W.heap.size) (wr.heap.size) [] [own shPageGrant (.slice pa pn pc) xs] from OwU.keep (chg_cur g) (by omega) oO10_.out)
    clear oO10_
    have G12_ := Lib.hid (show (W).grownBy (w1) (some c) from gby_trans G7_.out g)
    clear HCU8_
    have HCU13_ := Lib.hid (show Cur (w1) c from H1_)
    have HTM14_ := Lib.hid (show (W).grownBy (w1) (some c) from gby_trans HTM9_.out g)
    clear HTM9_
    clear g H1_
    by_cases hlt : (n : Int) < x
    rotate_left
    · skip
      go_wp2
      go_ret
      exact ⟨_, xs, rfl, HTO.out, (by obtain ⟨a_, b_, q1, q2, _, q3, _⟩ := (show OwU _ _ _ [] [own shPageGrant _ _] from oO11_.out); exact OwL.wide q3 q1 (by omega)), HCU13_.out, G12_.out⟩
    go_wp2_with fail
    go_at_call 48
    refine (below_any _ _ _ HCU13_.out (by omega) (by omega)).mono ?_
    rintro e w2 ⟨a0, ⟨a1, a2⟩, rfl, H1_, g⟩
    have szw2 := g.size
    try simp only [World.size_alloc] at szw2
    try simp only [World.size_setCell] at szw2
    have oO15_ := Lib.hid (show OwU (w2) (W.heap.size) (wr.heap.size) [] [own shPageGrant (.slice pa pn pc) xs] from OwU.keep (chg_cur g) (by omega) oO11_.out)
    clear oO11_
    have G16_ := Lib.hid (show (W).grownBy (w2) (some c) from gby_trans G12_.out g)
    clear HCU13_
    have HCU17_ := Lib.hid (show Cur (w2) c from H1_)
    have HTM18_ := Lib.hid (show (W).grownBy (w2) (some c) from gby_trans HTM14_.out g)
    clear HTM14_
    clear g H1_
    have e1_ : IntKind.i64.wrap (16 + a0) = 16 + a0 := IntWalk.i64_in _ (by omega)
    go_wp2_with fail
    go_at_call 48
    refine (below_any _ _ _ HCU17_.out (by omega) (by omega)).mono ?_
    rintro e w3 ⟨d0, ⟨d1, d2⟩, rfl, H1_, g⟩
    have szw3 := g.size
    try simp only [World.size_alloc] at szw3
    try simp only [World.size_setCell] at szw3
    have oO19_ := Lib.hid (show OwU (w3) (W.heap.size) (wr.heap.size) [] [own shPageGrant (.slice pa pn pc) xs] from OwU.keep (chg_cur g) (by omega) oO15_.out)
    clear oO15_
    have G20_ := Lib.hid (show (W).grownBy (w3) (some c) from gby_trans G16_.out g)
    clear HCU17_
    have HCU21_ := Lib.hid (show Cur (w3) c from H1_)
    have HTM22_ := Lib.hid (show (W).grownBy (w3) (some c) from gby_trans HTM18_.out g)
    clear HTM18_
    clear g H1_
    go_wp2_with fail
    go_at_call 48
    refine (below_any _ _ _ HCU21_.out (by omega) (by omega)).mono ?_
    rintro e w4 ⟨f0, ⟨f1, f2⟩, rfl, H1_, g⟩
    have szw4 := g.size
    try simp only [World.size_alloc] at szw4
    try simp only [World.size_setCell] at szw4
    have oO23_ := Lib.hid (show OwU (w4) (W.heap.size) (wr.heap.size) [] [own shPageGrant (.slice pa pn pc) xs] from OwU.keep (chg_cur g) (by omega) oO19_.out)
    clear oO19_
    have G24_ := Lib.hid (show (W).grownBy (w4) (some c) from gby_trans G20_.out g)
    clear HCU21_
    have HCU25_ := Lib.hid (show Cur (w4) c from H1_)
    have HTM26_ := Lib.hid (show (W).grownBy (w4) (some c) from gby_trans HTM22_.out g)
    clear HTM22_
    clear g H1_
    go_wp2_with fail
    go_at_call 55
    refine (once_any _ _ _ HCU25_.out (by omega) (by omega)).mono ?_
    rintro e w5 ⟨b0, rfl, H1_, g⟩
    have szw5 := g.size
    try simp only [World.size_alloc] at szw5
    try simp only [World.size_setCell] at szw5
    have oO27_ := Lib.hid (show OwU (w5) (W.heap.size) (wr.heap.size) [] [own shPageGrant (.slice pa pn pc) xs] from OwU.keep (chg_cur g) (by omega) oO23_.out)
    clear oO23_
    have G28_ := Lib.hid (show (W).grownBy (w5) (some c) from gby_trans G24_.out g)
    clear HCU25_
    have HCU29_ := Lib.hid (show Cur (w5) c from H1_)
    have HTM30_ := Lib.hid (show (W).grownBy (w5) (some c) from gby_trans HTM26_.out g)
    clear HTM26_
    clear g H1_
    obtain ⟨y0, hy0⟩ : ∃ y0, y0 = 16 + a0 := ⟨_, rfl⟩
    rw [← hy0] at e1_ ⊢
    obtain ⟨g0, hg0⟩ : ∃ g0, g0 = !b0 := ⟨_, rfl⟩
    have HY0 := Lib.hid hy0
    clear hy0
    clear hg0 g0
    have al_ : (w5).grownBy ((w5).alloc (.cells #[.int .i64 y0, .int .i64 d0, .int .i64 f0, .bool (!b0)] 59)) none := gby_alloc (gby_refl _ _) _
    have oO31_ := Lib.hid (show OwU ((w5.alloc (.cells #[.int .i64 y0, .int .i64 d0, .int .i64 f0, .bool (!b0)] 59))) (W.heap.size) (wr.heap.size) [] [own shPageGrant (.slice pa pn pc) xs] from OwU.grow oO27_.out al_)
    clear oO27_
    have G32_ := Lib.hid (show (W).grownBy ((w5.alloc (.cells #[.int .i64 y0, .int .i64 d0, .int .i64 f0, .bool (!b0)] 59))) (some c) from gby_trans G28_.out (gby_some al_ _))
    have HCU33_ := Lib.hid (show Cur ((w5.alloc (.cells #[.int .i64 y0, .int .i64 d0, .int .i64 f0, .bool (!b0)] 59))) c from cur_kept HCU29_.out al_ (by simp))
    have HTM34_ := Lib.hid (show (W).grownBy ((w5.alloc (.cells #[.int .i64 y0, .int .i64 d0, .int .i64 f0, .bool (!b0)] 59))) (some c) from gby_trans HTM30_.out (gby_some al_ _))
    clear HTM30_
    have rN35_ := Lib.hid (show ((w5.alloc (.cells #[.int .i64 y0, .int .i64 d0, .int .i64 f0, .bool (!b0)] 59))).heap[w5.heap.size]? = some (.cells #[.int .i64 y0, .int .i64 d0, .int .i64 f0, .bool (!b0)] 59 (0, 0)) from by first | exact heap_alloc_new _ _ | exact heap_pair _ _ _ | exact heap_trip _ _ _ _)
    clear al_
    have N_0_ : ((w5.alloc (.cells #[.int .i64 y0, .int .i64 d0, .int .i64 f0, .bool (!b0)] 59))).cell? ⟨w5.heap.size, 0, none⟩ = some (.int .i64 y0) := cell_of_row _ _ 0 _ _ _ rN35_.out
    have N_1_ : ((w5.alloc (.cells #[.int .i64 y0, .int .i64 d0, .int .i64 f0, .bool (!b0)] 59))).cell? ⟨w5.heap.size, 1, none⟩ = some (.int .i64 d0) := cell_of_row _ _ 1 _ _ _ rN35_.out
    have N_2_ : ((w5.alloc (.cells #[.int .i64 y0, .int .i64 d0, .int .i64 f0, .bool (!b0)] 59))).cell? ⟨w5.heap.size, 2, none⟩ = some (.int .i64 f0) := cell_of_row _ _ 2 _ _ _ rN35_.out
    have N_3_ : ((w5.alloc (.cells #[.int .i64 y0, .int .i64 d0, .int .i64 f0, .bool (!b0)] 59))).cell? ⟨w5.heap.size, 3, none⟩ = some (.bool (!b0)) := cell_of_row _ _ 3 _ _ _ rN35_.out
    have HRN := Lib.hid (rN35_.out)
    have HG0 := Lib.hid (show (W).grownBy ((w5.alloc (.cells #[.int .i64 y0, .int .i64 d0, .int .i64 f0, .bool (!b0)] 59))) (some c) from G32_.out)
    have HCU0 := Lib.hid (HCU33_.out)
    have HOX := Lib.hid (show OwU ((w5.alloc (.cells #[.int .i64 y0, .int .i64 d0, .int .i64 f0, .bool (!b0)] 59))) W.heap.size wr.heap.size [] [own shPageGrant (.slice pa pn pc) xs] from oO31_.out)
    have HRD := Lib.hid (show RdL shPageGrant ((w5.alloc (.cells #[.int .i64 y0, .int .i64 d0, .int .i64 f0, .bool (!b0)] 59))) (.slice pa pn pc) xs from OwU.rd HOX.out)
    clear N_0_ N_1_ N_2_ N_3_
    have k0 : ((w5.alloc (.cells #[.int .i64 y0, .int .i64 d0, .int .i64 f0, .bool (!b0)] 59))).cell? ⟨w5.heap.size, 0, none⟩ = some (.int .i64 y0) := cell_of_row _ _ 0 _ _ _ HRN.out
    have k1 : ((w5.alloc (.cells #[.int .i64 y0, .int .i64 d0, .int .i64 f0, .bool (!b0)] 59))).cell? ⟨w5.heap.size, 1, none⟩ = some (.int .i64 d0) := cell_of_row _ _ 1 _ _ _ HRN.out
    have k2 : ((w5.alloc (.cells #[.int .i64 y0, .int .i64 d0, .int .i64 f0, .bool (!b0)] 59))).cell? ⟨w5.heap.size, 2, none⟩ = some (.int .i64 f0) := cell_of_row _ _ 2 _ _ _ HRN.out
    have k3 : ((w5.alloc (.cells #[.int .i64 y0, .int .i64 d0, .int .i64 f0, .bool (!b0)] 59))).cell? ⟨w5.heap.size, 3, none⟩ = some (.bool (!b0)) := cell_of_row _ _ 3 _ _ _ HRN.out
    go_wp2_with fail
    go_region_held3 (fun w' => w'.cell? ⟨w5.heap.size, 0, none⟩ = some (.int .i64 y0) ∧ w'.cell? ⟨w5.heap.size, 1, none⟩ = some (.int .i64 d0) ∧ w'.cell? ⟨w5.heap.size, 2, none⟩ = some (.int .i64 f0) ∧ w'.cell? ⟨w5.heap.size, 3, none⟩ = some (.bool (!b0)))
      (first | exact ⟨kB0, kB1, kB2, kB3⟩ | exact ⟨kA0, kA1, kA2, kA3⟩ | exact ⟨k0, k1, k2, k3⟩ | go_keep)
      (first
        | (refine step_clone_prow plainPageGrant slTPageGrant _ (by rfl) _ _ (by rfl) _ (by rfl) (by first | exact heap_pair w5 _ _ | exact heap_trip w5 _ _ _ | exact row_held (by repeat (first | exact gby_refl _ _ | (with_reducible refine gby_alloc ?_ _) | (with_reducible refine gby_drew ?_))) (heap_pair w5 _ _) | exact row_held (by repeat (first | exact gby_refl _ _ | (with_reducible refine gby_alloc ?_ _) | (with_reducible refine gby_drew ?_))) (heap_trip w5 _ _ _)) pa pn pc xs (by rfl) (HRD.out.grow (by repeat (first | exact gby_refl _ _ | (with_reducible refine gby_alloc ?_ _) | (with_reducible refine gby_drew ?_)))) (by omega) ?_; intro gA cA wA oA hgA hA sA; have kA0 : wA.cell? ⟨w5.heap.size, 0, none⟩ = some (.int .i64 y0) := hgA.cell (by go_keep) (by first | (simp; done) | (simp; omega)); have kA1 : wA.cell? ⟨w5.heap.size, 1, none⟩ = some (.int .i64 d0) := hgA.cell (by go_keep) (by first | (simp; done) | (simp; omega)); have kA2 : wA.cell? ⟨w5.heap.size, 2, none⟩ = some (.int .i64 f0) := hgA.cell (by go_keep) (by first | (simp; done) | (simp; omega)); have kA3 : wA.cell? ⟨w5.heap.size, 3, none⟩ = some (.bool (!b0)) := hgA.cell (by go_keep) (by first | (simp; done) | (simp; omega)); have zA := hgA.size; have hgA2 := own_from oA gA rfl; (try simp at zA); (try simp at hA); (try simp at hgA2); (try have NA := (show wA.heap[w5.heap.size + 1]? = some (.cells #[.int .i64 y0, .int .i64 d0, .int .i64 f0, .bool (!b0)] 59 (0, 0)) from (hgA.block _ (by first | (simp; done) | (simp; omega)) (by first | (simp; done) | (simp; omega))).trans (row_held (by repeat (first | exact gby_refl _ _ | (with_reducible refine gby_alloc ?_ _) | (with_reducible refine gby_drew ?_))) (heap_pair w5 _ _)))); (try have NA := (show wA.heap[w5.heap.size + 1 + 1]? = some (.cells #[.int .i64 y0, .int .i64 d0, .int .i64 f0, .bool (!b0)] 59 (0, 0)) from (hgA.block _ (by first | (simp; done) | (simp; omega)) (by first | (simp; done) | (simp; omega))).trans (by first | exact heap_trip w5 _ _ _ | exact row_held (by repeat (first | exact gby_refl _ _ | (with_reducible refine gby_alloc ?_ _) | (with_reducible refine gby_drew ?_))) (heap_trip w5 _ _ _)))); have HRW := Lib.hid (show wA.ownsRow ((w5.alloc (.cells #[.int .i64 y0, .int .i64 d0, .int .i64 f0, .bool (!b0)] 59))).heap.size 59 4 (.slice (some ⟨gA, 0, none⟩) pn cA) pn (xs.flatMap (fun x => [Value.int .i64 x.f0, Value.int .i64 x.f1, Value.int .i64 x.f2, Value.bool x.f3])) from owr_low oA (by first | exact Nat.le_refl _ | (simp; done) | (simp; omega))); have GA := Lib.hid (show ((w5.alloc (.cells #[.int .i64 y0, .int .i64 d0, .int .i64 f0, .bool (!b0)] 59))).grownBy wA none from gby_new (by repeat (first | exact gby_refl _ _ | (with_reducible refine gby_alloc ?_ _) | (with_reducible refine gby_drew ?_))) hgA (fun i hi => by first | (simp at hi ⊢; omega) | (simp at hi; simp only [World.size_alloc]; omega) | omega)); clear hgA oA)
        | (refine step_append_lies _ (by rfl) _ _ _ (by rfl) ((w5.alloc (.cells #[.int .i64 y0, .int .i64 d0, .int .i64 f0, .bool (!b0)] 59))).heap.size 59 i1_ _ 4 32 Try.underlying25 hi1_ hz0_ hz1_ hz2_ rfl (by omega) (.slice (some ⟨gA, 0, none⟩) pn cA) pn (xs.flatMap (fun x => [Value.int .i64 x.f0, Value.int .i64 x.f1, Value.int .i64 x.f2, Value.bool x.f3])) (by rfl) (by repeat (first | exact HRW.out | (with_reducible refine World.ownsRow.alloc ?_ _) | (with_reducible refine World.ownsRow.drew ?_))) _ 1 1 (#[Value.int .i64 y0, Value.int .i64 d0, Value.int .i64 f0, Value.bool (!b0)] : Array Value).toList (by rfl) (by rfl) (World.news_of_block (t := 59) (fr := (0, 0)) (by first | exact heap_alloc_new wA _ | exact NA | exact row_held (by repeat (first | exact gby_refl _ _ | (with_reducible refine gby_alloc ?_ _) | (with_reducible refine gby_drew ?_))) NA)) (by simp [Value.oneCell']) (by omega) (by unfold maxLen; omega) (by omega) (by first | (simp; omega) | simp) _ (by rfl) ?_; intro gB cB wB oB hgB hB sB; have kB0 : wB.cell? ⟨w5.heap.size, 0, none⟩ = some (.int .i64 y0) := hgB.cell (by go_keep) (fun e => by have h2 := Option.some.inj (show some w5.heap.size = some gA from e); omega); have kB1 : wB.cell? ⟨w5.heap.size, 1, none⟩ = some (.int .i64 d0) := hgB.cell (by go_keep) (fun e => by have h2 := Option.some.inj (show some w5.heap.size = some gA from e); omega); have kB2 : wB.cell? ⟨w5.heap.size, 2, none⟩ = some (.int .i64 f0) := hgB.cell (by go_keep) (fun e => by have h2 := Option.some.inj (show some w5.heap.size = some gA from e); omega); have kB3 : wB.cell? ⟨w5.heap.size, 3, none⟩ = some (.bool (!b0)) := hgB.cell (by go_keep) (fun e => by have h2 := Option.some.inj (show some w5.heap.size = some gA from e); omega))
        | fail)
    all_goals
      have HWB := Lib.hid (show ((w5.alloc (.cells #[.int .i64 y0, .int .i64 d0, .int .i64 f0, .bool (!b0)] 59))).grownBy wB none from gby_new (by repeat (first | exact GA.out | (with_reducible refine gby_alloc ?_ _) | (with_reducible refine gby_drew ?_))) hgB (fun i hi => by have h2 := Option.some.inj (show some gA = some i from hi); (try simp only [World.size_alloc]); omega))
      have hzB := gsz9 HWB.out
      (try simp only [World.size_alloc] at hzB)
      have HOY := Lib.hid (show OwL shPageGrant wB W.heap.size wB.heap.size (.slice (some ⟨gB, 0, none⟩) (pn + 1) cB) (xs ++ [(⟨y0, d0, f0, !b0⟩ : DPageGrant)]) from OwL.wide (owP_row _ plainPageGrant.len plainPageGrant.ow (by rw [List.length_append, List.length_singleton]; omega) (by rw [List.length_append, List.length_singleton, ← HPN.out, List.flatMap_append]; exact oB)) (by (try simp only [World.size_alloc]); omega) (Nat.le_refl _))
      have HCB := Lib.hid (show Cur wB c from cur_kept HCU0.out HWB.out (by simp))
      have HGB := Lib.hid (show W.grownBy wB (some c) from gby_trans HG0.out (gby_some HWB.out _))
      have HOB := Lib.hid (OwU.grow HOX.out HWB.out)
      clear oB hgB hB sB kA0 kB0 k0 kA1 kB1 k1 kA2 kB2 k2 kA3 kB3 k3 hgA2 hA zA sA
      go_wp2_with fail
      go_at_call 12
      refine (specGOk _ _ (xs ++ [(⟨y0, d0, f0, !b0⟩ : DPageGrant)]) HOY.out.rd (by rw [szL_size0 (fun _ => rfl), List.length_append, List.length_singleton]; omega)).mono ?_
      rintro e w9 ⟨r, rfl, hr, g9⟩
      have HR := Lib.hid hr
      have HG9 := Lib.hid g9
      have hz9 := gsz9 g9
      clear hr g9
      cases r
      · go_wp2
        refine ⟨⟨n + 1, xs, by go_num, by omega, ⟨_, rfl⟩, HTO.out, ?_, cur_kept HCB.out HG9.out (by simp), gby_trans HGB.out (gby_some HG9.out _)⟩, by simp [intOf]; omega⟩
        obtain ⟨a_, b_, q1, q2, _, q3, _⟩ := (show OwU _ _ _ [] [own shPageGrant _ _] from HOB.out)
        exact OwL.wide (q3.grow HG9.out) q1 (by omega)
      · go_wp2
        exact ⟨⟨n + 1, xs ++ [(⟨y0, d0, f0, !b0⟩ : DPageGrant)], by go_num, by omega, ⟨_, rfl⟩, HR.out.1 (by first | trivial | rfl), OwL.wide (HOY.out.grow HG9.out) (Nat.le_refl _) (by omega), cur_kept HCB.out HG9.out (by simp), gby_trans HGB.out (gby_some HG9.out _)⟩, by simp [intOf]; omega⟩

def DrawnGr (W : World) (e : Ending) (w' : World) : Prop := ∃ (v : Value) (xs : List DPageGrant), e = .returned v ∧ GOk xs ∧ OwL shPageGrant w' W.heap.size w'.heap.size v xs ∧ W.grownBy w' none
set_option maxHeartbeats 1000000 in
theorem drawGr_any (W : World) (a : Option Addr) (len cap : Nat) (zs : List Int) (hB : Bytes W a len zs) (hl : len ≤ 1048576) : Calls Try.prog 27 #[.slice a len cap] W (DrawnGr W) := by
  have HB := Lib.hid hB
  clear hB
  go_enter Try.func27, Try.ntmps27
  go_wp2_with fail
  go_at_call 47
  refine (new_any _ _ _ _ _ HB.out hl).mono ?_
  rintro e w1 ⟨c, rfl, hc, H1, G1⟩
  have HC1 := Lib.hid H1
  have HG1 := Lib.hid G1
  clear H1 G1
  go_wp2_with fail
  go_at_call 46
  refine (grants36_any _ c HC1.out).mono ?_
  rintro e w2 ⟨v, xs, rfl, ht, ho, _, g⟩
  have HT := Lib.hid ht
  have HO := Lib.hid ho
  have HG2 := Lib.hid (gby_own HG1.out g (by omega))
  have hz := gsz9 HG1.out
  clear ht ho g
  go_wp2
  go_ret
  exact ⟨_, xs, rfl, HT.out, OwL.wide HO.out hz (Nat.le_refl _), HG2.out⟩

end Go.Proofs.Ytgagbhkidponnab
