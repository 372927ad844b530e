/-
  Tags drawn by the model.
-/
import Derived.Test.YtgagbhkidponnaaTags
import Derived.Test.YtgagbhkidponnaaDrawKit
import Derived.Deep.AppendLies
import Derived.Deep.RegionHeld3
import Derived.Deep.RegionLaw
namespace Go.Proofs.Ytgagbhkidponnaa
open Go Go.RowKit
set_option linter.unusedVariables false

theorem own_shape {w : World} {base : Nat} {e : TypeId} {size : Nat} {v : Value} {n : Nat} {xs : List Value} (h : w.ownsRow base e size v n xs) : ∃ a c, v = .slice a n c := by
  obtain ⟨_, h2⟩ := h
  rcases h2 with ⟨rfl, h0⟩ | ⟨g, cap, cur, rfl, _⟩
  · exact ⟨none, 0, by rw [h0]⟩
  · exact ⟨_, cap, rfl⟩
theorem own_keptT {w w' : World} {base c n size : Nat} {e : TypeId} {v : Value} {xs : List Value} (h : w.ownsRow base e size v n xs) (g : w.grownBy w' (some c)) (hc : c < base) : w'.ownsRow base e size v n xs :=
  h.kept g (.inr (fun e => by have := own_from h c e; omega))
theorem gszT {w w' : World} {r : Option Nat} (g : w.grownBy w' r) : w.heap.size ≤ w'.heap.size := g.size
def bls (xs : List Bool) : List Value := xs.flatMap (fun x => [Value.bool x])
theorem bls_append (xs ys : List Bool) : bls (xs ++ ys) = bls xs ++ bls ys := by simp [bls]

/-- drawn valid tags -/
def DrawnTags (r : Option Nat) (W : World) (e : Ending) (w' : World) : Prop := ∃ (v : Value) (xs : List Bool), e = .returned (.agg #[v]) ∧ xs.length = 8 ∧ OwU w' W.heap.size w'.heap.size [] [own shB v xs] ∧ W.grownBy w' r

set_option maxRecDepth 8000 in
set_option maxHeartbeats 4000000 in
theorem tags28_any (W : World) (c : Nat) (H : Cur W c) : Calls Try.prog 68 #[.pointer (some ⟨c, 0, none⟩)] W (DrawnTags (some c) W) := by
  have hcl_ := cur_lt H
  have HCU := Lib.hid H
  clear H
  obtain ⟨i1_, hi1_, hz0_, hz1_, hz2_⟩ := info_parts infoBool
  go_enter Try.func68, Try.ntmps68
  have rR1_ := Lib.hid (show ((W.alloc (.cells #[.slice none 0 0] 57))).heap[W.heap.size]? = some (.cells #[.slice none 0 0] 57 (0, 0)) from by exact heap_alloc_new _ _)
  have G2_ := Lib.hid (show (W).grownBy ((W.alloc (.cells #[.slice none 0 0] 57))) (some c) from (gby_alloc (gby_refl _ _) _))
  have HCU3_ := Lib.hid (show Cur ((W.alloc (.cells #[.slice none 0 0] 57))) c from cur_kept HCU.out (gby_alloc (gby_refl _ none) _) (by simp))
  have R_0_ : ((W.alloc (.cells #[.slice none 0 0] 57))).cell? ⟨W.heap.size, 0, none⟩ = some (.slice none 0 0) := cell_of_row _ _ 0 _ _ _ rR1_.out
  have HTM4_ := Lib.hid (gby_refl ((W.alloc (.cells #[.slice none 0 0] 57))) (some c))
  have MG5_ := Lib.hid (show (W).grownBy ((W.alloc (.cells #[.slice none 0 0] 57))) (some c) from G2_.out)
  have MR6_ := Lib.hid rR1_.out
  clear R_0_
  have al_ : ((W.alloc (.cells #[.slice none 0 0] 57))).grownBy (((W.alloc (.cells #[.slice none 0 0] 57))).alloc (.cells #[.slice none 0 0] 57)) none := gby_alloc (gby_refl _ _) _
  have rR7_ := Lib.hid (show (((W.alloc (.cells #[.slice none 0 0] 57)).alloc (.cells #[.slice none 0 0] 57))).heap[W.heap.size]? = some (.cells #[.slice none 0 0] 57 (0, 0)) from row_held al_ rR1_.out)
  clear rR1_
  have G8_ := Lib.hid (show (W).grownBy (((W.alloc (.cells #[.slice none 0 0] 57)).alloc (.cells #[.slice none 0 0] 57))) (some c) from gby_trans G2_.out (gby_some al_ _))
  have HCU9_ := Lib.hid (show Cur (((W.alloc (.cells #[.slice none 0 0] 57)).alloc (.cells #[.slice none 0 0] 57))) c from cur_kept HCU3_.out al_ (by simp))
  have HTM10_ := Lib.hid (show ((W.alloc (.cells #[.slice none 0 0] 57))).grownBy (((W.alloc (.cells #[.slice none 0 0] 57)).alloc (.cells #[.slice none 0 0] 57))) (some c) from gby_trans HTM4_.out (gby_some al_ _))
  clear HTM4_
  have rB11_ := Lib.hid (show (((W.alloc (.cells #[.slice none 0 0] 57)).alloc (.cells #[.slice none 0 0] 57))).heap[W.heap.size + 1]? = some (.cells #[.slice none 0 0] 57 (0, 0)) from by first | exact heap_alloc_new _ _ | exact heap_pair _ _ _ | exact heap_trip _ _ _ _)
  clear al_
  have R_0_ : (((W.alloc (.cells #[.slice none 0 0] 57)).alloc (.cells #[.slice none 0 0] 57))).cell? ⟨W.heap.size, 0, none⟩ = some (.slice none 0 0) := cell_of_row _ _ 0 _ _ _ rR7_.out
  have B_0_ : (((W.alloc (.cells #[.slice none 0 0] 57)).alloc (.cells #[.slice none 0 0] 57))).cell? ⟨W.heap.size + 1, 0, none⟩ = some (.slice none 0 0) := cell_of_row _ _ 0 _ _ _ rB11_.out
  have HB0 := Lib.hid (show (((W.alloc (.cells #[.slice none 0 0] 57)).alloc (.cells #[.slice none 0 0] 57))).heap[W.heap.size + 1]? = some (.cells #[.slice none 0 0] 57 (0, 0)) from rB11_.out)
  go_wp2
  go_loopw [4] (fun k wr => ∃ (n : Nat) (xs : List Bool) (sv : Value), k = .int .i64 (n : Int) ∧ n ≤ 8 ∧ xs.length = n ∧ wr.heap[W.heap.size + 1]? = some (.cells #[sv] 57 (0, 0)) ∧ wr.ownsRow (W.heap.size + 1 + 1) 4 1 sv n (bls xs) ∧ Cur wr c ∧ ((W.alloc (.cells #[.slice none 0 0] 57))).grownBy wr (some c)) (fun k _ => 8 - (intOf k).toNat)
  case atStart => exact ⟨0, [], _, rfl, by omega, rfl, HB0.out, ⟨rfl, .inl ⟨rfl, rfl⟩⟩, HCU9_.out, HTM10_.out⟩
  case round =>
    clear R_0_ B_0_
    clear rR7_
    clear rB11_
    clear HTM10_
    clear HCU9_
    obtain ⟨n, xs, sv, rfl, hn, hlen, hbx, hown, hcu, hg⟩ := hrel
    have szr_ := hg.size
    try simp only [World.size_alloc] at szr_
    try simp only [World.size_setCell] at szr_
    have G12_ := Lib.hid (show (W).grownBy (wr) (some c) from gby_trans MG5_.out hg)
    have rR13_ := Lib.hid (show (wr).heap[W.heap.size]? = some (.cells #[.slice none 0 0] 57 (0, 0)) from Chg.keep (chg_cur hg) MR6_.out (by omega))
    have HCU14_ := Lib.hid (show Cur (wr) c from hcu)
    have HTM15_ := Lib.hid hg
    clear hg hcu
    have R_0_ : (wr).cell? ⟨W.heap.size, 0, none⟩ = some (.slice none 0 0) := cell_of_row _ _ 0 _ _ _ rR13_.out
    have HLN := Lib.hid hlen
    obtain ⟨pa, pc, hv_⟩ := own_shape hown
    subst hv_
    have HO := Lib.hid hown
    clear hlen hown
    have hn0 : (0 : Int) ≤ (n : Int) := by omega
    have htn : ((n : Int)).toNat = n := by omega
    have rB16_ := Lib.hid (show (wr).heap[W.heap.size + 1]? = some (.cells #[.slice pa n pc] 57 (0, 0)) from hbx)
    clear hbx
    have hwr : W.heap.size + 1 < wr.heap.size := lt_of_block (rB16_.out)
    by_cases hlt : n < 8
    rotate_left
    · obtain rfl : n = 8 := by omega
      have hki : ¬ ((8 : Nat) : Int) ≤ 7 := by omega
      have HV := Lib.hid (show OwU wr (W.heap.size + 1 + 1) wr.heap.size [] [own shB (.slice pa 8 pc) xs] from OwU.one (owP_row _ plainB.len plainB.ow (by have := HLN.out; omega) (by have q := HO.out; rw [← HLN.out] at q ⊢; exact q)))
      clear R_0_
      have R_0_ : (wr).cell? ⟨W.heap.size, 0, none⟩ = some (.slice none 0 0) := cell_of_row _ _ 0 _ _ _ rR13_.out
      have B_0_ : (wr).cell? ⟨W.heap.size + 1, 0, none⟩ = some (.slice pa 8 pc) := cell_of_row _ _ 0 _ _ _ rB16_.out
      have FR0 := frozen_of_row _ _ 0 _ _ rR13_.out
      have zr_ := Lib.hid (show ((wr.setCell ⟨W.heap.size, 0, none⟩ (.slice pa 8 pc))).heap[W.heap.size]? = some (.cells #[.slice pa 8 pc] 57 (0, 0)) from heap_setCell_same _ _ 0 _ _ _ rR13_.out)
      have z0_ : ((wr.setCell ⟨W.heap.size, 0, none⟩ (.slice pa 8 pc))).cell? ⟨W.heap.size, 0, none⟩ = some (.slice pa 8 pc) := cell_of_row _ _ 0 _ _ _ zr_.out
      go_wp2
      refine bodyPost_ret (v := .agg #[.slice pa 8 pc]) (by simp [results, go_sem, z0_]) rfl ⟨_, xs, rfl, HLN.out, ?_, ?_⟩
      · exact OwU.wide (by omega) (by simp only [World.size_setCell]; omega) (OwU.keep (chg_one _ _ _ _) (.inr (by omega)) HV.out)
      · exact gby_setnew G12_.out _ (by dsimp only; omega) _
    clear R_0_
    have hki : (n : Int) ≤ 7 := by omega
    have c0 := cell_of_row _ _ 0 _ _ _ rB16_.out
    have HCD := Lib.hid (show Cur wr.drew c from cur_kept HCU14_.out (gby_drew (gby_refl _ none)) (by simp))
    have HBD := Lib.hid (show wr.drew.heap[W.heap.size + 1]? = some (.cells #[(.slice pa n pc)] 57 (0, 0)) from rB16_.out)
    have HOD := Lib.hid (show wr.drew.ownsRow (W.heap.size + 1 + 1) 4 1 (.slice pa n pc) n (bls xs) from HO.out.drew)
    have HTD := Lib.hid (show ((W.alloc (.cells #[.slice none 0 0] 57))).grownBy wr.drew (some c) from gby_drew HTM15_.out)
    go_wp2_with fail
    go_region_law (first
      | (go_simp; go_at_call 94; refine (once_any _ c 2 HCD.out (by omega) (by omega)).mono ?_; rintro e wA ⟨x, rfl, HA, gA⟩; have ZA := Chg.keep (chg_cur gA) HBD.out (by omega); have a0 := cell_of_row wA _ 0 _ _ _ ZA; have ZC := row_held (gby_alloc (gby_refl wA none) (.cells #[.bool x] 4)) ZA; have a0c := cell_of_row _ _ 0 _ _ _ ZC; have OA := own_keptT HOD.out gA (by omega); have sA := gA.size; (try simp only [World.size_drew] at sA))
      | (refine step_append_lies _ (by rfl) _ _ _ (by rfl) (W.heap.size + 1 + 1) 4 i1_ _ 1 1 Try.underlying55 hi1_ hz0_ hz1_ hz2_ rfl (by omega) _ n (bls xs) (by rfl) (OA.alloc _) ⟨wA.heap.size, 0, none⟩ 1 1 _ (by rfl) (by rfl) (World.news_of_block (t := 4) (fr := (0, 0)) (heap_alloc_new wA _)) (by simp [Value.oneCell']) (by omega) (by unfold maxLen; omega) (by omega) (by simp; omega) (wA.heap.size + 1) (by simp) ?_; intro gg cap2 wB hownB hgB hatB hltB; have ZB : wB.heap[W.heap.size + 1]? = some (.cells #[(.slice pa n pc)] 57 (0, 0)) := (hgB.block (W.heap.size + 1) (by simp; omega) (fun e => by have := own_from OA _ e.symm; omega)).trans (row_held (gby_alloc (gby_refl wA none) _) ZA); have b0 := cell_of_row wB _ 0 _ _ _ ZB; have f0 := frozen_of_row wB _ 0 _ _ ZB)
      | fail)
    all_goals
      have HOB := Lib.hid hownB
      have HGB := Lib.hid (show ((W.alloc (.cells #[.slice none 0 0] 57))).grownBy wB (some c) from gby_new (gby_alloc (gby_trans HTD.out gA) _) hgB (fun i hi => by have := own_from OA i hi; (try simp only [World.size_alloc]); omega))
      have HCB := Lib.hid (show Cur wB c from cur_other (cur_kept HA (World.grownBy_alloc wA _ none) (by simp)) hgB (fun i hi => by have := own_from OA i hi; omega))
      have HZB := Lib.hid ZB
      clear hownB hgB OA HA gA ZA ZB ZC b0 a0 a0c hatB hltB c0
      have zr_ := Lib.hid (show (wB.setCell ⟨W.heap.size + 1, 0, none⟩ (.slice (some ⟨gg, 0, none⟩) (n + 1) cap2)).heap[W.heap.size + 1]? = some (.cells #[(.slice (some ⟨gg, 0, none⟩) (n + 1) cap2)] 57 (0, 0)) from heap_setCell_same _ _ 0 _ _ _ HZB.out)
      go_wp2
      refine ⟨⟨n + 1, xs ++ [x], _, by go_num, by omega, by have := HLN.out; simp [this], zr_.out, by rw [bls_append]; exact own_keptT HOB.out (gby_set (gby_refl _ (some (W.heap.size + 1))) 0 _) (by omega), ?_, ?_⟩, by simp [intOf]; omega⟩
      · exact cur_other HCB.out (gby_set (gby_refl _ _) _ _) (fun i hi => by have h2 := Option.some.inj hi; omega)
      · exact gby_setnew HGB.out _ (by dsimp only; (try simp only [World.size_alloc]); omega) _

set_option maxHeartbeats 1000000 in
theorem drawTags_any (W : World) (a : Option Addr) (len cap : Nat) (zs : List Int) (hB : Bytes W a len zs) (hl : len ≤ 1048576) : Calls Try.prog 38 #[.slice a len cap] W (DrawnTags none W) := by
  have HB := Lib.hid hB
  clear hB
  go_enter Try.func38, Try.ntmps38
  have HB0 := Lib.hid (bytes_grow HB.out (gby_alloc (gby_refl W none) (.cells #[.slice none 0 0] 57)))
  have r0 := Lib.hid (heap_alloc_new W (.cells #[.slice none 0 0] 57))
  have G0 := Lib.hid (gby_alloc (gby_refl W none) (.cells #[.slice none 0 0] 57))
  go_wp2_with fail
  go_at_call 57
  refine (new_any _ _ _ _ _ HB0.out hl).mono ?_
  rintro e w1 ⟨c, rfl, hc, H1, G1⟩
  simp only [World.size_alloc] at hc
  have HC1 := Lib.hid H1
  have r1 := Lib.hid (row_held G1 r0.out)
  have hs1 := G1.size
  simp only [World.size_alloc] at hs1
  have HG1 := Lib.hid (gby_trans G0.out G1)
  have hcl := cur_lt H1
  clear H1 G1
  go_wp2_with fail
  go_at_call 68
  refine (tags28_any _ c HC1.out).mono ?_
  rintro e w2 ⟨v, xs, rfl, h8, o, g⟩
  obtain ⟨va, vn, vc, hv_⟩ := RdL.form (OwU.rd o)
  subst hv_
  have hs2 := g.size
  have r2 := Lib.hid (show w2.heap[W.heap.size]? = some (.cells #[.slice none 0 0] 57 (0, 0)) from Chg.keep (chg_cur g) r1.out (by omega))
  have HG2 := Lib.hid (gby_own HG1.out g (by omega))
  have HO := Lib.hid o
  clear g o
  have c0 := cell_of_row _ _ 0 _ _ _ r2.out
  have f0 := frozen_of_row _ _ 0 _ _ r2.out
  have zr_ := Lib.hid (show (w2.setCell ⟨W.heap.size, 0, none⟩ (.slice va vn vc)).heap[W.heap.size]? = some (.cells #[.slice va vn vc] 57 (0, 0)) from heap_setCell_same _ _ 0 _ _ _ r2.out)
  have z0_ := cell_of_row _ _ 0 _ _ _ zr_.out
  go_wp2
  refine bodyPost_ret (v := .agg #[.slice va vn vc]) (by simp [results, go_sem, z0_]) rfl ⟨_, xs, rfl, h8, ?_, ?_⟩
  · exact OwU.wide (by omega) (by simp only [World.size_setCell]; omega) (OwU.keep (chg_one _ _ _ _) (.inr (by omega)) HO.out)
  · exact gby_setnew HG2.out _ (by dsimp only; omega) _

end Go.Proofs.Ytgagbhkidponnaa
