/-
  One address translated, on both sides.
-/
import Derived.Test.YtgagbhkidponnabGrMap
import Derived.Test.YtgagbhkidponnabRTranslate
import Derived.Test.YtgagbhkidponnabOpen64
namespace Go.Proofs.Ytgagbhkidponnab
open Go Go.RowKit
set_option linter.unusedVariables false
open Go.Maps

/-- grant k is for page q of the function id -/
def AtK (xs : List DPageGrant) (k : Nat) (id q : Int) : Prop := (pg xs k).f0 = id ∧ (pg xs k).f1 = q
theorem atK_one {xs : List DPageGrant} (h : GOk xs) {i j : Nat} {id q : Int} (hi : i < xs.length) (hj : j < xs.length) (a : AtK xs i id q) (b : AtK xs j id q) : i = j := by
  rcases Nat.lt_trichotomy i j with c | c | c
  · exact absurd ⟨a.1.trans b.1.symm, a.2.trans b.2.symm⟩ (h.2.2 j hj i c)
  · exact c
  · exact absurd ⟨b.1.trans a.1.symm, b.2.trans a.2.symm⟩ (h.2.2 i hi j c)
/-- what a grant gives -/
def giv (y : DPageGrant) (a : Int) (wt : Bool) : Int × Int := if wt = true ∧ y.f3 = false then (0, 2) else (y.f2 * 256 + a % 256, 0)
/-- what an address is translated to, and why it is not -/
noncomputable def tr (xs : List DPageGrant) (id a : Int) (wt : Bool) : Int × Int := by
  classical exact if h : GOk xs ∧ (0 ≤ a ∧ a ≤ 65535) ∧ ∃ k, k < xs.length ∧ AtK xs k id (a / 256) then giv (pg xs (Classical.choose h.2.2)) a wt else (0, 1)
theorem tr_bad {xs : List DPageGrant} (id a : Int) (wt : Bool) (h : ¬ GOk xs) : tr xs id a wt = (0, 1) := by
  unfold tr; rw [dif_neg (fun q => h q.1)]
theorem tr_out (xs : List DPageGrant) (id : Int) {a : Int} (wt : Bool) (h : a < 0 ∨ 65535 < a) : tr xs id a wt = (0, 1) := by
  unfold tr; rw [dif_neg (fun q => by have := q.2.1; omega)]
theorem tr_none {xs : List DPageGrant} {id a : Int} (wt : Bool) (h : ∀ k, k < xs.length → ¬ AtK xs k id (a / 256)) : tr xs id a wt = (0, 1) := by
  unfold tr; rw [dif_neg (fun q => by obtain ⟨k, hk, hq⟩ := q.2.2; exact h k hk hq)]
theorem tr_hit {xs : List DPageGrant} {id a : Int} (wt : Bool) (hg : GOk xs) (h0 : 0 ≤ a) (h1 : a ≤ 65535) {k : Nat} (hk : k < xs.length) (hq : AtK xs k id (a / 256)) : tr xs id a wt = giv (pg xs k) a wt := by
  unfold tr
  have hh : GOk xs ∧ (0 ≤ a ∧ a ≤ 65535) ∧ ∃ k, k < xs.length ∧ AtK xs k id (a / 256) := ⟨hg, ⟨h0, h1⟩, k, hk, hq⟩
  rw [dif_pos hh]
  obtain ⟨c1, c2⟩ := Classical.choose_spec hh.2.2
  rw [atK_one hg c1 hk c2 hq]
def TrPost (xs : List DPageGrant) (id a : Int) (wt : Bool) (W : World) (e : Ending) (w' : World) : Prop := e = .returned (.tuple #[.int .i64 (tr xs id a wt).1, .int .i64 (tr xs id a wt).2]) ∧ W.grownBy w' none
theorem quo_facts {a : Int} (h0 : 0 ≤ a) (h1 : a ≤ 65535) : ∃ q r : Int, a / 256 = q ∧ a % 256 = r ∧ Int.tdiv a 256 = q ∧ Int.tmod a 256 = r ∧ 0 ≤ q ∧ q ≤ 255 ∧ 0 ≤ r ∧ r ≤ 255 ∧ IntKind.i64.wrap q = q ∧ IntKind.i64.wrap r = r :=
  ⟨a / 256, a % 256, rfl, rfl, Int.tdiv_eq_ediv_of_nonneg h0, Int.tmod_eq_emod_of_nonneg h0, by omega, by omega, by omega, by omega, IntWalk.i64_in _ (by omega), IntWalk.i64_in _ (by omega)⟩
theorem lookG (w : World) {ops : Array Oper} {rest : List Oper} {o : Oper} {a : Act} {Q : Exit → Act → World → Prop} (hg : o.guard = none) (m x : Operand) (hop : o.op = Op.lookup 65 m x true) (b n : Nat) (D : DataW Unit)
    (hm : a.eval m = .map (some b)) (hown : w.ownsMap Try.prog 82 rG b n D) (id q : Int) (hx : a.eval x = kv id q) (h1 : (Lit.int .i64 id).wf = true) (h2 : (Lit.int .i64 q).wf = true) (y0 y1 y2 : Int) (y3 : Bool) (hat : D.atKey (kl id q) (dg zG) = dg ⟨y0, y1, y2, y3⟩) (r : Bool) (hr : has D (kl id q) = r)
    (hK : wpList Try.prog ops Q rest (a.put o.dst (.tuple #[.agg #[.int .i64 y0, .int .i64 y1, .int .i64 y2, .bool y3], .bool r])) w) : wpList Try.prog ops Q (o :: rest) a w :=
  wpList_lookup_own_ok w hg m x 65 hop 82 59 seenKeyed Try.underlying65 rG (zeroG w) (dg zG) [] rfl b n D hm hown (kv id q) (kl id q) hx (keyOf_kv h1 h2) (fun v ps hv => by
    obtain ⟨z, rfl, hz⟩ := rG_inv hv
    have e := congrArg Prod.fst hz
    dsimp only at e
    rw [hat] at e
    obtain rfl := dg_inj e
    rw [hr]
    exact hK)

set_option maxRecDepth 8000 in
set_option maxHeartbeats 2000000 in
theorem specTr (W : World) (v : Value) (xs : List DPageGrant) (id a : Int) (wt : Bool) (H : RdL shPageGrant W v xs) (hl : szL shPageGrant xs ≤ 1048576) : Calls Try.prog 18 #[v, .int .i64 id, .int .i64 a, .bool wt] W (TrPost xs id a wt W) := by
  have HT := Lib.hid H
  have HLZ := Lib.hid hl
  rw [szL_size0 (fun _ => rfl)] at hl
  obtain ⟨a0, cap, rfl, hcap, hi⟩ := rdG_in H
  have HA := Lib.hid hi
  obtain ⟨len, hlen⟩ : ∃ len, len = xs.length := ⟨_, rfl⟩
  have HE := Lib.hid hlen
  unfold RdG at HA
  rw [← hlen] at hl HA HT ⊢
  clear H hi hlen hcap
  go_enter Try.func18, Try.ntmps18
  by_cases hg : GOk xs
  rotate_left
  · have HNG := Lib.hid hg
    clear hg
    go_wp2_with fail
    go_at_call 12
    refine ((specGOk _ _ xs (HT.out.grow (gby_refl _ _)) HLZ.out).mono (bpost_no HNG.out)).mono ?_
    rintro e w1 ⟨rfl, g⟩
    have szw1 := g.size
    try simp only [World.size_alloc] at szw1
    try simp only [World.size_setCell] at szw1
    have G1_ := Lib.hid (show (W).grownBy (w1) none from gby_trans (gby_refl _ _) g)
    clear g
    go_wp2
    go_ret2
    exact ⟨by rw [tr_bad _ _ _ HNG.out]; rfl, G1_.out⟩
  have HG := Lib.hid hg
  clear hg
  go_wp2_with fail
  go_at_call 12
  refine ((specGOk _ _ xs (HT.out.grow (gby_refl _ _)) HLZ.out).mono (bpost_yes HG.out)).mono ?_
  rintro e w1 ⟨rfl, g⟩
  have szw1 := g.size
  try simp only [World.size_alloc] at szw1
  try simp only [World.size_setCell] at szw1
  have G1_ := Lib.hid (show (W).grownBy (w1) none from gby_trans (gby_refl _ _) g)
  clear g
  rcases inr_or2 a 0 65535 with ⟨ha0, ha1⟩ | hb
  rotate_left
  · have HB := Lib.hid hb
    clear hb
    go_wp2_with fail
    go_at_call 38
    refine (in_no _ _ _ _ HB.out).mono ?_
    rintro e w2_ ⟨rfl, rfl⟩
    go_wp2
    go_ret2
    exact ⟨by rw [tr_out _ _ _ HB.out]; rfl, G1_.out⟩
  go_wp2_with fail
  go_at_call 38
  refine (in_yes _ _ _ _ ha0 ha1).mono ?_
  rintro e w2_ ⟨rfl, rfl⟩
  obtain ⟨q, r, hq, hr, hqd, hrd, q0, q1, r0, r1, hqw, hrw⟩ := quo_facts ha0 ha1
  have HQ := Lib.hid hq
  have HR := Lib.hid hr
  clear hq hr
  have HTM2_ := Lib.hid (gby_refl (w1) none)
  have MG3_ := Lib.hid (show (W).grownBy (w1) none from G1_.out)
  go_wp2
  go_loopw [10] (fun i wr => ∃ n : Nat, n ≤ len ∧ i = .int .i64 (n : Int) ∧ (∀ k, k < n → ¬ AtK xs k id q) ∧ (w1).grownBy wr none) (fun i _ => len - (intOf i).toNat)
  case atStart => exact ⟨0, by omega, rfl, fun k hk => absurd hk (Nat.not_lt_zero _), HTM2_.out⟩
  case round =>
    clear HTM2_
    obtain ⟨n, hn, rfl, hno, hg⟩ := hrel
    have szr_ := hg.size
    try simp only [World.size_alloc, World.size_setCell] at szr_
    have G4_ := Lib.hid (show (W).grownBy (wr) none from gby_trans MG3_.out hg)
    have HTM5_ := Lib.hid hg
    clear hg
    have HNO := Lib.hid hno
    clear hno
    have hn0 : (0 : Int) ≤ (n : Int) := by omega
    have htn : ((n : Int)).toNat = n := by omega
    by_cases hlt : n < len
    rotate_left
    · obtain rfl : n = len := by omega
      have hki : ¬ (n : Int) < (n : Int) := by omega
      go_wp2
      go_ret2
      exact ⟨by rw [tr_none _ (fun k hk => by rw [HQ.out]; exact HNO.out k (by rw [HE.out]; exact hk))]; rfl, G4_.out⟩
    have hki : (n : Int) < (len : Int) := by omega
    obtain ⟨b, off, rfl, hcell⟩ := HA.out.resolve_left (by omega)
    obtain ⟨y_, hy_⟩ : ∃ y_, y_ = pg xs n := ⟨_, rfl⟩
    have hyc_ := hcell n (by omega)
    rw [← hy_] at hyc_
    obtain ⟨y0, y1, y2, y3⟩ := y_
    dsimp only at hyc_
    have Hy := Lib.hid hy_
    have Hy0 := Lib.hid hyc_.1
    have Hy1 := Lib.hid hyc_.2.1
    have Hy2 := Lib.hid hyc_.2.2.1
    have Hy3 := Lib.hid hyc_.2.2.2
    clear hyc_ hy_ hcell
    have y0_ := (G4_.out).cell Hy0.out (by simp)
    have y1_ := (G4_.out).cell Hy1.out (by simp)
    have y2_ := (G4_.out).cell Hy2.out (by simp)
    have y3_ := (G4_.out).cell Hy3.out (by simp)
    by_cases h0 : y0 = id
    rotate_left
    · have hb0 : (y0 != id) = true := bne_iff_ne.2 h0
      have HB := Lib.hid h0
      clear h0
      go_wp2
      refine ⟨⟨n + 1, by omega, by go_num, fun i hi => ?_, by repeat (first | exact HTM5_.out | with_reducible refine gby_drewN ?_ _)⟩, by simp [intOf]; omega⟩
      by_cases e : i = n
      · subst e; unfold AtK; rw [← Hy.out]; exact fun q => HB.out q.1
      · exact HNO.out i (by omega)
    have hb0 : (y0 != id) = false := by simpa using h0
    by_cases h1 : y1 = q
    rotate_left
    · have hb1 : (y1 != q) = true := bne_iff_ne.2 h1
      have HB := Lib.hid h1
      clear h1
      go_wp2
      refine ⟨⟨n + 1, by omega, by go_num, fun i hi => ?_, by repeat (first | exact HTM5_.out | with_reducible refine gby_drewN ?_ _)⟩, by simp [intOf]; omega⟩
      by_cases e : i = n
      · subst e; unfold AtK; rw [← Hy.out]; exact fun q => HB.out q.2
      · exact HNO.out i (by omega)
    have hb1 : (y1 != q) = false := by simpa using h1
    have HTR := Lib.hid (show tr xs id a wt = giv ⟨y0, y1, y2, y3⟩ a wt from by rw [Hy.out]; exact tr_hit wt HG.out ha0 ha1 (by rw [← HE.out]; exact hlt) ⟨by rw [← Hy.out]; exact h0, by rw [← Hy.out, HQ.out]; exact h1⟩)
    have hing := HG.out.2.1 n (by rw [← HE.out]; exact hlt)
    rw [← Hy.out] at hing
    have hy2a := hing.2.2.1
    have hy2b := hing.2.2.2
    dsimp only at hy2a hy2b
    clear hing h0 h1
    have hmw : IntKind.i64.wrap (y2 * 256) = y2 * 256 := IntWalk.i64_in _ (by omega)
    have hsw : IntKind.i64.wrap (y2 * 256 + r) = y2 * 256 + r := IntWalk.i64_in _ (by omega)
    cases wt
    · skip
      go_wp2
      go_ret2
      exact ⟨by rw [HTR.out]; unfold giv; (try rw [HR.out]); rfl, G4_.out⟩
    · cases y3
      · skip
        go_wp2
        go_ret2
        exact ⟨by rw [HTR.out]; unfold giv; (try rw [HR.out]); rfl, G4_.out⟩
      · skip
        go_wp2
        go_ret2
        exact ⟨by rw [HTR.out]; unfold giv; (try rw [HR.out]); rfl, G4_.out⟩

set_option maxRecDepth 8000 in
set_option maxHeartbeats 2000000 in
theorem look_any (W : World) (b : Nat) (xs : List DPageGrant) (id a : Int) (wt : Bool) (hown : W.ownsMap Try.prog 82 rG b xs.length (dmap xs xs.length)) (hg : GOk xs) (hi : I64 id) : Calls Try.prog 44 #[.map (some b), .int .i64 id, .int .i64 a, .bool wt] W (TrPost xs id a wt W) := by
  have HO := Lib.hid hown
  have HG := Lib.hid hg
  have HI := Lib.hid (show (Lit.int .i64 id).wf = true from WalkArith.wf_i64 (by unfold I64 at hi; omega))
  clear hown hg hi
  go_enter Try.func44, Try.ntmps44
  rcases inr_or2 a 0 65535 with ⟨ha0, ha1⟩ | hb
  rotate_left
  · have HB := Lib.hid hb
    clear hb
    go_wp2_with fail
    go_at_call 45
    refine (rng_no _ _ _ _ HB.out).mono ?_
    rintro e w1_ ⟨rfl, rfl⟩
    go_wp2
    go_ret2
    exact ⟨by rw [tr_out _ _ _ HB.out]; rfl, (gby_refl _ _)⟩
  obtain ⟨q, r, hq, hr, hqd, hrd, q0, q1, r0, r1, hqw, hrw⟩ := quo_facts ha0 ha1
  have HQ := Lib.hid hq
  have HR := Lib.hid hr
  clear hq hr
  by_cases hit : ∃ k, k < xs.length ∧ AtK xs k id q
  rotate_left
  · have HNO := Lib.hid (show ∀ k, k < xs.length → ¬ AtK xs k id q from fun k hk h => hit ⟨k, hk, h⟩)
    have HHAS := Lib.hid (show has (dmap xs xs.length) (kl id q) = false from by
      cases hh : has (dmap xs xs.length) (kl id q) with
      | false => rfl
      | true =>
        obtain ⟨k, hk, h⟩ := (dmap_has (xs := xs) HI.out (wf_small q0 q1) _ HG.out.2.1).1 hh
        exact absurd h (HNO.out k hk))
    clear hit
    go_wp2_with fail
    go_at_call 45
    refine (rng_yes _ _ _ _ ha0 ha1).mono ?_
    rintro e w1_ ⟨rfl, rfl⟩
    have al_ : (W).grownBy ((W).alloc (.cells #[.int .i64 0, .int .i64 0, .int .i64 0, .bool false] 59)) none := gby_alloc (gby_refl _ _) _
    have G1_ := Lib.hid (show (W).grownBy ((W.alloc (.cells #[.int .i64 0, .int .i64 0, .int .i64 0, .bool false] 59))) none from gby_trans (gby_refl _ _) al_)
    have rG2_ := Lib.hid (show ((W.alloc (.cells #[.int .i64 0, .int .i64 0, .int .i64 0, .bool false] 59))).heap[W.heap.size]? = some (.cells #[.int .i64 0, .int .i64 0, .int .i64 0, .bool false] 59 (0, 0)) from by first | exact heap_alloc_new _ _ | exact heap_pair _ _ _ | exact heap_trip _ _ _ _)
    clear al_
    have G_0_ : ((W.alloc (.cells #[.int .i64 0, .int .i64 0, .int .i64 0, .bool false] 59))).cell? ⟨W.heap.size, 0, none⟩ = some (.int .i64 0) := cell_of_row _ _ 0 _ _ _ rG2_.out
    have G_1_ : ((W.alloc (.cells #[.int .i64 0, .int .i64 0, .int .i64 0, .bool false] 59))).cell? ⟨W.heap.size, 1, none⟩ = some (.int .i64 0) := cell_of_row _ _ 1 _ _ _ rG2_.out
    have G_2_ : ((W.alloc (.cells #[.int .i64 0, .int .i64 0, .int .i64 0, .bool false] 59))).cell? ⟨W.heap.size, 2, none⟩ = some (.int .i64 0) := cell_of_row _ _ 2 _ _ _ rG2_.out
    have G_3_ : ((W.alloc (.cells #[.int .i64 0, .int .i64 0, .int .i64 0, .bool false] 59))).cell? ⟨W.heap.size, 3, none⟩ = some (.bool false) := cell_of_row _ _ 3 _ _ _ rG2_.out
    go_wp2_with (at_lookup; refine lookG _ rfl _ _ rfl b xs.length (dmap xs xs.length) rfl (HO.out) id q rfl HI.out (wf_small q0 q1) 0 0 0 false (atKey_of_not_has HHAS.out _) false HHAS.out ?_)
    go_ret2
    exact ⟨by rw [tr_none _ (fun k hk => by rw [HQ.out]; exact HNO.out k hk)]; rfl, G1_.out⟩
  obtain ⟨k, hk, h0, h1⟩ := hit
  obtain ⟨y_, hy_⟩ : ∃ y_, y_ = pg xs k := ⟨_, rfl⟩
  have HTR := Lib.hid (show tr xs id a wt = giv y_ a wt from by rw [hy_]; exact tr_hit wt HG.out ha0 ha1 hk ⟨h0, by rw [HQ.out]; exact h1⟩)
  have hing := HG.out.2.1 k hk
  have HAT := Lib.hid (show ∀ z, (dmap xs xs.length).atKey (kl id q) z = dg y_ from fun z => by rw [hy_, ← h0, ← h1]; exact dmap_at _ HG.out.2.1 HG.out.2.2 k hk z)
  have HHAS := Lib.hid (show has (dmap xs xs.length) (kl id q) = true from (dmap_has (xs := xs) HI.out (wf_small q0 q1) _ HG.out.2.1).2 ⟨k, hk, h0, h1⟩)
  rw [← hy_] at hing
  clear h0 h1 hy_ hk
  obtain ⟨y0, y1, y2, y3⟩ := y_
  have hy2a := hing.2.2.1
  have hy2b := hing.2.2.2
  dsimp only at hy2a hy2b
  clear hing
  go_wp2_with fail
  go_at_call 45
  refine (rng_yes _ _ _ _ ha0 ha1).mono ?_
  rintro e w1_ ⟨rfl, rfl⟩
  have al_ : (W).grownBy ((W).alloc (.cells #[.int .i64 y0, .int .i64 y1, .int .i64 y2, .bool y3] 59)) none := gby_alloc (gby_refl _ _) _
  have G1_ := Lib.hid (show (W).grownBy ((W.alloc (.cells #[.int .i64 y0, .int .i64 y1, .int .i64 y2, .bool y3] 59))) none from gby_trans (gby_refl _ _) al_)
  have rG2_ := Lib.hid (show ((W.alloc (.cells #[.int .i64 y0, .int .i64 y1, .int .i64 y2, .bool y3] 59))).heap[W.heap.size]? = some (.cells #[.int .i64 y0, .int .i64 y1, .int .i64 y2, .bool y3] 59 (0, 0)) from by first | exact heap_alloc_new _ _ | exact heap_pair _ _ _ | exact heap_trip _ _ _ _)
  clear al_
  have G_0_ : ((W.alloc (.cells #[.int .i64 y0, .int .i64 y1, .int .i64 y2, .bool y3] 59))).cell? ⟨W.heap.size, 0, none⟩ = some (.int .i64 y0) := cell_of_row _ _ 0 _ _ _ rG2_.out
  have G_1_ : ((W.alloc (.cells #[.int .i64 y0, .int .i64 y1, .int .i64 y2, .bool y3] 59))).cell? ⟨W.heap.size, 1, none⟩ = some (.int .i64 y1) := cell_of_row _ _ 1 _ _ _ rG2_.out
  have G_2_ : ((W.alloc (.cells #[.int .i64 y0, .int .i64 y1, .int .i64 y2, .bool y3] 59))).cell? ⟨W.heap.size, 2, none⟩ = some (.int .i64 y2) := cell_of_row _ _ 2 _ _ _ rG2_.out
  have G_3_ : ((W.alloc (.cells #[.int .i64 y0, .int .i64 y1, .int .i64 y2, .bool y3] 59))).cell? ⟨W.heap.size, 3, none⟩ = some (.bool y3) := cell_of_row _ _ 3 _ _ _ rG2_.out
  have hmw : IntKind.i64.wrap (y2 * 256) = y2 * 256 := IntWalk.i64_in _ (by omega)
  have hsw : IntKind.i64.wrap (y2 * 256 + r) = y2 * 256 + r := IntWalk.i64_in _ (by omega)
  cases wt
  · skip
    go_wp2_with (at_lookup; refine lookG _ rfl _ _ rfl b xs.length (dmap xs xs.length) rfl (HO.out) id q rfl HI.out (wf_small q0 q1) y0 y1 y2 y3 (HAT.out _) true HHAS.out ?_)
    go_ret2
    exact ⟨by rw [HTR.out]; unfold giv; (try rw [HR.out]); rfl, G1_.out⟩
  · cases y3
    · skip
      go_wp2_with (at_lookup; refine lookG _ rfl _ _ rfl b xs.length (dmap xs xs.length) rfl (HO.out) id q rfl HI.out (wf_small q0 q1) y0 y1 y2 false (HAT.out _) true HHAS.out ?_)
      go_ret2
      exact ⟨by rw [HTR.out]; unfold giv; (try rw [HR.out]); rfl, G1_.out⟩
    · skip
      go_wp2_with (at_lookup; refine lookG _ rfl _ _ rfl b xs.length (dmap xs xs.length) rfl (HO.out) id q rfl HI.out (wf_small q0 q1) y0 y1 y2 true (HAT.out _) true HHAS.out ?_)
      go_ret2
      exact ⟨by rw [HTR.out]; unfold giv; (try rw [HR.out]); rfl, G1_.out⟩

set_option maxRecDepth 8000 in
set_option maxHeartbeats 2000000 in
theorem implTr (W : World) (v : Value) (xs : List DPageGrant) (id a : Int) (wt : Bool) (H : RdL shPageGrant W v xs) (hl : szL shPageGrant xs ≤ 1048576) (hi : I64 id) : Calls Try.prog 19 #[v, .int .i64 id, .int .i64 a, .bool wt] W (TrPost xs id a wt W) := by
  have HT := Lib.hid H
  have HLZ := Lib.hid hl
  rw [szL_size0 (fun _ => rfl)] at hl
  obtain ⟨a0, cap, rfl, hcap, hi2⟩ := rdG_in H
  have HA := Lib.hid hi2
  obtain ⟨len, hlen⟩ : ∃ len, len = xs.length := ⟨_, rfl⟩
  have HE := Lib.hid hlen
  unfold RdG at HA
  rw [← hlen] at hl HA HT ⊢
  clear H hi2 hlen hcap
  go_enter Try.func19, Try.ntmps19
  by_cases hg : GOk xs
  rotate_left
  · have HNG := Lib.hid hg
    clear hg
    go_wp2_with fail
    go_at_call 14
    refine ((implGOk _ _ xs (HT.out.grow (gby_refl _ _)) HLZ.out).mono (bpost_no HNG.out)).mono ?_
    rintro e w1 ⟨rfl, g⟩
    have szw1 := g.size
    try simp only [World.size_alloc] at szw1
    try simp only [World.size_setCell] at szw1
    have G1_ := Lib.hid (show (W).grownBy (w1) none from gby_trans (gby_refl _ _) g)
    clear g
    go_wp2
    go_ret2
    exact ⟨by rw [tr_bad _ _ _ HNG.out]; rfl, G1_.out⟩
  have HG := Lib.hid hg
  clear hg
  go_wp2_with fail
  go_at_call 14
  refine ((implGOk _ _ xs (HT.out.grow (gby_refl _ _)) HLZ.out).mono (bpost_yes HG.out)).mono ?_
  rintro e w1 ⟨rfl, g⟩
  have szw1 := g.size
  try simp only [World.size_alloc] at szw1
  try simp only [World.size_setCell] at szw1
  have G1_ := Lib.hid (show (W).grownBy (w1) none from gby_trans (gby_refl _ _) g)
  clear g
  go_wp2_with fail
  go_at_call 42
  refine (table_any _ _ xs (HT.out.grow G1_.out) HLZ.out HG.out.2.1).mono ?_
  rintro e w9 ⟨bm, rfl, hb1, hb2, hown, g⟩
  have HO := Lib.hid hown
  clear hown
  have G2_ := Lib.hid (show (W).grownBy (w9) none from gby_trans G1_.out g)
  clear g
  go_wp2_with fail
  go_at_call 44
  refine (look_any _ bm xs id a wt HO.out HG.out hi).mono ?_
  rintro e w10 ⟨rfl, g⟩
  have G3_ := Lib.hid (show (W).grownBy (w10) none from gby_trans G2_.out g)
  clear g
  go_wp2
  go_ret2
  exact ⟨rfl, G3_.out⟩

theorem translate_both (xs0 : List DPageGrant) (i1 i2 : Int) (b3 : Bool) (hI1 : I64 i1) (h0 : szL shPageGrant xs0 ≤ 1048576) : ∃ (ir0 ir1 : Int), (∀ (W : World), ∀ u0, RdL shPageGrant W u0 xs0 → Calls Try.prog 18 #[u0, .int .i64 i1, .int .i64 i2, .bool b3] W (ResSTranslate ir0 ir1 W)) ∧ ∀ (W : World), ∀ u0, RdL shPageGrant W u0 xs0 → Calls Try.prog 19 #[u0, .int .i64 i1, .int .i64 i2, .bool b3] W (ResITranslate ir0 ir1 W) :=
  ⟨_, _, fun W u H => specTr W u xs0 i1 i2 b3 H h0, fun W u H => implTr W u xs0 i1 i2 b3 H h0 hI1⟩


end Go.Proofs.Ytgagbhkidponnab
