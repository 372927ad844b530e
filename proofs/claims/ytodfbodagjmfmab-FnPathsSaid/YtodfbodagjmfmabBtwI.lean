/-
  The program's PathBetween.
-/
import Derived.Test.YtodfbodagjmfmabBtwMath
import Derived.Test.YtodfbodagjmfmabRPathBetween
import Derived.Deep.QuietTactic
import Derived.Deep.RegionHeld3
namespace Go.Proofs.Ytodfbodagjmfmab
open Go Go.RowKit
set_option linter.unusedVariables false

set_option maxHeartbeats 1000000 in
theorem implBtw_no (W : World) (v : Value) (xs : List DNode) (a b : Int) (H : RdL shNode W v xs) (hl : szL shNode xs ≤ 1048576) (hn : ¬ (NodeP xs a ∧ NodeP xs b)) : Calls Try.prog 29 #[v, .int .i64 a, .int .i64 b] W (ResIPathBetween [] W) := by
  have HT := Lib.hid H
  have HL := Lib.hid hl
  obtain ⟨a0, n0, c0, rfl⟩ := RdL.form H
  have hn0 : n0 = xs.length := by obtain ⟨_, _, e, _⟩ := H; injection e
  have HE := Lib.hid hn0
  have hlx : n0 ≤ 1048576 := by have := szL_len shNode xs; omega
  clear H hn0 hl
  go_enter Try.func29, Try.ntmps29
  by_cases ha : NodeP xs a
  rotate_left
  · have HP_ := Lib.hid ha
    clear ha
    go_wp2_with fail
    go_at_call 52
    refine (implNode_no _ _ xs _ (HT.out.grow (gby_refl _ _)) HL.out HP_.out).mono ?_
    rintro e w1 ⟨rfl, g⟩
    have szw1 := g.size
    try simp only [World.size_alloc] at szw1
    try simp only [World.size_setCell] at szw1
    have G1_ := Lib.hid (show (W).grownBy (w1) none from gby_trans (gby_refl _ _) g)
    clear g
    go_wp2
    go_ret
    exact ⟨_, rfl, OwU.one owL_nil, G1_.out⟩
  have HP_ := Lib.hid ha
  have HQ_ := Lib.hid (fun hb => hn ⟨ha, hb⟩)
  clear ha hn
  go_wp2_with fail
  go_at_call 52
  refine (implNode_yes _ _ xs _ (HT.out.grow (gby_refl _ _)) HL.out HP_.out).mono ?_
  rintro e w1 ⟨rfl, g⟩
  have szw1 := g.size
  try simp only [World.size_alloc] at szw1
  try simp only [World.size_setCell] at szw1
  have G1_ := Lib.hid (show (W).grownBy (w1) none from gby_trans (gby_refl _ _) g)
  clear g
  go_wp2_with fail
  go_at_call 52
  refine (implNode_no _ _ xs _ (HT.out.grow G1_.out) HL.out HQ_.out).mono ?_
  rintro e w2 ⟨rfl, g⟩
  have szw2 := g.size
  try simp only [World.size_alloc] at szw2
  try simp only [World.size_setCell] at szw2
  have G2_ := Lib.hid (show (W).grownBy (w2) none from gby_trans G1_.out g)
  clear g
  go_wp2
  go_ret
  exact ⟨_, rfl, OwU.one owL_nil, G2_.out⟩

set_option maxRecDepth 8000 in
set_option maxHeartbeats 4000000 in
theorem implBtw_yes (W : World) (v : Value) (xs : List DNode) (a b : Nat) (H : RdL shNode W v xs) (hl : szL shNode xs ≤ 1048576) (ht : TOk xs) (hla : a < xs.length) (hlb : b < xs.length) (x y : List Int) (hxe : x = pth xs a) (hye : y = pth xs b) : Calls Try.prog 29 #[v, .int .i64 (a : Int), .int .i64 (b : Int)] W (ResIPathBetween (btwL x y) W) := by
  have HPA := Lib.hid (show NodeP xs (a : Int) from ⟨ht, by omega, by omega⟩)
  have HPB := Lib.hid (show NodeP xs (b : Int) from ⟨ht, by omega, by omega⟩)
  have hxl : x.length ≤ 12 := by rw [hxe]; have := (pth_len ht a hla).2; have := ht.1.2; omega
  have hyl : y.length ≤ 12 := by rw [hye]; have := (pth_len ht b hlb).2; have := ht.1.2; omega
  have HTO := Lib.hid ht
  have HLa := Lib.hid hla
  have HLb := Lib.hid hlb
  have HXE := Lib.hid hxe
  have HYE := Lib.hid hye
  clear ht hla hlb hxe hye
  have HT := Lib.hid H
  have HL := Lib.hid hl
  obtain ⟨a0, n0, c0, rfl⟩ := RdL.form H
  have hn0 : n0 = xs.length := by obtain ⟨_, _, e, _⟩ := H; injection e
  have HE := Lib.hid hn0
  have hlx : n0 ≤ 1048576 := by have := szL_len shNode xs; omega
  clear H hn0 hl
  go_enter Try.func29, Try.ntmps29
  go_wp2_with fail
  go_at_call 52
  refine (implNode_yes _ _ xs _ (HT.out.grow (gby_refl _ _)) HL.out HPA.out).mono ?_
  rintro e w1 ⟨rfl, g⟩
  have szw1 := g.size
  try simp only [World.size_alloc] at szw1
  try simp only [World.size_setCell] at szw1
  have G1_ := Lib.hid (show (W).grownBy (w1) none from gby_trans (gby_refl _ _) g)
  clear g
  go_wp2_with fail
  go_at_call 52
  refine (implNode_yes _ _ xs _ (HT.out.grow G1_.out) HL.out HPB.out).mono ?_
  rintro e w2 ⟨rfl, g⟩
  have szw2 := g.size
  try simp only [World.size_alloc] at szw2
  try simp only [World.size_setCell] at szw2
  have G2_ := Lib.hid (show (W).grownBy (w2) none from gby_trans G1_.out g)
  clear g
  go_wp2_with fail
  go_at_call 55
  refine ((show Calls _ _ _ _ (PathRow x _) from by rw [HXE.out]; exact implPathTo_row _ _ xs a (HT.out.grow G2_.out) HL.out HTO.out HLa.out)).mono ?_
  rintro e w3 ⟨v_, rfl, r_, g⟩
  have G3_ := Lib.hid (show (W).grownBy (w3) none from gby_trans G2_.out g)
  have szw3 := gby_size g
  clear g
  obtain ⟨g1, cap1, C1, rfl, hlo1, hb1, hcp1, hs1, hC1⟩ := row_blk r_ (by have := HXE.out; have := (pth_len HTO.out _ HLa.out).1; rw [HXE.out]; exact this)
  have hhi1 := (Array.getElem?_eq_some_iff.1 hb1).1
  have HB1_ := Lib.hid hb1
  have HC1 := Lib.hid hC1
  have HS1 := Lib.hid hs1
  clear r_ hb1 hC1 hs1
  go_wp2_with fail
  go_at_call 55
  refine ((show Calls _ _ _ _ (PathRow y _) from by rw [HYE.out]; exact implPathTo_row _ _ xs b (HT.out.grow G3_.out) HL.out HTO.out HLb.out)).mono ?_
  rintro e w4 ⟨v_, rfl, r_, g⟩
  have G4_ := Lib.hid (show (W).grownBy (w4) none from gby_trans G3_.out g)
  have szw4 := gby_size g
  have HB1 := Lib.hid (row_held g HB1_.out)
  clear HB1_
  clear g
  obtain ⟨g2, cap2, C2, rfl, hlo2, hb2, hcp2, hs2, hC2⟩ := row_blk r_ (by have := HYE.out; have := (pth_len HTO.out _ HLb.out).1; rw [HYE.out]; exact this)
  have hhi2 := (Array.getElem?_eq_some_iff.1 hb2).1
  have HB2 := Lib.hid hb2
  have HC2 := Lib.hid hC2
  have HS2 := Lib.hid hs2
  clear r_ hb2 hC2 hs2
  have hsW_ := gby_size G4_.out
  have hx1 : 1 ≤ x.length := by rw [HXE.out]; exact (pth_len HTO.out _ HLa.out).1
  have hy1 : 1 ≤ y.length := by rw [HYE.out]; exact (pth_len HTO.out _ HLb.out).1
  have hx0 : x.getD 0 0 = y.getD 0 0 := by rw [HXE.out, HYE.out, pth_head HTO.out _ HLa.out, pth_head HTO.out _ HLb.out]
  have HX0 := Lib.hid hx0
  clear hx0
  generalize hn1 : x.length = n1 at *
  generalize hn2 : y.length = n2 at *
  have HN1 := Lib.hid hn1
  have HN2 := Lib.hid hn2
  clear hn1 hn2
  have HXC := Lib.hid (show ∀ k, k < n1 → (w4).cell? ⟨g1, k, none⟩ = some (.int .i64 (x.getD k 0)) from fun k hk => by rw [cell_of_row _ _ k _ _ _ HB1.out]; exact HC1.out k hk)
  have HYC := Lib.hid (show ∀ k, k < n2 → (w4).cell? ⟨g2, k, none⟩ = some (.int .i64 (y.getD k 0)) from fun k hk => by rw [cell_of_row _ _ k _ _ _ HB2.out]; exact HC2.out k hk)
  have HTM5_ := Lib.hid (gby_refl (w4) none)
  have MG6_ := Lib.hid (show (W).grownBy (w4) none from G4_.out)
  go_wp2
  go_loopw [9] (fun i wr => ∃ n : Nat, i = .int .i64 (n : Int) ∧ 1 ≤ n ∧ n ≤ n1 ∧ n ≤ n2 ∧ (∀ j, j < n → x.getD j 0 = y.getD j 0) ∧ (w4).grownBy wr none) (fun i _ => n1 - (intOf i).toNat)
  case atStart => exact ⟨1, rfl, by omega, by omega, by omega, fun j hj => (by have e : j = 0 := (by omega); subst e; exact HX0.out), gby_refl _ _⟩
  case round =>
    obtain ⟨wl, hwo_⟩ : ∃ w_, w_ = wr := ⟨_, rfl⟩
    subst hwo_
    obtain ⟨n, rfl, hnp, hna, hnb, hj, hg⟩ := hrel
    have szrwl := hg.size
    try simp only [World.size_alloc] at szrwl
    try simp only [World.size_setCell] at szrwl
    have szr_ := szrwl
    have G7_ := Lib.hid (show (W).grownBy (wl) none from gby_trans G4_.out hg)
    have HTM8_ := Lib.hid (show (w4).grownBy (wl) none from gby_trans HTM5_.out hg)
    clear HTM5_
    have HTB_ := Lib.hid hg
    clear hg
    have HJ := Lib.hid hj
    clear hj
    have hn0 : (0 : Int) ≤ (n : Int) := by omega
    have htn : ((n : Int)).toNat = n := by omega
    have hmin : (if n2 < n1 then (n2 : Int) else (n1 : Int)) = ((min n1 n2 : Nat) : Int) := by split <;> omega
    have hmin2 : min (n1 : Int) (n2 : Int) = ((min n1 n2 : Nat) : Int) := by omega
    obtain ⟨mn, hmn⟩ : ∃ q, q = min n1 n2 := ⟨_, rfl⟩
    rw [← hmn] at hmin hmin2
    have hm1 : mn ≤ n1 := by omega
    have hm2 : mn ≤ n2 := by omega
    have hm3 : mn = n1 ∨ mn = n2 := by omega
    have HM3 := Lib.hid hm3
    clear hm3 hmn
    by_cases h1 : n < mn
    rotate_left
    · have hki1 : ¬ (n : Int) < (mn : Int) := by omega
      have hlc : lcp x y = n := lcp_is (by rw [HN1.out]; exact hna) (by rw [HN2.out]; exact hnb) HJ.out (by rcases HM3.out with h | h; · exact .inl (by rw [HN1.out]; omega)
                                                                                                            · exact .inr (.inl (by rw [HN2.out]; omega)))
      go_wp2_with fail
      go_quiet (fail)
      have HLC := Lib.hid hlc
      clear hlc
      obtain ⟨p, rfl⟩ : ∃ p, n = p + 1 := ⟨n - 1, by omega⟩
      have hk2 : IntKind.i64.wrap (((p + 1 : Nat) : Int) - 1) = (p : Int) := by rw [show ((p + 1 : Nat) : Int) - 1 = (p : Int) by omega]; exact IntWalk.i64_in _ (by omega)
      have hk3 : ((p + 1 : Nat) : Int) - 1 = (p : Int) := by omega
      have hp0 : (0 : Int) ≤ (p : Int) := by omega
      have htp : ((p : Int)).toNat = p := by omega
      have hpc : ¬ cap1 = p := by omega
      try clear hc1_ hc2_
      have GM : Hid (∀ (w : World), (wl).grownBy w none → (w4).grownBy w none) := Lib.hid (fun w h => gby_trans HTM8_.out h)
      have hcon : ∀ w, (w4).grownBy w none → Calls Try.prog 58 #[.slice (some ⟨g1, p, none⟩) (n1 - p) (cap1 - p)] w (fun e w' => RevAt w g1 p C1 (x.drop p) e w' ∧ (w4).grownBy w none) := fun w hw => Calls.mono (by rw [show n1 - p = (x.drop p).length by rw [List.length_drop, HN1.out]]; exact rev_at _ g1 p (cap1 - p) C1 (x.drop p) (row_held hw HB1.out) (fun k hk => by rw [getD_drop]; rw [List.length_drop, HN1.out] at hk; exact HC1.out (p + k) (by omega)) (by rw [List.length_drop, HN1.out]; omega)) (fun e w' q => ⟨q, hw⟩)
      have HCON := Lib.hid hcon
      clear hcon
      go_wp2_with fail
      go_at_call 58
      refine (HCON.out _ (GM.out _ (by repeat (first | exact gby_refl _ _ | with_reducible refine gby_drewN ?_ _)))).mono ?_
      rintro e w5 ⟨⟨rfl, C5, hb5, hs5, hc5, g5⟩, hgw⟩
      have HB5 := Lib.hid hb5
      have HS5 := Lib.hid hs5
      have HC5 := Lib.hid hc5
      have hsl_ := gby_size hgw
      have HG5 := Lib.hid (gby_new (gby_trans MG6_.out hgw) g5 (fun i hi => by obtain rfl := Option.some.inj hi; omega))
      have HY5 := Lib.hid (fun k (hk : k < n2) => (g5.cell (hgw.cell (HYC.out k hk) (by simp)) (by simp; omega) : w5.cell? ⟨g2, k, none⟩ = _))
      have hs5_ := gby_size g5
      clear hb5 hs5 hc5 g5 hgw
      have HYR := Lib.hid (rdI_cut (w := w5) (b := g2) (off := 0) (n := n2) (cap := cap2) (k := p + 1) (ys := y) HN2.out.symm (by omega) (by omega) (by omega) (fun j hj => by rw [Nat.zero_add]; exact HY5.out j hj))
      have HYR2 := Lib.hid (rdI_cells (w := w5) (b := g2) (off := p + 1) (len := n2 - (p + 1)) (cap := cap2 - (p + 1)) (ys := y.drop (p + 1)) (by rw [List.length_drop, HN2.out]) (by omega) (by omega) (fun j hj => by rw [getD_drop]; exact HY5.out (p + 1 + j) (by omega)))
      have HLEN : Hid (n1 - p = (x.drop p).reverse.length) := Lib.hid (by rw [List.length_reverse, List.length_drop, HN1.out])
      go_wp2_with (at_builtin; refine wpList_append_at _ rfl _ _ rfl g1 p (n1 - p) (cap1 - p) C5 (x.drop p).reverse rfl HLEN.out HB5.out (by rw [HS5.out, HS1.out]; omega) (fun k hk => HC5.out k (by rw [List.length_reverse] at hk; exact hk)) _ _ _ (y.drop (p + 1)) rfl (by first | exact ⟨_, rfl⟩ | (split <;> exact ⟨_, rfl⟩)) (by first | exact HYR.out | (rw [Nat.zero_add] at HYR; exact HYR.out) | exact HYR2.out) (by omega) (W.heap.size) (by omega) ?_; intro v6_ w6 hown6 hg6; have HO6 := Lib.hid hown6; have HG6 := Lib.hid (gby_new HG5.out hg6 (fun i hi => by obtain rfl := Option.some.inj hi; omega)); clear hown6 hg6)
      all_goals
        go_ret
        refine ⟨_, rfl, OwU.one (OwL.wide (show OwL shI w6 W.heap.size w6.heap.size _ (btwL x y) from ?_) (Nat.le_refl _) (Nat.le_refl _)), HG6.out⟩
        have e_ : btwL x y = (x.drop p).reverse ++ y.drop (p + 1) := by unfold btwL; rw [HLC.out]; rfl
        rw [e_]
        exact HO6.out
    have hkim : (n : Int) < (mn : Int) := by omega
    have hki1 : (n : Int) < (n1 : Int) := by omega
    have hki2 : (n : Int) < (n2 : Int) := by omega
    obtain ⟨e1, he1⟩ : ∃ e, e = x.getD n 0 := ⟨_, rfl⟩
    obtain ⟨e2, he2⟩ : ∃ e, e = y.getD n 0 := ⟨_, rfl⟩
    have hc1_ := (HTM8_.out).cell (HXC.out n (by omega)) (by simp)
    have hc2_ := (HTM8_.out).cell (HYC.out n (by omega)) (by simp)
    rw [← he1] at hc1_
    rw [← he2] at hc2_
    have HE1 := Lib.hid he1
    have HE2 := Lib.hid he2
    clear he1 he2
    by_cases he : e1 = e2
    rotate_left
    · have hb : (e1 == e2) = false := by simpa using he
      have hlc : lcp x y = n := lcp_is (by rw [HN1.out]; exact hna) (by rw [HN2.out]; exact hnb) HJ.out (.inr (.inr (by rw [← HE1.out, ← HE2.out]; exact he)))
      clear he
      go_wp2_with fail
      go_quiet (fail)
      have HLC := Lib.hid hlc
      clear hlc
      obtain ⟨p, rfl⟩ : ∃ p, n = p + 1 := ⟨n - 1, by omega⟩
      have hk2 : IntKind.i64.wrap (((p + 1 : Nat) : Int) - 1) = (p : Int) := by rw [show ((p + 1 : Nat) : Int) - 1 = (p : Int) by omega]; exact IntWalk.i64_in _ (by omega)
      have hk3 : ((p + 1 : Nat) : Int) - 1 = (p : Int) := by omega
      have hp0 : (0 : Int) ≤ (p : Int) := by omega
      have htp : ((p : Int)).toNat = p := by omega
      have hpc : ¬ cap1 = p := by omega
      try clear hc1_ hc2_
      have GM : Hid (∀ (w : World), (wl).grownBy w none → (w4).grownBy w none) := Lib.hid (fun w h => gby_trans HTM8_.out h)
      have hcon : ∀ w, (w4).grownBy w none → Calls Try.prog 58 #[.slice (some ⟨g1, p, none⟩) (n1 - p) (cap1 - p)] w (fun e w' => RevAt w g1 p C1 (x.drop p) e w' ∧ (w4).grownBy w none) := fun w hw => Calls.mono (by rw [show n1 - p = (x.drop p).length by rw [List.length_drop, HN1.out]]; exact rev_at _ g1 p (cap1 - p) C1 (x.drop p) (row_held hw HB1.out) (fun k hk => by rw [getD_drop]; rw [List.length_drop, HN1.out] at hk; exact HC1.out (p + k) (by omega)) (by rw [List.length_drop, HN1.out]; omega)) (fun e w' q => ⟨q, hw⟩)
      have HCON := Lib.hid hcon
      clear hcon
      go_wp2_with fail
      go_at_call 58
      refine (HCON.out _ (GM.out _ (by repeat (first | exact gby_refl _ _ | with_reducible refine gby_drewN ?_ _)))).mono ?_
      rintro e w5 ⟨⟨rfl, C5, hb5, hs5, hc5, g5⟩, hgw⟩
      have HB5 := Lib.hid hb5
      have HS5 := Lib.hid hs5
      have HC5 := Lib.hid hc5
      have hsl_ := gby_size hgw
      have HG5 := Lib.hid (gby_new (gby_trans MG6_.out hgw) g5 (fun i hi => by obtain rfl := Option.some.inj hi; omega))
      have HY5 := Lib.hid (fun k (hk : k < n2) => (g5.cell (hgw.cell (HYC.out k hk) (by simp)) (by simp; omega) : w5.cell? ⟨g2, k, none⟩ = _))
      have hs5_ := gby_size g5
      clear hb5 hs5 hc5 g5 hgw
      have HYR := Lib.hid (rdI_cut (w := w5) (b := g2) (off := 0) (n := n2) (cap := cap2) (k := p + 1) (ys := y) HN2.out.symm (by omega) (by omega) (by omega) (fun j hj => by rw [Nat.zero_add]; exact HY5.out j hj))
      have HYR2 := Lib.hid (rdI_cells (w := w5) (b := g2) (off := p + 1) (len := n2 - (p + 1)) (cap := cap2 - (p + 1)) (ys := y.drop (p + 1)) (by rw [List.length_drop, HN2.out]) (by omega) (by omega) (fun j hj => by rw [getD_drop]; exact HY5.out (p + 1 + j) (by omega)))
      have HLEN : Hid (n1 - p = (x.drop p).reverse.length) := Lib.hid (by rw [List.length_reverse, List.length_drop, HN1.out])
      go_wp2_with (at_builtin; refine wpList_append_at _ rfl _ _ rfl g1 p (n1 - p) (cap1 - p) C5 (x.drop p).reverse rfl HLEN.out HB5.out (by rw [HS5.out, HS1.out]; omega) (fun k hk => HC5.out k (by rw [List.length_reverse] at hk; exact hk)) _ _ _ (y.drop (p + 1)) rfl (by first | exact ⟨_, rfl⟩ | (split <;> exact ⟨_, rfl⟩)) (by first | exact HYR.out | (rw [Nat.zero_add] at HYR; exact HYR.out) | exact HYR2.out) (by omega) (W.heap.size) (by omega) ?_; intro v6_ w6 hown6 hg6; have HO6 := Lib.hid hown6; have HG6 := Lib.hid (gby_new HG5.out hg6 (fun i hi => by obtain rfl := Option.some.inj hi; omega)); clear hown6 hg6)
      all_goals
        go_ret
        refine ⟨_, rfl, OwU.one (OwL.wide (show OwL shI w6 W.heap.size w6.heap.size _ (btwL x y) from ?_) (Nat.le_refl _) (Nat.le_refl _)), HG6.out⟩
        have e_ : btwL x y = (x.drop p).reverse ++ y.drop (p + 1) := by unfold btwL; rw [HLC.out]; rfl
        rw [e_]
        exact HO6.out
    · subst he
      have hb : (e1 == e1) = true := by simp
      go_wp2_with fail
      go_quiet (fail)
      go_wp2
      refine ⟨⟨n + 1, by go_num, by omega, by omega, by omega, fun j hj => ?_, by repeat (first | exact HTB_.out | with_reducible refine gby_drewN ?_ _)⟩, by simp [intOf]; omega⟩
      by_cases e : j = n
      · subst e; rw [← HE1.out]; exact HE2.out
      · exact HJ.out j (by omega)

end Go.Proofs.Ytodfbodagjmfmab
