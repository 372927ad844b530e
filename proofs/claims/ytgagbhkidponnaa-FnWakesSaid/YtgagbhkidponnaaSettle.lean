/-
  Wishes of sleep settled, on both sides.
-/
import Derived.Test.YtgagbhkidponnaaShpI
import Derived.Test.YtgagbhkidponnaaDNode
import Derived.Test.YtgagbhkidponnaaSettleMath
import Derived.Test.YtgagbhkidponnaaSetSleep
import Derived.Defers
import Derived.StillTailTactics
namespace Go.Proofs.Ytgagbhkidponnaa
open Go Go.RowKit

def ResSSettleSleep (xsr0 : List Int) (W : World) (e : Ending) (w' : World) : Prop := ∃ vr0, e = .returned (vr0) ∧ RdL shI w' vr0 xsr0 ∧ W.grownBy w' none
def ResISettleSleep (xsr0 : List Int) (W : World) (e : Ending) (w' : World) : Prop := ∃ vr0, e = .returned (vr0) ∧ OwU w' W.heap.size w'.heap.size [] [own shI vr0 xsr0] ∧ W.grownBy w' none

theorem resS_ofSettleSleep {xsr0 : List Int} {W : World} (e : Ending) (w' : World) (h : ResISettleSleep xsr0 W e w') : ResSSettleSleep xsr0 W e w' := by
  obtain ⟨vr0, rfl, h, g⟩ := h
  exact ⟨vr0, rfl, OwU.rd h, g⟩

end Go.Proofs.Ytgagbhkidponnaa

namespace Go.Proofs.Ytgagbhkidponnaa
open Go Go.RowKit
set_option linter.unusedVariables false

theorem cell_blt {w : World} {a : Addr} {v : Value} (h : w.cell? a = some v) : a.block < w.heap.size := by
  cases e : w.heap[a.block]? with
  | none => simp [World.cell?, e] at h
  | some o => exact (Array.getElem?_eq_some_iff.1 e).1
/-- two places of an owned slice of numbers: one block -/
theorem owL_I_two {w : World} {lo hi : Nat} {v : Value} {xs : List Int} (h : OwL shI w lo hi v xs) (p k : Nat) (hp : p < xs.length) (hk : k < xs.length) :
    ∃ b off c, v = .slice (some ⟨b, off, none⟩) xs.length c ∧ lo ≤ b ∧ b < hi ∧ w.cell? ⟨b, off + p, none⟩ = some (.int .i64 (xs.getD p 0)) ∧ w.cell? ⟨b, off + k, none⟩ = some (.int .i64 (xs.getD k 0)) ∧ w.frozen? ⟨b, off + p, none⟩ = false ∧ ∀ x : Int, OwL shI (w.setCell ⟨b, off + p, none⟩ (.int .i64 x)) lo hi v (xs.set p x) ∧ Chg w (w.setCell ⟨b, off + p, none⟩ (.int .i64 x)) lo hi := by
  obtain ⟨b, off, c, rfl, h1, h2, h3, h4, h5⟩ := owL_I_at h p hp
  obtain ⟨b2, off2, c2, e, _, _, g3, _⟩ := owL_I_at h k hk
  injection e with e1 e2 e3
  injection e1 with e1
  injection e1 with e4 e5
  subst e4 e5
  exact ⟨b, off, c, rfl, h1, h2, h3, g3, h4, h5⟩

set_option maxRecDepth 8000 in
set_option maxHeartbeats 2000000 in
theorem specSettle_no (W : World) (v u : Value) (xs : List DNode) (ss : List Int) (H : RdL shNode W v xs) (Hs : RdL shI W u ss) (hl : szL shNode xs ≤ 1048576) (hls : szL shI ss ≤ 1048576) (hp : ¬ WishP xs ss) : Calls Try.prog 12 #[v, u] W (ResISettleSleep [] W) := by
  have HP_ := Lib.hid hp
  clear hp
  have HT := Lib.hid H
  have HSL := Lib.hid Hs
  have HL := Lib.hid hl
  have HLS := Lib.hid hls
  have HMX := Lib.hid Hs.max
  rw [szL_I] at hls
  obtain ⟨a0, c0, rfl, hcap, hi0⟩ := rdN_in H
  obtain ⟨a1, n1, c1, rfl⟩ := RdL.form Hs
  have hn1 : n1 = ss.length := by obtain ⟨_, _, e, _⟩ := Hs; injection e
  obtain ⟨n0, hn0⟩ : ∃ n, n = xs.length := ⟨_, rfl⟩
  unfold RdN at hi0
  rw [← hn0] at hi0 HT ⊢
  have HE := Lib.hid hn0
  have HE1 := Lib.hid hn1
  have HA := Lib.hid hi0
  have hnb : n1 ≤ 1048576 := by omega
  have HZ : Hid (ss.length = n1) := Lib.hid hn1.symm
  have hlx : n0 ≤ 1048576 := by have := szL_len shNode xs; omega
  clear H Hs hn0 hn1 hl hls hi0 hcap
  go_enter Try.func12, Try.ntmps12
  go_wp2_with fail
  go_at_call 51
  refine ((show Calls _ _ _ _ (AnsN (.bool false) _) from ((specWish _ _ _ xs ss (HT.out.grow (gby_refl _ _)) (HSL.out.grow (gby_refl _ _)) HL.out HLS.out).mono (bpost_no HP_.out)))).mono ?_
  rintro e w1 ⟨rfl, g⟩
  have szw1 := g.size
  try simp only [World.size_alloc] at szw1
  try simp only [World.size_setCell] at szw1
  have G1_ := Lib.hid (show (W).grownBy (w1) none from gby_trans (gby_refl _ _) g)
  clear g
  go_wp2
  go_ret
  exact ⟨_, rfl, OwU.one (owL_empty (by omega) (by first | omega | (simp only [World.size_alloc]; omega))), gby_alloc G1_.out _⟩

set_option maxRecDepth 8000 in
set_option maxHeartbeats 2000000 in
theorem specSettle_yes (W : World) (v u : Value) (xs : List DNode) (ss : List Int) (H : RdL shNode W v xs) (Hs : RdL shI W u ss) (hl : szL shNode xs ≤ 1048576) (hls : szL shI ss ≤ 1048576) (hp : WishP xs ss) : Calls Try.prog 12 #[v, u] W (ResISettleSleep (settled xs ss) W) := by
  have HP_ := Lib.hid hp
  have hx1 := hp.2.1.1.1
  have hx2 := hp.2.1.1.2
  have hsl : ss.length = xs.length := hp.2.2
  have HTO := Lib.hid hp.2.1
  have HSN := Lib.hid hsl
  clear hp hsl
  have HT := Lib.hid H
  have HSL := Lib.hid Hs
  have HL := Lib.hid hl
  have HLS := Lib.hid hls
  have HMX := Lib.hid Hs.max
  rw [szL_I] at hls
  obtain ⟨a0, c0, rfl, hcap, hi0⟩ := rdN_in H
  obtain ⟨a1, n1, c1, rfl⟩ := RdL.form Hs
  have hn1 : n1 = ss.length := by obtain ⟨_, _, e, _⟩ := Hs; injection e
  obtain ⟨n0, hn0⟩ : ∃ n, n = xs.length := ⟨_, rfl⟩
  unfold RdN at hi0
  rw [← hn0] at hi0 HT ⊢
  have HE := Lib.hid hn0
  have HE1 := Lib.hid hn1
  have HA := Lib.hid hi0
  have hnb : n1 ≤ 1048576 := by omega
  have HZ : Hid (ss.length = n1) := Lib.hid hn1.symm
  have hlx : n0 ≤ 1048576 := by have := szL_len shNode xs; omega
  clear H Hs hn0 hn1 hl hls hi0 hcap
  have hx1' : 1 ≤ n0 := by have := HE.out; omega
  have hx2' : n0 ≤ 12 := by have := HE.out; omega
  have HN10 : Hid (n1 = n0) := Lib.hid (by have := HE.out; have := HE1.out; have := HSN.out; omega)
  obtain ⟨tb, to, rfl, hnc⟩ := HA.out.resolve_left (by omega)
  have HNC := Lib.hid hnc
  have htb : tb < W.heap.size := cell_blt (hnc 0 (by omega)).1
  clear hnc hx1 hx2
  go_enter Try.func12, Try.ntmps12
  go_wp2_with fail
  go_at_call 51
  refine ((show Calls _ _ _ _ (AnsN (.bool true) _) from ((specWish _ _ _ xs ss (HT.out.grow (gby_refl _ _)) (HSL.out.grow (gby_refl _ _)) HL.out HLS.out).mono (bpost_yes HP_.out)))).mono ?_
  rintro e w1 ⟨rfl, g⟩
  have szw1 := g.size
  try simp only [World.size_alloc] at szw1
  try simp only [World.size_setCell] at szw1
  have G1_ := Lib.hid (show (W).grownBy (w1) none from gby_trans (gby_refl _ _) g)
  clear g
  go_wp2_with (at_builtin; refine wpList_append_plain plainI slTI _ rfl _ _ rfl (w1.heap.size) _ 0 [] rfl (own_emptyP (heap_alloc_new _ _) (Nat.le_refl _)) a1 n1 c1 (ss) rfl (HSL.out.grow (gby_alloc G1_.out _)) (by omega) (by simp) ?_; intro v2_ wc2 hown2 hg2; have HO2 := Lib.hid hown2; have HG2 := Lib.hid (gby_new (gby_alloc (gby_refl (w1) none) _) hg2 (fun i hi => by obtain rfl := Option.some.inj (show some (w1.heap.size) = some i from hi); simp)); clear hown2 hg2; have o_ := owP_row (s := shI) _ plainI.len plainI.ow HMX.out (show wc2.ownsRow (w1.heap.size) 3 1 v2_ (ss).length ((ss).flatMap (fun x => [.int .i64 x])) by have q := HO2.out; rw [Nat.zero_add, List.nil_append] at q; rw [← HE1.out]; exact q); obtain ⟨qp, qn, qc, hv_⟩ := RdL.form o_.rd; subst hv_; have qo := Lib.hid o_; clear o_; have hswc2 := HG2.out.size; (try simp only [World.size_alloc] at hswc2); (try simp only [World.size_setCell] at hswc2))
  have G3_ := Lib.hid (show (W).grownBy (wc2) none from gby_trans G1_.out HG2.out)
  have GW := Lib.hid (show (W).grownBy (wc2) none from G3_.out)
  have hw1 : IntKind.i64.wrap ((n0 : Int) - 1) = (n0 : Int) - 1 := IntWalk.i64_in _ (by omega)
  have hw2 : (n0 : Int) - 1 = ((n0 - 1 : Nat) : Int) := by omega
  go_wp2
  go_loopw [6] (fun i wr => ∃ n : Nat, i = .int .i64 (n : Int) ∧ n < n0 ∧ (∃ s, s.length = ss.length ∧ stl xs n s = settled xs ss ∧ OwL shI wr (w1.heap.size) (wc2.heap.size) (.slice qp qn qc) s) ∧ Chg (wc2) wr (w1.heap.size) (wc2.heap.size)) (fun i _ => (intOf i).toNat)
  case atStart => exact ⟨n0 - 1, by first | rfl | (rw [← hw2]) | (rw [hw2]), by omega, ⟨ss, rfl, by rw [settled, HE.out], qo.out⟩, chg_gby (gby_refl _ _) _ _⟩
  case round =>
    obtain ⟨n, rfl, hn, ⟨s, hsl, hst, ho⟩, hg⟩ := hrel
    have HO := Lib.hid ho
    have HGc := Lib.hid hg
    have HSL2 := Lib.hid hsl
    have HST := Lib.hid hst
    have szr_ := hg.size
    clear ho hg hst hsl
    by_cases hlt : 0 < n
    · have hni : (0 : Int) < (n : Int) := by omega
      obtain ⟨p, hp⟩ : ∃ p, p = par xs n := ⟨_, rfl⟩
      have hpl : p < n := by rw [hp]; exact par_lt HTO.out (by omega) (by have := HE.out; omega)
      have hpe : (nd xs n).f0 = (p : Int) := by rw [hp]; exact par_eq HTO.out (by omega) (by have := HE.out; omega)
      have HPP := Lib.hid hp
      clear hp
      have np_ := chgC HGc.out (GW.out.cell (HNC.out n (by omega)).1 (by simp)) (.inl (by dsimp only; omega))
      rw [hpe] at np_
      clear hpe
      have hp0 : (0 : Int) ≤ (p : Int) := by omega
      have htp : ((p : Int)).toNat = p := by omega
      have hk0 : (0 : Int) ≤ (n : Int) := by omega
      have htk : ((n : Int)).toNat = n := by omega
      have hpi : (p : Int) < (n0 : Int) := by omega
      have hki : (n : Int) < (n0 : Int) := by omega
      have hsn : s.length = n0 := by have := HSL2.out; have := HE.out; have := HSN.out; omega
      have HSQ := Lib.hid hsn
      obtain ⟨b, off, c2, hv_, b1, b2, kp_, kn_, fp_, hset⟩ := owL_I_two HO.out p n (by omega) (by omega)
      rw [hsn] at hv_
      clear hsn
      injection hv_ with e1 e2 e3
      subst e1 e2 e3
      obtain ⟨xp, hxp⟩ : ∃ x, x = s.getD p 0 := ⟨_, rfl⟩
      obtain ⟨xn, hxn⟩ : ∃ x, x = s.getD n 0 := ⟨_, rfl⟩
      rw [← hxp] at kp_
      rw [← hxn] at kn_
      have HXP := Lib.hid hxp
      have HXN := Lib.hid hxn
      clear hxp hxn
      clear hset fp_
      have hw3 : IntKind.i64.wrap ((n : Int) - 1) = ((n - 1 : Nat) : Int) := by rw [show (n : Int) - 1 = ((n - 1 : Nat) : Int) by omega]; exact IntWalk.i64_in _ (by omega)

      by_cases q_ : xn < xp
      · have hmin : min xp xn = xn := Int.min_eq_right (by omega)
        go_wp2_with fail
        go_still_tail 20, (by kernel_rfl)
        change wpList _ _ _ _ _ (wr).drew
        have gd_ : (wr).grownBy (wr).drew none := gby_drew (gby_refl _ _)
        generalize (wr).drew = wd at gd_ ⊢
        obtain ⟨b', off', c2', hv_, b1', b2', kp2_, kn2_, fp_, hset⟩ := owL_I_two (HO.out.grow gd_) p n (by have := HSQ.out; omega) (by have := HSQ.out; omega)
        rw [HSQ.out] at hv_
        injection hv_ with e1 e2 e3
        injection e1 with e1
        injection e1 with e4 e5
        subst e4 e5 e3
        have HSET := Lib.hid (hset xn)
        have HGD := Lib.hid gd_
        have szd_ := gd_.size
        clear hset gd_ kn2_
        go_wp2
        refine ⟨⟨n - 1, by first | rfl | go_num | (rw [hw3]), by omega, ⟨s.set p xn, by rw [List.length_set]; exact HSL2.out, ?_, HSET.out.1⟩, chg_trans HGc.out (chg_trans (chg_gby HGD.out _ _) HSET.out.2)⟩, by simp [intOf]; omega⟩
        have e_ := HST.out
        rw [show n = (n - 1) + 1 by omega] at e_
        unfold stl stp at e_
        rw [show n - 1 + 1 = n by omega, ← HPP.out, ← HXP.out, ← HXN.out, hmin] at e_
        exact e_
      · have hmin : min xp xn = xp := Int.min_eq_left (by omega)
        go_wp2_with fail
        go_still_tail 20, (by kernel_rfl)
        change wpList _ _ _ _ _ (wr).drew
        have gd_ : (wr).grownBy (wr).drew none := gby_drew (gby_refl _ _)
        generalize (wr).drew = wd at gd_ ⊢
        obtain ⟨b', off', c2', hv_, b1', b2', kp2_, kn2_, fp_, hset⟩ := owL_I_two (HO.out.grow gd_) p n (by have := HSQ.out; omega) (by have := HSQ.out; omega)
        rw [HSQ.out] at hv_
        injection hv_ with e1 e2 e3
        injection e1 with e1
        injection e1 with e4 e5
        subst e4 e5 e3
        have HSET := Lib.hid (hset xp)
        have HGD := Lib.hid gd_
        have szd_ := gd_.size
        clear hset gd_ kn2_
        go_wp2
        refine ⟨⟨n - 1, by first | rfl | go_num | (rw [hw3]), by omega, ⟨s.set p xp, by rw [List.length_set]; exact HSL2.out, ?_, HSET.out.1⟩, chg_trans HGc.out (chg_trans (chg_gby HGD.out _ _) HSET.out.2)⟩, by simp [intOf]; omega⟩
        have e_ := HST.out
        rw [show n = (n - 1) + 1 by omega] at e_
        unfold stl stp at e_
        rw [show n - 1 + 1 = n by omega, ← HPP.out, ← HXP.out, ← HXN.out, hmin] at e_
        exact e_
    · obtain rfl : n = 0 := by omega
      have hni : ¬ (0 : Int) < ((0 : Nat) : Int) := by omega
      have hni2 : ¬ (0 : Int) < 0 := by omega
      have hso : s = settled xs ss := HST.out
      go_wp2
      go_ret
      exact ⟨_, rfl, OwU.one (OwL.wide (hso ▸ HO.out) (by omega) (by omega)), gby_chg GW.out HGc.out (by omega)⟩

set_option maxRecDepth 8000 in
set_option maxHeartbeats 2000000 in
theorem implSettle_no (W : World) (v u : Value) (xs : List DNode) (ss : List Int) (H : RdL shNode W v xs) (Hs : RdL shI W u ss) (hl : szL shNode xs ≤ 1048576) (hls : szL shI ss ≤ 1048576) (hp : ¬ WishP xs ss) : Calls Try.prog 15 #[v, u] W (ResISettleSleep [] W) := by
  have HP_ := Lib.hid hp
  clear hp
  have HT := Lib.hid H
  have HSL := Lib.hid Hs
  have HL := Lib.hid hl
  have HLS := Lib.hid hls
  have HMX := Lib.hid Hs.max
  rw [szL_I] at hls
  obtain ⟨a0, c0, rfl, hcap, hi0⟩ := rdN_in H
  obtain ⟨a1, n1, c1, rfl⟩ := RdL.form Hs
  have hn1 : n1 = ss.length := by obtain ⟨_, _, e, _⟩ := Hs; injection e
  obtain ⟨n0, hn0⟩ : ∃ n, n = xs.length := ⟨_, rfl⟩
  unfold RdN at hi0
  rw [← hn0] at hi0 HT ⊢
  have HE := Lib.hid hn0
  have HE1 := Lib.hid hn1
  have HA := Lib.hid hi0
  have hnb : n1 ≤ 1048576 := by omega
  have HZ : Hid (ss.length = n1) := Lib.hid hn1.symm
  have hlx : n0 ≤ 1048576 := by have := szL_len shNode xs; omega
  clear H Hs hn0 hn1 hl hls hi0 hcap
  go_enter Try.func15, Try.ntmps15
  go_wp2_with fail
  go_at_call 53
  refine ((show Calls _ _ _ _ (AnsN (.bool false) _) from ((implWish _ _ _ xs ss (HT.out.grow (gby_refl _ _)) (HSL.out.grow (gby_refl _ _)) HL.out HLS.out).mono (bpost_no HP_.out)))).mono ?_
  rintro e w1 ⟨rfl, g⟩
  have szw1 := g.size
  try simp only [World.size_alloc] at szw1
  try simp only [World.size_setCell] at szw1
  have G1_ := Lib.hid (show (W).grownBy (w1) none from gby_trans (gby_refl _ _) g)
  clear g
  go_wp2
  go_ret
  exact ⟨_, rfl, OwU.one (owL_nil), G1_.out⟩

/-- the deferred calls for the nodes k, k - 1 .. 1, the last one laid first -/
def dfs (t d : Value) : Nat → List Deferred
  | 0 => []
  | k + 1 => { target := .fn (.func 87) #[], args := #[t, d, .int .i64 ((k + 1 : Nat) : Int)] } :: dfs t d k

set_option maxRecDepth 8000 in
set_option maxHeartbeats 2000000 in
theorem above_d (w : World) (m : FrameMode) (tb to n0 tc : Nat) (v : Value) (lo hi n : Nat) (xs : List DNode) (s : List Int) (ht : TOk xs) (hn1 : 1 ≤ n) (hn : n < n0) (h0 : n0 = xs.length) (hs : s.length = n0) (hc : w.cell? ⟨tb, to + n * 3, none⟩ = some (.int .i64 (nd xs n).f0)) (ho : OwL shI w lo hi v s) :
    CallsD Try.prog 87 #[.slice (some ⟨tb, to, none⟩) n0 tc, v, .int .i64 (n : Int)] m w (fun e u' w' => u' = m ∧ (e = .returned (.tuple #[]) ∧ OwL shI w' lo hi v (stp xs s n) ∧ Chg w w' lo hi)) := by
  have HTO := Lib.hid ht
  have HE := Lib.hid h0
  have hx2 : n0 ≤ 12 := by have := ht.1.2; omega
  have HSN := Lib.hid hs
  have HO := Lib.hid ho
  have HC := Lib.hid hc
  clear ht h0 hs ho hc
  obtain ⟨p, hp⟩ : ∃ p, p = par xs n := ⟨_, rfl⟩
  have hpl : p < n := by rw [hp]; exact par_lt HTO.out (by omega) (by have := HE.out; omega)
  have hpe : (nd xs n).f0 = (p : Int) := by rw [hp]; exact par_eq HTO.out (by omega) (by have := HE.out; omega)
  have HPP := Lib.hid hp
  clear hp
  have np_ := HC.out
  rw [hpe] at np_
  clear hpe
  have hp0 : (0 : Int) ≤ (p : Int) := by omega
  have htp : ((p : Int)).toNat = p := by omega
  have hk0 : (0 : Int) ≤ (n : Int) := by omega
  have htk : ((n : Int)).toNat = n := by omega
  have hpi : (p : Int) < (n0 : Int) := by omega
  have hki : (n : Int) < (n0 : Int) := by omega
  obtain ⟨b, off, c2, hv_, b1, b2, kp_, kn_, fp_, hset⟩ := owL_I_two HO.out p n (by have := HSN.out; omega) (by have := HSN.out; omega)
  rw [HSN.out] at hv_
  subst hv_
  obtain ⟨xp, hxp⟩ : ∃ x, x = s.getD p 0 := ⟨_, rfl⟩
  obtain ⟨xn, hxn⟩ : ∃ x, x = s.getD n 0 := ⟨_, rfl⟩
  rw [← hxp] at kp_
  rw [← hxn] at kn_
  have hss : stp xs s n = s.set p (min xp xn) := by rw [stp, ← HPP.out, ← hxp, ← hxn]
  rw [hss]
  clear hset hxp hxn hss fp_
  by_cases q_ : xn < xp
  · have hmin : min xp xn = xn := Int.min_eq_right (by omega)
    rw [hmin]
    go_enter_d Try.func87, Try.ntmps87
    go_wp2_with fail
    go_still_tail 12, (by kernel_rfl)
    change wpList _ _ _ _ _ (w).drew
    have gd_ : (w).grownBy (w).drew none := gby_drew (gby_refl _ _)
    generalize (w).drew = wd at gd_ ⊢
    obtain ⟨b', off', c2', hv_, b1', b2', kp2_, kn2_, fp_, hset⟩ := owL_I_two (HO.out.grow gd_) p n (by have := HSN.out; omega) (by have := HSN.out; omega)
    rw [HSN.out] at hv_
    injection hv_ with e1 e2 e3
    injection e1 with e1
    injection e1 with e4 e5
    subst e4 e5 e3
    have HSET := Lib.hid (hset xn)
    have HGD := Lib.hid gd_
    clear hset gd_ kn2_
    go_wp2
    go_end0
    exact ⟨rfl, HSET.out.1, chg_trans (chg_gby HGD.out _ _) HSET.out.2⟩
  · have hmin : min xp xn = xp := Int.min_eq_left (by omega)
    rw [hmin]
    go_enter_d Try.func87, Try.ntmps87
    go_wp2_with fail
    go_still_tail 12, (by kernel_rfl)
    change wpList _ _ _ _ _ (w).drew
    have gd_ : (w).grownBy (w).drew none := gby_drew (gby_refl _ _)
    generalize (w).drew = wd at gd_ ⊢
    obtain ⟨b', off', c2', hv_, b1', b2', kp2_, kn2_, fp_, hset⟩ := owL_I_two (HO.out.grow gd_) p n (by have := HSN.out; omega) (by have := HSN.out; omega)
    rw [HSN.out] at hv_
    injection hv_ with e1 e2 e3
    injection e1 with e1
    injection e1 with e4 e5
    subst e4 e5 e3
    have HSET := Lib.hid (hset xp)
    have HGD := Lib.hid gd_
    clear hset gd_ kn2_
    go_wp2
    go_end0
    exact ⟨rfl, HSET.out.1, chg_trans (chg_gby HGD.out _ _) HSET.out.2⟩

theorem leaves_dfs {fn : Func} {tmps : Array Value} {R : Ending → World → Prop} (hres : ∀ w, (results fn tmps).run Try.prog w = .ok (.tuple #[]) w) (tb to n0 tc : Nat) (v : Value) (lo hi : Nat) (xs : List DNode) (ht : TOk xs) (h0 : n0 = xs.length) :
    ∀ (k : Nat) (w : World) (s : List Int), k < n0 → s.length = n0 → (∀ j, j < n0 → w.cell? ⟨tb, to + j * 3, none⟩ = some (.int .i64 (nd xs j).f0)) → (tb < lo ∨ hi ≤ tb) → OwL shI w lo hi v s →
      (∀ w', OwL shI w' lo hi v (stl xs k s) → Chg w w' lo hi → R (.returned (.tuple #[])) w') → Leaves Try.prog fn tmps R (dfs (.slice (some ⟨tb, to, none⟩) n0 tc) v k) .returning w
  | 0, w, s, _, _, _, _, ho, q => ⟨_, hres w, q w ho (chg_gby (gby_refl _ _) _ _)⟩
  | k + 1, w, s, hk, hs, hc, hf, ho, q => by
    refine leaves_cons (f := 87) (args := #[.slice (some ⟨tb, to, none⟩) n0 tc, v, .int .i64 ((k + 1 : Nat) : Int)]) (by simp) (by simp [go_sem]) ?_
    refine (above_d w .returning tb to n0 tc v lo hi (k + 1) xs s ht (by omega) hk h0 hs (hc _ hk) ho).mono ?_
    rintro e u' w' ⟨rfl, rfl, ho', hg'⟩
    exact leaves_dfs hres tb to n0 tc v lo hi xs ht h0 k w' (stp xs s (k + 1)) (by omega) (by rw [stp_len]; exact hs) (fun j hj => chgC hg' (hc j hj) hf) hf ho' (fun w2 h2 g2 => q w2 h2 (chg_trans hg' g2))

set_option maxRecDepth 8000 in
set_option maxHeartbeats 2000000 in
theorem settle_any (w : World) (tb to n0 tc : Nat) (v : Value) (lo hi : Nat) (xs : List DNode) (s : List Int) (ht : TOk xs) (h0 : n0 = xs.length) (hs : s.length = n0) (hc : ∀ j, j < n0 → w.cell? ⟨tb, to + j * 3, none⟩ = some (.int .i64 (nd xs j).f0)) (hf : tb < lo ∨ hi ≤ tb) (ho : OwL shI w lo hi v s) :
    Calls Try.prog 55 #[.slice (some ⟨tb, to, none⟩) n0 tc, v] w (fun e w' => e = .returned (.tuple #[]) ∧ OwL shI w' lo hi v (settled xs s) ∧ Chg w w' lo hi) := by
  have hx1 : 1 ≤ n0 := by have := ht.1.1; omega
  have hx2 : n0 ≤ 12 := by have := ht.1.2; omega
  have HLV := Lib.hid (fun (fn : Func) (tmps : Array Value) (hres : ∀ w, (results fn tmps).run Try.prog w = .ok (.tuple #[]) w) => leaves_dfs (R := fun e w' => e = .returned (.tuple #[]) ∧ OwL shI w' lo hi v (settled xs s) ∧ Chg w w' lo hi) hres tb to n0 tc v lo hi xs ht h0 (n0 - 1) w s (by omega) hs hc hf ho (fun w' a b => ⟨rfl, by rw [settled, ← h0]; exact a, b⟩))
  clear ht h0 hs hc hf ho
  go_enter_defers Try.func55, Try.ntmps55
  go_wp2
  refine wp_loop (fun a w' => w' = w ∧ ∃ (k : Nat) (u5 u6 u7 u8 u9 u10 u11 u12 u13 : Value), 1 ≤ k ∧ k ≤ n0 ∧ a = { tmps := #[.slice (some ⟨tb, to, none⟩) n0 tc, v, undef, undef, .int .i64 (k : Int), u5, u6, u7, u8, u9, u10, u11, u12, u13], defers := dfs (.slice (some ⟨tb, to, none⟩) n0 tc) v (k - 1) }) (fun a _ => n0 - (intOf (a.tmps.getD 4 undef)).toNat) ?_ ?_
  · exact ⟨rfl, 1, _, _, _, _, _, _, _, _, _, by omega, hx1, rfl⟩
  · rintro _ _ ⟨rfl, k, u5, u6, u7, u8, u9, u10, u11, u12, u13, hk1, hk2, rfl⟩
    have hk0 : (0 : Int) ≤ (k : Int) := by omega
    have htk : ((k : Int)).toNat = k := by omega
    by_cases hlt : k < n0
    · have hki : (k : Int) < (n0 : Int) := by omega
      go_wp2
      refine ⟨⟨by first | rfl | trivial, k + 1, .int .i64 (k : Int), (.slice (some ⟨tb, to, none⟩) n0 tc), .int .i64 (n0 : Int), .bool true, .int .i64 (k : Int), .int .i64 ((k : Int) + 1), (.slice (some ⟨tb, to, none⟩) n0 tc), v, .int .i64 (k : Int), by omega, by omega, ?_⟩, by simp [intOf]; omega⟩
      have e_ : dfs (.slice (some ⟨tb, to, none⟩) n0 tc) v (k + 1 - 1) = { target := .fn (.func 87) #[], args := #[.slice (some ⟨tb, to, none⟩) n0 tc, v, .int .i64 (k : Int)] } :: dfs (.slice (some ⟨tb, to, none⟩) n0 tc) v (k - 1) := by
        obtain ⟨j, rfl⟩ : ∃ j, k = j + 1 := ⟨k - 1, by omega⟩
        rfl
      rw [e_]
      rfl
    · obtain rfl : k = n0 := by omega
      have hki : ¬ (k : Int) < (k : Int) := by omega
      go_wp2
      exact HLV.out _ _ (fun w => by first | exact results_none rfl _ _ _ | rfl)

set_option maxRecDepth 8000 in
set_option maxHeartbeats 2000000 in
theorem implSettle_yes (W : World) (v u : Value) (xs : List DNode) (ss : List Int) (H : RdL shNode W v xs) (Hs : RdL shI W u ss) (hl : szL shNode xs ≤ 1048576) (hls : szL shI ss ≤ 1048576) (hp : WishP xs ss) : Calls Try.prog 15 #[v, u] W (ResISettleSleep (settled xs ss) W) := by
  have HP_ := Lib.hid hp
  have hx1 := hp.2.1.1.1
  have hx2 := hp.2.1.1.2
  have hsl : ss.length = xs.length := hp.2.2
  have HTO := Lib.hid hp.2.1
  have HSN := Lib.hid hsl
  clear hp hsl
  have HT := Lib.hid H
  have HSL := Lib.hid Hs
  have HL := Lib.hid hl
  have HLS := Lib.hid hls
  have HMX := Lib.hid Hs.max
  rw [szL_I] at hls
  obtain ⟨a0, c0, rfl, hcap, hi0⟩ := rdN_in H
  obtain ⟨a1, n1, c1, rfl⟩ := RdL.form Hs
  have hn1 : n1 = ss.length := by obtain ⟨_, _, e, _⟩ := Hs; injection e
  obtain ⟨n0, hn0⟩ : ∃ n, n = xs.length := ⟨_, rfl⟩
  unfold RdN at hi0
  rw [← hn0] at hi0 HT ⊢
  have HE := Lib.hid hn0
  have HE1 := Lib.hid hn1
  have HA := Lib.hid hi0
  have hnb : n1 ≤ 1048576 := by omega
  have HZ : Hid (ss.length = n1) := Lib.hid hn1.symm
  have hlx : n0 ≤ 1048576 := by have := szL_len shNode xs; omega
  clear H Hs hn0 hn1 hl hls hi0 hcap
  have hx1' : 1 ≤ n0 := by have := HE.out; omega
  have hx2' : n0 ≤ 12 := by have := HE.out; omega
  have HN10 : Hid (n1 = n0) := Lib.hid (by have := HE.out; have := HE1.out; have := HSN.out; omega)
  obtain ⟨tb, to, rfl, hnc⟩ := HA.out.resolve_left (by omega)
  have HNC := Lib.hid hnc
  have htb : tb < W.heap.size := cell_blt (hnc 0 (by omega)).1
  clear hnc hx1 hx2
  go_enter Try.func15, Try.ntmps15
  go_wp2_with fail
  go_at_call 53
  refine ((show Calls _ _ _ _ (AnsN (.bool true) _) from ((implWish _ _ _ xs ss (HT.out.grow (gby_refl _ _)) (HSL.out.grow (gby_refl _ _)) HL.out HLS.out).mono (bpost_yes HP_.out)))).mono ?_
  rintro e w1 ⟨rfl, g⟩
  have szw1 := g.size
  try simp only [World.size_alloc] at szw1
  try simp only [World.size_setCell] at szw1
  have G1_ := Lib.hid (show (W).grownBy (w1) none from gby_trans (gby_refl _ _) g)
  clear g
  go_wp2_with fail
  go_at_call 54
  refine (clone_any _ _ ss (rdI_in (HSL.out.grow G1_.out)) (by have := HE1.out; omega)).mono ?_
  rintro e w2 ⟨v2_, rfl, o_, g⟩
  have hsw2 := g.size
  have o2_ := owI_out HMX.out o_
  have qo := Lib.hid o2_
  have HG9 := Lib.hid (show W.grownBy w2 none from gby_trans G1_.out g)
  clear o_ o2_ g
  go_wp2_with fail
  go_at_call 55
  refine (settle_any w2 tb to n0 c0 v2_ _ _ xs ss HTO.out HE.out (by have := HE.out; have := HSN.out; omega) (fun j hj => HG9.out.cell (HNC.out j hj).1 (by simp)) (.inl (by omega)) qo.out).mono ?_
  rintro e w9 ⟨rfl, ho, hg⟩
  have HO := Lib.hid ho
  have HC := Lib.hid hg
  have szc := hg.size
  clear ho hg
  go_wp2
  go_ret
  exact ⟨_, rfl, OwU.one (OwL.wide HO.out (by omega) (by omega)), gby_chg HG9.out HC.out (by omega)⟩

theorem settleSleep_both (xs0 : List DNode) (xs1 : List Int) (h0 : szL shNode xs0 ≤ 1048576) (h1 : szL shI xs1 ≤ 1048576) : ∃ (xsr0 : List Int), szL shI xsr0 ≤ 1048576 ∧ (∀ (W : World), ∀ u0 u1, RdL shNode W u0 xs0 → RdL shI W u1 xs1 → Calls Try.prog 12 #[u0, u1] W (ResSSettleSleep xsr0 W)) ∧ ∀ (W : World), ∀ u0 u1, RdL shNode W u0 xs0 → RdL shI W u1 xs1 → Calls Try.prog 15 #[u0, u1] W (ResISettleSleep xsr0 W) := by
  by_cases hp : WishP xs0 xs1
  · exact ⟨settled xs0 xs1, by rw [szL_I, settled_len]; rw [szL_I] at h1; exact h1, fun W u0 u1 H0 H1 => (specSettle_yes W u0 u1 _ _ H0 H1 h0 h1 hp).mono (fun e w q => resS_ofSettleSleep e w q), fun W u0 u1 H0 H1 => implSettle_yes W u0 u1 _ _ H0 H1 h0 h1 hp⟩
  · exact ⟨[], by rw [szL_I]; simp, fun W u0 u1 H0 H1 => (specSettle_no W u0 u1 _ _ H0 H1 h0 h1 hp).mono (fun e w q => resS_ofSettleSleep e w q), fun W u0 u1 H0 H1 => implSettle_no W u0 u1 _ _ H0 H1 h0 h1 hp⟩


end Go.Proofs.Ytgagbhkidponnaa
