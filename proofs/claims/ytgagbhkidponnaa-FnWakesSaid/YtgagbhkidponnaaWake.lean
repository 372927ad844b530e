/-
  A node woken with all above it, on both sides.
-/
import Derived.Test.YtgagbhkidponnaaShpI
import Derived.Test.YtgagbhkidponnaaDNode
import Derived.Test.YtgagbhkidponnaaSetSleep
import Derived.Test.YtgagbhkidponnaaPathB
namespace Go.Proofs.Ytgagbhkidponnaa
open Go Go.RowKit

def ResSWakeNode (xsr0 : List Int) (br1 : Bool) (W : World) (e : Ending) (w' : World) : Prop := ∃ vr0, e = .returned (.tuple #[vr0, .bool br1]) ∧ RdL shI w' vr0 xsr0 ∧ W.grownBy w' none
def ResIWakeNode (xsr0 : List Int) (br1 : Bool) (W : World) (e : Ending) (w' : World) : Prop := ∃ vr0, e = .returned (.tuple #[vr0, .bool br1]) ∧ OwU w' W.heap.size w'.heap.size [] [own shI vr0 xsr0] ∧ W.grownBy w' none

theorem resS_ofWakeNode {xsr0 : List Int} {br1 : Bool} {W : World} (e : Ending) (w' : World) (h : ResIWakeNode xsr0 br1 W e w') : ResSWakeNode xsr0 br1 W e w' := by
  obtain ⟨vr0, rfl, h, g⟩ := h
  exact ⟨vr0, rfl, OwU.rd h, g⟩

end Go.Proofs.Ytgagbhkidponnaa

namespace Go.Proofs.Ytgagbhkidponnaa
open Go Go.RowKit
set_option linter.unusedVariables false

/-- the places of p set to 0 -/
def wakeL (ss p : List Int) : List Int := p.foldl (fun s i => s.set i.toNat 0) ss
theorem wakeL_len (p : List Int) : ∀ ss : List Int, (wakeL ss p).length = ss.length := by
  induction p with
  | nil => exact fun _ => rfl
  | cons a p ih => intro ss; show (wakeL (ss.set a.toNat 0) p).length = _; rw [ih, List.length_set]
theorem wakeL_snoc (ss p : List Int) (a : Int) : wakeL ss (p ++ [a]) = (wakeL ss p).set a.toNat 0 := by simp [wakeL]
theorem takeI_snoc (p : List Int) (n : Nat) (h : n < p.length) : p.take (n + 1) = p.take n ++ [p.getD n 0] := by
  rw [List.take_succ_eq_append_getElem h, List.getD_eq_getElem?_getD, List.getElem?_eq_getElem h]; rfl
/-- the way's blocks -/
theorem rdI_own {w : World} {lo hi : Nat} {v : Value} {ys : List Int} (h : OwL shI w lo hi v ys) (h1 : 1 ≤ ys.length) : ∃ b off cap, v = .slice (some ⟨b, off, none⟩) ys.length cap ∧ lo ≤ b ∧ ∀ k, k < ys.length → w.cell? ⟨b, off + k, none⟩ = some (.int .i64 (ys.getD k 0)) := by
  obtain ⟨b, off, c, rfl, hb, _, _⟩ := owL_I_at h 0 (by omega)
  refine ⟨b, off, c, rfl, hb, fun k hk => ?_⟩
  obtain ⟨b2, off2, c2, e, _, _, hc, _⟩ := owL_I_at h k hk
  injection e with e1 e2 e3
  injection e1 with e1
  injection e1 with e4 e5
  subst e4 e5
  exact hc

theorem mem_at2 {p : List Int} {n : Nat} (h : n < p.length) : p.getD n 0 ∈ p := by rw [List.getD_eq_getElem?_getD, List.getElem?_eq_getElem h]; exact List.getElem_mem _

theorem pthIs_node2 {xs : List DNode} {k : Int} {ys : List Int} (h : PthIs xs k ys) : NodeP xs k ↔ 1 ≤ ys.length := by
  rcases h with ⟨n, rfl, h1, h2, rfl⟩ | ⟨h, rfl⟩
  · exact ⟨fun _ => (pth_len h1 n h2).1, fun _ => ⟨h1, by omega, by omega⟩⟩
  · exact ⟨fun q => absurd q h, fun q => absurd q (by simp)⟩

set_option maxRecDepth 8000 in
set_option maxHeartbeats 2000000 in
theorem implWake_bad (W : World) (v u : Value) (xs : List DNode) (ss : List Int) (k : Int) (H : RdL shNode W v xs) (Hs : RdL shI W u ss) (hl : szL shNode xs ≤ 1048576) (hls : szL shI ss ≤ 1048576) (hp : ¬ SleepP xs ss) : Calls Try.prog 27 #[v, u, .int .i64 k] W (ResIWakeNode ss false W) := by
  have HP_ := Lib.hid hp
  clear hp
  have HT := Lib.hid H
  have HSL := Lib.hid Hs
  have HL := Lib.hid hl
  have HLS := Lib.hid hls
  have HMX := Lib.hid Hs.max
  rw [szL_I] at hls
  obtain ⟨a0, n0, c0, rfl⟩ := RdL.form H
  obtain ⟨a1, n1, c1, rfl⟩ := RdL.form Hs
  have hn0 : n0 = xs.length := by obtain ⟨_, _, e, _⟩ := H; injection e
  have hn1 : n1 = ss.length := by obtain ⟨_, _, e, _⟩ := Hs; injection e
  have HE := Lib.hid hn0
  have HE1 := Lib.hid hn1
  have hnb : n1 ≤ 1048576 := by omega
  have HZ : Hid (ss.length = n1) := Lib.hid hn1.symm
  have hlx : n0 ≤ 1048576 := by have := szL_len shNode xs; omega
  clear H Hs hn0 hn1 hl hls
  go_enter Try.func27, Try.ntmps27
  go_wp2_with fail
  go_at_call 54
  refine (clone_any _ _ ss (rdI_in (HSL.out.grow (gby_refl _ _))) (by have := HE1.out; omega)).mono ?_
  rintro e w1 ⟨v2_, rfl, o_, g⟩
  have hsw1 := g.size
  try simp only [World.size_setCell] at hsw1
  have o2_ := owI_out HMX.out o_
  obtain ⟨qp, qn, qc, hv_⟩ := RdL.form o2_.rd
  subst hv_
  have qo := Lib.hid o2_
  clear o_ o2_
  have G1_ := Lib.hid (show (W).grownBy (w1) none from gby_trans (gby_refl _ _) g)
  clear g
  go_wp2_with fail
  go_at_call 23
  refine (((implSleep _ _ _ xs ss (HT.out.grow G1_.out) (HSL.out.grow G1_.out) HL.out HLS.out).mono (bpost_no HP_.out))).mono ?_
  rintro e w2 ⟨rfl, g⟩
  have szw2 := g.size
  try simp only [World.size_alloc] at szw2
  try simp only [World.size_setCell] at szw2
  have qo2_ := Lib.hid (qo.out.grow g)
  clear qo
  have G3_ := Lib.hid (show (W).grownBy (w2) none from gby_trans G1_.out g)
  clear g
  go_wp2
  go_ret2
  exact ⟨_, rfl, OwU.one (OwL.wide qo2_.out (by omega) (by omega)), G3_.out⟩

set_option maxRecDepth 8000 in
set_option maxHeartbeats 2000000 in
theorem implWake_out (W : World) (v u : Value) (xs : List DNode) (ss : List Int) (k : Int) (H : RdL shNode W v xs) (Hs : RdL shI W u ss) (hl : szL shNode xs ≤ 1048576) (hls : szL shI ss ≤ 1048576) (hp : SleepP xs ss) (hk : ¬ NodeP xs k) : Calls Try.prog 27 #[v, u, .int .i64 k] W (ResIWakeNode ss false W) := by
  have HP_ := Lib.hid hp
  have hk2 : k < 0 ∨ (xs.length : Int) - 1 < k := by
    rcases inr_or k 0 ((xs.length : Int) - 1) with ⟨k1, k2⟩ | h
    · exact absurd ⟨hp.1.2.1, k1, by omega⟩ hk
    · exact h
  have HKK := Lib.hid hk2
  have hx1 := hp.1.2.1.1.2
  clear hp hk hk2
  have HT := Lib.hid H
  have HSL := Lib.hid Hs
  have HL := Lib.hid hl
  have HLS := Lib.hid hls
  have HMX := Lib.hid Hs.max
  rw [szL_I] at hls
  obtain ⟨a0, n0, c0, rfl⟩ := RdL.form H
  obtain ⟨a1, n1, c1, rfl⟩ := RdL.form Hs
  have hn0 : n0 = xs.length := by obtain ⟨_, _, e, _⟩ := H; injection e
  have hn1 : n1 = ss.length := by obtain ⟨_, _, e, _⟩ := Hs; injection e
  have HE := Lib.hid hn0
  have HE1 := Lib.hid hn1
  have hnb : n1 ≤ 1048576 := by omega
  have HZ : Hid (ss.length = n1) := Lib.hid hn1.symm
  have hlx : n0 ≤ 1048576 := by have := szL_len shNode xs; omega
  clear H Hs hn0 hn1 hl hls
  have HK : Hid (k < 0 ∨ (n0 : Int) - 1 < k) := Lib.hid (by rw [HE.out]; exact HKK.out)
  go_enter Try.func27, Try.ntmps27
  go_wp2_with fail
  go_at_call 54
  refine (clone_any _ _ ss (rdI_in (HSL.out.grow (gby_refl _ _))) (by have := HE1.out; omega)).mono ?_
  rintro e w1 ⟨v2_, rfl, o_, g⟩
  have hsw1 := g.size
  try simp only [World.size_setCell] at hsw1
  have o2_ := owI_out HMX.out o_
  obtain ⟨qp, qn, qc, hv_⟩ := RdL.form o2_.rd
  subst hv_
  have qo := Lib.hid o2_
  clear o_ o2_
  have G1_ := Lib.hid (show (W).grownBy (w1) none from gby_trans (gby_refl _ _) g)
  clear g
  go_wp2_with fail
  go_at_call 23
  refine (((implSleep _ _ _ xs ss (HT.out.grow G1_.out) (HSL.out.grow G1_.out) HL.out HLS.out).mono (bpost_yes HP_.out))).mono ?_
  rintro e w2 ⟨rfl, g⟩
  have szw2 := g.size
  try simp only [World.size_alloc] at szw2
  try simp only [World.size_setCell] at szw2
  have qo2_ := Lib.hid (qo.out.grow g)
  clear qo
  have G3_ := Lib.hid (show (W).grownBy (w2) none from gby_trans G1_.out g)
  clear g
  have hk1 : IntKind.i64.wrap ((n0 : Int) - 1) = (n0 : Int) - 1 := IntWalk.i64_in _ (by omega)
  go_wp2_with fail
  go_at_call 62
  refine (rng_no _ _ _ _ HK.out).mono ?_
  rintro e w3_ ⟨rfl, rfl⟩
  go_wp2
  go_ret2
  exact ⟨_, rfl, OwU.one (OwL.wide qo2_.out (by omega) (by omega)), G3_.out⟩


set_option maxRecDepth 8000 in
set_option maxHeartbeats 2000000 in
theorem implWake_good (W : World) (v u : Value) (xs : List DNode) (ss : List Int) (k : Int) (H : RdL shNode W v xs) (Hs : RdL shI W u ss) (hl : szL shNode xs ≤ 1048576) (hls : szL shI ss ≤ 1048576) (hp : SleepP xs ss) (hk : NodeP xs k) (p : List Int) (hpi : PthIs xs k p) : Calls Try.prog 27 #[v, u, .int .i64 k] W (ResIWakeNode (wakeL ss p) true W) := by
  have HP_ := Lib.hid hp
  have HPI := Lib.hid hpi
  have hsl : ss.length = xs.length := hp.1.2.2
  have hp1 : 1 ≤ p.length := (pthIs_node2 hpi).1 hk
  have hpin : ∀ x ∈ p, 0 ≤ x ∧ x < (ss.length : Int) := by
    rcases hpi with ⟨n, rfl, h1, h2, rfl⟩ | ⟨h, rfl⟩
    · intro x hx; have := pth_in h1 n h2 x hx; omega
    · exact absurd hk h
  have HPN : Hid (∃ n : Nat, k = (n : Int) ∧ TOk xs ∧ n < xs.length ∧ p = pth xs n) := Lib.hid (hpi.elim id (fun h => absurd hk h.1))
  have hpl := pthIs_len hpi
  have HKN := Lib.hid hk
  have hx1 := hp.1.2.1.1.2
  clear hp hk hpi
  have HPIN := Lib.hid hpin
  have HPLEN := Lib.hid hp1
  clear hpin hp1
  have HT := Lib.hid H
  have HSL := Lib.hid Hs
  have HL := Lib.hid hl
  have HLS := Lib.hid hls
  have HMX := Lib.hid Hs.max
  rw [szL_I] at hls
  obtain ⟨a0, n0, c0, rfl⟩ := RdL.form H
  obtain ⟨a1, n1, c1, rfl⟩ := RdL.form Hs
  have hn0 : n0 = xs.length := by obtain ⟨_, _, e, _⟩ := H; injection e
  have hn1 : n1 = ss.length := by obtain ⟨_, _, e, _⟩ := Hs; injection e
  have HE := Lib.hid hn0
  have HE1 := Lib.hid hn1
  have hnb : n1 ≤ 1048576 := by omega
  have HZ : Hid (ss.length = n1) := Lib.hid hn1.symm
  have hlx : n0 ≤ 1048576 := by have := szL_len shNode xs; omega
  clear H Hs hn0 hn1 hl hls
  have HK : Hid (0 ≤ k ∧ k ≤ (n0 : Int) - 1) := Lib.hid (by have h := HKN.out.2; have := HE.out; omega)
  go_enter Try.func27, Try.ntmps27
  go_wp2_with fail
  go_at_call 54
  refine (clone_any _ _ ss (rdI_in (HSL.out.grow (gby_refl _ _))) (by have := HE1.out; omega)).mono ?_
  rintro e w1 ⟨v2_, rfl, o_, g⟩
  have hsw1 := g.size
  try simp only [World.size_setCell] at hsw1
  have o2_ := owI_out HMX.out o_
  obtain ⟨qp, qn, qc, hv_⟩ := RdL.form o2_.rd
  subst hv_
  have qo := Lib.hid o2_
  clear o_ o2_
  have G1_ := Lib.hid (show (W).grownBy (w1) none from gby_trans (gby_refl _ _) g)
  clear g
  go_wp2_with fail
  go_at_call 23
  refine (((implSleep _ _ _ xs ss (HT.out.grow G1_.out) (HSL.out.grow G1_.out) HL.out HLS.out).mono (bpost_yes HP_.out))).mono ?_
  rintro e w2 ⟨rfl, g⟩
  have szw2 := g.size
  try simp only [World.size_alloc] at szw2
  try simp only [World.size_setCell] at szw2
  have qo2_ := Lib.hid (qo.out.grow g)
  clear qo
  have G3_ := Lib.hid (show (W).grownBy (w2) none from gby_trans G1_.out g)
  clear g
  have hk1 : IntKind.i64.wrap ((n0 : Int) - 1) = (n0 : Int) - 1 := IntWalk.i64_in _ (by omega)
  go_wp2_with fail
  go_at_call 62
  refine (rng_yes _ _ _ _ (by have := HK.out.1; omega) (by have := HK.out.2; omega)).mono ?_
  rintro e w3_ ⟨rfl, rfl⟩
  go_wp2_with fail
  go_at_call 63
  refine ((show Calls _ _ _ _ (ResIPathTo p _) from by obtain ⟨n, rfl, h1, h2, h3⟩ := HPN.out; rw [h3]; exact implPathTo _ _ xs n (HT.out.grow G3_.out) HL.out h1 h2)).mono ?_
  rintro e w4 ⟨vp, rfl, o, g⟩
  have szw4 := g.size
  try simp only [World.size_alloc] at szw4
  try simp only [World.size_setCell] at szw4
  have qo4_ := Lib.hid (qo2_.out.grow g)
  clear qo2_
  have G5_ := Lib.hid (show (W).grownBy (w4) none from gby_trans G3_.out g)
  clear g
  obtain ⟨a2, b2_, he1, he2, _, ho9, _⟩ := (show OwU _ _ _ [] [own shI vp p] from o)
  obtain ⟨bz, oz, cz, hv_, hbz, hpc⟩ := rdI_own ho9 HPLEN.out
  subst hv_
  generalize hnp : p.length = np at *
  have HNP := Lib.hid hnp
  have HPC := Lib.hid hpc
  clear o ho9 hnp hpc
  have GW := Lib.hid (show (W).grownBy (w4) none from G5_.out)
  have szq_ := gby_size GW.out
  go_wp2
  go_loopw [10, 30] (fun z i wr => ∃ n : Nat, i = .int .i64 (n : Int) ∧ n ≤ np ∧ (∃ q, z = q) ∧ OwL shI wr (W.heap.size) (w1.heap.size) (.slice qp qn qc) (wakeL ss (p.take n)) ∧ Chg (w4) wr (W.heap.size) (w1.heap.size)) (fun _ i _ => np - (intOf i).toNat)
  case atStart => exact ⟨0, rfl, by omega, ⟨_, rfl⟩, qo4_.out, chg_gby (gby_refl _ _) _ _⟩
  case round =>
    obtain ⟨n, rfl, hn, ⟨z, rfl⟩, ho, hg⟩ := hrel
    have HO := Lib.hid ho
    have HGc := Lib.hid hg
    have szr_ := hg.size
    clear ho hg
    have hn0 : (0 : Int) ≤ (n : Int) := by omega
    have htn : ((n : Int)).toNat = n := by omega
    by_cases hlt : n < np
    · have hki : (n : Int) < (np : Int) := by omega
      obtain ⟨m, hm⟩ : ∃ m : Nat, p.getD n 0 = (m : Int) := ⟨(p.getD n 0).toNat, by have := (HPIN.out (p.getD n 0) (mem_at2 (by rw [HNP.out]; exact hlt))).1; omega⟩
      have hml : m < ss.length := by have := (HPIN.out (p.getD n 0) (mem_at2 (by rw [HNP.out]; exact hlt))).2; rw [hm] at this; omega
      have hc_ := chgC HGc.out (HPC.out n hlt) (.inr (by dsimp only; omega))
      rw [hm] at hc_
      have HM := Lib.hid hm
      clear hm
      obtain ⟨b, off, c2, hv_, b1, b2, k1_, f1_, hset⟩ := owL_I_at HO.out m (by rw [wakeL_len]; exact hml)
      rw [wakeL_len] at hv_
      injection hv_ with e1 e2 e3
      subst e1 e2 e3
      have HST := Lib.hid (hset 0)
      clear hset
      have hkn : (m : Int) < (ss.length : Int) := by omega
      have hk0 : (0 : Int) ≤ (m : Int) := by omega
      have htk : ((m : Int)).toNat = m := by omega
      go_wp2
      refine ⟨⟨n + 1, by go_num, by omega, ⟨_, rfl⟩, ?_, chg_trans HGc.out HST.out.2⟩, by simp [intOf]; omega⟩
      have e_ : wakeL ss (p.take (n + 1)) = (wakeL ss (p.take n)).set m 0 := by rw [takeI_snoc p n (by rw [HNP.out]; exact hlt), wakeL_snoc, HM.out, htk]
      rw [e_]
      exact HST.out.1
    · obtain rfl : n = np := by omega
      have hki : ¬ (n : Int) < (n : Int) := by omega
      have hfin : wakeL ss (p.take n) = wakeL ss p := by rw [List.take_of_length_le (by rw [HNP.out]; exact Nat.le_refl _)]
      have HOF := Lib.hid (hfin ▸ HO.out)
      clear hfin
      go_wp2
      go_ret2
      exact ⟨_, rfl, OwU.one (OwL.wide HOF.out (by omega) (by omega)), gby_chg GW.out HGc.out (by omega)⟩

end Go.Proofs.Ytgagbhkidponnaa
