/-
  The sleep of one node set, on both sides.
-/
import Derived.Test.YtgagbhkidponnaaShpI
import Derived.Test.YtgagbhkidponnaaDNode
import Derived.Test.YtgagbhkidponnaaSleep
import Derived.Test.YtgagbhkidponnaaSetI
import Derived.Test.YtgagbhkidponnaaClone
namespace Go.Proofs.Ytgagbhkidponnaa
open Go Go.RowKit

def ResSSetSleep (xsr0 : List Int) (br1 : Bool) (W : World) (e : Ending) (w' : World) : Prop := ∃ vr0, e = .returned (.tuple #[vr0, .bool br1]) ∧ RdL shI w' vr0 xsr0 ∧ W.grownBy w' none
def ResISetSleep (xsr0 : List Int) (br1 : Bool) (W : World) (e : Ending) (w' : World) : Prop := ∃ vr0, e = .returned (.tuple #[vr0, .bool br1]) ∧ OwU w' W.heap.size w'.heap.size [] [own shI vr0 xsr0] ∧ W.grownBy w' none

theorem resS_ofSetSleep {xsr0 : List Int} {br1 : Bool} {W : World} (e : Ending) (w' : World) (h : ResISetSleep xsr0 br1 W e w') : ResSSetSleep xsr0 br1 W e w' := by
  obtain ⟨vr0, rfl, h, g⟩ := h
  exact ⟨vr0, rfl, OwU.rd h, g⟩

end Go.Proofs.Ytgagbhkidponnaa

namespace Go.Proofs.Ytgagbhkidponnaa
open Go Go.RowKit
set_option linter.unusedVariables false

set_option maxRecDepth 8000 in
set_option maxHeartbeats 2000000 in
theorem implSet_bad (W : World) (v u : Value) (xs : List DNode) (ss : List Int) (k d : Int) (H : RdL shNode W v xs) (Hs : RdL shI W u ss) (hl : szL shNode xs ≤ 1048576) (hls : szL shI ss ≤ 1048576) (hp : ¬ SleepP xs ss) : Calls Try.prog 31 #[v, u, .int .i64 k, .int .i64 d] W (ResISetSleep ss false W) := by
  have HP_ := Lib.hid hp
  clear hp
  have HT := Lib.hid H
  have HSL := Lib.hid Hs
  have HL := Lib.hid hl
  have HLS := Lib.hid hls
  have HMX := Lib.hid Hs.max
  rw [szL_I] at hls
  obtain ⟨a0, n0, c0, rfl⟩ := RdL.form H
  obtain ⟨a1, n1, c1, rfl⟩ := RdL.form Hs
  have hn0 : n0 = xs.length := by obtain ⟨_, _, e, _⟩ := H; injection e
  have hn1 : n1 = ss.length := by obtain ⟨_, _, e, _⟩ := Hs; injection e
  have HE := Lib.hid hn0
  have HE1 := Lib.hid hn1
  have hnb : n1 ≤ 1048576 := by omega
  have HZ : Hid (ss.length = n1) := Lib.hid hn1.symm
  have hlx : n0 ≤ 1048576 := by have := szL_len shNode xs; omega
  clear H Hs hn0 hn1 hl hls
  go_enter Try.func31, Try.ntmps31
  go_wp2_with fail
  go_at_call 23
  refine (((implSleep _ _ _ xs (ss) (HT.out.grow (gby_refl _ _)) (HSL.out.grow (gby_refl _ _)) HL.out HLS.out).mono (bpost_no HP_.out))).mono ?_
  rintro e w1 ⟨rfl, g⟩
  have szw1 := g.size
  try simp only [World.size_alloc, World.size_setCell] at szw1
  have G1_ := Lib.hid (show (W).grownBy (w1) none from gby_trans (gby_refl _ _) g)
  clear g
  go_wp2_with fail
  go_at_call 54
  refine (clone_any _ _ ss (rdI_in (HSL.out.grow G1_.out)) (by have := HE1.out; omega)).mono ?_
  rintro e w2 ⟨v2_, rfl, o_, g⟩
  have hsw2 := g.size
  try simp only [World.size_setCell] at hsw2
  have o2_ := owI_out HMX.out o_
  obtain ⟨qp, qn, qc, hv_⟩ := RdL.form o2_.rd
  subst hv_
  have qo := Lib.hid o2_
  clear o_ o2_
  have G2_ := Lib.hid (show (W).grownBy (w2) none from gby_trans G1_.out g)
  clear g
  go_wp2
  go_ret2
  exact ⟨_, rfl, OwU.one (OwL.wide (qo.out) (by omega) (by omega)), G2_.out⟩

set_option maxRecDepth 8000 in
set_option maxHeartbeats 2000000 in
theorem implSet_out (W : World) (v u : Value) (xs : List DNode) (ss : List Int) (k d : Int) (H : RdL shNode W v xs) (Hs : RdL shI W u ss) (hl : szL shNode xs ≤ 1048576) (hls : szL shI ss ≤ 1048576) (hp : SleepP xs ss) (hk : k < 0 ∨ (xs.length : Int) - 1 < k) : Calls Try.prog 31 #[v, u, .int .i64 k, .int .i64 d] W (ResISetSleep ss false W) := by
  have HP_ := Lib.hid hp
  have HKK := Lib.hid hk
  clear hp hk
  have HT := Lib.hid H
  have HSL := Lib.hid Hs
  have HL := Lib.hid hl
  have HLS := Lib.hid hls
  have HMX := Lib.hid Hs.max
  rw [szL_I] at hls
  obtain ⟨a0, n0, c0, rfl⟩ := RdL.form H
  obtain ⟨a1, n1, c1, rfl⟩ := RdL.form Hs
  have hn0 : n0 = xs.length := by obtain ⟨_, _, e, _⟩ := H; injection e
  have hn1 : n1 = ss.length := by obtain ⟨_, _, e, _⟩ := Hs; injection e
  have HE := Lib.hid hn0
  have HE1 := Lib.hid hn1
  have hnb : n1 ≤ 1048576 := by omega
  have HZ : Hid (ss.length = n1) := Lib.hid hn1.symm
  have hlx : n0 ≤ 1048576 := by have := szL_len shNode xs; omega
  clear H Hs hn0 hn1 hl hls
  have HK := Lib.hid (show k < 0 ∨ (n0 : Int) - 1 < k from by rw [HE.out]; exact HKK.out)
  go_enter Try.func31, Try.ntmps31
  go_wp2_with fail
  go_at_call 23
  refine (((implSleep _ _ _ xs (ss) (HT.out.grow (gby_refl _ _)) (HSL.out.grow (gby_refl _ _)) HL.out HLS.out).mono (bpost_yes HP_.out))).mono ?_
  rintro e w1 ⟨rfl, g⟩
  have szw1 := g.size
  try simp only [World.size_alloc, World.size_setCell] at szw1
  have G1_ := Lib.hid (show (W).grownBy (w1) none from gby_trans (gby_refl _ _) g)
  clear g
  have hk1 : IntKind.i64.wrap ((n0 : Int) - 1) = (n0 : Int) - 1 := IntWalk.i64_in _ (by omega)
  go_wp2_with fail
  go_at_call 62
  refine (rng_no _ _ _ _ HK.out).mono ?_
  rintro e w2_ ⟨rfl, rfl⟩
  go_wp2_with fail
  go_at_call 54
  refine (clone_any _ _ ss (rdI_in (HSL.out.grow G1_.out)) (by have := HE1.out; omega)).mono ?_
  rintro e w3 ⟨v2_, rfl, o_, g⟩
  have hsw3 := g.size
  try simp only [World.size_setCell] at hsw3
  have o2_ := owI_out HMX.out o_
  obtain ⟨qp, qn, qc, hv_⟩ := RdL.form o2_.rd
  subst hv_
  have qo := Lib.hid o2_
  clear o_ o2_
  have G2_ := Lib.hid (show (W).grownBy (w3) none from gby_trans G1_.out g)
  clear g
  go_wp2
  go_ret2
  exact ⟨_, rfl, OwU.one (OwL.wide (qo.out) (by omega) (by omega)), G2_.out⟩

set_option maxRecDepth 8000 in
set_option maxHeartbeats 2000000 in
theorem implSet_good (W : World) (v u : Value) (xs : List DNode) (ss : List Int) (k : Nat) (d : Int) (H : RdL shNode W v xs) (Hs : RdL shI W u ss) (hl : szL shNode xs ≤ 1048576) (hls : szL shI ss ≤ 1048576) (hp : SleepP xs ss) (hk : k < xs.length) (hd : SleepP xs (ss.set k d)) : Calls Try.prog 31 #[v, u, .int .i64 (k : Int), .int .i64 d] W (ResISetSleep (ss.set k d) true W) := by
  have HP_ := Lib.hid hp
  have HPD := Lib.hid hd
  have hsl : ss.length = xs.length := hp.1.2.2
  have HLD : Hid (szL shI (ss.set k d) ≤ 1048576) := Lib.hid (by rw [szL_I, List.length_set]; rw [szL_I] at hls; exact hls)
  have HKN := Lib.hid hk
  have HSN := Lib.hid hsl
  clear hp hd hk hsl
  have HT := Lib.hid H
  have HSL := Lib.hid Hs
  have HL := Lib.hid hl
  have HLS := Lib.hid hls
  have HMX := Lib.hid Hs.max
  rw [szL_I] at hls
  obtain ⟨a0, n0, c0, rfl⟩ := RdL.form H
  obtain ⟨a1, n1, c1, rfl⟩ := RdL.form Hs
  have hn0 : n0 = xs.length := by obtain ⟨_, _, e, _⟩ := H; injection e
  have hn1 : n1 = ss.length := by obtain ⟨_, _, e, _⟩ := Hs; injection e
  have HE := Lib.hid hn0
  have HE1 := Lib.hid hn1
  have hnb : n1 ≤ 1048576 := by omega
  have HZ : Hid (ss.length = n1) := Lib.hid hn1.symm
  have hlx : n0 ≤ 1048576 := by have := szL_len shNode xs; omega
  clear H Hs hn0 hn1 hl hls
  have hkL : k < n1 := by have := HKN.out; have := HSN.out; have := HE1.out; omega
  have hkl0 : k < n0 := by have := HKN.out; have := HE.out; omega
  have hkss : k < ss.length := by have := HKN.out; have := HSN.out; omega
  go_enter Try.func31, Try.ntmps31
  go_wp2_with fail
  go_at_call 23
  refine (((implSleep _ _ _ xs (ss) (HT.out.grow (gby_refl _ _)) (HSL.out.grow (gby_refl _ _)) HL.out HLS.out).mono (bpost_yes HP_.out))).mono ?_
  rintro e w1 ⟨rfl, g⟩
  have szw1 := g.size
  try simp only [World.size_alloc, World.size_setCell] at szw1
  have G1_ := Lib.hid (show (W).grownBy (w1) none from gby_trans (gby_refl _ _) g)
  clear g
  have hk1 : IntKind.i64.wrap ((n0 : Int) - 1) = (n0 : Int) - 1 := IntWalk.i64_in _ (by omega)
  go_wp2_with fail
  go_at_call 62
  refine (rng_yes _ _ _ _ (by omega) (by omega)).mono ?_
  rintro e w2_ ⟨rfl, rfl⟩
  go_wp2_with fail
  go_at_call 54
  refine (clone_any _ _ ss (rdI_in (HSL.out.grow G1_.out)) (by have := HE1.out; omega)).mono ?_
  rintro e w3 ⟨v2_, rfl, o_, g⟩
  have hsw3 := g.size
  try simp only [World.size_setCell] at hsw3
  have o2_ := owI_out HMX.out o_
  obtain ⟨qp, qn, qc, hv_⟩ := RdL.form o2_.rd
  subst hv_
  have qo := Lib.hid o2_
  clear o_ o2_
  have G2_ := Lib.hid (show (W).grownBy (w3) none from gby_trans G1_.out g)
  clear g
  obtain ⟨b, off, c2, hv_, b1, b2, k1_, f1_, hset⟩ := owL_I_at (qo.out) k (by have := HE1.out; omega)
  injection hv_ with e1 e2 e3
  subst e1 e2 e3
  have HST := Lib.hid (hset d)
  clear hset
  have hkn : (k : Int) < (ss.length : Int) := by have := HE1.out; omega
  have hk0 : (0 : Int) ≤ (k : Int) := by omega
  have htk : ((k : Int)).toNat = k := by omega
  have G3_ := Lib.hid (show (W).grownBy ((w3.setCell ⟨b, off + k, none⟩ (.int .i64 d))) none from gby_chg G2_.out HST.out.2 (by omega))
  go_wp2_with fail
  go_at_call 23
  refine (((implSleep _ _ _ xs (ss.set k d) (HT.out.grow G3_.out) (HST.out.1.rd) HL.out HLD.out).mono (bpost_yes HPD.out))).mono ?_
  rintro e w4 ⟨rfl, g⟩
  have gs_ := Lib.hid g
  have szw4 := g.size
  try simp only [World.size_alloc, World.size_setCell] at szw4
  have G4_ := Lib.hid (show (W).grownBy (w4) none from gby_trans G3_.out g)
  clear g
  go_wp2
  go_ret2
  exact ⟨_, rfl, OwU.one (OwL.wide (HST.out.1.grow gs_.out) (by omega) (by omega)), G4_.out⟩

set_option maxRecDepth 8000 in
set_option maxHeartbeats 2000000 in
theorem implSet_worse (W : World) (v u : Value) (xs : List DNode) (ss : List Int) (k : Nat) (d : Int) (H : RdL shNode W v xs) (Hs : RdL shI W u ss) (hl : szL shNode xs ≤ 1048576) (hls : szL shI ss ≤ 1048576) (hp : SleepP xs ss) (hk : k < xs.length) (hd : ¬ SleepP xs (ss.set k d)) : Calls Try.prog 31 #[v, u, .int .i64 (k : Int), .int .i64 d] W (ResISetSleep ss false W) := by
  have HP_ := Lib.hid hp
  have HPD := Lib.hid hd
  have hsl : ss.length = xs.length := hp.1.2.2
  have HLD : Hid (szL shI (ss.set k d) ≤ 1048576) := Lib.hid (by rw [szL_I, List.length_set]; rw [szL_I] at hls; exact hls)
  have HKN := Lib.hid hk
  have HSN := Lib.hid hsl
  clear hp hd hk hsl
  have HT := Lib.hid H
  have HSL := Lib.hid Hs
  have HL := Lib.hid hl
  have HLS := Lib.hid hls
  have HMX := Lib.hid Hs.max
  rw [szL_I] at hls
  obtain ⟨a0, n0, c0, rfl⟩ := RdL.form H
  obtain ⟨a1, n1, c1, rfl⟩ := RdL.form Hs
  have hn0 : n0 = xs.length := by obtain ⟨_, _, e, _⟩ := H; injection e
  have hn1 : n1 = ss.length := by obtain ⟨_, _, e, _⟩ := Hs; injection e
  have HE := Lib.hid hn0
  have HE1 := Lib.hid hn1
  have hnb : n1 ≤ 1048576 := by omega
  have HZ : Hid (ss.length = n1) := Lib.hid hn1.symm
  have hlx : n0 ≤ 1048576 := by have := szL_len shNode xs; omega
  clear H Hs hn0 hn1 hl hls
  have hkL : k < n1 := by have := HKN.out; have := HSN.out; have := HE1.out; omega
  have hkl0 : k < n0 := by have := HKN.out; have := HE.out; omega
  have hkss : k < ss.length := by have := HKN.out; have := HSN.out; omega
  go_enter Try.func31, Try.ntmps31
  go_wp2_with fail
  go_at_call 23
  refine (((implSleep _ _ _ xs (ss) (HT.out.grow (gby_refl _ _)) (HSL.out.grow (gby_refl _ _)) HL.out HLS.out).mono (bpost_yes HP_.out))).mono ?_
  rintro e w1 ⟨rfl, g⟩
  have szw1 := g.size
  try simp only [World.size_alloc, World.size_setCell] at szw1
  have G1_ := Lib.hid (show (W).grownBy (w1) none from gby_trans (gby_refl _ _) g)
  clear g
  have hk1 : IntKind.i64.wrap ((n0 : Int) - 1) = (n0 : Int) - 1 := IntWalk.i64_in _ (by omega)
  go_wp2_with fail
  go_at_call 62
  refine (rng_yes _ _ _ _ (by omega) (by omega)).mono ?_
  rintro e w2_ ⟨rfl, rfl⟩
  go_wp2_with fail
  go_at_call 54
  refine (clone_any _ _ ss (rdI_in (HSL.out.grow G1_.out)) (by have := HE1.out; omega)).mono ?_
  rintro e w3 ⟨v2_, rfl, o_, g⟩
  have hsw3 := g.size
  try simp only [World.size_setCell] at hsw3
  have o2_ := owI_out HMX.out o_
  obtain ⟨qp, qn, qc, hv_⟩ := RdL.form o2_.rd
  subst hv_
  have qo := Lib.hid o2_
  clear o_ o2_
  have G2_ := Lib.hid (show (W).grownBy (w3) none from gby_trans G1_.out g)
  clear g
  obtain ⟨b, off, c2, hv_, b1, b2, k1_, f1_, hset⟩ := owL_I_at (qo.out) k (by have := HE1.out; omega)
  injection hv_ with e1 e2 e3
  subst e1 e2 e3
  have HST := Lib.hid (hset d)
  clear hset
  have hkn : (k : Int) < (ss.length : Int) := by have := HE1.out; omega
  have hk0 : (0 : Int) ≤ (k : Int) := by omega
  have htk : ((k : Int)).toNat = k := by omega
  have G3_ := Lib.hid (show (W).grownBy ((w3.setCell ⟨b, off + k, none⟩ (.int .i64 d))) none from gby_chg G2_.out HST.out.2 (by omega))
  go_wp2_with fail
  go_at_call 23
  refine (((implSleep _ _ _ xs (ss.set k d) (HT.out.grow G3_.out) (HST.out.1.rd) HL.out HLD.out).mono (bpost_no HPD.out))).mono ?_
  rintro e w4 ⟨rfl, g⟩
  have gs_ := Lib.hid g
  have szw4 := g.size
  try simp only [World.size_alloc, World.size_setCell] at szw4
  have G4_ := Lib.hid (show (W).grownBy (w4) none from gby_trans G3_.out g)
  clear g
  go_wp2_with fail
  go_at_call 54
  refine (clone_any _ _ ss (rdI_in (HSL.out.grow G4_.out)) (by have := HE1.out; omega)).mono ?_
  rintro e w5 ⟨v2_, rfl, o_, g⟩
  have hsw5 := g.size
  try simp only [World.size_setCell] at hsw5
  have o2_ := owI_out HMX.out o_
  obtain ⟨rp, rn, rc, hv_⟩ := RdL.form o2_.rd
  subst hv_
  have ro := Lib.hid o2_
  clear o_ o2_
  have G5_ := Lib.hid (show (W).grownBy (w5) none from gby_trans G4_.out g)
  clear g
  go_wp2
  go_ret2
  exact ⟨_, rfl, OwU.one (OwL.wide (ro.out) (by omega) (by omega)), G5_.out⟩

end Go.Proofs.Ytgagbhkidponnaa
