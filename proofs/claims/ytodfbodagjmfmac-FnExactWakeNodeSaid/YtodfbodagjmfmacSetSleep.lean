/-
  The sleep of one node set, on both sides.
-/
import Derived.Test.YtodfbodagjmfmacSleep
import Derived.Test.YtodfbodagjmfmacSetI
import Derived.Test.YtodfbodagjmfmacClone
import Derived.Test.YtodfbodagjmfmacRSetSleep
namespace Go.Proofs.Ytodfbodagjmfmac
open Go Go.RowKit
set_option linter.unusedVariables false


set_option maxRecDepth 8000 in
set_option maxHeartbeats 2000000 in
theorem specSet_bad (W : World) (v u : Value) (xs : List DNode) (ss : List Int) (k d : Int) (H : RdL shNode W v xs) (Hs : RdL shI W u ss) (hl : szL shNode xs ≤ 1048576) (hls : szL shI ss ≤ 1048576) (hp : ¬ SleepP xs ss) : Calls Try.prog 71 #[v, u, .int .i64 k, .int .i64 d] W (ResISetSleep ss false W) := by
  have HP_ := Lib.hid hp
  clear hp
  have HT := Lib.hid H
  have HSL := Lib.hid Hs
  have HL := Lib.hid hl
  have HLS := Lib.hid hls
  have HMX := Lib.hid Hs.max
  rw [szL_I] at hls
  obtain ⟨a0, n0, c0, rfl⟩ := RdL.form H
  obtain ⟨a1, n1, c1, rfl⟩ := RdL.form Hs
  have hn0 : n0 = xs.length := by obtain ⟨_, _, e, _⟩ := H; injection e
  have hn1 : n1 = ss.length := by obtain ⟨_, _, e, _⟩ := Hs; injection e
  have HE := Lib.hid hn0
  have HE1 := Lib.hid hn1
  have hnb : n1 ≤ 1048576 := by omega
  have HZ : Hid (ss.length = n1) := Lib.hid hn1.symm
  have hlx : n0 ≤ 1048576 := by have := szL_len shNode xs; omega
  clear H Hs hn0 hn1 hl hls
  go_enter Try.func71, Try.ntmps71
  go_wp2_with (at_builtin; refine wpList_append_plain plainI slTI _ rfl _ _ rfl (W.heap.size) _ 0 [] rfl (own_emptyP (heap_alloc_new _ _) (Nat.le_refl _)) a1 n1 c1 (ss) rfl (HSL.out.grow (gby_alloc (gby_refl _ _) _)) (by omega) (by simp) ?_; intro v2_ wc1 hown2 hg2; have HO1 := Lib.hid hown2; have HG1 := Lib.hid (gby_new (gby_alloc (gby_refl (W) none) _) hg2 (fun i hi => by obtain rfl := Option.some.inj (show some (W.heap.size) = some i from hi); simp)); clear hown2 hg2; have o_ := owP_row (s := shI) _ plainI.len plainI.ow HMX.out (show wc1.ownsRow (W.heap.size) 3 1 v2_ (ss).length ((ss).flatMap (fun x => [.int .i64 x])) by have q := HO1.out; rw [Nat.zero_add, List.nil_append] at q; rw [← HE1.out]; exact q); obtain ⟨qp, qn, qc, hv_⟩ := RdL.form o_.rd; subst hv_; have qo := Lib.hid o_; clear o_; have hswc1 := HG1.out.size; try simp only [World.size_alloc, World.size_setCell] at hswc1)
  have G2_ := Lib.hid (show (W).grownBy (wc1) none from gby_trans (gby_refl _ _) HG1.out)
  go_wp2_with fail
  go_at_call 79
  refine (((specSleep _ _ _ xs (ss) (HT.out.grow G2_.out) (HSL.out.grow G2_.out) HL.out HLS.out).mono (bpost_no HP_.out))).mono ?_
  rintro e w1 ⟨rfl, g⟩
  have gq_ := Lib.hid g
  have szw1 := g.size
  try simp only [World.size_alloc, World.size_setCell] at szw1
  have G3_ := Lib.hid (show (W).grownBy (w1) none from gby_trans G2_.out g)
  clear g
  go_wp2
  go_ret2
  exact ⟨_, rfl, OwU.one (OwL.wide (qo.out.grow gq_.out) (by omega) (by omega)), G3_.out⟩

set_option maxRecDepth 8000 in
set_option maxHeartbeats 2000000 in
theorem specSet_out (W : World) (v u : Value) (xs : List DNode) (ss : List Int) (k d : Int) (H : RdL shNode W v xs) (Hs : RdL shI W u ss) (hl : szL shNode xs ≤ 1048576) (hls : szL shI ss ≤ 1048576) (hp : SleepP xs ss) (hk : k < 0 ∨ (xs.length : Int) - 1 < k) : Calls Try.prog 71 #[v, u, .int .i64 k, .int .i64 d] W (ResISetSleep ss false W) := by
  have HP_ := Lib.hid hp
  have HKK := Lib.hid hk
  clear hp hk
  have HT := Lib.hid H
  have HSL := Lib.hid Hs
  have HL := Lib.hid hl
  have HLS := Lib.hid hls
  have HMX := Lib.hid Hs.max
  rw [szL_I] at hls
  obtain ⟨a0, n0, c0, rfl⟩ := RdL.form H
  obtain ⟨a1, n1, c1, rfl⟩ := RdL.form Hs
  have hn0 : n0 = xs.length := by obtain ⟨_, _, e, _⟩ := H; injection e
  have hn1 : n1 = ss.length := by obtain ⟨_, _, e, _⟩ := Hs; injection e
  have HE := Lib.hid hn0
  have HE1 := Lib.hid hn1
  have hnb : n1 ≤ 1048576 := by omega
  have HZ : Hid (ss.length = n1) := Lib.hid hn1.symm
  have hlx : n0 ≤ 1048576 := by have := szL_len shNode xs; omega
  clear H Hs hn0 hn1 hl hls
  have HK := Lib.hid (show k < 0 ∨ (n0 : Int) - 1 < k from by rw [HE.out]; exact HKK.out)
  go_enter Try.func71, Try.ntmps71
  go_wp2_with (at_builtin; refine wpList_append_plain plainI slTI _ rfl _ _ rfl (W.heap.size) _ 0 [] rfl (own_emptyP (heap_alloc_new _ _) (Nat.le_refl _)) a1 n1 c1 (ss) rfl (HSL.out.grow (gby_alloc (gby_refl _ _) _)) (by omega) (by simp) ?_; intro v2_ wc1 hown2 hg2; have HO1 := Lib.hid hown2; have HG1 := Lib.hid (gby_new (gby_alloc (gby_refl (W) none) _) hg2 (fun i hi => by obtain rfl := Option.some.inj (show some (W.heap.size) = some i from hi); simp)); clear hown2 hg2; have o_ := owP_row (s := shI) _ plainI.len plainI.ow HMX.out (show wc1.ownsRow (W.heap.size) 3 1 v2_ (ss).length ((ss).flatMap (fun x => [.int .i64 x])) by have q := HO1.out; rw [Nat.zero_add, List.nil_append] at q; rw [← HE1.out]; exact q); obtain ⟨qp, qn, qc, hv_⟩ := RdL.form o_.rd; subst hv_; have qo := Lib.hid o_; clear o_; have hswc1 := HG1.out.size; try simp only [World.size_alloc, World.size_setCell] at hswc1)
  have G2_ := Lib.hid (show (W).grownBy (wc1) none from gby_trans (gby_refl _ _) HG1.out)
  go_wp2_with fail
  go_at_call 79
  refine (((specSleep _ _ _ xs (ss) (HT.out.grow G2_.out) (HSL.out.grow G2_.out) HL.out HLS.out).mono (bpost_yes HP_.out))).mono ?_
  rintro e w1 ⟨rfl, g⟩
  have gq_ := Lib.hid g
  have szw1 := g.size
  try simp only [World.size_alloc, World.size_setCell] at szw1
  have G3_ := Lib.hid (show (W).grownBy (w1) none from gby_trans G2_.out g)
  clear g
  have hk1 : IntKind.i64.wrap ((n0 : Int) - 1) = (n0 : Int) - 1 := IntWalk.i64_in _ (by omega)
  go_wp2_with fail
  go_at_call 95
  refine (in_no _ _ _ _ HK.out).mono ?_
  rintro e w2_ ⟨rfl, rfl⟩
  go_wp2
  go_ret2
  exact ⟨_, rfl, OwU.one (OwL.wide (qo.out.grow gq_.out) (by omega) (by omega)), G3_.out⟩

set_option maxRecDepth 8000 in
set_option maxHeartbeats 2000000 in
theorem specSet_good (W : World) (v u : Value) (xs : List DNode) (ss : List Int) (k : Nat) (d : Int) (H : RdL shNode W v xs) (Hs : RdL shI W u ss) (hl : szL shNode xs ≤ 1048576) (hls : szL shI ss ≤ 1048576) (hp : SleepP xs ss) (hk : k < xs.length) (hd : SleepP xs (ss.set k d)) : Calls Try.prog 71 #[v, u, .int .i64 (k : Int), .int .i64 d] W (ResISetSleep (ss.set k d) true W) := by
  have HP_ := Lib.hid hp
  have HPD := Lib.hid hd
  have hsl : ss.length = xs.length := hp.1.2.2
  have HLD : Hid (szL shI (ss.set k d) ≤ 1048576) := Lib.hid (by rw [szL_I, List.length_set]; rw [szL_I] at hls; exact hls)
  have HKN := Lib.hid hk
  have HSN := Lib.hid hsl
  clear hp hd hk hsl
  have HT := Lib.hid H
  have HSL := Lib.hid Hs
  have HL := Lib.hid hl
  have HLS := Lib.hid hls
  have HMX := Lib.hid Hs.max
  rw [szL_I] at hls
  obtain ⟨a0, n0, c0, rfl⟩ := RdL.form H
  obtain ⟨a1, n1, c1, rfl⟩ := RdL.form Hs
  have hn0 : n0 = xs.length := by obtain ⟨_, _, e, _⟩ := H; injection e
  have hn1 : n1 = ss.length := by obtain ⟨_, _, e, _⟩ := Hs; injection e
  have HE := Lib.hid hn0
  have HE1 := Lib.hid hn1
  have hnb : n1 ≤ 1048576 := by omega
  have HZ : Hid (ss.length = n1) := Lib.hid hn1.symm
  have hlx : n0 ≤ 1048576 := by have := szL_len shNode xs; omega
  clear H Hs hn0 hn1 hl hls
  have hkL : k < n1 := by have := HKN.out; have := HSN.out; have := HE1.out; omega
  have hkl0 : k < n0 := by have := HKN.out; have := HE.out; omega
  have hkss : k < ss.length := by have := HKN.out; have := HSN.out; omega
  go_enter Try.func71, Try.ntmps71
  go_wp2_with (at_builtin; refine wpList_append_plain plainI slTI _ rfl _ _ rfl (W.heap.size) _ 0 [] rfl (own_emptyP (heap_alloc_new _ _) (Nat.le_refl _)) a1 n1 c1 (ss) rfl (HSL.out.grow (gby_alloc (gby_refl _ _) _)) (by omega) (by simp) ?_; intro v2_ wc1 hown2 hg2; have HO1 := Lib.hid hown2; have HG1 := Lib.hid (gby_new (gby_alloc (gby_refl (W) none) _) hg2 (fun i hi => by obtain rfl := Option.some.inj (show some (W.heap.size) = some i from hi); simp)); clear hown2 hg2; have o_ := owP_row (s := shI) _ plainI.len plainI.ow HMX.out (show wc1.ownsRow (W.heap.size) 3 1 v2_ (ss).length ((ss).flatMap (fun x => [.int .i64 x])) by have q := HO1.out; rw [Nat.zero_add, List.nil_append] at q; rw [← HE1.out]; exact q); obtain ⟨qp, qn, qc, hv_⟩ := RdL.form o_.rd; subst hv_; have qo := Lib.hid o_; clear o_; have hswc1 := HG1.out.size; try simp only [World.size_alloc, World.size_setCell] at hswc1)
  have G2_ := Lib.hid (show (W).grownBy (wc1) none from gby_trans (gby_refl _ _) HG1.out)
  go_wp2_with fail
  go_at_call 79
  refine (((specSleep _ _ _ xs (ss) (HT.out.grow G2_.out) (HSL.out.grow G2_.out) HL.out HLS.out).mono (bpost_yes HP_.out))).mono ?_
  rintro e w1 ⟨rfl, g⟩
  have gq_ := Lib.hid g
  have szw1 := g.size
  try simp only [World.size_alloc, World.size_setCell] at szw1
  have G3_ := Lib.hid (show (W).grownBy (w1) none from gby_trans G2_.out g)
  clear g
  have hk1 : IntKind.i64.wrap ((n0 : Int) - 1) = (n0 : Int) - 1 := IntWalk.i64_in _ (by omega)
  go_wp2_with fail
  go_at_call 95
  refine (in_yes _ _ _ _ (by omega) (by omega)).mono ?_
  rintro e w2_ ⟨rfl, rfl⟩
  obtain ⟨b, off, c2, hv_, b1, b2, k1_, f1_, hset⟩ := owL_I_at (qo.out.grow gq_.out) k (by have := HE1.out; omega)
  injection hv_ with e1 e2 e3
  subst e1 e2 e3
  have HST := Lib.hid (hset d)
  clear hset
  have hkn : (k : Int) < (ss.length : Int) := by have := HE1.out; omega
  have hk0 : (0 : Int) ≤ (k : Int) := by omega
  have htk : ((k : Int)).toNat = k := by omega
  have G4_ := Lib.hid (show (W).grownBy ((w1.setCell ⟨b, off + k, none⟩ (.int .i64 d))) none from gby_chg G3_.out HST.out.2 (by omega))
  go_wp2_with fail
  go_at_call 79
  refine (((specSleep _ _ _ xs (ss.set k d) (HT.out.grow G4_.out) (HST.out.1.rd) HL.out HLD.out).mono (bpost_yes HPD.out))).mono ?_
  rintro e w3 ⟨rfl, g⟩
  have gs_ := Lib.hid g
  have szw3 := g.size
  try simp only [World.size_alloc, World.size_setCell] at szw3
  have G5_ := Lib.hid (show (W).grownBy (w3) none from gby_trans G4_.out g)
  clear g
  go_wp2
  go_ret2
  exact ⟨_, rfl, OwU.one (OwL.wide (HST.out.1.grow gs_.out) (by omega) (by omega)), G5_.out⟩

set_option maxRecDepth 8000 in
set_option maxHeartbeats 2000000 in
theorem specSet_worse (W : World) (v u : Value) (xs : List DNode) (ss : List Int) (k : Nat) (d : Int) (H : RdL shNode W v xs) (Hs : RdL shI W u ss) (hl : szL shNode xs ≤ 1048576) (hls : szL shI ss ≤ 1048576) (hp : SleepP xs ss) (hk : k < xs.length) (hd : ¬ SleepP xs (ss.set k d)) : Calls Try.prog 71 #[v, u, .int .i64 (k : Int), .int .i64 d] W (ResISetSleep ss false W) := by
  have HP_ := Lib.hid hp
  have HPD := Lib.hid hd
  have hsl : ss.length = xs.length := hp.1.2.2
  have HLD : Hid (szL shI (ss.set k d) ≤ 1048576) := Lib.hid (by rw [szL_I, List.length_set]; rw [szL_I] at hls; exact hls)
  have HKN := Lib.hid hk
  have HSN := Lib.hid hsl
  clear hp hd hk hsl
  have HT := Lib.hid H
  have HSL := Lib.hid Hs
  have HL := Lib.hid hl
  have HLS := Lib.hid hls
  have HMX := Lib.hid Hs.max
  rw [szL_I] at hls
  obtain ⟨a0, n0, c0, rfl⟩ := RdL.form H
  obtain ⟨a1, n1, c1, rfl⟩ := RdL.form Hs
  have hn0 : n0 = xs.length := by obtain ⟨_, _, e, _⟩ := H; injection e
  have hn1 : n1 = ss.length := by obtain ⟨_, _, e, _⟩ := Hs; injection e
  have HE := Lib.hid hn0
  have HE1 := Lib.hid hn1
  have hnb : n1 ≤ 1048576 := by omega
  have HZ : Hid (ss.length = n1) := Lib.hid hn1.symm
  have hlx : n0 ≤ 1048576 := by have := szL_len shNode xs; omega
  clear H Hs hn0 hn1 hl hls
  have hkL : k < n1 := by have := HKN.out; have := HSN.out; have := HE1.out; omega
  have hkl0 : k < n0 := by have := HKN.out; have := HE.out; omega
  have hkss : k < ss.length := by have := HKN.out; have := HSN.out; omega
  go_enter Try.func71, Try.ntmps71
  go_wp2_with (at_builtin; refine wpList_append_plain plainI slTI _ rfl _ _ rfl (W.heap.size) _ 0 [] rfl (own_emptyP (heap_alloc_new _ _) (Nat.le_refl _)) a1 n1 c1 (ss) rfl (HSL.out.grow (gby_alloc (gby_refl _ _) _)) (by omega) (by simp) ?_; intro v2_ wc1 hown2 hg2; have HO1 := Lib.hid hown2; have HG1 := Lib.hid (gby_new (gby_alloc (gby_refl (W) none) _) hg2 (fun i hi => by obtain rfl := Option.some.inj (show some (W.heap.size) = some i from hi); simp)); clear hown2 hg2; have o_ := owP_row (s := shI) _ plainI.len plainI.ow HMX.out (show wc1.ownsRow (W.heap.size) 3 1 v2_ (ss).length ((ss).flatMap (fun x => [.int .i64 x])) by have q := HO1.out; rw [Nat.zero_add, List.nil_append] at q; rw [← HE1.out]; exact q); obtain ⟨qp, qn, qc, hv_⟩ := RdL.form o_.rd; subst hv_; have qo := Lib.hid o_; clear o_; have hswc1 := HG1.out.size; try simp only [World.size_alloc, World.size_setCell] at hswc1)
  have G2_ := Lib.hid (show (W).grownBy (wc1) none from gby_trans (gby_refl _ _) HG1.out)
  go_wp2_with fail
  go_at_call 79
  refine (((specSleep _ _ _ xs (ss) (HT.out.grow G2_.out) (HSL.out.grow G2_.out) HL.out HLS.out).mono (bpost_yes HP_.out))).mono ?_
  rintro e w1 ⟨rfl, g⟩
  have gq_ := Lib.hid g
  have szw1 := g.size
  try simp only [World.size_alloc, World.size_setCell] at szw1
  have G3_ := Lib.hid (show (W).grownBy (w1) none from gby_trans G2_.out g)
  clear g
  have hk1 : IntKind.i64.wrap ((n0 : Int) - 1) = (n0 : Int) - 1 := IntWalk.i64_in _ (by omega)
  go_wp2_with fail
  go_at_call 95
  refine (in_yes _ _ _ _ (by omega) (by omega)).mono ?_
  rintro e w2_ ⟨rfl, rfl⟩
  obtain ⟨b, off, c2, hv_, b1, b2, k1_, f1_, hset⟩ := owL_I_at (qo.out.grow gq_.out) k (by have := HE1.out; omega)
  injection hv_ with e1 e2 e3
  subst e1 e2 e3
  have HST := Lib.hid (hset d)
  clear hset
  have hkn : (k : Int) < (ss.length : Int) := by have := HE1.out; omega
  have hk0 : (0 : Int) ≤ (k : Int) := by omega
  have htk : ((k : Int)).toNat = k := by omega
  have G4_ := Lib.hid (show (W).grownBy ((w1.setCell ⟨b, off + k, none⟩ (.int .i64 d))) none from gby_chg G3_.out HST.out.2 (by omega))
  go_wp2_with fail
  go_at_call 79
  refine (((specSleep _ _ _ xs (ss.set k d) (HT.out.grow G4_.out) (HST.out.1.rd) HL.out HLD.out).mono (bpost_no HPD.out))).mono ?_
  rintro e w3 ⟨rfl, g⟩
  have gs_ := Lib.hid g
  have szw3 := g.size
  try simp only [World.size_alloc, World.size_setCell] at szw3
  have G5_ := Lib.hid (show (W).grownBy (w3) none from gby_trans G4_.out g)
  clear g
  go_wp2_with (at_builtin; refine wpList_append_plain plainI slTI _ rfl _ _ rfl (w3.heap.size) _ 0 [] rfl (own_emptyP (heap_alloc_new _ _) (Nat.le_refl _)) a1 n1 c1 (ss) rfl (HSL.out.grow (gby_alloc G5_.out _)) (by omega) (by simp) ?_; intro v2_ wc6 hown2 hg2; have HO6 := Lib.hid hown2; have HG6 := Lib.hid (gby_new (gby_alloc (gby_refl (w3) none) _) hg2 (fun i hi => by obtain rfl := Option.some.inj (show some (w3.heap.size) = some i from hi); simp)); clear hown2 hg2; have o_ := owP_row (s := shI) _ plainI.len plainI.ow HMX.out (show wc6.ownsRow (w3.heap.size) 3 1 v2_ (ss).length ((ss).flatMap (fun x => [.int .i64 x])) by have q := HO6.out; rw [Nat.zero_add, List.nil_append] at q; rw [← HE1.out]; exact q); obtain ⟨rp, rn, rc, hv_⟩ := RdL.form o_.rd; subst hv_; have ro := Lib.hid o_; clear o_; have hswc6 := HG6.out.size; try simp only [World.size_alloc, World.size_setCell] at hswc6)
  have G7_ := Lib.hid (show (W).grownBy (wc6) none from gby_trans G5_.out HG6.out)
  go_wp2
  go_ret2
  exact ⟨_, rfl, OwU.one (OwL.wide (ro.out) (by omega) (by omega)), G7_.out⟩

set_option maxRecDepth 8000 in
set_option maxHeartbeats 2000000 in
theorem implSet_bad (W : World) (v u : Value) (xs : List DNode) (ss : List Int) (k d : Int) (H : RdL shNode W v xs) (Hs : RdL shI W u ss) (hl : szL shNode xs ≤ 1048576) (hls : szL shI ss ≤ 1048576) (hp : ¬ SleepP xs ss) : Calls Try.prog 37 #[v, u, .int .i64 k, .int .i64 d] W (ResISetSleep ss false W) := by
  have HP_ := Lib.hid hp
  clear hp
  have HT := Lib.hid H
  have HSL := Lib.hid Hs
  have HL := Lib.hid hl
  have HLS := Lib.hid hls
  have HMX := Lib.hid Hs.max
  rw [szL_I] at hls
  obtain ⟨a0, n0, c0, rfl⟩ := RdL.form H
  obtain ⟨a1, n1, c1, rfl⟩ := RdL.form Hs
  have hn0 : n0 = xs.length := by obtain ⟨_, _, e, _⟩ := H; injection e
  have hn1 : n1 = ss.length := by obtain ⟨_, _, e, _⟩ := Hs; injection e
  have HE := Lib.hid hn0
  have HE1 := Lib.hid hn1
  have hnb : n1 ≤ 1048576 := by omega
  have HZ : Hid (ss.length = n1) := Lib.hid hn1.symm
  have hlx : n0 ≤ 1048576 := by have := szL_len shNode xs; omega
  clear H Hs hn0 hn1 hl hls
  go_enter Try.func37, Try.ntmps37
  go_wp2_with fail
  go_at_call 31
  refine (((implSleep _ _ _ xs (ss) (HT.out.grow (gby_refl _ _)) (HSL.out.grow (gby_refl _ _)) HL.out HLS.out).mono (bpost_no HP_.out))).mono ?_
  rintro e w1 ⟨rfl, g⟩
  have szw1 := g.size
  try simp only [World.size_alloc, World.size_setCell] at szw1
  have G1_ := Lib.hid (show (W).grownBy (w1) none from gby_trans (gby_refl _ _) g)
  clear g
  go_wp2_with fail
  go_at_call 76
  refine (clone_any _ _ ss (rdI_in (HSL.out.grow G1_.out)) (by have := HE1.out; omega)).mono ?_
  rintro e w2 ⟨v2_, rfl, o_, g⟩
  have hsw2 := g.size
  try simp only [World.size_setCell] at hsw2
  have o2_ := owI_out HMX.out o_
  obtain ⟨qp, qn, qc, hv_⟩ := RdL.form o2_.rd
  subst hv_
  have qo := Lib.hid o2_
  clear o_ o2_
  have G2_ := Lib.hid (show (W).grownBy (w2) none from gby_trans G1_.out g)
  clear g
  go_wp2
  go_ret2
  exact ⟨_, rfl, OwU.one (OwL.wide (qo.out) (by omega) (by omega)), G2_.out⟩

set_option maxRecDepth 8000 in
set_option maxHeartbeats 2000000 in
theorem implSet_out (W : World) (v u : Value) (xs : List DNode) (ss : List Int) (k d : Int) (H : RdL shNode W v xs) (Hs : RdL shI W u ss) (hl : szL shNode xs ≤ 1048576) (hls : szL shI ss ≤ 1048576) (hp : SleepP xs ss) (hk : k < 0 ∨ (xs.length : Int) - 1 < k) : Calls Try.prog 37 #[v, u, .int .i64 k, .int .i64 d] W (ResISetSleep ss false W) := by
  have HP_ := Lib.hid hp
  have HKK := Lib.hid hk
  clear hp hk
  have HT := Lib.hid H
  have HSL := Lib.hid Hs
  have HL := Lib.hid hl
  have HLS := Lib.hid hls
  have HMX := Lib.hid Hs.max
  rw [szL_I] at hls
  obtain ⟨a0, n0, c0, rfl⟩ := RdL.form H
  obtain ⟨a1, n1, c1, rfl⟩ := RdL.form Hs
  have hn0 : n0 = xs.length := by obtain ⟨_, _, e, _⟩ := H; injection e
  have hn1 : n1 = ss.length := by obtain ⟨_, _, e, _⟩ := Hs; injection e
  have HE := Lib.hid hn0
  have HE1 := Lib.hid hn1
  have hnb : n1 ≤ 1048576 := by omega
  have HZ : Hid (ss.length = n1) := Lib.hid hn1.symm
  have hlx : n0 ≤ 1048576 := by have := szL_len shNode xs; omega
  clear H Hs hn0 hn1 hl hls
  have HK := Lib.hid (show k < 0 ∨ (n0 : Int) - 1 < k from by rw [HE.out]; exact HKK.out)
  go_enter Try.func37, Try.ntmps37
  go_wp2_with fail
  go_at_call 31
  refine (((implSleep _ _ _ xs (ss) (HT.out.grow (gby_refl _ _)) (HSL.out.grow (gby_refl _ _)) HL.out HLS.out).mono (bpost_yes HP_.out))).mono ?_
  rintro e w1 ⟨rfl, g⟩
  have szw1 := g.size
  try simp only [World.size_alloc, World.size_setCell] at szw1
  have G1_ := Lib.hid (show (W).grownBy (w1) none from gby_trans (gby_refl _ _) g)
  clear g
  have hk1 : IntKind.i64.wrap ((n0 : Int) - 1) = (n0 : Int) - 1 := IntWalk.i64_in _ (by omega)
  go_wp2_with fail
  go_at_call 80
  refine (rng_no _ _ _ _ HK.out).mono ?_
  rintro e w2_ ⟨rfl, rfl⟩
  go_wp2_with fail
  go_at_call 76
  refine (clone_any _ _ ss (rdI_in (HSL.out.grow G1_.out)) (by have := HE1.out; omega)).mono ?_
  rintro e w3 ⟨v2_, rfl, o_, g⟩
  have hsw3 := g.size
  try simp only [World.size_setCell] at hsw3
  have o2_ := owI_out HMX.out o_
  obtain ⟨qp, qn, qc, hv_⟩ := RdL.form o2_.rd
  subst hv_
  have qo := Lib.hid o2_
  clear o_ o2_
  have G2_ := Lib.hid (show (W).grownBy (w3) none from gby_trans G1_.out g)
  clear g
  go_wp2
  go_ret2
  exact ⟨_, rfl, OwU.one (OwL.wide (qo.out) (by omega) (by omega)), G2_.out⟩

set_option maxRecDepth 8000 in
set_option maxHeartbeats 2000000 in
theorem implSet_good (W : World) (v u : Value) (xs : List DNode) (ss : List Int) (k : Nat) (d : Int) (H : RdL shNode W v xs) (Hs : RdL shI W u ss) (hl : szL shNode xs ≤ 1048576) (hls : szL shI ss ≤ 1048576) (hp : SleepP xs ss) (hk : k < xs.length) (hd : SleepP xs (ss.set k d)) : Calls Try.prog 37 #[v, u, .int .i64 (k : Int), .int .i64 d] W (ResISetSleep (ss.set k d) true W) := by
  have HP_ := Lib.hid hp
  have HPD := Lib.hid hd
  have hsl : ss.length = xs.length := hp.1.2.2
  have HLD : Hid (szL shI (ss.set k d) ≤ 1048576) := Lib.hid (by rw [szL_I, List.length_set]; rw [szL_I] at hls; exact hls)
  have HKN := Lib.hid hk
  have HSN := Lib.hid hsl
  clear hp hd hk hsl
  have HT := Lib.hid H
  have HSL := Lib.hid Hs
  have HL := Lib.hid hl
  have HLS := Lib.hid hls
  have HMX := Lib.hid Hs.max
  rw [szL_I] at hls
  obtain ⟨a0, n0, c0, rfl⟩ := RdL.form H
  obtain ⟨a1, n1, c1, rfl⟩ := RdL.form Hs
  have hn0 : n0 = xs.length := by obtain ⟨_, _, e, _⟩ := H; injection e
  have hn1 : n1 = ss.length := by obtain ⟨_, _, e, _⟩ := Hs; injection e
  have HE := Lib.hid hn0
  have HE1 := Lib.hid hn1
  have hnb : n1 ≤ 1048576 := by omega
  have HZ : Hid (ss.length = n1) := Lib.hid hn1.symm
  have hlx : n0 ≤ 1048576 := by have := szL_len shNode xs; omega
  clear H Hs hn0 hn1 hl hls
  have hkL : k < n1 := by have := HKN.out; have := HSN.out; have := HE1.out; omega
  have hkl0 : k < n0 := by have := HKN.out; have := HE.out; omega
  have hkss : k < ss.length := by have := HKN.out; have := HSN.out; omega
  go_enter Try.func37, Try.ntmps37
  go_wp2_with fail
  go_at_call 31
  refine (((implSleep _ _ _ xs (ss) (HT.out.grow (gby_refl _ _)) (HSL.out.grow (gby_refl _ _)) HL.out HLS.out).mono (bpost_yes HP_.out))).mono ?_
  rintro e w1 ⟨rfl, g⟩
  have szw1 := g.size
  try simp only [World.size_alloc, World.size_setCell] at szw1
  have G1_ := Lib.hid (show (W).grownBy (w1) none from gby_trans (gby_refl _ _) g)
  clear g
  have hk1 : IntKind.i64.wrap ((n0 : Int) - 1) = (n0 : Int) - 1 := IntWalk.i64_in _ (by omega)
  go_wp2_with fail
  go_at_call 80
  refine (rng_yes _ _ _ _ (by omega) (by omega)).mono ?_
  rintro e w2_ ⟨rfl, rfl⟩
  go_wp2_with fail
  go_at_call 76
  refine (clone_any _ _ ss (rdI_in (HSL.out.grow G1_.out)) (by have := HE1.out; omega)).mono ?_
  rintro e w3 ⟨v2_, rfl, o_, g⟩
  have hsw3 := g.size
  try simp only [World.size_setCell] at hsw3
  have o2_ := owI_out HMX.out o_
  obtain ⟨qp, qn, qc, hv_⟩ := RdL.form o2_.rd
  subst hv_
  have qo := Lib.hid o2_
  clear o_ o2_
  have G2_ := Lib.hid (show (W).grownBy (w3) none from gby_trans G1_.out g)
  clear g
  obtain ⟨b, off, c2, hv_, b1, b2, k1_, f1_, hset⟩ := owL_I_at (qo.out) k (by have := HE1.out; omega)
  injection hv_ with e1 e2 e3
  subst e1 e2 e3
  have HST := Lib.hid (hset d)
  clear hset
  have hkn : (k : Int) < (ss.length : Int) := by have := HE1.out; omega
  have hk0 : (0 : Int) ≤ (k : Int) := by omega
  have htk : ((k : Int)).toNat = k := by omega
  have G3_ := Lib.hid (show (W).grownBy ((w3.setCell ⟨b, off + k, none⟩ (.int .i64 d))) none from gby_chg G2_.out HST.out.2 (by omega))
  go_wp2_with fail
  go_at_call 31
  refine (((implSleep _ _ _ xs (ss.set k d) (HT.out.grow G3_.out) (HST.out.1.rd) HL.out HLD.out).mono (bpost_yes HPD.out))).mono ?_
  rintro e w4 ⟨rfl, g⟩
  have gs_ := Lib.hid g
  have szw4 := g.size
  try simp only [World.size_alloc, World.size_setCell] at szw4
  have G4_ := Lib.hid (show (W).grownBy (w4) none from gby_trans G3_.out g)
  clear g
  go_wp2
  go_ret2
  exact ⟨_, rfl, OwU.one (OwL.wide (HST.out.1.grow gs_.out) (by omega) (by omega)), G4_.out⟩

set_option maxRecDepth 8000 in
set_option maxHeartbeats 2000000 in
theorem implSet_worse (W : World) (v u : Value) (xs : List DNode) (ss : List Int) (k : Nat) (d : Int) (H : RdL shNode W v xs) (Hs : RdL shI W u ss) (hl : szL shNode xs ≤ 1048576) (hls : szL shI ss ≤ 1048576) (hp : SleepP xs ss) (hk : k < xs.length) (hd : ¬ SleepP xs (ss.set k d)) : Calls Try.prog 37 #[v, u, .int .i64 (k : Int), .int .i64 d] W (ResISetSleep ss false W) := by
  have HP_ := Lib.hid hp
  have HPD := Lib.hid hd
  have hsl : ss.length = xs.length := hp.1.2.2
  have HLD : Hid (szL shI (ss.set k d) ≤ 1048576) := Lib.hid (by rw [szL_I, List.length_set]; rw [szL_I] at hls; exact hls)
  have HKN := Lib.hid hk
  have HSN := Lib.hid hsl
  clear hp hd hk hsl
  have HT := Lib.hid H
  have HSL := Lib.hid Hs
  have HL := Lib.hid hl
  have HLS := Lib.hid hls
  have HMX := Lib.hid Hs.max
  rw [szL_I] at hls
  obtain ⟨a0, n0, c0, rfl⟩ := RdL.form H
  obtain ⟨a1, n1, c1, rfl⟩ := RdL.form Hs
  have hn0 : n0 = xs.length := by obtain ⟨_, _, e, _⟩ := H; injection e
  have hn1 : n1 = ss.length := by obtain ⟨_, _, e, _⟩ := Hs; injection e
  have HE := Lib.hid hn0
  have HE1 := Lib.hid hn1
  have hnb : n1 ≤ 1048576 := by omega
  have HZ : Hid (ss.length = n1) := Lib.hid hn1.symm
  have hlx : n0 ≤ 1048576 := by have := szL_len shNode xs; omega
  clear H Hs hn0 hn1 hl hls
  have hkL : k < n1 := by have := HKN.out; have := HSN.out; have := HE1.out; omega
  have hkl0 : k < n0 := by have := HKN.out; have := HE.out; omega
  have hkss : k < ss.length := by have := HKN.out; have := HSN.out; omega
  go_enter Try.func37, Try.ntmps37
  go_wp2_with fail
  go_at_call 31
  refine (((implSleep _ _ _ xs (ss) (HT.out.grow (gby_refl _ _)) (HSL.out.grow (gby_refl _ _)) HL.out HLS.out).mono (bpost_yes HP_.out))).mono ?_
  rintro e w1 ⟨rfl, g⟩
  have szw1 := g.size
  try simp only [World.size_alloc, World.size_setCell] at szw1
  have G1_ := Lib.hid (show (W).grownBy (w1) none from gby_trans (gby_refl _ _) g)
  clear g
  have hk1 : IntKind.i64.wrap ((n0 : Int) - 1) = (n0 : Int) - 1 := IntWalk.i64_in _ (by omega)
  go_wp2_with fail
  go_at_call 80
  refine (rng_yes _ _ _ _ (by omega) (by omega)).mono ?_
  rintro e w2_ ⟨rfl, rfl⟩
  go_wp2_with fail
  go_at_call 76
  refine (clone_any _ _ ss (rdI_in (HSL.out.grow G1_.out)) (by have := HE1.out; omega)).mono ?_
  rintro e w3 ⟨v2_, rfl, o_, g⟩
  have hsw3 := g.size
  try simp only [World.size_setCell] at hsw3
  have o2_ := owI_out HMX.out o_
  obtain ⟨qp, qn, qc, hv_⟩ := RdL.form o2_.rd
  subst hv_
  have qo := Lib.hid o2_
  clear o_ o2_
  have G2_ := Lib.hid (show (W).grownBy (w3) none from gby_trans G1_.out g)
  clear g
  obtain ⟨b, off, c2, hv_, b1, b2, k1_, f1_, hset⟩ := owL_I_at (qo.out) k (by have := HE1.out; omega)
  injection hv_ with e1 e2 e3
  subst e1 e2 e3
  have HST := Lib.hid (hset d)
  clear hset
  have hkn : (k : Int) < (ss.length : Int) := by have := HE1.out; omega
  have hk0 : (0 : Int) ≤ (k : Int) := by omega
  have htk : ((k : Int)).toNat = k := by omega
  have G3_ := Lib.hid (show (W).grownBy ((w3.setCell ⟨b, off + k, none⟩ (.int .i64 d))) none from gby_chg G2_.out HST.out.2 (by omega))
  go_wp2_with fail
  go_at_call 31
  refine (((implSleep _ _ _ xs (ss.set k d) (HT.out.grow G3_.out) (HST.out.1.rd) HL.out HLD.out).mono (bpost_no HPD.out))).mono ?_
  rintro e w4 ⟨rfl, g⟩
  have gs_ := Lib.hid g
  have szw4 := g.size
  try simp only [World.size_alloc, World.size_setCell] at szw4
  have G4_ := Lib.hid (show (W).grownBy (w4) none from gby_trans G3_.out g)
  clear g
  go_wp2_with fail
  go_at_call 76
  refine (clone_any _ _ ss (rdI_in (HSL.out.grow G4_.out)) (by have := HE1.out; omega)).mono ?_
  rintro e w5 ⟨v2_, rfl, o_, g⟩
  have hsw5 := g.size
  try simp only [World.size_setCell] at hsw5
  have o2_ := owI_out HMX.out o_
  obtain ⟨rp, rn, rc, hv_⟩ := RdL.form o2_.rd
  subst hv_
  have ro := Lib.hid o2_
  clear o_ o2_
  have G5_ := Lib.hid (show (W).grownBy (w5) none from gby_trans G4_.out g)
  clear g
  go_wp2
  go_ret2
  exact ⟨_, rfl, OwU.one (OwL.wide (ro.out) (by omega) (by omega)), G5_.out⟩

theorem setSleep_both (xs0 : List DNode) (xs1 : List Int) (i2 i3 : Int) (h0 : szL shNode xs0 ≤ 1048576) (h1 : szL shI xs1 ≤ 1048576) : ∃ (xsr0 : List Int) (br1 : Bool), szL shI xsr0 ≤ 1048576 ∧ (∀ (W : World), ∀ u0 u1, RdL shNode W u0 xs0 → RdL shI W u1 xs1 → Calls Try.prog 71 #[u0, u1, .int .i64 i2, .int .i64 i3] W (ResSSetSleep xsr0 br1 W)) ∧ ∀ (W : World), ∀ u0 u1, RdL shNode W u0 xs0 → RdL shI W u1 xs1 → Calls Try.prog 37 #[u0, u1, .int .i64 i2, .int .i64 i3] W (ResISetSleep xsr0 br1 W) := by
  have key : ∃ (xsr0 : List Int) (br1 : Bool), szL shI xsr0 ≤ 1048576 ∧ (∀ (W : World), ∀ u0 u1, RdL shNode W u0 xs0 → RdL shI W u1 xs1 → Calls Try.prog 71 #[u0, u1, .int .i64 i2, .int .i64 i3] W (ResISetSleep xsr0 br1 W)) ∧ ∀ (W : World), ∀ u0 u1, RdL shNode W u0 xs0 → RdL shI W u1 xs1 → Calls Try.prog 37 #[u0, u1, .int .i64 i2, .int .i64 i3] W (ResISetSleep xsr0 br1 W) := by
    by_cases hp : SleepP xs0 xs1
    · rcases inr_or i2 0 ((xs0.length : Int) - 1) with ⟨k1, k2⟩ | hk
      · obtain ⟨k, rfl⟩ : ∃ k : Nat, i2 = (k : Int) := ⟨i2.toNat, by omega⟩
        have hk : k < xs0.length := by omega
        by_cases hd : SleepP xs0 (xs1.set k i3)
        · exact ⟨xs1.set k i3, true, by rw [szL_I, List.length_set]; rw [szL_I] at h1; exact h1, fun W u0 u1 H0 H1 => specSet_good W u0 u1 _ _ k i3 H0 H1 h0 h1 hp hk hd, fun W u0 u1 H0 H1 => implSet_good W u0 u1 _ _ k i3 H0 H1 h0 h1 hp hk hd⟩
        · exact ⟨xs1, false, h1, fun W u0 u1 H0 H1 => specSet_worse W u0 u1 _ _ k i3 H0 H1 h0 h1 hp hk hd, fun W u0 u1 H0 H1 => implSet_worse W u0 u1 _ _ k i3 H0 H1 h0 h1 hp hk hd⟩
      · exact ⟨xs1, false, h1, fun W u0 u1 H0 H1 => specSet_out W u0 u1 _ _ i2 i3 H0 H1 h0 h1 hp hk, fun W u0 u1 H0 H1 => implSet_out W u0 u1 _ _ i2 i3 H0 H1 h0 h1 hp hk⟩
    · exact ⟨xs1, false, h1, fun W u0 u1 H0 H1 => specSet_bad W u0 u1 _ _ i2 i3 H0 H1 h0 h1 hp, fun W u0 u1 H0 H1 => implSet_bad W u0 u1 _ _ i2 i3 H0 H1 h0 h1 hp⟩
  obtain ⟨a, b, h, hs, hi⟩ := key
  exact ⟨a, b, h, fun W u0 u1 H0 H1 => (hs W u0 u1 H0 H1).mono (fun e w q => resS_ofSetSleep e w q), hi⟩

end Go.Proofs.Ytodfbodagjmfmac
