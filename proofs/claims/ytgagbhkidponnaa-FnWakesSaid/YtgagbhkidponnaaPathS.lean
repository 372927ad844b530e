/-
  The model's PathTo.
-/
import Derived.Test.YtgagbhkidponnaaShpI
import Derived.Test.YtgagbhkidponnaaDNode
import Derived.Test.YtgagbhkidponnaaPathMath
import Derived.Test.YtgagbhkidponnaaBPost
import Derived.Test.YtgagbhkidponnaaIntInfo
import Derived.Test.YtgagbhkidponnaaSetI
import Derived.Test.YtgagbhkidponnaaAppP
namespace Go.Proofs.Ytgagbhkidponnaa
open Go Go.RowKit

def ResSPathTo (xsr0 : List Int) (W : World) (e : Ending) (w' : World) : Prop := ∃ vr0, e = .returned (vr0) ∧ RdL shI w' vr0 xsr0 ∧ W.grownBy w' none
def ResIPathTo (xsr0 : List Int) (W : World) (e : Ending) (w' : World) : Prop := ∃ vr0, e = .returned (vr0) ∧ OwU w' W.heap.size w'.heap.size [] [own shI vr0 xsr0] ∧ W.grownBy w' none

theorem resS_ofPathTo {xsr0 : List Int} {W : World} (e : Ending) (w' : World) (h : ResIPathTo xsr0 W e w') : ResSPathTo xsr0 W e w' := by
  obtain ⟨vr0, rfl, h, g⟩ := h
  exact ⟨vr0, rfl, OwU.rd h, g⟩

end Go.Proofs.Ytgagbhkidponnaa

namespace Go.Proofs.Ytgagbhkidponnaa
open Go Go.RowKit
set_option linter.unusedVariables false

set_option maxRecDepth 8000 in
set_option maxHeartbeats 2000000 in
theorem specNode (W : World) (v : Value) (xs : List DNode) (k : Int) (H : RdL shNode W v xs) (hl : szL shNode xs ≤ 1048576) : Calls Try.prog 104 #[v, .int .i64 k] W (BPost (NodeP xs k) W) := by
  have HT := Lib.hid H
  have HL := Lib.hid hl
  obtain ⟨a0, n0, c0, rfl⟩ := RdL.form H
  have hn0 : n0 = xs.length := by obtain ⟨_, _, e, _⟩ := H; injection e
  have HE := Lib.hid hn0
  have hlx : n0 ≤ 1048576 := by have := szL_len shNode xs; omega
  clear H hn0 hl
  by_cases ht : TOk xs
  rotate_left
  · have HNT := Lib.hid ht
    clear ht
    go_enter Try.func104, Try.ntmps104
    go_wp2_with fail
    go_at_call 74
    refine (specTree_no _ _ xs (HT.out.grow (gby_refl _ _)) HL.out HNT.out).mono ?_
    rintro e w1 ⟨rfl, g⟩
    have szw1 := g.size
    try simp only [World.size_alloc] at szw1
    try simp only [World.size_setCell] at szw1
    have G1_ := Lib.hid (show (W).grownBy (w1) none from gby_trans (gby_refl _ _) g)
    clear g
    go_wp2
    go_ret
    exact ⟨false, rfl, iff_no (fun q => HNT.out q.1), G1_.out⟩
  have HYT := Lib.hid ht
  have l1 := ht.1.1
  have l2 := ht.1.2
  rw [← HE.out] at l1 l2
  clear ht
  have hk1 : IntKind.i64.wrap ((n0 : Int) - 1) = (n0 : Int) - 1 := IntWalk.i64_in _ (by omega)
  rcases inr_or k 0 ((n0 : Int) - 1) with ⟨k1, k2⟩ | hb
  rotate_left
  · have HB := Lib.hid hb
    clear hb
    go_enter Try.func104, Try.ntmps104
    go_wp2_with fail
    go_at_call 74
    refine (specTree_yes _ _ xs (HT.out.grow (gby_refl _ _)) HL.out HYT.out).mono ?_
    rintro e w1 ⟨rfl, g⟩
    have szw1 := g.size
    try simp only [World.size_alloc] at szw1
    try simp only [World.size_setCell] at szw1
    have G1_ := Lib.hid (show (W).grownBy (w1) none from gby_trans (gby_refl _ _) g)
    clear g
    go_wp2_with fail
    go_at_call 75
    refine (in_no _ _ _ _ HB.out).mono ?_
    rintro e w2_ ⟨rfl, rfl⟩
    go_wp2
    go_ret
    exact ⟨false, rfl, iff_no (fun q => by have := q.2; have := HB.out; have := HE.out; omega), G1_.out⟩
  go_enter Try.func104, Try.ntmps104
  go_wp2_with fail
  go_at_call 74
  refine (specTree_yes _ _ xs (HT.out.grow (gby_refl _ _)) HL.out HYT.out).mono ?_
  rintro e w1 ⟨rfl, g⟩
  have szw1 := g.size
  try simp only [World.size_alloc] at szw1
  try simp only [World.size_setCell] at szw1
  have G1_ := Lib.hid (show (W).grownBy (w1) none from gby_trans (gby_refl _ _) g)
  clear g
  go_wp2_with fail
  go_at_call 75
  refine (in_yes _ _ _ _ (by omega) (by omega)).mono ?_
  rintro e w2_ ⟨rfl, rfl⟩
  go_wp2
  go_ret
  exact ⟨true, rfl, iff_yes ⟨HYT.out, by omega, by rw [← HE.out]; omega⟩, G1_.out⟩

theorem specNode_yes (W : World) (v : Value) (xs : List DNode) (k : Int) (H : RdL shNode W v xs) (hl : szL shNode xs ≤ 1048576) (h : NodeP xs k) : Calls Try.prog 104 #[v, .int .i64 k] W (AnsN (.bool true) W) := (specNode W v xs k H hl).mono (bpost_yes h)
theorem specNode_no (W : World) (v : Value) (xs : List DNode) (k : Int) (H : RdL shNode W v xs) (hl : szL shNode xs ≤ 1048576) (h : ¬ NodeP xs k) : Calls Try.prog 104 #[v, .int .i64 k] W (AnsN (.bool false) W) := (specNode W v xs k H hl).mono (bpost_no h)

set_option maxRecDepth 8000 in
set_option maxHeartbeats 2000000 in
theorem implNode (W : World) (v : Value) (xs : List DNode) (k : Int) (H : RdL shNode W v xs) (hl : szL shNode xs ≤ 1048576) : Calls Try.prog 64 #[v, .int .i64 k] W (BPost (NodeP xs k) W) := by
  have HT := Lib.hid H
  have HL := Lib.hid hl
  obtain ⟨a0, n0, c0, rfl⟩ := RdL.form H
  have hn0 : n0 = xs.length := by obtain ⟨_, _, e, _⟩ := H; injection e
  have HE := Lib.hid hn0
  have hlx : n0 ≤ 1048576 := by have := szL_len shNode xs; omega
  clear H hn0 hl
  by_cases ht : TOk xs
  rotate_left
  · have HNT := Lib.hid ht
    clear ht
    go_enter Try.func64, Try.ntmps64
    go_wp2_with fail
    go_at_call 48
    refine (implTree_no _ _ xs (HT.out.grow (gby_refl _ _)) HL.out HNT.out).mono ?_
    rintro e w1 ⟨rfl, g⟩
    have szw1 := g.size
    try simp only [World.size_alloc] at szw1
    try simp only [World.size_setCell] at szw1
    have G1_ := Lib.hid (show (W).grownBy (w1) none from gby_trans (gby_refl _ _) g)
    clear g
    go_wp2
    go_ret
    exact ⟨false, rfl, iff_no (fun q => HNT.out q.1), G1_.out⟩
  have HYT := Lib.hid ht
  have l1 := ht.1.1
  have l2 := ht.1.2
  rw [← HE.out] at l1 l2
  clear ht
  have hk1 : IntKind.i64.wrap ((n0 : Int) - 1) = (n0 : Int) - 1 := IntWalk.i64_in _ (by omega)
  rcases inr_or k 0 ((n0 : Int) - 1) with ⟨k1, k2⟩ | hb
  rotate_left
  · have HB := Lib.hid hb
    clear hb
    go_enter Try.func64, Try.ntmps64
    go_wp2_with fail
    go_at_call 48
    refine (implTree_yes _ _ xs (HT.out.grow (gby_refl _ _)) HL.out HYT.out).mono ?_
    rintro e w1 ⟨rfl, g⟩
    have szw1 := g.size
    try simp only [World.size_alloc] at szw1
    try simp only [World.size_setCell] at szw1
    have G1_ := Lib.hid (show (W).grownBy (w1) none from gby_trans (gby_refl _ _) g)
    clear g
    go_wp2_with fail
    go_at_call 62
    refine (rng_no _ _ _ _ HB.out).mono ?_
    rintro e w2_ ⟨rfl, rfl⟩
    go_wp2
    go_ret
    exact ⟨false, rfl, iff_no (fun q => by have := q.2; have := HB.out; have := HE.out; omega), G1_.out⟩
  go_enter Try.func64, Try.ntmps64
  go_wp2_with fail
  go_at_call 48
  refine (implTree_yes _ _ xs (HT.out.grow (gby_refl _ _)) HL.out HYT.out).mono ?_
  rintro e w1 ⟨rfl, g⟩
  have szw1 := g.size
  try simp only [World.size_alloc] at szw1
  try simp only [World.size_setCell] at szw1
  have G1_ := Lib.hid (show (W).grownBy (w1) none from gby_trans (gby_refl _ _) g)
  clear g
  go_wp2_with fail
  go_at_call 62
  refine (rng_yes _ _ _ _ (by omega) (by omega)).mono ?_
  rintro e w2_ ⟨rfl, rfl⟩
  go_wp2
  go_ret
  exact ⟨true, rfl, iff_yes ⟨HYT.out, by omega, by rw [← HE.out]; omega⟩, G1_.out⟩

theorem implNode_yes (W : World) (v : Value) (xs : List DNode) (k : Int) (H : RdL shNode W v xs) (hl : szL shNode xs ≤ 1048576) (h : NodeP xs k) : Calls Try.prog 64 #[v, .int .i64 k] W (AnsN (.bool true) W) := (implNode W v xs k H hl).mono (bpost_yes h)
theorem implNode_no (W : World) (v : Value) (xs : List DNode) (k : Int) (H : RdL shNode W v xs) (hl : szL shNode xs ≤ 1048576) (h : ¬ NodeP xs k) : Calls Try.prog 64 #[v, .int .i64 k] W (AnsN (.bool false) W) := (implNode W v xs k H hl).mono (bpost_no h)

end Go.Proofs.Ytgagbhkidponnaa

namespace Go.Proofs.Ytgagbhkidponnaa
open Go Go.RowKit
set_option linter.unusedVariables false

/-- a row of one -/
theorem own_oneP {w : World} {B base : Nat} {e : TypeId} {x : Value} (h : w.heap[B]? = some (.cells #[x] e (0, 0))) (hb : base ≤ B) : w.ownsRow base e 1 (.slice (some ⟨B, 0, none⟩) 1 1) 1 [x] :=
  ⟨by simp, .inr ⟨B, 1, #[x], rfl, hb, h, Nat.le_refl _, by unfold maxLen; omega, by simp, by simp⟩⟩
/-- a row of numbers, read -/
theorem rdI_row {w : World} {base : Nat} {v : Value} {ys : List Int} (hm : ys.length ≤ 1000000) (h : w.ownsRow base 3 1 v ys.length (i64s ys)) : RdL shI w v ys :=
  (owI_out (by omega) (owI_row h)).rd
theorem flatI (ys : List Int) : ys.flatMap (fun x => [Value.int .i64 x]) = i64s ys := by
  induction ys with
  | nil => rfl
  | cons y ys ih => rw [List.flatMap_cons, ih]; rfl

set_option maxRecDepth 8000 in
set_option maxHeartbeats 2000000 in
theorem specPath_no (W : World) (v : Value) (xs : List DNode) (k : Int) (H : RdL shNode W v xs) (hl : szL shNode xs ≤ 1048576) (hp : ¬ NodeP xs k) : Calls Try.prog 97 #[v, .int .i64 k] W (ResIPathTo [] W) := by
  have HP_ := Lib.hid hp
  clear hp
  have HT := Lib.hid H
  have HL := Lib.hid hl
  obtain ⟨a0, n0, c0, rfl⟩ := RdL.form H
  have hn0 : n0 = xs.length := by obtain ⟨_, _, e, _⟩ := H; injection e
  have HE := Lib.hid hn0
  have hlx : n0 ≤ 1048576 := by have := szL_len shNode xs; omega
  clear H hn0 hl
  go_enter Try.func97, Try.ntmps97
  go_wp2_with fail
  have al_ : (W).grownBy ((W).alloc (.cells #[] 3)) none := gby_alloc (gby_refl _ _) _
  have G1_ := Lib.hid (show (W).grownBy ((W.alloc (.cells #[] 3))) none from gby_trans (gby_refl _ _) al_)
  have rO2_ := Lib.hid (show ((W.alloc (.cells #[] 3))).heap[W.heap.size]? = some (.cells #[] 3 (0, 0)) from by first | exact heap_alloc_new _ _ | exact heap_pair _ _ _ | exact heap_trip _ _ _ _)
  clear al_
  go_wp2_with fail
  go_at_call 104
  refine (specNode_no _ _ xs _ (HT.out.grow G1_.out) HL.out HP_.out).mono ?_
  rintro e w1 ⟨rfl, g⟩
  have szw1 := g.size
  try simp only [World.size_alloc] at szw1
  try simp only [World.size_setCell] at szw1
  have rO3_ := Lib.hid (show (w1).heap[W.heap.size]? = some (.cells #[] 3 (0, 0)) from row_held g rO2_.out)
  clear rO2_
  have G4_ := Lib.hid (show (W).grownBy (w1) none from gby_trans G1_.out g)
  clear g
  go_wp2
  go_ret
  exact ⟨_, rfl, OwU.one (owL_empty (by omega) (by omega)), G4_.out⟩

theorem gby_size {w w' : World} {r : Option Nat} (g : w.grownBy w' r) : w.heap.size ≤ w'.heap.size := g.size
set_option maxRecDepth 8000 in
set_option maxHeartbeats 2000000 in
theorem specPath_yes (W : World) (v : Value) (xs : List DNode) (k : Nat) (H : RdL shNode W v xs) (hl : szL shNode xs ≤ 1048576) (ht : TOk xs) (hkl : k < xs.length) : Calls Try.prog 97 #[v, .int .i64 (k : Int)] W (ResIPathTo (pth xs k) W) := by
  have HP_ := Lib.hid (show NodeP xs (k : Int) from ⟨ht, by omega, by omega⟩)
  have HTO := Lib.hid ht
  have HPL := Lib.hid (show (pth xs k).length ≤ 12 by have := (pth_len ht k hkl).2; have := ht.1.2; omega)
  clear ht
  have HT := Lib.hid H
  have HL := Lib.hid hl
  have HMX := Lib.hid H.max
  obtain ⟨a0, c0, rfl, hcap, hi⟩ := rdN_in H
  obtain ⟨n0, hlen⟩ : ∃ n, n = xs.length := ⟨_, rfl⟩
  have HE := Lib.hid hlen
  unfold RdN at hi
  rw [← hlen] at hi HT ⊢
  have HA := Lib.hid hi
  have hlx : n0 ≤ 1048576 := by have := szL_len shNode xs; omega
  clear H hi hlen hl hcap
  have hk : k < n0 := by have := HE.out; omega
  obtain ⟨b, off, rfl, hcell⟩ := HA.out.resolve_left (by omega)
  have HC := Lib.hid hcell
  clear hcell hkl
  go_enter Try.func97, Try.ntmps97
  have HTM1_ := Lib.hid (gby_refl (W) none)
  have MG2_ := Lib.hid (show (W).grownBy (W) none from (gby_refl _ _))
  go_wp2_with fail
  have al_ : (W).grownBy ((W).alloc (.cells #[] 3)) none := gby_alloc (gby_refl _ _) _
  have G3_ := Lib.hid (show (W).grownBy ((W.alloc (.cells #[] 3))) none from gby_trans (gby_refl _ _) al_)
  have HTM4_ := Lib.hid (show (W).grownBy ((W.alloc (.cells #[] 3))) none from gby_trans HTM1_.out al_)
  clear HTM1_
  have rO5_ := Lib.hid (show ((W.alloc (.cells #[] 3))).heap[W.heap.size]? = some (.cells #[] 3 (0, 0)) from by first | exact heap_alloc_new _ _ | exact heap_pair _ _ _ | exact heap_trip _ _ _ _)
  clear al_
  go_wp2_with fail
  go_at_call 104
  refine (specNode_yes _ _ xs _ (HT.out.grow G3_.out) HL.out HP_.out).mono ?_
  rintro e w1 ⟨rfl, g⟩
  have szw1 := g.size
  try simp only [World.size_alloc] at szw1
  try simp only [World.size_setCell] at szw1
  have rO6_ := Lib.hid (show (w1).heap[W.heap.size]? = some (.cells #[] 3 (0, 0)) from row_held g rO5_.out)
  clear rO5_
  have G7_ := Lib.hid (show (W).grownBy (w1) none from gby_trans G3_.out g)
  have HTM8_ := Lib.hid (show (W).grownBy (w1) none from gby_trans HTM4_.out g)
  clear HTM4_
  clear g
  have hst_ : (w1).ownsRow (W.heap.size) 3 1 (.slice (some ⟨W.heap.size, 0, none⟩) 0 0) ([] : List Int).length (i64s []) := own_emptyP (e := 3) (n := 1) rO6_.out (Nat.le_refl _)
  go_wp2
  go_loopw [1, 5] (fun kk v wr => ∃ (z : Int) (ys : List Int), kk = .int .i64 z ∧ ((∃ n : Nat, z = (n : Int) ∧ n < n0 ∧ pth xs k = pth xs n ++ ys) ∨ (z = -1 ∧ pth xs k = ys)) ∧ wr.ownsRow (W.heap.size) 3 1 v ys.length (i64s ys) ∧ (W).grownBy wr none) (fun kk _ _ => (intOf kk + 1).toNat)
  case atStart => exact ⟨_, [], rfl, .inl ⟨k, rfl, hk, by simp⟩, hst_, HTM8_.out⟩
  case round =>
    clear rO6_
    clear HTM8_
    obtain ⟨z, ys, rfl, hz, hown, hg⟩ := hrel
    have szr_ := hg.size
    try simp only [World.size_alloc, World.size_setCell] at szr_
    have G9_ := Lib.hid (show (W).grownBy (wr) none from gby_trans MG2_.out hg)
    have HTM10_ := Lib.hid hg
    clear hg
    try clear hst_
    have HO := Lib.hid hown
    clear hown
    rcases hz with ⟨n, rfl, hn, hz⟩ | ⟨rfl, hz⟩
    · have HZ := Lib.hid hz
      have hyl : ys.length ≤ 12 := by have := HPL.out; rw [hz, List.length_append] at this; omega
      clear hz
      have hn0 : (0 : Int) ≤ (n : Int) := by omega
      have htn : ((n : Int)).toNat = n := by omega
      have hki : (n : Int) < (n0 : Int) := by omega
      obtain ⟨x, hx⟩ : ∃ x, x = (nd xs n).f0 := ⟨_, rfl⟩
      have hxc := (HC.out n hn).1
      rw [← hx] at hxc
      have HXC := Lib.hid hxc
      have HX := Lib.hid hx
      clear hx hxc
      obtain ⟨p1, n1, c1, hv_⟩ := RdL.form (rdI_row (by omega) HO.out)
      subst hv_
      obtain ⟨m, hm⟩ : ∃ m, m = ys.length := ⟨_, rfl⟩
      have hm2 : n1 = m := by obtain ⟨h1, h2⟩ := HO.out; rcases h2 with ⟨e, h0⟩ | ⟨_, _, _, e, _⟩ <;> injection e <;> omega
      subst hm2
      have HM := Lib.hid hm
      have hn1b : n1 ≤ 12 := by omega
      clear hm
      go_wp2_with (at_builtin; refine wpList_append_plain plainI slTI _ rfl _ _ rfl (W.heap.size) _ 1 [.int .i64 (n : Int)] rfl (own_oneP (heap_alloc_new _ _) (Nat.le_trans (gby_size HTM10_.out) (Nat.le_refl _))) p1 n1 c1 ys rfl ((rdI_row (by have := HM.out; omega) HO.out).grow (gby_alloc (gby_refl _ _) _)) (by omega) (by simp; omega) ?_; intro v2_ w2 hown2 hg2; have HO2 := Lib.hid hown2; have HG2 := Lib.hid (gby_new (gby_alloc HTM10_.out _) hg2 (fun i hi => by obtain rfl := Option.some.inj (show some _ = some i from hi); simpa using gby_size HTM10_.out)); have hx_ := HG2.out.cell HXC.out (by simp); clear hown2 hg2)
      refine ⟨⟨x, (n : Int) :: ys, rfl, ?_, ?_, HG2.out⟩, ?_⟩
      · by_cases h0 : n = 0
        · subst h0
          refine .inr ⟨by rw [HX.out]; exact HTO.out.2.1.1, ?_⟩
          rw [HZ.out, pth_zero]; rfl
        · refine .inl ⟨par xs n, by rw [HX.out]; exact par_eq HTO.out (by omega) (by rw [← HE.out]; exact hn), by have := par_lt HTO.out (k := n) (by omega) (by rw [← HE.out]; exact hn); omega, ?_⟩
          rw [HZ.out, pth_succ HTO.out (by omega) (by rw [← HE.out]; exact hn), List.append_assoc]; rfl
      · have q := HO2.out
        rw [flatI] at q
        rw [show ((n : Int) :: ys).length = 1 + n1 by rw [List.length_cons, ← HM.out]; omega]
        exact q
      · have h3 : x < (n : Int) := by
          rw [HX.out]
          by_cases h0 : n = 0
          · subst h0; rw [HTO.out.2.1.1]; omega
          · rw [par_eq HTO.out (by omega) (by rw [← HE.out]; exact hn)]
            have := par_lt HTO.out (k := n) (by omega) (by rw [← HE.out]; exact hn); omega
        have h4 : -1 ≤ x := by
          rw [HX.out]
          by_cases h0 : n = 0
          · subst h0; rw [HTO.out.2.1.1]; omega
          · rw [par_eq HTO.out (by omega) (by rw [← HE.out]; exact hn)]; omega
        simp [intOf]; omega
    · have HZ := Lib.hid hz
      have hyl : ys.length ≤ 12 := by have := HPL.out; rw [hz] at this; omega
      clear hz
      go_wp2
      go_ret
      exact ⟨_, rfl, OwU.one (OwL.wide (by rw [HZ.out]; exact owI_out (by omega) (owI_row HO.out)) (Nat.le_refl _) (Nat.le_refl _)), HTM10_.out⟩

end Go.Proofs.Ytgagbhkidponnaa
