/-
  The way from a node to the device that owns an address: up, then down; on both sides.
-/
import Derived.Test.YtdddidnibelmhaaNodeOf
import Derived.Test.YtdddidnibelmhaaRPathTo
import Derived.Test.YtdddidnibelmhaaIntInfo
import Derived.Test.YtdddidnibelmhaaSetI
import Derived.Test.YtdddidnibelmhaaAppP
import Derived.Test.YtdddidnibelmhaaDown
import Derived.Test.YtdddidnibelmhaaRRouteToAddress
namespace Go.Proofs.Ytdddidnibelmhaa
open Go Go.RowKit
set_option linter.unusedVariables false

/-- a row of one -/
theorem own_oneP {w : World} {B base : Nat} {e : TypeId} {x : Value} (h : w.heap[B]? = some (.cells #[x] e (0, 0))) (hb : base ≤ B) : w.ownsRow base e 1 (.slice (some ⟨B, 0, none⟩) 1 1) 1 [x] :=
  ⟨by simp, .inr ⟨B, 1, #[x], rfl, hb, h, Nat.le_refl _, by unfold maxLen; omega, by simp, by simp⟩⟩
/-- a row of numbers, read -/
theorem rdI_row {w : World} {base : Nat} {v : Value} {ys : List Int} (hm : ys.length ≤ 1000000) (h : w.ownsRow base 3 1 v ys.length (i64s ys)) : RdL shI w v ys :=
  (owI_out (by omega) (owI_row h)).rd
theorem flatI (ys : List Int) : ys.flatMap (fun x => [Value.int .i64 x]) = i64s ys := by
  induction ys with
  | nil => rfl
  | cons y ys ih => rw [List.flatMap_cons, ih]; rfl

end Go.Proofs.Ytdddidnibelmhaa

namespace Go.Proofs.Ytdddidnibelmhaa
open Go Go.RowKit
set_option linter.unusedVariables false

/-- the way up ends here -/
def StopW (xs : List DNode) (ys : List DBar) (x : Int) (k : Nat) : Prop := k = 0 ∨ ((nd xs k).f2 = 0 ∧ SpB ys x k)
instance (xs : List DNode) (ys : List DBar) (x : Int) (k : Nat) : Decidable (StopW xs ys x k) := by unfold StopW; infer_instance
/-- the nodes on the way up, and where it ends -/
def upW (xs : List DNode) (ys : List DBar) (x : Int) : Nat → Nat → List Int × Nat
  | 0, k => ([], k)
  | m + 1, k => if StopW xs ys x k then ([], k) else ((k : Int) :: (upW xs ys x m (nd xs k).f0.toNat).1, (upW xs ys x m (nd xs k).f0.toNat).2)
theorem upW_stop {xs : List DNode} {ys : List DBar} {x : Int} {k : Nat} (h : StopW xs ys x k) : ∀ m, upW xs ys x m k = ([], k)
  | 0 => rfl
  | m + 1 => by simp only [upW, if_pos h]
theorem upW_on {xs : List DNode} {ys : List DBar} {x : Int} {k p m : Nat} (h : ¬ StopW xs ys x k) (hp : (nd xs k).f0 = (p : Int)) : upW xs ys x (m + 1) k = ((k : Int) :: (upW xs ys x m p).1, (upW xs ys x m p).2) := by
  simp only [upW, if_neg h, hp, Int.toNat_natCast]
theorem upW_len {xs : List DNode} {ys : List DBar} {x : Int} : ∀ m k, (upW xs ys x m k).1.length ≤ m
  | 0, k => Nat.le_refl _
  | m + 1, k => by
    unfold upW
    split
    · simp
    · have := upW_len (xs := xs) (ys := ys) (x := x) m (nd xs k).f0.toNat
      simp; omega
theorem upW_lt {xs : List DNode} {ys : List DBar} {x : Int} (ht : TOk xs) : ∀ m k, k < xs.length → (upW xs ys x m k).2 < xs.length
  | 0, k, h => h
  | m + 1, k, h => by
    unfold upW
    split
    · exact h
    · next q =>
      have k0 : 1 ≤ k := by
        rcases Nat.eq_zero_or_pos k with e | e
        · exact absurd (.inl e) q
        · exact e
      have := (ht.2.2 k k0 h).1
      exact upW_lt ht m _ (by omega)
/-- pre is what the way up from k0 has passed before k -/
def OnUp (xs : List DNode) (ys : List DBar) (x : Int) (k0 k : Nat) (pre : List Int) : Prop := k < xs.length ∧ pre.length + k ≤ k0 ∧ ∃ m, k ≤ m ∧ upW xs ys x k0 k0 = (pre ++ (upW xs ys x m k).1, (upW xs ys x m k).2)
theorem onUp_start {xs : List DNode} {ys : List DBar} {x : Int} {k0 : Nat} (h : k0 < xs.length) : OnUp xs ys x k0 k0 [] := ⟨h, by simp, k0, Nat.le_refl _, rfl⟩
theorem onUp_stop {xs : List DNode} {ys : List DBar} {x : Int} {k0 k : Nat} {pre : List Int} (h : OnUp xs ys x k0 k pre) (hs : StopW xs ys x k) : upW xs ys x k0 k0 = (pre, k) := by
  obtain ⟨_, _, m, _, e⟩ := h
  rw [e, upW_stop hs]; simp
theorem onUp_on {xs : List DNode} {ys : List DBar} {x : Int} {k0 k p : Nat} {pre : List Int} (h : OnUp xs ys x k0 k pre) (hs : ¬ StopW xs ys x k) (hp : (nd xs k).f0 = (p : Int)) (hpk : p < k) : OnUp xs ys x k0 p (pre ++ [(k : Int)]) := by
  obtain ⟨h1, h2, m, hm, e⟩ := h
  obtain ⟨m', rfl⟩ : ∃ m', m = m' + 1 := ⟨m - 1, by omega⟩
  refine ⟨by omega, by rw [List.length_append, List.length_singleton]; omega, m', by omega, ?_⟩
  rw [e, upW_on hs hp]; simp
noncomputable def routeL (xs : List DNode) (ys : List DBar) (f x : Int) : List Int := by
  classical exact if downL xs ys x = [] ∨ f < 0 ∨ (xs.length : Int) - 1 < f then [] else (if dnL xs ys x (upW xs ys x f.toNat f.toNat).2 = [] then [] else (upW xs ys x f.toNat f.toNat).1 ++ dnL xs ys x (upW xs ys x f.toNat f.toNat).2)
theorem routeL_no {xs : List DNode} {ys : List DBar} {f x : Int} (h : downL xs ys x = [] ∨ f < 0 ∨ (xs.length : Int) - 1 < f) : routeL xs ys f x = [] := by unfold routeL; rw [if_pos h]
theorem routeL_none {xs : List DNode} {ys : List DBar} {x : Int} {k0 k : Nat} {pre : List Int} (hu : upW xs ys x k0 k0 = (pre, k)) (h : dnL xs ys x k = []) : routeL xs ys (k0 : Int) x = [] := by
  unfold routeL
  by_cases q : downL xs ys x = [] ∨ (k0 : Int) < 0 ∨ (xs.length : Int) - 1 < (k0 : Int)
  · rw [if_pos q]
  · rw [if_neg q]; simp only [Int.toNat_natCast, hu]; rw [if_pos h]
theorem routeL_way {xs : List DNode} {ys : List DBar} {x : Int} {k0 k : Nat} {pre : List Int} (hd : ¬ downL xs ys x = []) (hk : k0 < xs.length) (hu : upW xs ys x k0 k0 = (pre, k)) (h : ¬ dnL xs ys x k = []) : routeL xs ys (k0 : Int) x = pre ++ dnL xs ys x k := by
  unfold routeL
  rw [if_neg (by rintro (q | q | q)
                 · exact hd q
                 · omega
                 · omega)]
  simp only [Int.toNat_natCast, hu]; rw [if_neg h]
theorem haveW_of {xs : List DNode} {ys : List DBar} {x : Int} (h : ¬ downL xs ys x = []) : HaveW xs ys := by
  by_cases q : HaveW xs ys
  · exact q
  · exact absurd (downL_no q) h
theorem routeL_len {xs : List DNode} {ys : List DBar} {f x : Int} : (routeL xs ys f x).length ≤ 36 := by
  by_cases h : downL xs ys x = [] ∨ f < 0 ∨ (xs.length : Int) - 1 < f
  · rw [routeL_no h]; simp
  · have hw := haveW_of (fun q => h (.inl q))
    obtain ⟨k0, rfl⟩ : ∃ k0 : Nat, f = (k0 : Int) := ⟨f.toNat, by omega⟩
    have hk : k0 < xs.length := by omega
    obtain ⟨⟨pre, k⟩, hu⟩ : ∃ u, upW xs ys x k0 k0 = u := ⟨_, rfl⟩
    by_cases q : dnL xs ys x k = []
    · rw [routeL_none hu q]; simp
    · rw [routeL_way (fun q => h (.inl q)) hk hu q, List.length_append]
      have h1 := upW_len (xs := xs) (ys := ys) (x := x) k0 k0
      have h2 := upW_lt (ys := ys) (x := x) hw.1 k0 k0 hk
      rw [hu] at h1 h2
      have h3 := dnW_len (ys := ys) (x := x) xs.length k (by omega) h2
      have := hw.1.1.2
      dsimp only at h1 h3
      omega

theorem inr_or9 (x a b : Int) : (a ≤ x ∧ x ≤ b) ∨ (x < a ∨ b < x) := by omega
theorem ina9_yes {x a b : Int} (h1 : a ≤ x) (h2 : x ≤ b) (W : World) : Calls Try.prog 40 #[.int .i64 x, .int .i64 a, .int .i64 b] W (Ans (.bool true) W) :=
  (in_yes _ _ _ _ h1 h2).mono (by rintro e w ⟨rfl, rfl⟩; exact ⟨rfl, Drew.refl _⟩)
theorem ina9_no {x a b : Int} (h : x < a ∨ b < x) (W : World) : Calls Try.prog 40 #[.int .i64 x, .int .i64 a, .int .i64 b] W (Ans (.bool false) W) :=
  (in_no _ _ _ _ h).mono (by rintro e w ⟨rfl, rfl⟩; exact ⟨rfl, Drew.refl _⟩)

set_option maxRecDepth 8000 in
set_option maxHeartbeats 4000000 in
theorem specRoute (W : World) (v u : Value) (xs : List DNode) (ys : List DBar) (H : RdL shNode W v xs) (Hb : RdL shBar W u ys) (hl : szL shNode xs ≤ 1048576) (hly : szL shBar ys ≤ 1048576) (f x : Int) : Calls Try.prog 24 #[v, u, .int .i64 f, .int .i64 x] W (ResIRouteToAddress (routeL xs ys f x) W) := by
  obtain ⟨i1_, hi1_, hz0_, hz1_, hz2_⟩ := info_parts infoInt
  have HT := Lib.hid H
  have HW0 := Lib.hid Hb
  have HLX := Lib.hid hl
  have HLY := Lib.hid hly
  have hlx : xs.length ≤ 1048576 := by have := szL_len shNode xs; omega
  have hly2 : ys.length ≤ 1048576 := by have := szL_len shBar ys; omega
  obtain ⟨a0, cap, rfl, hcap, hi⟩ := rdN_in H
  obtain ⟨a1, cap1, rfl, hcap1, hi1⟩ := rdW_in Hb
  have HA := Lib.hid hi
  have HA1 := Lib.hid hi1
  obtain ⟨len, hlen⟩ : ∃ len, len = xs.length := ⟨_, rfl⟩
  obtain ⟨len1, hlen1⟩ : ∃ len, len = ys.length := ⟨_, rfl⟩
  have HE := Lib.hid hlen
  have HE1 := Lib.hid hlen1
  unfold RdN at HA
  unfold RdW at HA1
  rw [← hlen] at hlx HT HA ⊢
  rw [← hlen1] at hly2 HW0 HA1 ⊢
  clear H Hb hi hi1 hlen hlen1 hl hly hcap hcap1
  go_enter Try.func24, Try.ntmps24
  have HTM1_ := Lib.hid (gby_refl (W) none)
  have MG2_ := Lib.hid (show (W).grownBy (W) none from (gby_refl _ _))
  by_cases hdl : downL xs ys x = []
  rotate_left

  · have HDL := Lib.hid hdl
    clear hdl
    have HHW := Lib.hid (haveW_of HDL.out)
    obtain rfl : len1 = len := by rw [HE.out, HE1.out]; exact HHW.out.2
    have h12 : len1 ≤ 12 := by rw [HE.out]; exact HHW.out.1.1.2
    have h1_ : 1 ≤ len1 := by rw [HE.out]; exact HHW.out.1.1.1
    have hw1 : IntKind.i64.wrap ((len1 : Int) - 1) = (len1 : Int) - 1 := IntWalk.i64_in _ (by omega)
    go_wp2_with fail
    go_at_call 17
    refine (specDown _ _ _ xs ys (HT.out.grow (gby_refl _ _)) (HW0.out.grow (gby_refl _ _)) HLX.out HLY.out x).mono ?_
    rintro e w1 ⟨vD, rfl, o, g⟩
    have szw1 := g.size
    obtain ⟨pD, nD, cD, hv_⟩ := RdL.form (OwU.rd o)
    have hnD : nD = (downL xs ys x).length := by obtain ⟨_, _, e, _⟩ := OwU.rd o; rw [hv_] at e; injection e
    subst hv_
    clear o
    have G3_ := Lib.hid (show (W).grownBy (w1) none from gby_trans (gby_refl _ _) g)
    have HTM4_ := Lib.hid (show (W).grownBy (w1) none from gby_trans HTM1_.out g)
    clear HTM1_
    clear g
    have hnD1 : 1 ≤ nD := by
      rcases Nat.eq_zero_or_pos nD with e | e
      · exact absurd (List.eq_nil_of_length_eq_zero (hnD.symm.trans e)) HDL.out
      · exact e
    have hb0 : ((nD : Int) == 0) = false := beq_eq_false_iff_ne.2 (by omega)
    clear hnD
    rcases inr_or9 f 0 ((len1 : Int) - 1) with ⟨hf1, hf2⟩ | hf
    rotate_left
    · have HB := Lib.hid hf
      clear hf
      go_wp2_with fail
      go_at_call 40
      refine (ina9_no HB.out _).mono ?_
      rintro e w2 ⟨rfl, hd⟩
      have g := hd.gby none
      clear hd
      have szw2 := g.size
      try simp only [World.size_alloc] at szw2
      try simp only [World.size_setCell] at szw2
      have G5_ := Lib.hid (show (W).grownBy (w2) none from gby_trans G3_.out g)
      have HTM6_ := Lib.hid (show (W).grownBy (w2) none from gby_trans HTM4_.out g)
      clear HTM4_
      clear g
      go_wp2
      go_ret
      exact ⟨_, rfl, OwU.one (by rw [routeL_no (.inr (by have := HB.out; have := HE.out; omega))]; exact owL_empty (by first | omega | (simp only [World.size_alloc]; omega)) (by first | omega | (simp only [World.size_alloc]; omega))), gby_alloc G5_.out _⟩
    go_wp2_with fail
    go_at_call 40
    refine (ina9_yes hf1 hf2 _).mono ?_
    rintro e w2 ⟨rfl, hd⟩
    have g := hd.gby none
    clear hd
    have szw2 := g.size
    try simp only [World.size_alloc] at szw2
    try simp only [World.size_setCell] at szw2
    have G5_ := Lib.hid (show (W).grownBy (w2) none from gby_trans G3_.out g)
    have HTM6_ := Lib.hid (show (W).grownBy (w2) none from gby_trans HTM4_.out g)
    clear HTM4_
    clear g
    obtain ⟨k0, rfl⟩ : ∃ k0 : Nat, f = (k0 : Int) := ⟨f.toNat, by omega⟩
    have hk0l : k0 < len1 := by omega
    go_wp2
    have hst_ : ((w2).alloc (.cells #[] 3)).ownsRow (W.heap.size) 3 1 (.slice (some ⟨w2.heap.size, 0, none⟩) 0 0) ([] : List Int).length (i64s ([] : List Int)) := own_emptyP (heap_alloc_new _ _) (by omega)
    go_loopw [9, 10] (fun v kk wr => ∃ (k : Nat) (pre : List Int), kk = .int .i64 (k : Int) ∧ OnUp xs ys x k0 k pre ∧ wr.ownsRow (W.heap.size) 3 1 v pre.length (i64s pre) ∧ (W).grownBy wr none) (fun _ kk _ => (intOf kk).toNat)
    case atStart => exact ⟨k0, [], rfl, onUp_start (by rw [← HE.out]; exact hk0l), hst_, gby_alloc G5_.out _⟩
    case round =>
      clear HTM6_
      obtain ⟨k, pre, rfl, how, hown, hg⟩ := hrel
      have szr_ := hg.size
      try simp only [World.size_alloc, World.size_setCell] at szr_
      have G7_ := Lib.hid (show (W).grownBy (wr) none from gby_trans MG2_.out hg)
      have HTM8_ := Lib.hid hg
      clear hg
      clear hst_
      have HOW := Lib.hid how
      have HO_ := Lib.hid hown
      have hkl : k < len1 := by rw [HE.out]; exact how.1
      have hpl : pre.length + k ≤ k0 := how.2.1
      clear how hown
      have htk : ((k : Int)).toNat = k := by omega
      have hki : (k : Int) < (len1 : Int) := by omega
      have hk0 : (0 : Int) ≤ (k : Int) := by omega
      by_cases hkz : k = 0
      · have hgt : ¬ (k : Int) > 0 := by omega
        have hgt2 : ¬ (0 : Int) < (k : Int) := by omega
        have HKZ := Lib.hid hkz
        clear hkz
        have HU := Lib.hid (onUp_stop HOW.out (.inl HKZ.out))
        go_wp2_with fail
        go_at_call 38
        refine (l25Down_any _ _ _ xs ys k x (HT.out.grow G7_.out) (HW0.out.grow G7_.out) HLX.out HLY.out HHW.out.1 HHW.out.2 (by rw [← HE.out]; exact hkl)).mono ?_
        rintro e w3 ⟨vD, rfl, o, g⟩
        have szw3 := g.size
        try simp only [World.size_alloc] at szw3
        have HP2 := Lib.hid (HO_.out.grown g)
        obtain ⟨pE, nE, cE, hv_⟩ := RdL.form (OwU.rd o)
        have hnE : nE = (dnL xs ys x k).length := by obtain ⟨_, _, e, _⟩ := OwU.rd o; rw [hv_] at e; injection e
        subst hv_
        have HRE := Lib.hid (OwU.rd o)
        clear o
        have G9_ := Lib.hid (show (W).grownBy (w3) none from gby_trans G7_.out g)
        have HTM10_ := Lib.hid (show (W).grownBy (w3) none from gby_trans HTM8_.out g)
        clear HTM8_
        clear g
        obtain ⟨D, hD⟩ : ∃ D, D = dnL xs ys x k := ⟨_, rfl⟩
        rw [← hD] at hnE HRE
        have HD := Lib.hid hD
        clear hD
        by_cases he : nE = 0
        rotate_left
        · have hb0 : ((nE : Int) == 0) = false := beq_eq_false_iff_ne.2 (by omega)
          have HNE := Lib.hid (show ¬ dnL xs ys x k = [] from by rw [← HD.out]; intro q; rw [q] at hnE; exact he hnE)
          have hD12 : nE ≤ 12 := by rw [hnE, HD.out]; have := dnW_len (xs := xs) (ys := ys) (x := x) xs.length k (by omega) (by rw [← HE.out]; exact hkl); have := HE.out; omega
          have hfin := routeL_way HDL.out (by rw [← HE.out]; exact hk0l) HU.out HNE.out
          rw [← HD.out] at hfin
          have HF := Lib.hid hfin
          have HNE2 := Lib.hid hnE
          clear hfin hnE he
          obtain ⟨m, hm⟩ : ∃ m, m = pre.length := ⟨_, rfl⟩
          have HO1 := Lib.hid (show (w3).ownsRow (W.heap.size) 3 1 _ m (i64s pre) from by rw [hm]; exact HP2.out)
          have hb1 : m ≤ 12 := by omega
          have HM := Lib.hid hm
          clear hm
          go_wp2_with (at_builtin; refine wpList_append_plain plainI slTI _ rfl _ _ rfl (W.heap.size) _ m (i64s pre) rfl HO1.out _ _ _ D rfl HRE.out (by omega) (by omega) ?_; intro v3_ w9 hown2 hg2; have HO2 := Lib.hid hown2; have HG2 := Lib.hid (gby_new G9_.out hg2 (fun i hi => own_from HO1.out i hi)); clear hown2 hg2)
          all_goals
            go_ret
            refine ⟨_, rfl, OwU.one (show OwL shI w9 (W.heap.size) w9.heap.size _ (routeL xs ys (k0 : Int) x) from ?_), HG2.out⟩
            have e_ : i64s pre ++ D.flatMap (fun x => [Value.int .i64 x]) = i64s (pre ++ D) := by rw [flatI, ← i64s_append]
            have q := HO2.out
            rw [e_] at q
            rw [HF.out]
            exact owI_out (by rw [List.length_append, ← HNE2.out]; have := HM.out; omega) (owI_row q)
        subst he
        have hDn : D = [] := List.eq_nil_of_length_eq_zero hnE.symm
        have HF := Lib.hid (routeL_none HU.out (by rw [← HD.out]; exact hDn))
        clear hDn hnE
        go_wp2
        go_ret
        exact ⟨_, rfl, OwU.one (by rw [HF.out]; exact owL_empty (by first | omega | (simp only [World.size_alloc]; omega)) (by first | omega | (simp only [World.size_alloc]; omega))), gby_alloc G9_.out _⟩
      have hgt : (k : Int) > 0 := by omega
      obtain ⟨nb, no, rfl, hcell⟩ := HA.out.resolve_left (by omega)
      obtain ⟨y_, hy_⟩ : ∃ y_, y_ = nd xs k := ⟨_, rfl⟩
      have hyc_ := hcell k (by omega)
      rw [← hy_] at hyc_
      obtain ⟨y0, y1, y2⟩ := y_
      dsimp only at hyc_
      have Hy := Lib.hid hy_
      have Hy0 := Lib.hid hyc_.1
      have Hy1 := Lib.hid hyc_.2.1
      have Hy2 := Lib.hid hyc_.2.2
      clear hyc_ hy_ hcell
      have y0_ := (G7_.out).cell Hy0.out (by simp)
      have y2_ := (G7_.out).cell Hy2.out (by simp)
      by_cases h0 : y2 = 0
      rotate_left
      · have HB := Lib.hid h0
        have hy2p := (HHW.out.1.2.2 k (by omega) (by rw [← HE.out]; exact hkl)).2.2.2.1
        rw [← Hy.out] at hy2p
        dsimp only at hy2p
        have hgt2 : y2 > 0 := by omega
        clear hy2p h0
        have HNS := Lib.hid (show ¬ StopW xs ys x k from by rintro (q | q); (· exact absurd q hkz); (· exact HB.out (by have := q.1; rw [← Hy.out] at this; exact this)))
        have hb_ : pre.length ≤ 1000000 := by omega
        have hpar := (HHW.out.1.2.2 k (by omega) (by rw [← HE.out]; exact hkl)).1
        obtain ⟨p, hp⟩ : ∃ p : Nat, y0 = (p : Int) := ⟨y0.toNat, by rw [← Hy.out] at hpar; dsimp only at hpar; omega⟩
        have hpk : p < k := by rw [← Hy.out] at hpar; dsimp only at hpar; omega
        have HN2 := Lib.hid (onUp_on HOW.out HNS.out (show (nd xs k).f0 = (p : Int) from by rw [← Hy.out]; exact hp) hpk)
        clear hpar
        subst hp
        obtain ⟨m9, hm9⟩ : ∃ ml_, ml_ = (pre).length := ⟨_, rfl⟩
        have HO9 := Lib.hid (show (wr).ownsRow (W.heap.size) 3 1 _ m9 (i64s (pre)) from by rw [hm9]; exact HO_.out)
        have hb9 : m9 ≤ 1000000 := by rw [hm9]; exact hb_
        have HM9 := Lib.hid hm9
        clear hm9 hb_
        go_wp2_with (at_builtin; refine wpList_append_lies _ (by rfl) _ _ _ (by rfl) (W.heap.size) 3 i1_ _ 1 8 Try.underlying36 hi1_ hz0_ hz1_ hz2_ rfl (by omega) _ m9 (i64s (pre)) (by rfl) (HO9.out.alloc _) ⟨(wr).heap.size, 0, none⟩ 1 1 _ (by rfl) (by rfl) (World.news_of_block (t := 3) (fr := (0, 0)) (heap_alloc_new (wr) _)) (by simp [Value.oneCell']) (by omega) (by unfold maxLen; omega) (by omega) (by simp; omega) ((wr).heap.size + 1) (by simp) ?_; intro gg9 cap9 wa9 hown_ hgr_ hat_ hlt_; have HP9 := Lib.hid hown_; have HQ9 := Lib.hid hgr_; clear hown_ hgr_ hat_ hlt_; have HQ2 := Lib.hid (gby_new (gby_alloc G7_.out _) HQ9.out (fun b hb => by have := own_from HO9.out b hb; omega)); have yq_ := (HQ2.out).cell Hy0.out (by simp))
        refine ⟨⟨p, pre ++ [(k : Int)], by first | rfl | go_num, HN2.out, ?_, HQ2.out⟩, by simp [intOf]; omega⟩
        rw [List.length_append, List.length_singleton, ← HM9.out, i64s_append]
        exact HP9.out
      have HB := Lib.hid h0
      have hgt2 : ¬ y2 > 0 := by omega
      clear h0
      obtain ⟨a1o, ha1o⟩ : ∃ q, q = a1 := ⟨_, rfl⟩
      obtain ⟨wb, wo, ha1_, hcellb⟩ := HA1.out.resolve_left (by omega)
      obtain ⟨z_, hz_⟩ : ∃ z_, z_ = bar ys k := ⟨_, rfl⟩
      have hzc_ := hcellb k (by omega)
      rw [← hz_] at hzc_
      obtain ⟨z0, z1⟩ := z_
      dsimp only at hzc_
      have Hz := Lib.hid hz_
      have Hz0 := Lib.hid hzc_.1
      have Hz1 := Lib.hid hzc_.2
      clear hzc_ hz_ hcellb ha1o
      subst ha1_
      have z0_ := (G7_.out).cell Hz0.out (by simp)
      have z1_ := (G7_.out).cell Hz1.out (by simp)
      by_cases hsp : SpansP z0 z1 x
      · have HBS := Lib.hid hsp
        clear hsp
        go_wp2_with fail
        go_at_call 35
        refine (cov_yes _ HBS.out).mono ?_
        rintro e w3 ⟨rfl, g⟩
        have gN_ := Lib.hid g
        have szw3 := g.size
        try simp only [World.size_alloc] at szw3
        try simp only [World.size_setCell] at szw3
        clear y0_ y2_ z0_ z1_
        have G9_ := Lib.hid (show (W).grownBy (w3) none from gby_trans G7_.out g)
        have HTM10_ := Lib.hid (show (W).grownBy (w3) none from gby_trans HTM8_.out g)
        clear HTM8_
        clear g
        have y0_ := (G9_.out).cell Hy0.out (by simp)
        have y2_ := (G9_.out).cell Hy2.out (by simp)
        have z0_ := (G9_.out).cell Hz0.out (by simp)
        have z1_ := (G9_.out).cell Hz1.out (by simp)
        have HO2 := Lib.hid (HO_.out.grown gN_.out)
        have HU := Lib.hid (onUp_stop HOW.out (.inr ⟨by rw [← Hy.out]; exact HB.out, by unfold SpB; rw [← Hz.out]; exact HBS.out⟩))
        go_wp2_with fail
        go_at_call 38
        refine (l25Down_any _ _ _ xs ys k x (HT.out.grow G9_.out) (HW0.out.grow G9_.out) HLX.out HLY.out HHW.out.1 HHW.out.2 (by rw [← HE.out]; exact hkl)).mono ?_
        rintro e w4 ⟨vD, rfl, o, g⟩
        have szw4 := g.size
        try simp only [World.size_alloc] at szw4
        have HP2 := Lib.hid (HO2.out.grown g)
        obtain ⟨pE, nE, cE, hv_⟩ := RdL.form (OwU.rd o)
        have hnE : nE = (dnL xs ys x k).length := by obtain ⟨_, _, e, _⟩ := OwU.rd o; rw [hv_] at e; injection e
        subst hv_
        have HRE := Lib.hid (OwU.rd o)
        clear o
        clear y0_ y2_ z0_ z1_
        have G11_ := Lib.hid (show (W).grownBy (w4) none from gby_trans G9_.out g)
        have HTM12_ := Lib.hid (show (W).grownBy (w4) none from gby_trans HTM10_.out g)
        clear HTM10_
        clear g
        have y0_ := (G11_.out).cell Hy0.out (by simp)
        have y2_ := (G11_.out).cell Hy2.out (by simp)
        have z0_ := (G11_.out).cell Hz0.out (by simp)
        have z1_ := (G11_.out).cell Hz1.out (by simp)
        obtain ⟨D, hD⟩ : ∃ D, D = dnL xs ys x k := ⟨_, rfl⟩
        rw [← hD] at hnE HRE
        have HD := Lib.hid hD
        clear hD
        by_cases he : nE = 0
        rotate_left
        · have hb0 : ((nE : Int) == 0) = false := beq_eq_false_iff_ne.2 (by omega)
          have HNE := Lib.hid (show ¬ dnL xs ys x k = [] from by rw [← HD.out]; intro q; rw [q] at hnE; exact he hnE)
          have hD12 : nE ≤ 12 := by rw [hnE, HD.out]; have := dnW_len (xs := xs) (ys := ys) (x := x) xs.length k (by omega) (by rw [← HE.out]; exact hkl); have := HE.out; omega
          have hfin := routeL_way HDL.out (by rw [← HE.out]; exact hk0l) HU.out HNE.out
          rw [← HD.out] at hfin
          have HF := Lib.hid hfin
          have HNE2 := Lib.hid hnE
          clear hfin hnE he
          obtain ⟨m, hm⟩ : ∃ m, m = pre.length := ⟨_, rfl⟩
          have HO1 := Lib.hid (show (w4).ownsRow (W.heap.size) 3 1 _ m (i64s pre) from by rw [hm]; exact HP2.out)
          have hb1 : m ≤ 12 := by omega
          have HM := Lib.hid hm
          clear hm
          go_wp2_with (at_builtin; refine wpList_append_plain plainI slTI _ rfl _ _ rfl (W.heap.size) _ m (i64s pre) rfl HO1.out _ _ _ D rfl HRE.out (by omega) (by omega) ?_; intro v3_ w9 hown2 hg2; have HO2 := Lib.hid hown2; have HG2 := Lib.hid (gby_new G11_.out hg2 (fun i hi => own_from HO1.out i hi)); clear hown2 hg2)
          all_goals
            go_ret
            refine ⟨_, rfl, OwU.one (show OwL shI w9 (W.heap.size) w9.heap.size _ (routeL xs ys (k0 : Int) x) from ?_), HG2.out⟩
            have e_ : i64s pre ++ D.flatMap (fun x => [Value.int .i64 x]) = i64s (pre ++ D) := by rw [flatI, ← i64s_append]
            have q := HO2.out
            rw [e_] at q
            rw [HF.out]
            exact owI_out (by rw [List.length_append, ← HNE2.out]; have := HM.out; omega) (owI_row q)
        subst he
        have hDn : D = [] := List.eq_nil_of_length_eq_zero hnE.symm
        have HF := Lib.hid (routeL_none HU.out (by rw [← HD.out]; exact hDn))
        clear hDn hnE
        go_wp2
        go_ret
        exact ⟨_, rfl, OwU.one (by rw [HF.out]; exact owL_empty (by first | omega | (simp only [World.size_alloc]; omega)) (by first | omega | (simp only [World.size_alloc]; omega))), gby_alloc G11_.out _⟩
      have HBS := Lib.hid hsp
      clear hsp
      go_wp2_with fail
      go_at_call 35
      refine (cov_no _ HBS.out).mono ?_
      rintro e w3 ⟨rfl, g⟩
      have gN_ := Lib.hid g
      have szw3 := g.size
      try simp only [World.size_alloc] at szw3
      try simp only [World.size_setCell] at szw3
      clear y0_ y2_ z0_ z1_
      have G9_ := Lib.hid (show (W).grownBy (w3) none from gby_trans G7_.out g)
      have HTM10_ := Lib.hid (show (W).grownBy (w3) none from gby_trans HTM8_.out g)
      clear HTM8_
      clear g
      have y0_ := (G9_.out).cell Hy0.out (by simp)
      have y2_ := (G9_.out).cell Hy2.out (by simp)
      have z0_ := (G9_.out).cell Hz0.out (by simp)
      have z1_ := (G9_.out).cell Hz1.out (by simp)
      have HO2 := Lib.hid (HO_.out.grown gN_.out)
      have HNS := Lib.hid (show ¬ StopW xs ys x k from by rintro (q | q); (· exact absurd q hkz); (· exact HBS.out (by have := q.2; unfold SpB at this; rw [← Hz.out] at this; exact this)))
      have hb_ : pre.length ≤ 1000000 := by omega
      have hpar := (HHW.out.1.2.2 k (by omega) (by rw [← HE.out]; exact hkl)).1
      obtain ⟨p, hp⟩ : ∃ p : Nat, y0 = (p : Int) := ⟨y0.toNat, by rw [← Hy.out] at hpar; dsimp only at hpar; omega⟩
      have hpk : p < k := by rw [← Hy.out] at hpar; dsimp only at hpar; omega
      have HN2 := Lib.hid (onUp_on HOW.out HNS.out (show (nd xs k).f0 = (p : Int) from by rw [← Hy.out]; exact hp) hpk)
      clear hpar
      subst hp
      obtain ⟨m11, hm11⟩ : ∃ ml_, ml_ = (pre).length := ⟨_, rfl⟩
      have HO11 := Lib.hid (show (w3).ownsRow (W.heap.size) 3 1 _ m11 (i64s (pre)) from by rw [hm11]; exact HO2.out)
      have hb11 : m11 ≤ 1000000 := by rw [hm11]; exact hb_
      have HM11 := Lib.hid hm11
      clear hm11 hb_
      go_wp2_with (at_builtin; refine wpList_append_lies _ (by rfl) _ _ _ (by rfl) (W.heap.size) 3 i1_ _ 1 8 Try.underlying36 hi1_ hz0_ hz1_ hz2_ rfl (by omega) _ m11 (i64s (pre)) (by rfl) (HO11.out.alloc _) ⟨(w3).heap.size, 0, none⟩ 1 1 _ (by rfl) (by rfl) (World.news_of_block (t := 3) (fr := (0, 0)) (heap_alloc_new (w3) _)) (by simp [Value.oneCell']) (by omega) (by unfold maxLen; omega) (by omega) (by simp; omega) ((w3).heap.size + 1) (by simp) ?_; intro gg11 cap11 wa11 hown_ hgr_ hat_ hlt_; have HP11 := Lib.hid hown_; have HQ11 := Lib.hid hgr_; clear hown_ hgr_ hat_ hlt_; have HQ2 := Lib.hid (gby_new (gby_alloc G9_.out _) HQ11.out (fun b hb => by have := own_from HO11.out b hb; omega)); have yq_ := (HQ2.out).cell Hy0.out (by simp))
      refine ⟨⟨p, pre ++ [(k : Int)], by first | rfl | go_num, HN2.out, ?_, HQ2.out⟩, by simp [intOf]; omega⟩
      rw [List.length_append, List.length_singleton, ← HM11.out, i64s_append]
      exact HP11.out
  have HDL := Lib.hid hdl
  clear hdl
  go_wp2_with fail
  go_at_call 17
  refine (specDown _ _ _ xs ys (HT.out.grow (gby_refl _ _)) (HW0.out.grow (gby_refl _ _)) HLX.out HLY.out x).mono ?_
  rintro e w1 ⟨vD, rfl, o, g⟩
  have szw1 := g.size
  obtain ⟨pD, nD, cD, hv_⟩ := RdL.form (OwU.rd o)
  have hnD : nD = (downL xs ys x).length := by obtain ⟨_, _, e, _⟩ := OwU.rd o; rw [hv_] at e; injection e
  subst hv_
  clear o
  have G3_ := Lib.hid (show (W).grownBy (w1) none from gby_trans (gby_refl _ _) g)
  have HTM4_ := Lib.hid (show (W).grownBy (w1) none from gby_trans HTM1_.out g)
  clear HTM1_
  clear g
  have hn0 : nD = 0 := by rw [hnD, HDL.out]; rfl
  subst hn0
  clear hnD
  go_wp2
  go_ret
  exact ⟨_, rfl, OwU.one (by rw [routeL_no (.inl HDL.out)]; exact owL_empty (by first | omega | (simp only [World.size_alloc]; omega)) (by first | omega | (simp only [World.size_alloc]; omega))), gby_alloc G3_.out _⟩

set_option maxRecDepth 8000 in
set_option maxHeartbeats 4000000 in
theorem implRoute (W : World) (v u : Value) (xs : List DNode) (ys : List DBar) (H : RdL shNode W v xs) (Hb : RdL shBar W u ys) (hl : szL shNode xs ≤ 1048576) (hly : szL shBar ys ≤ 1048576) (f x : Int) : Calls Try.prog 25 #[v, u, .int .i64 f, .int .i64 x] W (ResIRouteToAddress (routeL xs ys f x) W) := by
  obtain ⟨i1_, hi1_, hz0_, hz1_, hz2_⟩ := info_parts infoInt
  have HT := Lib.hid H
  have HW0 := Lib.hid Hb
  have HLX := Lib.hid hl
  have HLY := Lib.hid hly
  have hlx : xs.length ≤ 1048576 := by have := szL_len shNode xs; omega
  have hly2 : ys.length ≤ 1048576 := by have := szL_len shBar ys; omega
  obtain ⟨a0, cap, rfl, hcap, hi⟩ := rdN_in H
  obtain ⟨a1, cap1, rfl, hcap1, hi1⟩ := rdW_in Hb
  have HA := Lib.hid hi
  have HA1 := Lib.hid hi1
  obtain ⟨len, hlen⟩ : ∃ len, len = xs.length := ⟨_, rfl⟩
  obtain ⟨len1, hlen1⟩ : ∃ len, len = ys.length := ⟨_, rfl⟩
  have HE := Lib.hid hlen
  have HE1 := Lib.hid hlen1
  unfold RdN at HA
  unfold RdW at HA1
  rw [← hlen] at hlx HT HA ⊢
  rw [← hlen1] at hly2 HW0 HA1 ⊢
  clear H Hb hi hi1 hlen hlen1 hl hly hcap hcap1
  go_enter Try.func25, Try.ntmps25
  have HTM1_ := Lib.hid (gby_refl (W) none)
  have MG2_ := Lib.hid (show (W).grownBy (W) none from (gby_refl _ _))
  by_cases hdl : downL xs ys x = []
  rotate_left

  · have HDL := Lib.hid hdl
    clear hdl
    have HHW := Lib.hid (haveW_of HDL.out)
    obtain rfl : len1 = len := by rw [HE.out, HE1.out]; exact HHW.out.2
    have h12 : len1 ≤ 12 := by rw [HE.out]; exact HHW.out.1.1.2
    have h1_ : 1 ≤ len1 := by rw [HE.out]; exact HHW.out.1.1.1
    have hw1 : IntKind.i64.wrap ((len1 : Int) - 1) = (len1 : Int) - 1 := IntWalk.i64_in _ (by omega)
    go_wp2_with fail
    go_at_call 18
    refine (implDown _ _ _ xs ys (HT.out.grow (gby_refl _ _)) (HW0.out.grow (gby_refl _ _)) HLX.out HLY.out x).mono ?_
    rintro e w1 ⟨vD, rfl, o, g⟩
    have szw1 := g.size
    obtain ⟨pD, nD, cD, hv_⟩ := RdL.form (OwU.rd o)
    have hnD : nD = (downL xs ys x).length := by obtain ⟨_, _, e, _⟩ := OwU.rd o; rw [hv_] at e; injection e
    subst hv_
    clear o
    have G3_ := Lib.hid (show (W).grownBy (w1) none from gby_trans (gby_refl _ _) g)
    have HTM4_ := Lib.hid (show (W).grownBy (w1) none from gby_trans HTM1_.out g)
    clear HTM1_
    clear g
    have hnD1 : 1 ≤ nD := by
      rcases Nat.eq_zero_or_pos nD with e | e
      · exact absurd (List.eq_nil_of_length_eq_zero (hnD.symm.trans e)) HDL.out
      · exact e
    have hb0 : ((nD : Int) == 0) = false := beq_eq_false_iff_ne.2 (by omega)
    clear hnD
    rcases inr_or9 f 0 ((len1 : Int) - 1) with ⟨hf1, hf2⟩ | hf
    rotate_left
    · have HB := Lib.hid hf
      clear hf
      go_wp2_with fail
      go_at_call 41
      refine (rng_no _ _ _ _ HB.out).mono ?_
      rintro e w2_ ⟨rfl, rfl⟩
      go_wp2
      go_ret
      exact ⟨_, rfl, OwU.one (by rw [routeL_no (.inr (by have := HB.out; have := HE.out; omega))]; exact owL_nil), G3_.out⟩
    go_wp2_with fail
    go_at_call 41
    refine (rng_yes _ _ _ _ hf1 hf2).mono ?_
    rintro e w2_ ⟨rfl, rfl⟩
    obtain ⟨k0, rfl⟩ : ∃ k0 : Nat, f = (k0 : Int) := ⟨f.toNat, by omega⟩
    have hk0l : k0 < len1 := by omega
    go_wp2
    go_loopw [9, 10] (fun v kk wr => ∃ (k : Nat) (pre : List Int), kk = .int .i64 (k : Int) ∧ OnUp xs ys x k0 k pre ∧ wr.ownsRow (W.heap.size) 3 1 v pre.length (i64s pre) ∧ (W).grownBy wr none) (fun _ kk _ => (intOf kk).toNat)
    case atStart => exact ⟨k0, [], rfl, onUp_start (by rw [← HE.out]; exact hk0l), World.ownsRow_nil _ _ _ _, G3_.out⟩
    case round =>
      clear HTM4_
      obtain ⟨k, pre, rfl, how, hown, hg⟩ := hrel
      have szr_ := hg.size
      try simp only [World.size_alloc, World.size_setCell] at szr_
      have G5_ := Lib.hid (show (W).grownBy (wr) none from gby_trans MG2_.out hg)
      have HTM6_ := Lib.hid hg
      clear hg
      have HOW := Lib.hid how
      have HO_ := Lib.hid hown
      have hkl : k < len1 := by rw [HE.out]; exact how.1
      have hpl : pre.length + k ≤ k0 := how.2.1
      clear how hown
      have htk : ((k : Int)).toNat = k := by omega
      have hki : (k : Int) < (len1 : Int) := by omega
      have hk0 : (0 : Int) ≤ (k : Int) := by omega
      by_cases hkz : k = 0
      · have hgt : ¬ (k : Int) > 0 := by omega
        have hgt2 : ¬ (0 : Int) < (k : Int) := by omega
        have HKZ := Lib.hid hkz
        clear hkz
        have HU := Lib.hid (onUp_stop HOW.out (.inl HKZ.out))
        go_wp2_with fail
        go_at_call 37
        refine (finder_any _ _ _ _ x).mono ?_
        rintro e w8 ⟨rfl, rfl⟩
        have al_ : (wr).grownBy ((wr).alloc (.cells #[.slice a1 len1 cap1] 27)) none := gby_alloc (gby_refl _ _) _
        have G7_ := Lib.hid (show (W).grownBy ((wr.alloc (.cells #[.slice a1 len1 cap1] 27))) none from gby_trans G5_.out al_)
        have HTM8_ := Lib.hid (show (W).grownBy ((wr.alloc (.cells #[.slice a1 len1 cap1] 27))) none from gby_trans HTM6_.out al_)
        clear HTM6_
        have rF19_ := Lib.hid (show ((wr.alloc (.cells #[.slice a1 len1 cap1] 27))).heap[wr.heap.size]? = some (.cells #[.slice a1 len1 cap1] 27 (0, 0)) from by first | exact heap_alloc_new _ _ | exact heap_pair _ _ _ | exact heap_trip _ _ _ _)
        clear al_
        have F1_0_ : ((wr.alloc (.cells #[.slice a1 len1 cap1] 27))).cell? ⟨wr.heap.size, 0, none⟩ = some (.slice a1 len1 cap1) := cell_of_row _ _ 0 _ _ _ rF19_.out
        clear F1_0_
        have al_ : ((wr.alloc (.cells #[.slice a1 len1 cap1] 27))).grownBy (((wr.alloc (.cells #[.slice a1 len1 cap1] 27))).alloc (.cells #[.int .i64 x] 3)) none := gby_alloc (gby_refl _ _) _
        have rF110_ := Lib.hid (show (((wr.alloc (.cells #[.slice a1 len1 cap1] 27)).alloc (.cells #[.int .i64 x] 3))).heap[wr.heap.size]? = some (.cells #[.slice a1 len1 cap1] 27 (0, 0)) from row_held al_ rF19_.out)
        clear rF19_
        have G11_ := Lib.hid (show (W).grownBy (((wr.alloc (.cells #[.slice a1 len1 cap1] 27)).alloc (.cells #[.int .i64 x] 3))) none from gby_trans G7_.out al_)
        have HTM12_ := Lib.hid (show (W).grownBy (((wr.alloc (.cells #[.slice a1 len1 cap1] 27)).alloc (.cells #[.int .i64 x] 3))) none from gby_trans HTM8_.out al_)
        clear HTM8_
        have rF213_ := Lib.hid (show (((wr.alloc (.cells #[.slice a1 len1 cap1] 27)).alloc (.cells #[.int .i64 x] 3))).heap[wr.heap.size + 1]? = some (.cells #[.int .i64 x] 3 (0, 0)) from by first | exact heap_alloc_new _ _ | exact heap_pair _ _ _ | exact heap_trip _ _ _ _)
        clear al_
        have F1_0_ : (((wr.alloc (.cells #[.slice a1 len1 cap1] 27)).alloc (.cells #[.int .i64 x] 3))).cell? ⟨wr.heap.size, 0, none⟩ = some (.slice a1 len1 cap1) := cell_of_row _ _ 0 _ _ _ rF110_.out
        have F2_0_ : (((wr.alloc (.cells #[.slice a1 len1 cap1] 27)).alloc (.cells #[.int .i64 x] 3))).cell? ⟨wr.heap.size + 1, 0, none⟩ = some (.int .i64 x) := cell_of_row _ _ 0 _ _ _ rF213_.out
        go_wp2_with fail
        go_at_call 39
        refine (downFrom_any _ _ _ _ _ xs ys k x (HT.out.grow G11_.out) (HW0.out.grow G11_.out) HLX.out HLY.out HHW.out.1 HHW.out.2 (by rw [← HE.out]; exact hkl) (cell_of_row _ _ 0 _ _ _ rF110_.out) (cell_of_row _ _ 0 _ _ _ rF213_.out)).mono ?_
        rintro e w3 ⟨vD, rfl, o, g⟩
        have szw3 := g.size
        try simp only [World.size_alloc] at szw3
        have HP2 := Lib.hid (((HO_.out.alloc _).alloc _).grown g)
        obtain ⟨pE, nE, cE, hv_⟩ := RdL.form (OwU.rd o)
        have hnE : nE = (dnL xs ys x k).length := by obtain ⟨_, _, e, _⟩ := OwU.rd o; rw [hv_] at e; injection e
        subst hv_
        have HRE := Lib.hid (OwU.rd o)
        clear o
        clear F1_0_ F2_0_
        have rF114_ := Lib.hid (show (w3).heap[wr.heap.size]? = some (.cells #[.slice a1 len1 cap1] 27 (0, 0)) from row_held g rF110_.out)
        clear rF110_
        have rF215_ := Lib.hid (show (w3).heap[wr.heap.size + 1]? = some (.cells #[.int .i64 x] 3 (0, 0)) from row_held g rF213_.out)
        clear rF213_
        have G16_ := Lib.hid (show (W).grownBy (w3) none from gby_trans G11_.out g)
        have HTM17_ := Lib.hid (show (W).grownBy (w3) none from gby_trans HTM12_.out g)
        clear HTM12_
        clear g
        have F1_0_ : (w3).cell? ⟨wr.heap.size, 0, none⟩ = some (.slice a1 len1 cap1) := cell_of_row _ _ 0 _ _ _ rF114_.out
        have F2_0_ : (w3).cell? ⟨wr.heap.size + 1, 0, none⟩ = some (.int .i64 x) := cell_of_row _ _ 0 _ _ _ rF215_.out
        obtain ⟨D, hD⟩ : ∃ D, D = dnL xs ys x k := ⟨_, rfl⟩
        rw [← hD] at hnE HRE
        have HD := Lib.hid hD
        clear hD
        by_cases he : nE = 0
        rotate_left
        · have hb0 : ((nE : Int) == 0) = false := beq_eq_false_iff_ne.2 (by omega)
          have HNE := Lib.hid (show ¬ dnL xs ys x k = [] from by rw [← HD.out]; intro q; rw [q] at hnE; exact he hnE)
          have hD12 : nE ≤ 12 := by rw [hnE, HD.out]; have := dnW_len (xs := xs) (ys := ys) (x := x) xs.length k (by omega) (by rw [← HE.out]; exact hkl); have := HE.out; omega
          have hfin := routeL_way HDL.out (by rw [← HE.out]; exact hk0l) HU.out HNE.out
          rw [← HD.out] at hfin
          have HF := Lib.hid hfin
          have HNE2 := Lib.hid hnE
          clear hfin hnE he
          obtain ⟨m, hm⟩ : ∃ m, m = pre.length := ⟨_, rfl⟩
          have HO1 := Lib.hid (show (w3).ownsRow (W.heap.size) 3 1 _ m (i64s pre) from by rw [hm]; exact HP2.out)
          have hb1 : m ≤ 12 := by omega
          have HM := Lib.hid hm
          clear hm
          go_wp2_with (at_builtin; refine wpList_append_plain plainI slTI _ rfl _ _ rfl (W.heap.size) _ m (i64s pre) rfl HO1.out _ _ _ D rfl HRE.out (by omega) (by omega) ?_; intro v3_ w9 hown2 hg2; have HO2 := Lib.hid hown2; have HG2 := Lib.hid (gby_new G16_.out hg2 (fun i hi => own_from HO1.out i hi)); clear hown2 hg2)
          all_goals
            go_ret
            refine ⟨_, rfl, OwU.one (show OwL shI w9 (W.heap.size) w9.heap.size _ (routeL xs ys (k0 : Int) x) from ?_), HG2.out⟩
            have e_ : i64s pre ++ D.flatMap (fun x => [Value.int .i64 x]) = i64s (pre ++ D) := by rw [flatI, ← i64s_append]
            have q := HO2.out
            rw [e_] at q
            rw [HF.out]
            exact owI_out (by rw [List.length_append, ← HNE2.out]; have := HM.out; omega) (owI_row q)
        subst he
        have hDn : D = [] := List.eq_nil_of_length_eq_zero hnE.symm
        have HF := Lib.hid (routeL_none HU.out (by rw [← HD.out]; exact hDn))
        clear hDn hnE
        go_wp2
        go_ret
        exact ⟨_, rfl, OwU.one (by rw [HF.out]; exact owL_nil), G16_.out⟩
      have hgt : (k : Int) > 0 := by omega
      obtain ⟨nb, no, rfl, hcell⟩ := HA.out.resolve_left (by omega)
      obtain ⟨y_, hy_⟩ : ∃ y_, y_ = nd xs k := ⟨_, rfl⟩
      have hyc_ := hcell k (by omega)
      rw [← hy_] at hyc_
      obtain ⟨y0, y1, y2⟩ := y_
      dsimp only at hyc_
      have Hy := Lib.hid hy_
      have Hy0 := Lib.hid hyc_.1
      have Hy1 := Lib.hid hyc_.2.1
      have Hy2 := Lib.hid hyc_.2.2
      clear hyc_ hy_ hcell
      have y0_ := (G5_.out).cell Hy0.out (by simp)
      have y1_ := (G5_.out).cell Hy1.out (by simp)
      have y2_ := (G5_.out).cell Hy2.out (by simp)
      by_cases h0 : y2 = 0
      rotate_left
      · have HB := Lib.hid h0
        clear h0
        go_wp2_with fail
        go_at_call 36
        refine (bridge_no _ _ _ _ HB.out).mono ?_
        rintro e w3 ⟨rfl, g⟩
        have gN_ := Lib.hid g
        have szw3 := g.size
        try simp only [World.size_alloc] at szw3
        try simp only [World.size_setCell] at szw3
        clear y0_ y1_ y2_
        have G7_ := Lib.hid (show (W).grownBy (w3) none from gby_trans G5_.out g)
        have HTM8_ := Lib.hid (show (W).grownBy (w3) none from gby_trans HTM6_.out g)
        clear HTM6_
        clear g
        have y0_ := (G7_.out).cell Hy0.out (by simp)
        have y1_ := (G7_.out).cell Hy1.out (by simp)
        have y2_ := (G7_.out).cell Hy2.out (by simp)
        have HO2 := Lib.hid (HO_.out.grown gN_.out)
        have HNS := Lib.hid (show ¬ StopW xs ys x k from by rintro (q | q); (· exact absurd q hkz); (· exact HB.out (by have := q.1; rw [← Hy.out] at this; exact this)))
        have hb_ : pre.length ≤ 1000000 := by omega
        have hpar := (HHW.out.1.2.2 k (by omega) (by rw [← HE.out]; exact hkl)).1
        obtain ⟨p, hp⟩ : ∃ p : Nat, y0 = (p : Int) := ⟨y0.toNat, by rw [← Hy.out] at hpar; dsimp only at hpar; omega⟩
        have hpk : p < k := by rw [← Hy.out] at hpar; dsimp only at hpar; omega
        have HN2 := Lib.hid (onUp_on HOW.out HNS.out (show (nd xs k).f0 = (p : Int) from by rw [← Hy.out]; exact hp) hpk)
        clear hpar
        subst hp
        obtain ⟨m9, hm9⟩ : ∃ ml_, ml_ = (pre).length := ⟨_, rfl⟩
        have HO9 := Lib.hid (show (w3).ownsRow (W.heap.size) 3 1 _ m9 (i64s (pre)) from by rw [hm9]; exact HO2.out)
        have hb9 : m9 ≤ 1000000 := by rw [hm9]; exact hb_
        have HM9 := Lib.hid hm9
        clear hm9 hb_
        go_wp2_with (at_builtin; refine wpList_append_lies _ (by rfl) _ _ _ (by rfl) (W.heap.size) 3 i1_ _ 1 8 Try.underlying36 hi1_ hz0_ hz1_ hz2_ rfl (by omega) _ m9 (i64s (pre)) (by rfl) (HO9.out.alloc _) ⟨(w3).heap.size, 0, none⟩ 1 1 _ (by rfl) (by rfl) (World.news_of_block (t := 3) (fr := (0, 0)) (heap_alloc_new (w3) _)) (by simp [Value.oneCell']) (by omega) (by unfold maxLen; omega) (by omega) (by simp; omega) ((w3).heap.size + 1) (by simp) ?_; intro gg9 cap9 wa9 hown_ hgr_ hat_ hlt_; have HP9 := Lib.hid hown_; have HQ9 := Lib.hid hgr_; clear hown_ hgr_ hat_ hlt_; have HQ2 := Lib.hid (gby_new (gby_alloc G7_.out _) HQ9.out (fun b hb => by have := own_from HO9.out b hb; omega)); have yq_ := (HQ2.out).cell Hy0.out (by simp))
        refine ⟨⟨p, pre ++ [(k : Int)], by first | rfl | go_num, HN2.out, ?_, HQ2.out⟩, by simp [intOf]; omega⟩
        rw [List.length_append, List.length_singleton, ← HM9.out, i64s_append]
        exact HP9.out
      have HB := Lib.hid h0
      clear h0
      go_wp2_with fail
      go_at_call 36
      refine (bridge_yes _ _ _ _ HB.out).mono ?_
      rintro e w3 ⟨rfl, g⟩
      have gN_ := Lib.hid g
      have szw3 := g.size
      try simp only [World.size_alloc] at szw3
      try simp only [World.size_setCell] at szw3
      clear y0_ y1_ y2_
      have G7_ := Lib.hid (show (W).grownBy (w3) none from gby_trans G5_.out g)
      have HTM8_ := Lib.hid (show (W).grownBy (w3) none from gby_trans HTM6_.out g)
      clear HTM6_
      clear g
      have y0_ := (G7_.out).cell Hy0.out (by simp)
      have y1_ := (G7_.out).cell Hy1.out (by simp)
      have y2_ := (G7_.out).cell Hy2.out (by simp)
      have gA_ := Lib.hid gN_.out
      obtain ⟨a1o, ha1o⟩ : ∃ q, q = a1 := ⟨_, rfl⟩
      obtain ⟨wb, wo, ha1_, hcellb⟩ := HA1.out.resolve_left (by omega)
      obtain ⟨z_, hz_⟩ : ∃ z_, z_ = bar ys k := ⟨_, rfl⟩
      have hzc_ := hcellb k (by omega)
      rw [← hz_] at hzc_
      obtain ⟨z0, z1⟩ := z_
      dsimp only at hzc_
      have Hz := Lib.hid hz_
      have Hz0 := Lib.hid hzc_.1
      have Hz1 := Lib.hid hzc_.2
      clear hzc_ hz_ hcellb ha1o
      subst ha1_
      have z0_ := (G7_.out).cell Hz0.out (by simp)
      have z1_ := (G7_.out).cell Hz1.out (by simp)
      by_cases hsp : SpansP z0 z1 x
      · have HBS := Lib.hid hsp
        clear hsp
        go_wp2_with fail
        go_at_call 42
        refine (spans_yes _ HBS.out).mono ?_
        rintro e w4 ⟨rfl, g⟩
        have gN_ := Lib.hid g
        have szw4 := g.size
        try simp only [World.size_alloc] at szw4
        try simp only [World.size_setCell] at szw4
        clear y0_ y1_ y2_ z0_ z1_
        have G9_ := Lib.hid (show (W).grownBy (w4) none from gby_trans G7_.out g)
        have HTM10_ := Lib.hid (show (W).grownBy (w4) none from gby_trans HTM8_.out g)
        clear HTM8_
        clear g
        have y0_ := (G9_.out).cell Hy0.out (by simp)
        have y1_ := (G9_.out).cell Hy1.out (by simp)
        have y2_ := (G9_.out).cell Hy2.out (by simp)
        have z0_ := (G9_.out).cell Hz0.out (by simp)
        have z1_ := (G9_.out).cell Hz1.out (by simp)
        have HO2 := Lib.hid ((HO_.out.grown gA_.out).grown gN_.out)
        have HU := Lib.hid (onUp_stop HOW.out (.inr ⟨by rw [← Hy.out]; exact HB.out, by unfold SpB; rw [← Hz.out]; exact HBS.out⟩))
        go_wp2_with fail
        go_at_call 37
        refine (finder_any _ _ _ _ x).mono ?_
        rintro e w8 ⟨rfl, rfl⟩
        clear y0_ y1_ y2_ z0_ z1_
        have al_ : (w4).grownBy ((w4).alloc (.cells #[.slice (some ⟨wb, wo, none⟩) len1 cap1] 27)) none := gby_alloc (gby_refl _ _) _
        have G11_ := Lib.hid (show (W).grownBy ((w4.alloc (.cells #[.slice (some ⟨wb, wo, none⟩) len1 cap1] 27))) none from gby_trans G9_.out al_)
        have HTM12_ := Lib.hid (show (W).grownBy ((w4.alloc (.cells #[.slice (some ⟨wb, wo, none⟩) len1 cap1] 27))) none from gby_trans HTM10_.out al_)
        clear HTM10_
        have rF113_ := Lib.hid (show ((w4.alloc (.cells #[.slice (some ⟨wb, wo, none⟩) len1 cap1] 27))).heap[w4.heap.size]? = some (.cells #[.slice (some ⟨wb, wo, none⟩) len1 cap1] 27 (0, 0)) from by first | exact heap_alloc_new _ _ | exact heap_pair _ _ _ | exact heap_trip _ _ _ _)
        clear al_
        have F1_0_ : ((w4.alloc (.cells #[.slice (some ⟨wb, wo, none⟩) len1 cap1] 27))).cell? ⟨w4.heap.size, 0, none⟩ = some (.slice (some ⟨wb, wo, none⟩) len1 cap1) := cell_of_row _ _ 0 _ _ _ rF113_.out
        have y0_ := (G11_.out).cell Hy0.out (by simp)
        have y1_ := (G11_.out).cell Hy1.out (by simp)
        have y2_ := (G11_.out).cell Hy2.out (by simp)
        have z0_ := (G11_.out).cell Hz0.out (by simp)
        have z1_ := (G11_.out).cell Hz1.out (by simp)
        clear F1_0_ y0_ y1_ y2_ z0_ z1_
        have al_ : ((w4.alloc (.cells #[.slice (some ⟨wb, wo, none⟩) len1 cap1] 27))).grownBy (((w4.alloc (.cells #[.slice (some ⟨wb, wo, none⟩) len1 cap1] 27))).alloc (.cells #[.int .i64 x] 3)) none := gby_alloc (gby_refl _ _) _
        have rF114_ := Lib.hid (show (((w4.alloc (.cells #[.slice (some ⟨wb, wo, none⟩) len1 cap1] 27)).alloc (.cells #[.int .i64 x] 3))).heap[w4.heap.size]? = some (.cells #[.slice (some ⟨wb, wo, none⟩) len1 cap1] 27 (0, 0)) from row_held al_ rF113_.out)
        clear rF113_
        have G15_ := Lib.hid (show (W).grownBy (((w4.alloc (.cells #[.slice (some ⟨wb, wo, none⟩) len1 cap1] 27)).alloc (.cells #[.int .i64 x] 3))) none from gby_trans G11_.out al_)
        have HTM16_ := Lib.hid (show (W).grownBy (((w4.alloc (.cells #[.slice (some ⟨wb, wo, none⟩) len1 cap1] 27)).alloc (.cells #[.int .i64 x] 3))) none from gby_trans HTM12_.out al_)
        clear HTM12_
        have rF217_ := Lib.hid (show (((w4.alloc (.cells #[.slice (some ⟨wb, wo, none⟩) len1 cap1] 27)).alloc (.cells #[.int .i64 x] 3))).heap[w4.heap.size + 1]? = some (.cells #[.int .i64 x] 3 (0, 0)) from by first | exact heap_alloc_new _ _ | exact heap_pair _ _ _ | exact heap_trip _ _ _ _)
        clear al_
        have F1_0_ : (((w4.alloc (.cells #[.slice (some ⟨wb, wo, none⟩) len1 cap1] 27)).alloc (.cells #[.int .i64 x] 3))).cell? ⟨w4.heap.size, 0, none⟩ = some (.slice (some ⟨wb, wo, none⟩) len1 cap1) := cell_of_row _ _ 0 _ _ _ rF114_.out
        have F2_0_ : (((w4.alloc (.cells #[.slice (some ⟨wb, wo, none⟩) len1 cap1] 27)).alloc (.cells #[.int .i64 x] 3))).cell? ⟨w4.heap.size + 1, 0, none⟩ = some (.int .i64 x) := cell_of_row _ _ 0 _ _ _ rF217_.out
        have y0_ := (G15_.out).cell Hy0.out (by simp)
        have y1_ := (G15_.out).cell Hy1.out (by simp)
        have y2_ := (G15_.out).cell Hy2.out (by simp)
        have z0_ := (G15_.out).cell Hz0.out (by simp)
        have z1_ := (G15_.out).cell Hz1.out (by simp)
        go_wp2_with fail
        go_at_call 39
        refine (downFrom_any _ _ _ _ _ xs ys k x (HT.out.grow G15_.out) (HW0.out.grow G15_.out) HLX.out HLY.out HHW.out.1 HHW.out.2 (by rw [← HE.out]; exact hkl) (cell_of_row _ _ 0 _ _ _ rF114_.out) (cell_of_row _ _ 0 _ _ _ rF217_.out)).mono ?_
        rintro e w5 ⟨vD, rfl, o, g⟩
        have szw5 := g.size
        try simp only [World.size_alloc] at szw5
        have HP2 := Lib.hid (((HO2.out.alloc _).alloc _).grown g)
        obtain ⟨pE, nE, cE, hv_⟩ := RdL.form (OwU.rd o)
        have hnE : nE = (dnL xs ys x k).length := by obtain ⟨_, _, e, _⟩ := OwU.rd o; rw [hv_] at e; injection e
        subst hv_
        have HRE := Lib.hid (OwU.rd o)
        clear o
        clear F1_0_ F2_0_ y0_ y1_ y2_ z0_ z1_
        have rF118_ := Lib.hid (show (w5).heap[w4.heap.size]? = some (.cells #[.slice (some ⟨wb, wo, none⟩) len1 cap1] 27 (0, 0)) from row_held g rF114_.out)
        clear rF114_
        have rF219_ := Lib.hid (show (w5).heap[w4.heap.size + 1]? = some (.cells #[.int .i64 x] 3 (0, 0)) from row_held g rF217_.out)
        clear rF217_
        have G20_ := Lib.hid (show (W).grownBy (w5) none from gby_trans G15_.out g)
        have HTM21_ := Lib.hid (show (W).grownBy (w5) none from gby_trans HTM16_.out g)
        clear HTM16_
        clear g
        have F1_0_ : (w5).cell? ⟨w4.heap.size, 0, none⟩ = some (.slice (some ⟨wb, wo, none⟩) len1 cap1) := cell_of_row _ _ 0 _ _ _ rF118_.out
        have F2_0_ : (w5).cell? ⟨w4.heap.size + 1, 0, none⟩ = some (.int .i64 x) := cell_of_row _ _ 0 _ _ _ rF219_.out
        have y0_ := (G20_.out).cell Hy0.out (by simp)
        have y1_ := (G20_.out).cell Hy1.out (by simp)
        have y2_ := (G20_.out).cell Hy2.out (by simp)
        have z0_ := (G20_.out).cell Hz0.out (by simp)
        have z1_ := (G20_.out).cell Hz1.out (by simp)
        obtain ⟨D, hD⟩ : ∃ D, D = dnL xs ys x k := ⟨_, rfl⟩
        rw [← hD] at hnE HRE
        have HD := Lib.hid hD
        clear hD
        by_cases he : nE = 0
        rotate_left
        · have hb0 : ((nE : Int) == 0) = false := beq_eq_false_iff_ne.2 (by omega)
          have HNE := Lib.hid (show ¬ dnL xs ys x k = [] from by rw [← HD.out]; intro q; rw [q] at hnE; exact he hnE)
          have hD12 : nE ≤ 12 := by rw [hnE, HD.out]; have := dnW_len (xs := xs) (ys := ys) (x := x) xs.length k (by omega) (by rw [← HE.out]; exact hkl); have := HE.out; omega
          have hfin := routeL_way HDL.out (by rw [← HE.out]; exact hk0l) HU.out HNE.out
          rw [← HD.out] at hfin
          have HF := Lib.hid hfin
          have HNE2 := Lib.hid hnE
          clear hfin hnE he
          obtain ⟨m, hm⟩ : ∃ m, m = pre.length := ⟨_, rfl⟩
          have HO1 := Lib.hid (show (w5).ownsRow (W.heap.size) 3 1 _ m (i64s pre) from by rw [hm]; exact HP2.out)
          have hb1 : m ≤ 12 := by omega
          have HM := Lib.hid hm
          clear hm
          go_wp2_with (at_builtin; refine wpList_append_plain plainI slTI _ rfl _ _ rfl (W.heap.size) _ m (i64s pre) rfl HO1.out _ _ _ D rfl HRE.out (by omega) (by omega) ?_; intro v3_ w9 hown2 hg2; have HO2 := Lib.hid hown2; have HG2 := Lib.hid (gby_new G20_.out hg2 (fun i hi => own_from HO1.out i hi)); clear hown2 hg2)
          all_goals
            go_ret
            refine ⟨_, rfl, OwU.one (show OwL shI w9 (W.heap.size) w9.heap.size _ (routeL xs ys (k0 : Int) x) from ?_), HG2.out⟩
            have e_ : i64s pre ++ D.flatMap (fun x => [Value.int .i64 x]) = i64s (pre ++ D) := by rw [flatI, ← i64s_append]
            have q := HO2.out
            rw [e_] at q
            rw [HF.out]
            exact owI_out (by rw [List.length_append, ← HNE2.out]; have := HM.out; omega) (owI_row q)
        subst he
        have hDn : D = [] := List.eq_nil_of_length_eq_zero hnE.symm
        have HF := Lib.hid (routeL_none HU.out (by rw [← HD.out]; exact hDn))
        clear hDn hnE
        go_wp2
        go_ret
        exact ⟨_, rfl, OwU.one (by rw [HF.out]; exact owL_nil), G20_.out⟩
      have HBS := Lib.hid hsp
      clear hsp
      go_wp2_with fail
      go_at_call 42
      refine (spans_no _ HBS.out).mono ?_
      rintro e w4 ⟨rfl, g⟩
      have gN_ := Lib.hid g
      have szw4 := g.size
      try simp only [World.size_alloc] at szw4
      try simp only [World.size_setCell] at szw4
      clear y0_ y1_ y2_ z0_ z1_
      have G9_ := Lib.hid (show (W).grownBy (w4) none from gby_trans G7_.out g)
      have HTM10_ := Lib.hid (show (W).grownBy (w4) none from gby_trans HTM8_.out g)
      clear HTM8_
      clear g
      have y0_ := (G9_.out).cell Hy0.out (by simp)
      have y1_ := (G9_.out).cell Hy1.out (by simp)
      have y2_ := (G9_.out).cell Hy2.out (by simp)
      have z0_ := (G9_.out).cell Hz0.out (by simp)
      have z1_ := (G9_.out).cell Hz1.out (by simp)
      have HO2 := Lib.hid ((HO_.out.grown gA_.out).grown gN_.out)
      have HNS := Lib.hid (show ¬ StopW xs ys x k from by rintro (q | q); (· exact absurd q hkz); (· exact HBS.out (by have := q.2; unfold SpB at this; rw [← Hz.out] at this; exact this)))
      have hb_ : pre.length ≤ 1000000 := by omega
      have hpar := (HHW.out.1.2.2 k (by omega) (by rw [← HE.out]; exact hkl)).1
      obtain ⟨p, hp⟩ : ∃ p : Nat, y0 = (p : Int) := ⟨y0.toNat, by rw [← Hy.out] at hpar; dsimp only at hpar; omega⟩
      have hpk : p < k := by rw [← Hy.out] at hpar; dsimp only at hpar; omega
      have HN2 := Lib.hid (onUp_on HOW.out HNS.out (show (nd xs k).f0 = (p : Int) from by rw [← Hy.out]; exact hp) hpk)
      clear hpar
      subst hp
      obtain ⟨m11, hm11⟩ : ∃ ml_, ml_ = (pre).length := ⟨_, rfl⟩
      have HO11 := Lib.hid (show (w4).ownsRow (W.heap.size) 3 1 _ m11 (i64s (pre)) from by rw [hm11]; exact HO2.out)
      have hb11 : m11 ≤ 1000000 := by rw [hm11]; exact hb_
      have HM11 := Lib.hid hm11
      clear hm11 hb_
      go_wp2_with (at_builtin; refine wpList_append_lies _ (by rfl) _ _ _ (by rfl) (W.heap.size) 3 i1_ _ 1 8 Try.underlying36 hi1_ hz0_ hz1_ hz2_ rfl (by omega) _ m11 (i64s (pre)) (by rfl) (HO11.out.alloc _) ⟨(w4).heap.size, 0, none⟩ 1 1 _ (by rfl) (by rfl) (World.news_of_block (t := 3) (fr := (0, 0)) (heap_alloc_new (w4) _)) (by simp [Value.oneCell']) (by omega) (by unfold maxLen; omega) (by omega) (by simp; omega) ((w4).heap.size + 1) (by simp) ?_; intro gg11 cap11 wa11 hown_ hgr_ hat_ hlt_; have HP11 := Lib.hid hown_; have HQ11 := Lib.hid hgr_; clear hown_ hgr_ hat_ hlt_; have HQ2 := Lib.hid (gby_new (gby_alloc G9_.out _) HQ11.out (fun b hb => by have := own_from HO11.out b hb; omega)); have yq_ := (HQ2.out).cell Hy0.out (by simp))
      refine ⟨⟨p, pre ++ [(k : Int)], by first | rfl | go_num, HN2.out, ?_, HQ2.out⟩, by simp [intOf]; omega⟩
      rw [List.length_append, List.length_singleton, ← HM11.out, i64s_append]
      exact HP11.out
  have HDL := Lib.hid hdl
  clear hdl
  go_wp2_with fail
  go_at_call 18
  refine (implDown _ _ _ xs ys (HT.out.grow (gby_refl _ _)) (HW0.out.grow (gby_refl _ _)) HLX.out HLY.out x).mono ?_
  rintro e w1 ⟨vD, rfl, o, g⟩
  have szw1 := g.size
  obtain ⟨pD, nD, cD, hv_⟩ := RdL.form (OwU.rd o)
  have hnD : nD = (downL xs ys x).length := by obtain ⟨_, _, e, _⟩ := OwU.rd o; rw [hv_] at e; injection e
  subst hv_
  clear o
  have G3_ := Lib.hid (show (W).grownBy (w1) none from gby_trans (gby_refl _ _) g)
  have HTM4_ := Lib.hid (show (W).grownBy (w1) none from gby_trans HTM1_.out g)
  clear HTM1_
  clear g
  have hn0 : nD = 0 := by rw [hnD, HDL.out]; rfl
  subst hn0
  clear hnD
  go_wp2
  go_ret
  exact ⟨_, rfl, OwU.one (by rw [routeL_no (.inl HDL.out)]; exact owL_nil), G3_.out⟩

theorem routeToAddress_both (xs0 : List DNode) (xs1 : List DBar) (i2 i3 : Int) (h0 : szL shNode xs0 ≤ 1048576) (h1 : szL shBar xs1 ≤ 1048576) : ∃ (xsr0 : List Int), szL shI xsr0 ≤ 1048576 ∧ (∀ (W : World), ∀ u0 u1, RdL shNode W u0 xs0 → RdL shBar W u1 xs1 → Calls Try.prog 24 #[u0, u1, .int .i64 i2, .int .i64 i3] W (ResSRouteToAddress xsr0 W)) ∧ ∀ (W : World), ∀ u0 u1, RdL shNode W u0 xs0 → RdL shBar W u1 xs1 → Calls Try.prog 25 #[u0, u1, .int .i64 i2, .int .i64 i3] W (ResIRouteToAddress xsr0 W) :=
  ⟨routeL xs0 xs1 i2 i3, by rw [szL_I]; exact Nat.le_trans routeL_len (by omega), fun W u0 u1 H0 H1 => (specRoute W u0 u1 _ _ H0 H1 h0 h1 i2 i3).mono (fun e w q => resS_ofRouteToAddress e w q), fun W u0 u1 H0 H1 => implRoute W u0 u1 _ _ H0 H1 h0 h1 i2 i3⟩

end Go.Proofs.Ytdddidnibelmhaa
