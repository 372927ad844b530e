/-
  The model's ChildrenOf.
-/
import Derived.Test.YtodfbodagjmfmabKidsMath
import Derived.Test.YtodfbodagjmfmabNodeOf
import Derived.Test.YtodfbodagjmfmabRChildrenOf
import Derived.Test.YtodfbodagjmfmabAppP
import Derived.Test.YtodfbodagjmfmabSetI
namespace Go.Proofs.Ytodfbodagjmfmab
open Go Go.RowKit
set_option linter.unusedVariables false

set_option maxRecDepth 8000 in
set_option maxHeartbeats 2000000 in
theorem specKids_no (W : World) (v : Value) (xs : List DNode) (k : Int) (H : RdL shNode W v xs) (hl : szL shNode xs ≤ 1048576) (hp : ¬ NodeP xs k) : Calls Try.prog 16 #[v, .int .i64 k] W (ResIChildrenOf [] W) := by
  have HP_ := Lib.hid hp
  clear hp
  have HT := Lib.hid H
  have HL := Lib.hid hl
  obtain ⟨a0, n0, c0, rfl⟩ := RdL.form H
  have hn0 : n0 = xs.length := by obtain ⟨_, _, e, _⟩ := H; injection e
  have HE := Lib.hid hn0
  have hlx : n0 ≤ 1048576 := by have := szL_len shNode xs; omega
  clear H hn0 hl
  go_enter Try.func16, Try.ntmps16
  have al_ : (W).grownBy ((W).alloc (.cells #[] 3)) none := gby_alloc (gby_refl _ _) _
  have G1_ := Lib.hid (show (W).grownBy ((W.alloc (.cells #[] 3))) none from gby_trans (gby_refl _ _) al_)
  have rO2_ := Lib.hid (show ((W.alloc (.cells #[] 3))).heap[W.heap.size]? = some (.cells #[] 3 (0, 0)) from by first | exact heap_alloc_new _ _ | exact heap_pair _ _ _ | exact heap_trip _ _ _ _)
  clear al_
  go_wp2_with fail
  go_at_call 50
  refine (specNode_no _ _ xs _ (HT.out.grow G1_.out) HL.out HP_.out).mono ?_
  rintro e w1 ⟨rfl, g⟩
  have szw1 := g.size
  try simp only [World.size_alloc] at szw1
  try simp only [World.size_setCell] at szw1
  have rO3_ := Lib.hid (show (w1).heap[W.heap.size]? = some (.cells #[] 3 (0, 0)) from row_held g rO2_.out)
  clear rO2_
  have G4_ := Lib.hid (show (W).grownBy (w1) none from gby_trans G1_.out g)
  clear g
  go_wp2
  go_ret
  exact ⟨_, rfl, OwU.one (owL_empty (by omega) (by omega)), G4_.out⟩

set_option maxRecDepth 8000 in
set_option maxHeartbeats 4000000 in
theorem specKids_yes (W : World) (v : Value) (xs : List DNode) (k : Int) (H : RdL shNode W v xs) (hl : szL shNode xs ≤ 1048576) (hp : NodeP xs k) : Calls Try.prog 16 #[v, .int .i64 k] W (ResIChildrenOf (nums (kidsN xs k 4)) W) := by
  have HP_ := Lib.hid hp
  have HXL := Lib.hid hp.1.1.2
  clear hp
  obtain ⟨i1_, hi1_, hz0_, hz1_, hz2_⟩ := info_parts infoInt
  have HT := Lib.hid H
  have HL := Lib.hid hl
  have HMX := Lib.hid H.max
  obtain ⟨a0, c0, rfl, hcap, hi⟩ := rdN_in H
  obtain ⟨n0, hlen⟩ : ∃ n, n = xs.length := ⟨_, rfl⟩
  have HE := Lib.hid hlen
  unfold RdN at hi
  rw [← hlen] at hi HT ⊢
  have HA := Lib.hid hi
  have hlx : n0 ≤ 1048576 := by have := szL_len shNode xs; omega
  clear H hi hlen hl hcap
  have hn1 : 1 ≤ n0 := by have := HE.out; have := HP_.out.1.1.1; omega
  obtain ⟨b, off, rfl, hcell⟩ := HA.out.resolve_left (by omega)
  have HC := Lib.hid hcell
  clear hcell
  go_enter Try.func16, Try.ntmps16
  have HTM1_ := Lib.hid (gby_refl (W) none)
  have MG2_ := Lib.hid (show (W).grownBy (W) none from (gby_refl _ _))
  have al_ : (W).grownBy ((W).alloc (.cells #[] 3)) none := gby_alloc (gby_refl _ _) _
  have G3_ := Lib.hid (show (W).grownBy ((W.alloc (.cells #[] 3))) none from gby_trans (gby_refl _ _) al_)
  have HTM4_ := Lib.hid (show (W).grownBy ((W.alloc (.cells #[] 3))) none from gby_trans HTM1_.out al_)
  clear HTM1_
  have rO5_ := Lib.hid (show ((W.alloc (.cells #[] 3))).heap[W.heap.size]? = some (.cells #[] 3 (0, 0)) from by first | exact heap_alloc_new _ _ | exact heap_pair _ _ _ | exact heap_trip _ _ _ _)
  clear al_
  go_wp2_with fail
  go_at_call 50
  refine (specNode_yes _ _ xs _ (HT.out.grow G3_.out) HL.out HP_.out).mono ?_
  rintro e w1 ⟨rfl, g⟩
  have szw1 := g.size
  try simp only [World.size_alloc] at szw1
  try simp only [World.size_setCell] at szw1
  have rO6_ := Lib.hid (show (w1).heap[W.heap.size]? = some (.cells #[] 3 (0, 0)) from row_held g rO5_.out)
  clear rO5_
  have G7_ := Lib.hid (show (W).grownBy (w1) none from gby_trans G3_.out g)
  have HTM8_ := Lib.hid (show (W).grownBy (w1) none from gby_trans HTM4_.out g)
  clear HTM4_
  clear g
  have hst_ : (w1).ownsRow (W.heap.size) 3 1 (.slice (some ⟨W.heap.size, 0, none⟩) 0 0) (nums (kidsN xs k 0)).length (i64s (nums (kidsN xs k 0))) := own_emptyP (e := 3) (n := 1) rO6_.out (Nat.le_refl _)
  go_wp2
  go_loopw [5, 6, 7] (fun v d z wr => ∃ D : Nat, d = .int .i64 (D : Int) ∧ D ≤ 4 ∧ (∃ q, z = q) ∧ wr.ownsRow (W.heap.size) 3 1 v (nums (kidsN xs k D)).length (i64s (nums (kidsN xs k D))) ∧ (W).grownBy wr none) (fun _ d _ _ => 4 - (intOf d).toNat)
  case atStart => exact ⟨0, rfl, by omega, ⟨_, rfl⟩, hst_, HTM8_.out⟩
  case round =>
    clear rO6_
    clear HTM8_
    obtain ⟨D, rfl, hD, ⟨z, rfl⟩, hown, hg⟩ := hrel
    have szr_ := hg.size
    try simp only [World.size_alloc, World.size_setCell] at szr_
    have G9_ := Lib.hid (show (W).grownBy (wr) none from gby_trans MG2_.out hg)
    have HTM10_ := Lib.hid hg
    clear hg
    try clear hst_
    have HO := Lib.hid hown
    clear hown
    have hD0 : (0 : Int) ≤ (D : Int) := by omega
    have htD : ((D : Int)).toNat = D := by omega
    obtain ⟨wo, hwo_⟩ : ∃ w_, w_ = wr := ⟨_, rfl⟩
    subst hwo_
    by_cases hlD : D < 4
    rotate_left
    · obtain rfl : D = 4 := by omega
      have hki : ¬ (((4 : Nat) : Int)) ≤ 3 := by omega
      have hki2 : ¬ (4 : Int) ≤ 3 := by omega
      go_wp2
      go_ret
      exact ⟨_, rfl, OwU.one (OwL.wide (owI_out (by rw [nums_len]; have := kidsN_len xs k 4; have := HXL.out; omega) (owI_row HO.out)) (Nat.le_refl _) (Nat.le_refl _)), G9_.out⟩
    have hki : (D : Int) ≤ 3 := by omega
    go_wp2
    have hst_ := HO.out
    rw [show kidsN xs k D = kidsN xs k D ++ kidD xs k D 1 by rw [kidD_one, List.append_nil]] at hst_
    go_loopw [5, 7] (fun v i wr => ∃ m : Nat, i = .int .i64 (m : Int) ∧ 1 ≤ m ∧ m ≤ n0 ∧ wr.ownsRow (W.heap.size) 3 1 v (nums (kidsN xs k D ++ kidD xs k D m)).length (i64s (nums (kidsN xs k D ++ kidD xs k D m))) ∧ (W).grownBy wr none) (fun _ i _ => n0 - (intOf i).toNat)
    case atStart => exact ⟨1, rfl, by omega, by omega, hst_, HTM10_.out⟩
    case round =>
      clear HTM10_
      obtain ⟨m, rfl, hm1, hm, hown, hg⟩ := hrel
      have szr_ := hg.size
      try simp only [World.size_alloc, World.size_setCell] at szr_
      have G11_ := Lib.hid (show (W).grownBy (wr) none from gby_trans MG2_.out hg)
      have HTM12_ := Lib.hid hg
      clear hg
      try clear hst_
      have HO2 := Lib.hid hown
      clear hown HO
      have hm0 : (0 : Int) ≤ (m : Int) := by omega
      have htm : ((m : Int)).toNat = m := by omega
      by_cases hlt : m < n0
      rotate_left
      · obtain rfl : m = n0 := by omega
        have hkj : ¬ (m : Int) < (m : Int) := by omega
        go_wp2
        refine ⟨⟨D + 1, by go_num, by omega, ⟨_, rfl⟩, by rw [kidsN, ← HE.out]; exact HO2.out, HTM12_.out⟩, by simp [intOf]; omega⟩
      have hkj : (m : Int) < (n0 : Int) := by omega
      obtain ⟨y, hy⟩ : ∃ y, y = nd xs m := ⟨_, rfl⟩
      have hyc := HC.out m hlt
      rw [← hy] at hyc
      have HY := Lib.hid hy
      have HY0 := Lib.hid hyc.1
      have HY1 := Lib.hid hyc.2.1
      clear hy hyc
      obtain ⟨y0, y1, y2⟩ := y
      dsimp only at HY0 HY1
      have y0_ := (G11_.out).cell HY0.out (by simp)
      have y1_ := (G11_.out).cell HY1.out (by simp)
      by_cases h0 : y0 = k
      rotate_left
      · have hb : (y0 == k) = false := by simpa using h0
        have HK : Hid (¬ isKid xs k D m = true) := Lib.hid (fun q => h0 (by have := (isKid_iff.1 q).2.1; rw [← HY.out] at this; exact this))
        clear h0
        go_wp2
        refine ⟨⟨m + 1, by go_num, by omega, by omega, ?_, HTM12_.out⟩, by simp [intOf]; omega⟩
        rw [kidD_succ, if_neg HK.out, List.append_nil]
        exact HO2.out
      by_cases h1 : y1 = (D : Int)
      rotate_left
      · have hb : (y0 == k) = true := by simpa using h0
        have hb1 : (y1 == (D : Int)) = false := by simpa using h1
        have HK : Hid (¬ isKid xs k D m = true) := Lib.hid (fun q => h1 (by have := (isKid_iff.1 q).2.2; rw [← HY.out] at this; exact this))
        clear h0 h1
        go_wp2
        refine ⟨⟨m + 1, by go_num, by omega, by omega, ?_, HTM12_.out⟩, by simp [intOf]; omega⟩
        rw [kidD_succ, if_neg HK.out, List.append_nil]
        exact HO2.out
      have hb : (y0 == k) = true := by simpa using h0
      have hb1 : (y1 == (D : Int)) = true := by simpa using h1
      have HK : Hid (isKid xs k D m = true) := Lib.hid (isKid_iff.2 ⟨hm1, by rw [← HY.out]; exact h0, by rw [← HY.out]; exact h1⟩)
      clear h0 h1
      have hb_ : (nums (kidsN xs k D ++ kidD xs k D m)).length ≤ 1000000 := by rw [nums_len, List.length_append]; have := kidsN_len xs k D; have := kidD_len xs k D m; have := HXL.out; have := Nat.mul_le_mul hD HXL.out; have := HE.out; omega
      obtain ⟨m13, hm13⟩ : ∃ ml_, ml_ = (nums (kidsN xs k D ++ kidD xs k D m)).length := ⟨_, rfl⟩
      have HO13 := Lib.hid (show (wr).ownsRow (W.heap.size) 3 1 _ m13 (i64s (nums (kidsN xs k D ++ kidD xs k D m))) from by rw [hm13]; exact HO2.out)
      have hb13 : m13 ≤ 1000000 := by rw [hm13]; exact hb_
      have HM13 := Lib.hid hm13
      clear hm13 hb_
      go_wp2_with (at_builtin; refine wpList_append_lies _ (by rfl) _ _ _ (by rfl) (W.heap.size) 3 i1_ _ 1 8 Try.underlying24 hi1_ hz0_ hz1_ hz2_ rfl (by omega) _ m13 (i64s (nums (kidsN xs k D ++ kidD xs k D m))) (by rfl) (HO13.out.alloc _) ⟨(wr).heap.size, 0, none⟩ 1 1 _ (by rfl) (by rfl) (World.news_of_block (t := 3) (fr := (0, 0)) (heap_alloc_new (wr) _)) (by simp [Value.oneCell']) (by omega) (by unfold maxLen; omega) (by omega) (by simp; omega) ((wr).heap.size + 1) (by simp) ?_; intro gg13 cap13 wa13 hown_ hgr_ hat_ hlt_; have HP13 := Lib.hid hown_; have HQ13 := Lib.hid hgr_; clear hown_ hgr_ hat_ hlt_)
      refine ⟨⟨m + 1, by go_num, by omega, by omega, ?_, ?_⟩, by simp [intOf]; omega⟩
      · have e_ : nums (kidsN xs k D ++ kidD xs k D (m + 1)) = (nums (kidsN xs k D ++ kidD xs k D m)) ++ [(m : Int)] := by rw [kidD_succ, if_pos HK.out, ← List.append_assoc, nums_app]; rfl
        rw [e_, List.length_append, List.length_singleton, ← HM13.out, i64s_append]
        exact HP13.out
      · exact gby_new (gby_alloc HTM12_.out _) HQ13.out (fun b hb => by have := own_from HO13.out b hb; omega)

end Go.Proofs.Ytodfbodagjmfmab
