/-
  The nodes that are cut off, on both sides.
-/
import Derived.Test.YtodfbodagjmfmacReach
import Derived.Test.YtodfbodagjmfmacRCutOff
namespace Go.Proofs.Ytodfbodagjmfmac
open Go Go.RowKit
set_option linter.unusedVariables false

/-- those of the first n nodes that the root cannot reach -/
def OffIs (xs : List DNode) (os : List Bool) : Nat → List Int → Prop
  | 0, ys => ys = []
  | n + 1, ys => ∃ zs, OffIs xs os n zs ∧ ((ReachP xs os 0 (n : Int) ∧ ys = zs) ∨ (¬ ReachP xs os 0 (n : Int) ∧ ys = zs ++ [(n : Int)]))
theorem offIs_ex (xs : List DNode) (os : List Bool) : ∀ n, ∃ ys, OffIs xs os n ys
  | 0 => ⟨[], rfl⟩
  | n + 1 => by
    obtain ⟨zs, hz⟩ := offIs_ex xs os n
    by_cases h : ReachP xs os 0 (n : Int)
    · exact ⟨zs, zs, hz, .inl ⟨h, rfl⟩⟩
    · exact ⟨_, zs, hz, .inr ⟨h, rfl⟩⟩
theorem offIs_one {xs : List DNode} {os : List Bool} : ∀ {n : Nat} {y z : List Int}, OffIs xs os n y → OffIs xs os n z → y = z
  | 0, _, _, h, g => h.trans g.symm
  | n + 1, _, _, ⟨y, h1, h2⟩, ⟨z, g1, g2⟩ => by
    obtain rfl := offIs_one h1 g1
    rcases h2 with ⟨a, rfl⟩ | ⟨a, rfl⟩
    · rcases g2 with ⟨_, rfl⟩ | ⟨b, _⟩
      · rfl
      · exact absurd a b
    · rcases g2 with ⟨b, _⟩ | ⟨_, rfl⟩
      · exact absurd b a
      · rfl
theorem offIs_len {xs : List DNode} {os : List Bool} : ∀ {n : Nat} {y : List Int}, OffIs xs os n y → y.length ≤ n
  | 0, _, h => by
    have : _ = [] := h
    subst this; exact Nat.le_refl _
  | n + 1, _, ⟨z, h1, h2⟩ => by
    have := offIs_len h1
    rcases h2 with ⟨_, rfl⟩ | ⟨_, rfl⟩
    · omega
    · rw [List.length_append, List.length_singleton]; omega
/-- what CutOff answers with -/
def CutIs (xs : List DNode) (os : List Bool) (ys : List Int) : Prop := (GuardP xs os ∧ OffIs xs os xs.length ys) ∨ (¬ GuardP xs os ∧ ys = [])

set_option maxRecDepth 8000 in
set_option maxHeartbeats 2000000 in
theorem specCut_no (W : World) (v u : Value) (xs : List DNode) (os : List Bool) (H : RdL shNode W v xs) (Hs : RdL shB W u os) (hl : szL shNode xs ≤ 1048576) (hls : szL shB os ≤ 1048576) (hg : ¬ GuardP xs os) : Calls Try.prog 39 #[v, vGuard u] W (ResICutOff [] W) := by
  have HG_ := Lib.hid hg
  clear hg
  have HT := Lib.hid H
  have HS := Lib.hid Hs
  have HL := Lib.hid hl
  have HLS := Lib.hid hls
  obtain ⟨a0, n0, c0, rfl⟩ := RdL.form H
  obtain ⟨a1, n1, c1, rfl⟩ := RdL.form Hs
  have hn0 : n0 = xs.length := by obtain ⟨_, _, e, _⟩ := H; injection e
  have HE := Lib.hid hn0
  have hlx : n0 ≤ 1048576 := by have := szL_len shNode xs; omega
  clear H Hs hn0 hl hls
  unfold vGuard
  go_enter Try.func39, Try.ntmps39
  have rA1_ := Lib.hid (show ((W.alloc (.cells #[.slice a1 n1 c1] 53))).heap[W.heap.size]? = some (.cells #[.slice a1 n1 c1] 53 (0, 0)) from by exact heap_alloc_new _ _)
  have G2_ := Lib.hid (show (W).grownBy ((W.alloc (.cells #[.slice a1 n1 c1] 53))) none from (gby_alloc (gby_refl _ _) _))
  have A_0_ : ((W.alloc (.cells #[.slice a1 n1 c1] 53))).cell? ⟨W.heap.size, 0, none⟩ = some (.slice a1 n1 c1) := cell_of_row _ _ 0 _ _ _ rA1_.out
  clear A_0_
  have al_ : ((W.alloc (.cells #[.slice a1 n1 c1] 53))).grownBy (((W.alloc (.cells #[.slice a1 n1 c1] 53))).alloc (.cells #[] 3)) none := gby_alloc (gby_refl _ _) _
  have rA3_ := Lib.hid (show (((W.alloc (.cells #[.slice a1 n1 c1] 53)).alloc (.cells #[] 3))).heap[W.heap.size]? = some (.cells #[.slice a1 n1 c1] 53 (0, 0)) from row_held al_ rA1_.out)
  clear rA1_
  have G4_ := Lib.hid (show (W).grownBy (((W.alloc (.cells #[.slice a1 n1 c1] 53)).alloc (.cells #[] 3))) none from gby_trans G2_.out al_)
  have rO5_ := Lib.hid (show (((W.alloc (.cells #[.slice a1 n1 c1] 53)).alloc (.cells #[] 3))).heap[W.heap.size + 1]? = some (.cells #[] 3 (0, 0)) from by first | exact heap_alloc_new _ _ | exact heap_pair _ _ _ | exact heap_trip _ _ _ _)
  clear al_
  have A_0_ : (((W.alloc (.cells #[.slice a1 n1 c1] 53)).alloc (.cells #[] 3))).cell? ⟨W.heap.size, 0, none⟩ = some (.slice a1 n1 c1) := cell_of_row _ _ 0 _ _ _ rA3_.out
  by_cases h0 : n0 = 0
  · skip
    go_wp2
    go_loopw [5, 6] (fun v i wr => i = .int .i64 0 ∧ v = .slice (some ⟨W.heap.size + 1, 0, none⟩) 0 0 ∧ (((W.alloc (.cells #[.slice a1 n1 c1] 53)).alloc (.cells #[] 3))).grownBy wr none) (fun _ _ _ => 0)
    case atStart => exact ⟨rfl, rfl, gby_refl _ _⟩
    case round =>
      clear A_0_
      obtain ⟨rfl, rfl, hg⟩ := hrel
      have szrwr := hg.size
      try simp only [World.size_alloc] at szrwr
      try simp only [World.size_setCell] at szrwr
      have szr_ := szrwr
      have rA6_ := Lib.hid (show (wr).heap[W.heap.size]? = some (.cells #[.slice a1 n1 c1] 53 (0, 0)) from row_held hg rA3_.out)
      clear rA3_
      have rO7_ := Lib.hid (show (wr).heap[W.heap.size + 1]? = some (.cells #[] 3 (0, 0)) from row_held hg rO5_.out)
      clear rO5_
      have G8_ := Lib.hid (show (W).grownBy (wr) none from gby_trans G4_.out hg)
      have HTB_ := Lib.hid hg
      clear hg
      have A_0_ : (wr).cell? ⟨W.heap.size, 0, none⟩ = some (.slice a1 n1 c1) := cell_of_row _ _ 0 _ _ _ rA6_.out
      have hki : ¬ (0 : Int) < (n0 : Int) := by omega
      go_wp2
      go_ret
      exact ⟨_, rfl, OwU.one (owL_empty (by omega) (by have := szr_; (try simp only [World.size_alloc] at *); omega)), G8_.out⟩
  · skip
    go_wp2
    go_loopw [5, 6] (fun v i wr => i = .int .i64 0 ∧ v = .slice (some ⟨W.heap.size + 1, 0, none⟩) 0 0 ∧ (((W.alloc (.cells #[.slice a1 n1 c1] 53)).alloc (.cells #[] 3))).grownBy wr none) (fun _ _ _ => 0)
    case atStart => exact ⟨rfl, rfl, gby_refl _ _⟩
    case round =>
      clear A_0_
      obtain ⟨rfl, rfl, hg⟩ := hrel
      have szrwr := hg.size
      try simp only [World.size_alloc] at szrwr
      try simp only [World.size_setCell] at szrwr
      have szr_ := szrwr
      have rA6_ := Lib.hid (show (wr).heap[W.heap.size]? = some (.cells #[.slice a1 n1 c1] 53 (0, 0)) from row_held hg rA3_.out)
      clear rA3_
      have rO7_ := Lib.hid (show (wr).heap[W.heap.size + 1]? = some (.cells #[] 3 (0, 0)) from row_held hg rO5_.out)
      clear rO5_
      have G8_ := Lib.hid (show (W).grownBy (wr) none from gby_trans G4_.out hg)
      have HTB_ := Lib.hid hg
      clear hg
      have A_0_ : (wr).cell? ⟨W.heap.size, 0, none⟩ = some (.slice a1 n1 c1) := cell_of_row _ _ 0 _ _ _ rA6_.out
      have hki : (0 : Int) < (n0 : Int) := by omega
      go_wp2_with fail
      go_at_call 89
      refine (((specGuard _ _ _ xs os (HT.out.grow G8_.out) (HS.out.grow G8_.out) HL.out HLS.out).mono (bpost_no HG_.out))).mono ?_
      rintro e w1 ⟨rfl, g⟩
      have szw1 := g.size
      try simp only [World.size_alloc] at szw1
      try simp only [World.size_setCell] at szw1
      clear A_0_
      have rA9_ := Lib.hid (show (w1).heap[W.heap.size]? = some (.cells #[.slice a1 n1 c1] 53 (0, 0)) from row_held g rA6_.out)
      clear rA6_
      have rO10_ := Lib.hid (show (w1).heap[W.heap.size + 1]? = some (.cells #[] 3 (0, 0)) from row_held g rO7_.out)
      clear rO7_
      have G11_ := Lib.hid (show (W).grownBy (w1) none from gby_trans G8_.out g)
      have HTB12_ := Lib.hid (show (((W.alloc (.cells #[.slice a1 n1 c1] 53)).alloc (.cells #[] 3))).grownBy (w1) none from gby_trans HTB_.out g)
      clear HTB_
      clear g
      have A_0_ : (w1).cell? ⟨W.heap.size, 0, none⟩ = some (.slice a1 n1 c1) := cell_of_row _ _ 0 _ _ _ rA9_.out
      go_wp2
      go_ret
      exact ⟨_, rfl, OwU.one (owL_empty (by omega) (by have := szr_; omega)), G11_.out⟩

set_option maxRecDepth 8000 in
set_option maxHeartbeats 2000000 in
theorem specCut_yes (W : World) (v u : Value) (xs : List DNode) (os : List Bool) (H : RdL shNode W v xs) (Hs : RdL shB W u os) (hl : szL shNode xs ≤ 1048576) (hls : szL shB os ≤ 1048576) (hg : GuardP xs os) (ys0 : List Int) (hof : OffIs xs os xs.length ys0) : Calls Try.prog 39 #[v, vGuard u] W (ResICutOff ys0 W) := by
  have HG_ := Lib.hid hg
  have HOF := Lib.hid hof
  have hxs := hg.1.1.2
  clear hg hof
  obtain ⟨i1_, hi1_, hz0_, hz1_, hz2_⟩ := info_parts infoInt
  have HT := Lib.hid H
  have HS := Lib.hid Hs
  have HL := Lib.hid hl
  have HLS := Lib.hid hls
  obtain ⟨a0, n0, c0, rfl⟩ := RdL.form H
  obtain ⟨a1, n1, c1, rfl⟩ := RdL.form Hs
  have hn0 : n0 = xs.length := by obtain ⟨_, _, e, _⟩ := H; injection e
  have HE := Lib.hid hn0
  have hlx : n0 ≤ 1048576 := by have := szL_len shNode xs; omega
  clear H Hs hn0 hl hls
  unfold vGuard
  have hn12 : n0 ≤ 12 := by have := HE.out; omega
  go_enter Try.func39, Try.ntmps39
  have rA1_ := Lib.hid (show ((W.alloc (.cells #[.slice a1 n1 c1] 53))).heap[W.heap.size]? = some (.cells #[.slice a1 n1 c1] 53 (0, 0)) from by exact heap_alloc_new _ _)
  have G2_ := Lib.hid (show (W).grownBy ((W.alloc (.cells #[.slice a1 n1 c1] 53))) none from (gby_alloc (gby_refl _ _) _))
  have A_0_ : ((W.alloc (.cells #[.slice a1 n1 c1] 53))).cell? ⟨W.heap.size, 0, none⟩ = some (.slice a1 n1 c1) := cell_of_row _ _ 0 _ _ _ rA1_.out
  have HTM3_ := Lib.hid (gby_refl ((W.alloc (.cells #[.slice a1 n1 c1] 53))) none)
  have MG4_ := Lib.hid (show (W).grownBy ((W.alloc (.cells #[.slice a1 n1 c1] 53))) none from G2_.out)
  have MR5_ := Lib.hid rA1_.out
  clear A_0_
  have al_ : ((W.alloc (.cells #[.slice a1 n1 c1] 53))).grownBy (((W.alloc (.cells #[.slice a1 n1 c1] 53))).alloc (.cells #[] 3)) none := gby_alloc (gby_refl _ _) _
  have rA6_ := Lib.hid (show (((W.alloc (.cells #[.slice a1 n1 c1] 53)).alloc (.cells #[] 3))).heap[W.heap.size]? = some (.cells #[.slice a1 n1 c1] 53 (0, 0)) from row_held al_ rA1_.out)
  clear rA1_
  have G7_ := Lib.hid (show (W).grownBy (((W.alloc (.cells #[.slice a1 n1 c1] 53)).alloc (.cells #[] 3))) none from gby_trans G2_.out al_)
  have HTM8_ := Lib.hid (show ((W.alloc (.cells #[.slice a1 n1 c1] 53))).grownBy (((W.alloc (.cells #[.slice a1 n1 c1] 53)).alloc (.cells #[] 3))) none from gby_trans HTM3_.out al_)
  clear HTM3_
  have rO9_ := Lib.hid (show (((W.alloc (.cells #[.slice a1 n1 c1] 53)).alloc (.cells #[] 3))).heap[W.heap.size + 1]? = some (.cells #[] 3 (0, 0)) from by first | exact heap_alloc_new _ _ | exact heap_pair _ _ _ | exact heap_trip _ _ _ _)
  clear al_
  have A_0_ : (((W.alloc (.cells #[.slice a1 n1 c1] 53)).alloc (.cells #[] 3))).cell? ⟨W.heap.size, 0, none⟩ = some (.slice a1 n1 c1) := cell_of_row _ _ 0 _ _ _ rA6_.out
  have hst_ : (((W.alloc (.cells #[.slice a1 n1 c1] 53)).alloc (.cells #[] 3))).ownsRow (W.heap.size + 1) 3 1 (.slice (some ⟨W.heap.size + 1, 0, none⟩) 0 0) ([] : List Int).length (i64s []) := own_emptyP (e := 3) (n := 1) rO9_.out (Nat.le_refl _)
  go_wp2
  go_loopw [5, 6] (fun v i wr => ∃ (n : Nat) (ys : List Int), i = .int .i64 (n : Int) ∧ n ≤ n0 ∧ OffIs xs os n ys ∧ wr.ownsRow (W.heap.size + 1) 3 1 v ys.length (i64s ys) ∧ ((W.alloc (.cells #[.slice a1 n1 c1] 53))).grownBy wr none) (fun _ i _ => n0 - (intOf i).toNat)
  case atStart => exact ⟨0, [], rfl, by omega, rfl, hst_, HTM8_.out⟩
  case round =>
    clear A_0_
    clear rA6_
    clear rO9_
    clear HTM8_
    obtain ⟨n, ys, rfl, hn, hoff, hown, hg⟩ := hrel
    have szr_ := hg.size
    try simp only [World.size_alloc, World.size_setCell] at szr_
    have G10_ := Lib.hid (show (W).grownBy (wr) none from gby_trans MG4_.out hg)
    have rA11_ := Lib.hid (show (wr).heap[W.heap.size]? = some (.cells #[.slice a1 n1 c1] 53 (0, 0)) from row_held hg MR5_.out)
    have HTM12_ := Lib.hid hg
    clear hg
    have A_0_ : (wr).cell? ⟨W.heap.size, 0, none⟩ = some (.slice a1 n1 c1) := cell_of_row _ _ 0 _ _ _ rA11_.out
    have HTR13_ := Lib.hid (gby_refl (wr) none)
    have MG14_ := Lib.hid (show (W).grownBy (wr) none from G10_.out)
    have MR15_ := Lib.hid rA11_.out
    try clear hst_
    have HO := Lib.hid hown
    have HF := Lib.hid hoff
    clear hown hoff
    have hn0 : (0 : Int) ≤ (n : Int) := by omega
    have htn : ((n : Int)).toNat = n := by omega
    by_cases hlt : n < n0
    rotate_left
    · obtain rfl : n = n0 := by omega
      have hki : ¬ (n : Int) < (n : Int) := by omega
      obtain rfl : ys = ys0 := offIs_one HF.out (by rw [HE.out]; exact HOF.out)
      go_wp2
      go_ret
      exact ⟨_, rfl, OwU.one (OwL.wide (owI_out (by have := offIs_len HF.out; omega) (owI_row HO.out)) (by have := gby_size MG4_.out; (try simp only [World.size_alloc] at this); omega) (Nat.le_refl _)), G10_.out⟩
    have hki : (n : Int) < (n0 : Int) := by omega
    go_wp2_with fail
    go_at_call 89
    refine (((specGuard _ _ _ xs os (HT.out.grow G10_.out) (HS.out.grow G10_.out) HL.out HLS.out).mono (bpost_yes HG_.out))).mono ?_
    rintro e w1 ⟨rfl, g⟩
    have szw1 := g.size
    try simp only [World.size_alloc] at szw1
    try simp only [World.size_setCell] at szw1
    clear A_0_
    have rA16_ := Lib.hid (show (w1).heap[W.heap.size]? = some (.cells #[.slice a1 n1 c1] 53 (0, 0)) from row_held g rA11_.out)
    clear rA11_
    have G17_ := Lib.hid (show (W).grownBy (w1) none from gby_trans G10_.out g)
    have HTM18_ := Lib.hid (show ((W.alloc (.cells #[.slice a1 n1 c1] 53))).grownBy (w1) none from gby_trans HTM12_.out g)
    clear HTM12_
    have HTR19_ := Lib.hid (show (wr).grownBy (w1) none from gby_trans HTR13_.out g)
    clear HTR13_
    clear g
    have A_0_ : (w1).cell? ⟨W.heap.size, 0, none⟩ = some (.slice a1 n1 c1) := cell_of_row _ _ 0 _ _ _ rA16_.out
    by_cases hr : ReachP xs os 0 (n : Int)
    · have HR_ := Lib.hid hr
      clear hr
      go_wp2_with fail
      go_at_call 90
      refine (((specReach _ _ _ xs os 0 (n : Int) (HT.out.grow G17_.out) (HS.out.grow G17_.out) HL.out HLS.out).mono (bpost_yes HR_.out))).mono ?_
      rintro e w2 ⟨rfl, g⟩
      have szw2 := g.size
      try simp only [World.size_alloc] at szw2
      try simp only [World.size_setCell] at szw2
      clear A_0_
      have rA20_ := Lib.hid (show (w2).heap[W.heap.size]? = some (.cells #[.slice a1 n1 c1] 53 (0, 0)) from row_held g rA16_.out)
      clear rA16_
      have G21_ := Lib.hid (show (W).grownBy (w2) none from gby_trans G17_.out g)
      have HTM22_ := Lib.hid (show ((W.alloc (.cells #[.slice a1 n1 c1] 53))).grownBy (w2) none from gby_trans HTM18_.out g)
      clear HTM18_
      have HTR23_ := Lib.hid (show (wr).grownBy (w2) none from gby_trans HTR19_.out g)
      clear HTR19_
      clear g
      have A_0_ : (w2).cell? ⟨W.heap.size, 0, none⟩ = some (.slice a1 n1 c1) := cell_of_row _ _ 0 _ _ _ rA20_.out
      go_wp2
      refine ⟨⟨n + 1, ys, by go_num, by omega, ⟨ys, HF.out, .inl ⟨HR_.out, rfl⟩⟩, HO.out.grown HTR23_.out, HTM22_.out⟩, by simp [intOf]; omega⟩
    · have HR_ := Lib.hid hr
      clear hr
      go_wp2_with fail
      go_at_call 90
      refine (((specReach _ _ _ xs os 0 (n : Int) (HT.out.grow G17_.out) (HS.out.grow G17_.out) HL.out HLS.out).mono (bpost_no HR_.out))).mono ?_
      rintro e w2 ⟨rfl, g⟩
      have szw2 := g.size
      try simp only [World.size_alloc] at szw2
      try simp only [World.size_setCell] at szw2
      clear A_0_
      have rA20_ := Lib.hid (show (w2).heap[W.heap.size]? = some (.cells #[.slice a1 n1 c1] 53 (0, 0)) from row_held g rA16_.out)
      clear rA16_
      have G21_ := Lib.hid (show (W).grownBy (w2) none from gby_trans G17_.out g)
      have HTM22_ := Lib.hid (show ((W.alloc (.cells #[.slice a1 n1 c1] 53))).grownBy (w2) none from gby_trans HTM18_.out g)
      clear HTM18_
      have HTR23_ := Lib.hid (show (wr).grownBy (w2) none from gby_trans HTR19_.out g)
      clear HTR19_
      clear g
      have A_0_ : (w2).cell? ⟨W.heap.size, 0, none⟩ = some (.slice a1 n1 c1) := cell_of_row _ _ 0 _ _ _ rA20_.out
      have HO2_ := Lib.hid (HO.out.grown HTR23_.out)
      have hb_ : ys.length ≤ 1000000 := by have := offIs_len HF.out; omega
      obtain ⟨m24, hm24⟩ : ∃ m, m = (ys).length := ⟨_, rfl⟩
      have HO24 := Lib.hid (show (w2).ownsRow (W.heap.size + 1) 3 1 _ m24 (i64s (ys)) from by rw [hm24]; exact HO2_.out)
      have hb24 : m24 ≤ 1000000 := by rw [hm24]; exact hb_
      have HM24 := Lib.hid hm24
      clear hm24 hb_
      go_wp2_with (at_builtin; refine wpList_append_lies _ (by rfl) _ _ _ (by rfl) (W.heap.size + 1) 3 i1_ _ 1 8 Try.underlying23 hi1_ hz0_ hz1_ hz2_ rfl (by omega) _ m24 (i64s (ys)) (by rfl) (HO24.out.alloc _) ⟨(w2).heap.size, 0, none⟩ 1 1 _ (by rfl) (by rfl) (World.news_of_block (t := 3) (fr := (0, 0)) (heap_alloc_new (w2) _)) (by simp [Value.oneCell']) (by omega) (by unfold maxLen; omega) (by omega) (by simp; omega) ((w2).heap.size + 1) (by simp) ?_; intro gg24 cap24 wa24 hown_ hgr_ hat_ hlt_; have HP24 := Lib.hid hown_; have HQ24 := Lib.hid hgr_; clear hown_ hgr_ hat_ hlt_)
      refine ⟨⟨n + 1, ys ++ [(n : Int)], by go_num, by omega, ⟨ys, HF.out, .inr ⟨HR_.out, rfl⟩⟩, ?_, ?_⟩, by simp [intOf]; omega⟩
      · rw [List.length_append, List.length_singleton, ← HM24.out, i64s_append]; exact HP24.out
      · exact gby_new (gby_alloc HTM22_.out _) HQ24.out (fun b hb => by have := own_from HO24.out b hb; have := gby_size MG4_.out; (try simp only [World.size_alloc] at *); omega)

theorem specCut_any (W : World) (v u : Value) (xs : List DNode) (os : List Bool) (H : RdL shNode W v xs) (Hs : RdL shB W u os) (hl : szL shNode xs ≤ 1048576) (hls : szL shB os ≤ 1048576) (ys0 : List Int) (h : CutIs xs os ys0) : Calls Try.prog 39 #[v, vGuard u] W (ResICutOff ys0 W) := by
  rcases h with ⟨h1, h2⟩ | ⟨h1, rfl⟩
  · exact specCut_yes W v u xs os H Hs hl hls h1 ys0 h2
  · exact specCut_no W v u xs os H Hs hl hls h1

set_option maxRecDepth 8000 in
set_option maxHeartbeats 2000000 in
theorem implCut_no (W : World) (v u : Value) (xs : List DNode) (os : List Bool) (H : RdL shNode W v xs) (Hs : RdL shB W u os) (hl : szL shNode xs ≤ 1048576) (hls : szL shB os ≤ 1048576) (hg : ¬ GuardP xs os) : Calls Try.prog 41 #[v, vGuard u] W (ResICutOff [] W) := by
  have HG_ := Lib.hid hg
  clear hg
  have HT := Lib.hid H
  have HS := Lib.hid Hs
  have HL := Lib.hid hl
  have HLS := Lib.hid hls
  obtain ⟨a0, n0, c0, rfl⟩ := RdL.form H
  obtain ⟨a1, n1, c1, rfl⟩ := RdL.form Hs
  have hn0 : n0 = xs.length := by obtain ⟨_, _, e, _⟩ := H; injection e
  have HE := Lib.hid hn0
  have hlx : n0 ≤ 1048576 := by have := szL_len shNode xs; omega
  clear H Hs hn0 hl hls
  unfold vGuard
  go_enter Try.func41, Try.ntmps41
  have rA1_ := Lib.hid (show ((W.alloc (.cells #[.slice a1 n1 c1] 53))).heap[W.heap.size]? = some (.cells #[.slice a1 n1 c1] 53 (0, 0)) from by exact heap_alloc_new _ _)
  have G2_ := Lib.hid (show (W).grownBy ((W.alloc (.cells #[.slice a1 n1 c1] 53))) none from (gby_alloc (gby_refl _ _) _))
  have A_0_ : ((W.alloc (.cells #[.slice a1 n1 c1] 53))).cell? ⟨W.heap.size, 0, none⟩ = some (.slice a1 n1 c1) := cell_of_row _ _ 0 _ _ _ rA1_.out
  go_wp2_with fail
  go_at_call 58
  refine (((implGuard _ _ _ xs os (HT.out.grow G2_.out) (HS.out.grow G2_.out) HL.out HLS.out).mono (bpost_no HG_.out))).mono ?_
  rintro e w1 ⟨rfl, g⟩
  have szw1 := g.size
  try simp only [World.size_alloc] at szw1
  try simp only [World.size_setCell] at szw1
  clear A_0_
  have rA3_ := Lib.hid (show (w1).heap[W.heap.size]? = some (.cells #[.slice a1 n1 c1] 53 (0, 0)) from row_held g rA1_.out)
  clear rA1_
  have G4_ := Lib.hid (show (W).grownBy (w1) none from gby_trans G2_.out g)
  clear g
  have A_0_ : (w1).cell? ⟨W.heap.size, 0, none⟩ = some (.slice a1 n1 c1) := cell_of_row _ _ 0 _ _ _ rA3_.out
  go_wp2
  go_ret
  exact ⟨_, rfl, OwU.one owL_nil, G4_.out⟩

set_option maxRecDepth 8000 in
set_option maxHeartbeats 2000000 in
theorem implCut_yes (W : World) (v u : Value) (xs : List DNode) (os : List Bool) (H : RdL shNode W v xs) (Hs : RdL shB W u os) (hl : szL shNode xs ≤ 1048576) (hls : szL shB os ≤ 1048576) (hg : GuardP xs os) (ys0 : List Int) (hof : OffIs xs os xs.length ys0) : Calls Try.prog 41 #[v, vGuard u] W (ResICutOff ys0 W) := by
  have HG_ := Lib.hid hg
  have HOF := Lib.hid hof
  have hxs := hg.1.1.2
  clear hg hof
  obtain ⟨i1_, hi1_, hz0_, hz1_, hz2_⟩ := info_parts infoInt
  have HT := Lib.hid H
  have HS := Lib.hid Hs
  have HL := Lib.hid hl
  have HLS := Lib.hid hls
  obtain ⟨a0, n0, c0, rfl⟩ := RdL.form H
  obtain ⟨a1, n1, c1, rfl⟩ := RdL.form Hs
  have hn0 : n0 = xs.length := by obtain ⟨_, _, e, _⟩ := H; injection e
  have HE := Lib.hid hn0
  have hlx : n0 ≤ 1048576 := by have := szL_len shNode xs; omega
  clear H Hs hn0 hl hls
  unfold vGuard
  have hn12 : n0 ≤ 12 := by have := HE.out; omega
  go_enter Try.func41, Try.ntmps41
  have rA1_ := Lib.hid (show ((W.alloc (.cells #[.slice a1 n1 c1] 53))).heap[W.heap.size]? = some (.cells #[.slice a1 n1 c1] 53 (0, 0)) from by exact heap_alloc_new _ _)
  have G2_ := Lib.hid (show (W).grownBy ((W.alloc (.cells #[.slice a1 n1 c1] 53))) none from (gby_alloc (gby_refl _ _) _))
  have A_0_ : ((W.alloc (.cells #[.slice a1 n1 c1] 53))).cell? ⟨W.heap.size, 0, none⟩ = some (.slice a1 n1 c1) := cell_of_row _ _ 0 _ _ _ rA1_.out
  go_wp2_with fail
  go_at_call 58
  refine (((implGuard _ _ _ xs os (HT.out.grow G2_.out) (HS.out.grow G2_.out) HL.out HLS.out).mono (bpost_yes HG_.out))).mono ?_
  rintro e w1 ⟨rfl, g⟩
  have szw1 := g.size
  try simp only [World.size_alloc] at szw1
  try simp only [World.size_setCell] at szw1
  clear A_0_
  have rA3_ := Lib.hid (show (w1).heap[W.heap.size]? = some (.cells #[.slice a1 n1 c1] 53 (0, 0)) from row_held g rA1_.out)
  clear rA1_
  have G4_ := Lib.hid (show (W).grownBy (w1) none from gby_trans G2_.out g)
  clear g
  have A_0_ : (w1).cell? ⟨W.heap.size, 0, none⟩ = some (.slice a1 n1 c1) := cell_of_row _ _ 0 _ _ _ rA3_.out
  have HTM5_ := Lib.hid (gby_refl (w1) none)
  have MG6_ := Lib.hid (show (W).grownBy (w1) none from G4_.out)
  have MR7_ := Lib.hid rA3_.out
  go_wp2
  go_loopw [5, 6, 13] (fun v z i wr => ∃ (n : Nat) (ys : List Int), i = .int .i64 (n : Int) ∧ n ≤ n0 ∧ (∃ q, z = q) ∧ OffIs xs os n ys ∧ wr.ownsRow (w1.heap.size) 3 1 v ys.length (i64s ys) ∧ (w1).grownBy wr none) (fun _ _ i _ => n0 - (intOf i).toNat)
  case atStart => exact ⟨0, [], rfl, by omega, ⟨_, rfl⟩, rfl, World.ownsRow_nil _ _ _ _, HTM5_.out⟩
  case round =>
    clear A_0_
    clear rA3_
    clear HTM5_
    obtain ⟨n, ys, rfl, hn, ⟨z, rfl⟩, hoff, hown, hg⟩ := hrel
    have szr_ := hg.size
    try simp only [World.size_alloc, World.size_setCell] at szr_
    have G8_ := Lib.hid (show (W).grownBy (wr) none from gby_trans MG6_.out hg)
    have rA9_ := Lib.hid (show (wr).heap[W.heap.size]? = some (.cells #[.slice a1 n1 c1] 53 (0, 0)) from row_held hg MR7_.out)
    have HTM10_ := Lib.hid hg
    clear hg
    have A_0_ : (wr).cell? ⟨W.heap.size, 0, none⟩ = some (.slice a1 n1 c1) := cell_of_row _ _ 0 _ _ _ rA9_.out
    have HTR11_ := Lib.hid (gby_refl (wr) none)
    have MG12_ := Lib.hid (show (W).grownBy (wr) none from G8_.out)
    have MR13_ := Lib.hid rA9_.out
    try clear hst_
    have HO := Lib.hid hown
    have HF := Lib.hid hoff
    clear hown hoff
    have hn0 : (0 : Int) ≤ (n : Int) := by omega
    have htn : ((n : Int)).toNat = n := by omega
    by_cases hlt : n < n0
    rotate_left
    · obtain rfl : n = n0 := by omega
      have hki : ¬ (n : Int) < (n : Int) := by omega
      obtain rfl : ys = ys0 := offIs_one HF.out (by rw [HE.out]; exact HOF.out)
      go_wp2
      go_ret
      exact ⟨_, rfl, OwU.one (OwL.wide (owI_out (by have := offIs_len HF.out; omega) (owI_row HO.out)) (by have := gby_size MG6_.out; (try simp only [World.size_alloc] at this); omega) (Nat.le_refl _)), G8_.out⟩
    have hki : (n : Int) < (n0 : Int) := by omega
    by_cases hr : ReachP xs os 0 (n : Int)
    · have HR_ := Lib.hid hr
      clear hr
      go_wp2_with fail
      go_at_call 54
      refine (((implReach _ _ _ xs os 0 (n : Int) (HT.out.grow G8_.out) (HS.out.grow G8_.out) HL.out HLS.out).mono (bpost_yes HR_.out))).mono ?_
      rintro e w2 ⟨rfl, g⟩
      have szw2 := g.size
      try simp only [World.size_alloc] at szw2
      try simp only [World.size_setCell] at szw2
      clear A_0_
      have rA14_ := Lib.hid (show (w2).heap[W.heap.size]? = some (.cells #[.slice a1 n1 c1] 53 (0, 0)) from row_held g rA9_.out)
      clear rA9_
      have G15_ := Lib.hid (show (W).grownBy (w2) none from gby_trans G8_.out g)
      have HTM16_ := Lib.hid (show (w1).grownBy (w2) none from gby_trans HTM10_.out g)
      clear HTM10_
      have HTR17_ := Lib.hid (show (wr).grownBy (w2) none from gby_trans HTR11_.out g)
      clear HTR11_
      clear g
      have A_0_ : (w2).cell? ⟨W.heap.size, 0, none⟩ = some (.slice a1 n1 c1) := cell_of_row _ _ 0 _ _ _ rA14_.out
      go_wp2
      refine ⟨⟨n + 1, ys, by go_num, by omega, ⟨_, rfl⟩, ⟨ys, HF.out, .inl ⟨HR_.out, rfl⟩⟩, HO.out.grown HTR17_.out, HTM16_.out⟩, by simp [intOf]; omega⟩
    · have HR_ := Lib.hid hr
      clear hr
      go_wp2_with fail
      go_at_call 54
      refine (((implReach _ _ _ xs os 0 (n : Int) (HT.out.grow G8_.out) (HS.out.grow G8_.out) HL.out HLS.out).mono (bpost_no HR_.out))).mono ?_
      rintro e w2 ⟨rfl, g⟩
      have szw2 := g.size
      try simp only [World.size_alloc] at szw2
      try simp only [World.size_setCell] at szw2
      clear A_0_
      have rA14_ := Lib.hid (show (w2).heap[W.heap.size]? = some (.cells #[.slice a1 n1 c1] 53 (0, 0)) from row_held g rA9_.out)
      clear rA9_
      have G15_ := Lib.hid (show (W).grownBy (w2) none from gby_trans G8_.out g)
      have HTM16_ := Lib.hid (show (w1).grownBy (w2) none from gby_trans HTM10_.out g)
      clear HTM10_
      have HTR17_ := Lib.hid (show (wr).grownBy (w2) none from gby_trans HTR11_.out g)
      clear HTR11_
      clear g
      have A_0_ : (w2).cell? ⟨W.heap.size, 0, none⟩ = some (.slice a1 n1 c1) := cell_of_row _ _ 0 _ _ _ rA14_.out
      have HO2_ := Lib.hid (HO.out.grown HTR17_.out)
      have hb_ : ys.length ≤ 1000000 := by have := offIs_len HF.out; omega
      obtain ⟨m18, hm18⟩ : ∃ m, m = (ys).length := ⟨_, rfl⟩
      have HO18 := Lib.hid (show (w2).ownsRow (w1.heap.size) 3 1 _ m18 (i64s (ys)) from by rw [hm18]; exact HO2_.out)
      have hb18 : m18 ≤ 1000000 := by rw [hm18]; exact hb_
      have HM18 := Lib.hid hm18
      clear hm18 hb_
      go_wp2_with (at_builtin; refine wpList_append_lies _ (by rfl) _ _ _ (by rfl) (w1.heap.size) 3 i1_ _ 1 8 Try.underlying23 hi1_ hz0_ hz1_ hz2_ rfl (by omega) _ m18 (i64s (ys)) (by rfl) (HO18.out.alloc _) ⟨(w2).heap.size, 0, none⟩ 1 1 _ (by rfl) (by rfl) (World.news_of_block (t := 3) (fr := (0, 0)) (heap_alloc_new (w2) _)) (by simp [Value.oneCell']) (by omega) (by unfold maxLen; omega) (by omega) (by simp; omega) ((w2).heap.size + 1) (by simp) ?_; intro gg18 cap18 wa18 hown_ hgr_ hat_ hlt_; have HP18 := Lib.hid hown_; have HQ18 := Lib.hid hgr_; clear hown_ hgr_ hat_ hlt_)
      refine ⟨⟨n + 1, ys ++ [(n : Int)], by go_num, by omega, ⟨_, rfl⟩, ⟨ys, HF.out, .inr ⟨HR_.out, rfl⟩⟩, ?_, ?_⟩, by simp [intOf]; omega⟩
      · rw [List.length_append, List.length_singleton, ← HM18.out, i64s_append]; exact HP18.out
      · exact gby_new (gby_alloc HTM16_.out _) HQ18.out (fun b hb => by have := own_from HO18.out b hb; have := gby_size MG6_.out; (try simp only [World.size_alloc] at *); omega)

theorem implCut_any (W : World) (v u : Value) (xs : List DNode) (os : List Bool) (H : RdL shNode W v xs) (Hs : RdL shB W u os) (hl : szL shNode xs ≤ 1048576) (hls : szL shB os ≤ 1048576) (ys0 : List Int) (h : CutIs xs os ys0) : Calls Try.prog 41 #[v, vGuard u] W (ResICutOff ys0 W) := by
  rcases h with ⟨h1, h2⟩ | ⟨h1, rfl⟩
  · exact implCut_yes W v u xs os H Hs hl hls h1 ys0 h2
  · exact implCut_no W v u xs os H Hs hl hls h1

theorem cutIs_ex (xs : List DNode) (os : List Bool) : ∃ ys, CutIs xs os ys ∧ ys.length ≤ 12 := by
  by_cases h : GuardP xs os
  · obtain ⟨ys, hy⟩ := offIs_ex xs os xs.length
    exact ⟨ys, .inl ⟨h, hy⟩, Nat.le_trans (offIs_len hy) h.1.1.2⟩
  · exact ⟨[], .inr ⟨h, rfl⟩, by simp⟩
theorem cutOff_both (xs0 : List DNode) (xs1_0 : List Bool) (h0 : szL shNode xs0 ≤ 1048576) (h1 : szL shB xs1_0 ≤ 1048576) : ∃ xsr0 : List Int, szL shI xsr0 ≤ 1048576 ∧ (∀ (W : World), ∀ u0 u1_0, RdL shNode W u0 xs0 → RdL shB W u1_0 xs1_0 → Calls Try.prog 39 #[u0, .agg #[u1_0]] W (ResSCutOff xsr0 W)) ∧ ∀ (W : World), ∀ u0 u1_0, RdL shNode W u0 xs0 → RdL shB W u1_0 xs1_0 → Calls Try.prog 41 #[u0, .agg #[u1_0]] W (ResICutOff xsr0 W) := by
  obtain ⟨ys, hy, hl⟩ := cutIs_ex xs0 xs1_0
  exact ⟨ys, by rw [szL_I]; omega, fun W u0 u1 H0 H1 => (specCut_any W u0 u1 _ _ H0 H1 h0 h1 ys hy).mono (fun e w q => resS_ofCutOff e w q), fun W u0 u1 H0 H1 => implCut_any W u0 u1 _ _ H0 H1 h0 h1 ys hy⟩

end Go.Proofs.Ytodfbodagjmfmac
