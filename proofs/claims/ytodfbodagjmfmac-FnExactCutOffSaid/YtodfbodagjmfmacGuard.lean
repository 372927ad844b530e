/-
  Guards on both sides: valid or not.
-/
import Derived.Test.YtodfbodagjmfmacBPost
import Derived.Test.YtodfbodagjmfmacQGuard
import Derived.Test.YtodfbodagjmfmacRGuardOk
namespace Go.Proofs.Ytodfbodagjmfmac
open Go Go.RowKit
set_option linter.unusedVariables false

/-- a valid guard of a valid tree -/
def GuardP (xs : List DNode) (os : List Bool) : Prop := TOk xs ∧ os.length = xs.length ∧ os.getD 0 false = true

set_option maxRecDepth 8000 in
set_option maxHeartbeats 2000000 in
theorem specGuard (W : World) (v u : Value) (xs : List DNode) (os : List Bool) (H : RdL shNode W v xs) (Hs : RdL shB W u os) (hl : szL shNode xs ≤ 1048576) (hls : szL shB os ≤ 1048576) : Calls Try.prog 89 #[v, vGuard u] W (BPost (GuardP xs os) W) := by
  have HT := Lib.hid H
  have HL := Lib.hid hl
  rw [szL_B] at hls
  have hlx : xs.length ≤ 1048576 := by have := szL_len shNode xs; omega
  obtain ⟨a0, n0, c0, rfl⟩ := RdL.form H
  have hn0 : n0 = xs.length := by obtain ⟨_, _, e, _⟩ := H; injection e
  obtain ⟨a1, cap1, rfl, hcap1, hi1⟩ := rdB_in Hs
  have HA1 := Lib.hid hi1
  have HE := Lib.hid hn0
  obtain ⟨len1, hlen1⟩ : ∃ len, len = os.length := ⟨_, rfl⟩
  have HE1 := Lib.hid hlen1
  unfold RdB at HA1
  rw [← hlen1] at hls HA1 ⊢
  clear H Hs hi1 hn0 hlen1 hl hcap1
  unfold vGuard
  by_cases ht : TOk xs
  rotate_left
  · have HNT := Lib.hid ht
    clear ht
    go_enter Try.func89, Try.ntmps89
    have rA1_ := Lib.hid (show ((W.alloc (.cells #[.slice a1 len1 cap1] 53))).heap[W.heap.size]? = some (.cells #[.slice a1 len1 cap1] 53 (0, 0)) from by exact heap_alloc_new _ _)
    have G2_ := Lib.hid (show (W).grownBy ((W.alloc (.cells #[.slice a1 len1 cap1] 53))) none from (gby_alloc (gby_refl _ _) _))
    have A_0_ : ((W.alloc (.cells #[.slice a1 len1 cap1] 53))).cell? ⟨W.heap.size, 0, none⟩ = some (.slice a1 len1 cap1) := cell_of_row _ _ 0 _ _ _ rA1_.out
    go_wp2_with fail
    go_at_call 106
    refine (specTree_no _ _ xs (HT.out.grow G2_.out) HL.out HNT.out).mono ?_
    rintro e w1 ⟨rfl, g⟩
    have szw1 := g.size
    try simp only [World.size_alloc] at szw1
    try simp only [World.size_setCell] at szw1
    clear A_0_
    have rA3_ := Lib.hid (show (w1).heap[W.heap.size]? = some (.cells #[.slice a1 len1 cap1] 53 (0, 0)) from row_held g rA1_.out)
    clear rA1_
    have G4_ := Lib.hid (show (W).grownBy (w1) none from gby_trans G2_.out g)
    clear g
    have A_0_ : (w1).cell? ⟨W.heap.size, 0, none⟩ = some (.slice a1 len1 cap1) := cell_of_row _ _ 0 _ _ _ rA3_.out
    go_wp2
    go_ret
    exact ⟨false, rfl, iff_no (fun q => HNT.out q.1), G4_.out⟩
  have HYT := Lib.hid ht
  have l1 := ht.1.1
  clear ht
  by_cases hll : len1 = n0
  rotate_left
  · have hbb : ((len1 : Int) == (n0 : Int)) = false := by simp; omega
    have HNL := Lib.hid hll
    clear hll
    go_enter Try.func89, Try.ntmps89
    have rA1_ := Lib.hid (show ((W.alloc (.cells #[.slice a1 len1 cap1] 53))).heap[W.heap.size]? = some (.cells #[.slice a1 len1 cap1] 53 (0, 0)) from by exact heap_alloc_new _ _)
    have G2_ := Lib.hid (show (W).grownBy ((W.alloc (.cells #[.slice a1 len1 cap1] 53))) none from (gby_alloc (gby_refl _ _) _))
    have A_0_ : ((W.alloc (.cells #[.slice a1 len1 cap1] 53))).cell? ⟨W.heap.size, 0, none⟩ = some (.slice a1 len1 cap1) := cell_of_row _ _ 0 _ _ _ rA1_.out
    go_wp2_with fail
    go_at_call 106
    refine (specTree_yes _ _ xs (HT.out.grow G2_.out) HL.out HYT.out).mono ?_
    rintro e w1 ⟨rfl, g⟩
    have szw1 := g.size
    try simp only [World.size_alloc] at szw1
    try simp only [World.size_setCell] at szw1
    clear A_0_
    have rA3_ := Lib.hid (show (w1).heap[W.heap.size]? = some (.cells #[.slice a1 len1 cap1] 53 (0, 0)) from row_held g rA1_.out)
    clear rA1_
    have G4_ := Lib.hid (show (W).grownBy (w1) none from gby_trans G2_.out g)
    clear g
    have A_0_ : (w1).cell? ⟨W.heap.size, 0, none⟩ = some (.slice a1 len1 cap1) := cell_of_row _ _ 0 _ _ _ rA3_.out
    go_wp2
    go_ret
    exact ⟨false, rfl, iff_no (fun q => HNL.out (HE1.out.trans (q.2.1.trans HE.out.symm))), G4_.out⟩
  subst hll
  have hl0 : 0 < len1 := by have := HE.out; omega
  have hli : (0 : Int) < (len1 : Int) := by omega
  have hbb : ((len1 : Int) == (len1 : Int)) = true := by simp
  obtain ⟨b1, off1, rfl, hcell1⟩ := HA1.out.resolve_left (by omega)
  have HC0 : Hid (W.cell? ⟨b1, off1, none⟩ = some (.bool (os.getD 0 false))) := Lib.hid (by have := hcell1 0 (by have := HE1.out; omega); simpa using this)
  obtain ⟨x, hx⟩ : ∃ x, x = os.getD 0 false := ⟨_, rfl⟩
  rw [← hx] at HC0
  have HX := Lib.hid hx
  clear hx hcell1
  cases x
  · go_enter Try.func89, Try.ntmps89
    have rA1_ := Lib.hid (show ((W.alloc (.cells #[.slice (some ⟨b1, off1, none⟩) len1 cap1] 53))).heap[W.heap.size]? = some (.cells #[.slice (some ⟨b1, off1, none⟩) len1 cap1] 53 (0, 0)) from by exact heap_alloc_new _ _)
    have G2_ := Lib.hid (show (W).grownBy ((W.alloc (.cells #[.slice (some ⟨b1, off1, none⟩) len1 cap1] 53))) none from (gby_alloc (gby_refl _ _) _))
    have A_0_ : ((W.alloc (.cells #[.slice (some ⟨b1, off1, none⟩) len1 cap1] 53))).cell? ⟨W.heap.size, 0, none⟩ = some (.slice (some ⟨b1, off1, none⟩) len1 cap1) := cell_of_row _ _ 0 _ _ _ rA1_.out
    have x_ := (G2_.out).cell HC0.out (by simp)
    go_wp2_with fail
    go_at_call 106
    refine (specTree_yes _ _ xs (HT.out.grow G2_.out) HL.out HYT.out).mono ?_
    rintro e w1 ⟨rfl, g⟩
    have szw1 := g.size
    try simp only [World.size_alloc] at szw1
    try simp only [World.size_setCell] at szw1
    clear A_0_ x_
    have rA3_ := Lib.hid (show (w1).heap[W.heap.size]? = some (.cells #[.slice (some ⟨b1, off1, none⟩) len1 cap1] 53 (0, 0)) from row_held g rA1_.out)
    clear rA1_
    have G4_ := Lib.hid (show (W).grownBy (w1) none from gby_trans G2_.out g)
    clear g
    have A_0_ : (w1).cell? ⟨W.heap.size, 0, none⟩ = some (.slice (some ⟨b1, off1, none⟩) len1 cap1) := cell_of_row _ _ 0 _ _ _ rA3_.out
    have x_ := (G4_.out).cell HC0.out (by simp)
    go_wp2
    go_ret
    exact ⟨false, rfl, iff_no (fun q => by have := HX.out.trans q.2.2; cases this), G4_.out⟩
  · go_enter Try.func89, Try.ntmps89
    have rA1_ := Lib.hid (show ((W.alloc (.cells #[.slice (some ⟨b1, off1, none⟩) len1 cap1] 53))).heap[W.heap.size]? = some (.cells #[.slice (some ⟨b1, off1, none⟩) len1 cap1] 53 (0, 0)) from by exact heap_alloc_new _ _)
    have G2_ := Lib.hid (show (W).grownBy ((W.alloc (.cells #[.slice (some ⟨b1, off1, none⟩) len1 cap1] 53))) none from (gby_alloc (gby_refl _ _) _))
    have A_0_ : ((W.alloc (.cells #[.slice (some ⟨b1, off1, none⟩) len1 cap1] 53))).cell? ⟨W.heap.size, 0, none⟩ = some (.slice (some ⟨b1, off1, none⟩) len1 cap1) := cell_of_row _ _ 0 _ _ _ rA1_.out
    have x_ := (G2_.out).cell HC0.out (by simp)
    go_wp2_with fail
    go_at_call 106
    refine (specTree_yes _ _ xs (HT.out.grow G2_.out) HL.out HYT.out).mono ?_
    rintro e w1 ⟨rfl, g⟩
    have szw1 := g.size
    try simp only [World.size_alloc] at szw1
    try simp only [World.size_setCell] at szw1
    clear A_0_ x_
    have rA3_ := Lib.hid (show (w1).heap[W.heap.size]? = some (.cells #[.slice (some ⟨b1, off1, none⟩) len1 cap1] 53 (0, 0)) from row_held g rA1_.out)
    clear rA1_
    have G4_ := Lib.hid (show (W).grownBy (w1) none from gby_trans G2_.out g)
    clear g
    have A_0_ : (w1).cell? ⟨W.heap.size, 0, none⟩ = some (.slice (some ⟨b1, off1, none⟩) len1 cap1) := cell_of_row _ _ 0 _ _ _ rA3_.out
    have x_ := (G4_.out).cell HC0.out (by simp)
    go_wp2
    go_ret
    exact ⟨true, rfl, iff_yes ⟨HYT.out, HE1.out.symm.trans HE.out, HX.out.symm⟩, G4_.out⟩

set_option maxRecDepth 8000 in
set_option maxHeartbeats 2000000 in
theorem implGuard (W : World) (v u : Value) (xs : List DNode) (os : List Bool) (H : RdL shNode W v xs) (Hs : RdL shB W u os) (hl : szL shNode xs ≤ 1048576) (hls : szL shB os ≤ 1048576) : Calls Try.prog 58 #[v, vGuard u] W (BPost (GuardP xs os) W) := by
  have HT := Lib.hid H
  have HL := Lib.hid hl
  rw [szL_B] at hls
  have hlx : xs.length ≤ 1048576 := by have := szL_len shNode xs; omega
  obtain ⟨a0, n0, c0, rfl⟩ := RdL.form H
  have hn0 : n0 = xs.length := by obtain ⟨_, _, e, _⟩ := H; injection e
  obtain ⟨a1, cap1, rfl, hcap1, hi1⟩ := rdB_in Hs
  have HA1 := Lib.hid hi1
  have HE := Lib.hid hn0
  obtain ⟨len1, hlen1⟩ : ∃ len, len = os.length := ⟨_, rfl⟩
  have HE1 := Lib.hid hlen1
  unfold RdB at HA1
  rw [← hlen1] at hls HA1 ⊢
  clear H Hs hi1 hn0 hlen1 hl hcap1
  unfold vGuard
  by_cases ht : TOk xs
  rotate_left
  · have HNT := Lib.hid ht
    clear ht
    go_enter Try.func58, Try.ntmps58
    have rA1_ := Lib.hid (show ((W.alloc (.cells #[.slice a1 len1 cap1] 53))).heap[W.heap.size]? = some (.cells #[.slice a1 len1 cap1] 53 (0, 0)) from by exact heap_alloc_new _ _)
    have G2_ := Lib.hid (show (W).grownBy ((W.alloc (.cells #[.slice a1 len1 cap1] 53))) none from (gby_alloc (gby_refl _ _) _))
    have A_0_ : ((W.alloc (.cells #[.slice a1 len1 cap1] 53))).cell? ⟨W.heap.size, 0, none⟩ = some (.slice a1 len1 cap1) := cell_of_row _ _ 0 _ _ _ rA1_.out
    go_wp2_with fail
    go_at_call 105
    refine (implTree_no _ _ xs (HT.out.grow G2_.out) HL.out HNT.out).mono ?_
    rintro e w1 ⟨rfl, g⟩
    have szw1 := g.size
    try simp only [World.size_alloc] at szw1
    try simp only [World.size_setCell] at szw1
    clear A_0_
    have rA3_ := Lib.hid (show (w1).heap[W.heap.size]? = some (.cells #[.slice a1 len1 cap1] 53 (0, 0)) from row_held g rA1_.out)
    clear rA1_
    have G4_ := Lib.hid (show (W).grownBy (w1) none from gby_trans G2_.out g)
    clear g
    have A_0_ : (w1).cell? ⟨W.heap.size, 0, none⟩ = some (.slice a1 len1 cap1) := cell_of_row _ _ 0 _ _ _ rA3_.out
    go_wp2
    go_ret
    exact ⟨false, rfl, iff_no (fun q => HNT.out q.1), G4_.out⟩
  have HYT := Lib.hid ht
  have l1 := ht.1.1
  clear ht
  by_cases hll : len1 = n0
  rotate_left
  · have hbb : ((len1 : Int) == (n0 : Int)) = false := by simp; omega
    have HNL := Lib.hid hll
    clear hll
    go_enter Try.func58, Try.ntmps58
    have rA1_ := Lib.hid (show ((W.alloc (.cells #[.slice a1 len1 cap1] 53))).heap[W.heap.size]? = some (.cells #[.slice a1 len1 cap1] 53 (0, 0)) from by exact heap_alloc_new _ _)
    have G2_ := Lib.hid (show (W).grownBy ((W.alloc (.cells #[.slice a1 len1 cap1] 53))) none from (gby_alloc (gby_refl _ _) _))
    have A_0_ : ((W.alloc (.cells #[.slice a1 len1 cap1] 53))).cell? ⟨W.heap.size, 0, none⟩ = some (.slice a1 len1 cap1) := cell_of_row _ _ 0 _ _ _ rA1_.out
    go_wp2_with fail
    go_at_call 105
    refine (implTree_yes _ _ xs (HT.out.grow G2_.out) HL.out HYT.out).mono ?_
    rintro e w1 ⟨rfl, g⟩
    have szw1 := g.size
    try simp only [World.size_alloc] at szw1
    try simp only [World.size_setCell] at szw1
    clear A_0_
    have rA3_ := Lib.hid (show (w1).heap[W.heap.size]? = some (.cells #[.slice a1 len1 cap1] 53 (0, 0)) from row_held g rA1_.out)
    clear rA1_
    have G4_ := Lib.hid (show (W).grownBy (w1) none from gby_trans G2_.out g)
    clear g
    have A_0_ : (w1).cell? ⟨W.heap.size, 0, none⟩ = some (.slice a1 len1 cap1) := cell_of_row _ _ 0 _ _ _ rA3_.out
    go_wp2
    go_ret
    exact ⟨false, rfl, iff_no (fun q => HNL.out (HE1.out.trans (q.2.1.trans HE.out.symm))), G4_.out⟩
  subst hll
  have hl0 : 0 < len1 := by have := HE.out; omega
  have hli : (0 : Int) < (len1 : Int) := by omega
  have hbb : ((len1 : Int) == (len1 : Int)) = true := by simp
  obtain ⟨b1, off1, rfl, hcell1⟩ := HA1.out.resolve_left (by omega)
  have HC0 : Hid (W.cell? ⟨b1, off1, none⟩ = some (.bool (os.getD 0 false))) := Lib.hid (by have := hcell1 0 (by have := HE1.out; omega); simpa using this)
  obtain ⟨x, hx⟩ : ∃ x, x = os.getD 0 false := ⟨_, rfl⟩
  rw [← hx] at HC0
  have HX := Lib.hid hx
  clear hx hcell1
  cases x
  · go_enter Try.func58, Try.ntmps58
    have rA1_ := Lib.hid (show ((W.alloc (.cells #[.slice (some ⟨b1, off1, none⟩) len1 cap1] 53))).heap[W.heap.size]? = some (.cells #[.slice (some ⟨b1, off1, none⟩) len1 cap1] 53 (0, 0)) from by exact heap_alloc_new _ _)
    have G2_ := Lib.hid (show (W).grownBy ((W.alloc (.cells #[.slice (some ⟨b1, off1, none⟩) len1 cap1] 53))) none from (gby_alloc (gby_refl _ _) _))
    have A_0_ : ((W.alloc (.cells #[.slice (some ⟨b1, off1, none⟩) len1 cap1] 53))).cell? ⟨W.heap.size, 0, none⟩ = some (.slice (some ⟨b1, off1, none⟩) len1 cap1) := cell_of_row _ _ 0 _ _ _ rA1_.out
    have x_ := (G2_.out).cell HC0.out (by simp)
    go_wp2_with fail
    go_at_call 105
    refine (implTree_yes _ _ xs (HT.out.grow G2_.out) HL.out HYT.out).mono ?_
    rintro e w1 ⟨rfl, g⟩
    have szw1 := g.size
    try simp only [World.size_alloc] at szw1
    try simp only [World.size_setCell] at szw1
    clear A_0_ x_
    have rA3_ := Lib.hid (show (w1).heap[W.heap.size]? = some (.cells #[.slice (some ⟨b1, off1, none⟩) len1 cap1] 53 (0, 0)) from row_held g rA1_.out)
    clear rA1_
    have G4_ := Lib.hid (show (W).grownBy (w1) none from gby_trans G2_.out g)
    clear g
    have A_0_ : (w1).cell? ⟨W.heap.size, 0, none⟩ = some (.slice (some ⟨b1, off1, none⟩) len1 cap1) := cell_of_row _ _ 0 _ _ _ rA3_.out
    have x_ := (G4_.out).cell HC0.out (by simp)
    go_wp2
    go_ret
    exact ⟨false, rfl, iff_no (fun q => by have := HX.out.trans q.2.2; cases this), G4_.out⟩
  · go_enter Try.func58, Try.ntmps58
    have rA1_ := Lib.hid (show ((W.alloc (.cells #[.slice (some ⟨b1, off1, none⟩) len1 cap1] 53))).heap[W.heap.size]? = some (.cells #[.slice (some ⟨b1, off1, none⟩) len1 cap1] 53 (0, 0)) from by exact heap_alloc_new _ _)
    have G2_ := Lib.hid (show (W).grownBy ((W.alloc (.cells #[.slice (some ⟨b1, off1, none⟩) len1 cap1] 53))) none from (gby_alloc (gby_refl _ _) _))
    have A_0_ : ((W.alloc (.cells #[.slice (some ⟨b1, off1, none⟩) len1 cap1] 53))).cell? ⟨W.heap.size, 0, none⟩ = some (.slice (some ⟨b1, off1, none⟩) len1 cap1) := cell_of_row _ _ 0 _ _ _ rA1_.out
    have x_ := (G2_.out).cell HC0.out (by simp)
    go_wp2_with fail
    go_at_call 105
    refine (implTree_yes _ _ xs (HT.out.grow G2_.out) HL.out HYT.out).mono ?_
    rintro e w1 ⟨rfl, g⟩
    have szw1 := g.size
    try simp only [World.size_alloc] at szw1
    try simp only [World.size_setCell] at szw1
    clear A_0_ x_
    have rA3_ := Lib.hid (show (w1).heap[W.heap.size]? = some (.cells #[.slice (some ⟨b1, off1, none⟩) len1 cap1] 53 (0, 0)) from row_held g rA1_.out)
    clear rA1_
    have G4_ := Lib.hid (show (W).grownBy (w1) none from gby_trans G2_.out g)
    clear g
    have A_0_ : (w1).cell? ⟨W.heap.size, 0, none⟩ = some (.slice (some ⟨b1, off1, none⟩) len1 cap1) := cell_of_row _ _ 0 _ _ _ rA3_.out
    have x_ := (G4_.out).cell HC0.out (by simp)
    go_wp2
    go_ret
    exact ⟨true, rfl, iff_yes ⟨HYT.out, HE1.out.symm.trans HE.out, HX.out.symm⟩, G4_.out⟩

theorem guardOk_both (xs0 : List DNode) (xs1_0 : List Bool) (h0 : szL shNode xs0 ≤ 1048576) (h1 : szL shB xs1_0 ≤ 1048576) : ∃ br0 : Bool, (∀ (W : World), ∀ u0 u1_0, RdL shNode W u0 xs0 → RdL shB W u1_0 xs1_0 → Calls Try.prog 89 #[u0, .agg #[u1_0]] W (ResSGuardOk br0 W)) ∧ ∀ (W : World), ∀ u0 u1_0, RdL shNode W u0 xs0 → RdL shB W u1_0 xs1_0 → Calls Try.prog 58 #[u0, .agg #[u1_0]] W (ResIGuardOk br0 W) := by
  by_cases h : GuardP xs0 xs1_0
  · exact ⟨true, fun W u0 u1 H0 H1 => (specGuard W u0 u1 _ _ H0 H1 h0 h1).mono (bpost_yes h), fun W u0 u1 H0 H1 => (implGuard W u0 u1 _ _ H0 H1 h0 h1).mono (bpost_yes h)⟩
  · exact ⟨false, fun W u0 u1 H0 H1 => (specGuard W u0 u1 _ _ H0 H1 h0 h1).mono (bpost_no h), fun W u0 u1 H0 H1 => (implGuard W u0 u1 _ _ H0 H1 h0 h1).mono (bpost_no h)⟩

end Go.Proofs.Ytodfbodagjmfmac
