/-
  A node cut off or opened, on both sides.
-/
import Derived.Test.YtjkjodcgpdhldacGuard
import Derived.Test.YtjkjodcgpdhldacSetB
import Derived.Test.YtjkjodcgpdhldacCloneB
import Derived.Test.YtjkjodcgpdhldacRCutNode
import Derived.Test.YtjkjodcgpdhldacROpenNode
namespace Go.Proofs.Ytjkjodcgpdhldac
open Go Go.RowKit
set_option linter.unusedVariables false

theorem gowU_out {α : Type} [Inhabited α] {s : Shp α} {w : World} {lo hi : Nat} {v : Value} {xs : List α} (h : OwU w lo hi [] [own s v xs]) : OwL s w lo hi v xs := by
  obtain ⟨a, b, h1, h2, _, h, _⟩ := h
  exact OwL.wide h h1 h2
/-- a guard, and a truth value -/
def GSet (os : List Bool) (b : Bool) (W : World) (e : Ending) (w' : World) : Prop := ∃ v, e = .returned (.tuple #[.agg #[v], .bool b]) ∧ OwU w' W.heap.size w'.heap.size [] [own shB v os] ∧ W.grownBy w' none

set_option maxHeartbeats 1000000 in
theorem copiedGuard_d (W : World) (u : Value) (os : List Bool) (H : RdL shB W u os) (hl : szL shB os ≤ 1048576) : Calls Try.prog 85 #[.agg #[u]] W (NewGuard os W) := by
  have HX := Lib.hid H
  clear H
  go_enter Try.func85, Try.ntmps85
  have rA1_ := Lib.hid (show (((W.alloc (.cells #[u] 46)).alloc (.cells #[.slice none 0 0] 46))).heap[W.heap.size]? = some (.cells #[u] 46 (0, 0)) from by rw [heap_alloc_old _ _ (by simp only [World.size_alloc]; omega)]; exact heap_alloc_new _ _)
  have rR2_ := Lib.hid (show (((W.alloc (.cells #[u] 46)).alloc (.cells #[.slice none 0 0] 46))).heap[W.heap.size + 1]? = some (.cells #[.slice none 0 0] 46 (0, 0)) from by exact heap_pair _ _ _)
  have G3_ := Lib.hid (show (W).grownBy (((W.alloc (.cells #[u] 46)).alloc (.cells #[.slice none 0 0] 46))) none from (gby_alloc (gby_alloc (gby_refl _ _) _) _))
  have A_0_ : (((W.alloc (.cells #[u] 46)).alloc (.cells #[.slice none 0 0] 46))).cell? ⟨W.heap.size, 0, none⟩ = some (u) := cell_of_row _ _ 0 _ _ _ rA1_.out
  have R_0_ : (((W.alloc (.cells #[u] 46)).alloc (.cells #[.slice none 0 0] 46))).cell? ⟨W.heap.size + 1, 0, none⟩ = some (.slice none 0 0) := cell_of_row _ _ 0 _ _ _ rR2_.out
  go_wp2_with fail
  go_at_call 90
  refine (cloneB_d _ u os (HX.out.grow G3_.out) hl).mono ?_
  rintro e w1 ⟨v2, rfl, o1, g⟩
  have sz_ := g.size
  try simp only [World.size_alloc] at sz_ o1
  obtain ⟨p, n2, c2, hv⟩ := RdL.form o1.rd
  subst hv
  have O1 := Lib.hid o1
  clear o1
  clear A_0_ R_0_
  have rA4_ := Lib.hid (show (w1).heap[W.heap.size]? = some (.cells #[u] 46 (0, 0)) from row_held g rA1_.out)
  clear rA1_
  have rR5_ := Lib.hid (show (w1).heap[W.heap.size + 1]? = some (.cells #[.slice none 0 0] 46 (0, 0)) from row_held g rR2_.out)
  clear rR2_
  have G6_ := Lib.hid (show (W).grownBy (w1) none from gby_trans G3_.out g)
  clear g
  have A_0_ : (w1).cell? ⟨W.heap.size, 0, none⟩ = some (u) := cell_of_row _ _ 0 _ _ _ rA4_.out
  have R_0_ : (w1).cell? ⟨W.heap.size + 1, 0, none⟩ = some (.slice none 0 0) := cell_of_row _ _ 0 _ _ _ rR5_.out
  have Rf0_ : (w1).frozen? ⟨W.heap.size + 1, 0, none⟩ = false := frozen_of_row _ _ 0 _ _ rR5_.out
  have z0_ : (w1.setCell ⟨W.heap.size + 1, 0, none⟩ (.slice p n2 c2)).cell? ⟨W.heap.size + 1, 0, none⟩ = some (.slice p n2 c2) := cell_of_row _ _ 0 _ _ _ (heap_setCell_same _ _ 0 _ _ _ rR5_.out)
  go_wp2
  refine bodyPost_ret (v := .agg #[.slice p n2 c2]) (by simp [results, go_sem, z0_]) rfl ⟨_, rfl, ?_, ?_⟩
  · exact OwU.one (OwL.wide (OwL.keep O1.out (chg_one _ _ _ _) (.inr (by omega))) (by omega) (by simp))
  · exact gby_setnew G6_.out _ (by dsimp only; omega) _

set_option maxRecDepth 8000 in
set_option maxHeartbeats 2000000 in
theorem specGSet_bad (W : World) (v u : Value) (xs : List DNode) (os : List Bool) (k : Int) (o : Bool) (H : RdL shNode W v xs) (Hs : RdL shB W u os) (hl : szL shNode xs ≤ 1048576) (hls : szL shB os ≤ 1048576) (hp : ¬ GuardP xs os) : Calls Try.prog 70 #[v, vGuard u, .int .i64 k, .bool o] W (GSet os false W) := by
  have HP_ := Lib.hid hp
  clear hp
  have HT := Lib.hid H
  have HSB := Lib.hid Hs
  have HL := Lib.hid hl
  have HLS := Lib.hid hls
  have HMX := Lib.hid Hs.max
  rw [szL_B] at hls
  have hlx : xs.length ≤ 1048576 := by have := szL_len shNode xs; omega
  obtain ⟨a0, n0, c0, rfl⟩ := RdL.form H
  have hn0 : n0 = xs.length := by obtain ⟨_, _, e, _⟩ := H; injection e
  obtain ⟨a1, cap1, rfl, hcap1, hi1⟩ := rdB_in Hs
  have HA1 := Lib.hid hi1
  have HE := Lib.hid hn0
  obtain ⟨len1, hlen1⟩ : ∃ len, len = os.length := ⟨_, rfl⟩
  have HE1 := Lib.hid hlen1
  unfold RdB at HA1
  rw [← hlen1] at hls HA1 HSB ⊢
  have hn0b : n0 ≤ 1048576 := by omega
  clear H Hs hi1 hn0 hlen1 hl hcap1
  have hlb : len1 ≤ 1048576 := by omega
  unfold vGuard
  go_enter Try.func70, Try.ntmps70
  have rA1_ := Lib.hid (show (((W.alloc (.cells #[.slice a1 len1 cap1] 46)).alloc (.cells #[.slice none 0 0] 46))).heap[W.heap.size]? = some (.cells #[.slice a1 len1 cap1] 46 (0, 0)) from by rw [heap_alloc_old _ _ (by simp only [World.size_alloc]; omega)]; exact heap_alloc_new _ _)
  have rR2_ := Lib.hid (show (((W.alloc (.cells #[.slice a1 len1 cap1] 46)).alloc (.cells #[.slice none 0 0] 46))).heap[W.heap.size + 1]? = some (.cells #[.slice none 0 0] 46 (0, 0)) from by exact heap_pair _ _ _)
  have G3_ := Lib.hid (show (W).grownBy (((W.alloc (.cells #[.slice a1 len1 cap1] 46)).alloc (.cells #[.slice none 0 0] 46))) none from (gby_alloc (gby_alloc (gby_refl _ _) _) _))
  have A_0_ : (((W.alloc (.cells #[.slice a1 len1 cap1] 46)).alloc (.cells #[.slice none 0 0] 46))).cell? ⟨W.heap.size, 0, none⟩ = some (.slice a1 len1 cap1) := cell_of_row _ _ 0 _ _ _ rA1_.out
  have R_0_ : (((W.alloc (.cells #[.slice a1 len1 cap1] 46)).alloc (.cells #[.slice none 0 0] 46))).cell? ⟨W.heap.size + 1, 0, none⟩ = some (.slice none 0 0) := cell_of_row _ _ 0 _ _ _ rR2_.out
  go_wp2_with (at_builtin; refine wpList_append_plain plainB slTB _ rfl _ _ rfl (W.heap.size + 1 + 1) _ 0 [] rfl (own_emptyP (heap_trip _ _ _ _) (Nat.le_refl _)) a1 len1 cap1 (os) rfl (HSB.out.grow (gby_alloc G3_.out _)) (by omega) (by simp) ?_; intro v2_ wc4 hown2 hg2; have HO4 := Lib.hid hown2; have HG4 := Lib.hid (gby_new (gby_alloc (gby_refl (((W.alloc (.cells #[.slice a1 len1 cap1] 46)).alloc (.cells #[.slice none 0 0] 46))) none) _) hg2 (fun i hi => by obtain rfl := Option.some.inj (show some (W.heap.size + 1 + 1) = some i from hi); simp)); clear hown2 hg2; have o_ := owP_row (s := shB) _ plainB.len plainB.ow HMX.out (show wc4.ownsRow (W.heap.size + 1 + 1) 4 1 v2_ (os).length ((os).flatMap (fun x => [.bool x])) by have q := HO4.out; rw [Nat.zero_add, List.nil_append] at q; rw [← HE1.out]; exact q); obtain ⟨qp, qn, qc, hv_⟩ := RdL.form o_.rd; subst hv_; have qo := Lib.hid o_; clear o_; have hswc4 := HG4.out.size; (try simp only [World.size_alloc] at hswc4); (try simp only [World.size_setCell] at hswc4); have ax_ : (wc4.alloc (.cells #[.slice qp qn qc] 46)).cell? ⟨W.heap.size, 0, none⟩ = some (.slice a1 len1 cap1) := (gby_alloc (gby_refl wc4 none) _).cell (cell_of_row _ _ 0 _ _ _ (row_held HG4.out rA1_.out)) (by simp))
  clear A_0_ R_0_
  have rA5_ := Lib.hid (show (wc4).heap[W.heap.size]? = some (.cells #[.slice a1 len1 cap1] 46 (0, 0)) from row_held HG4.out rA1_.out)
  clear rA1_
  have rR6_ := Lib.hid (show (wc4).heap[W.heap.size + 1]? = some (.cells #[.slice none 0 0] 46 (0, 0)) from row_held HG4.out rR2_.out)
  clear rR2_
  have G7_ := Lib.hid (show (W).grownBy (wc4) none from gby_trans G3_.out HG4.out)
  have A_0_ : (wc4).cell? ⟨W.heap.size, 0, none⟩ = some (.slice a1 len1 cap1) := cell_of_row _ _ 0 _ _ _ rA5_.out
  have R_0_ : (wc4).cell? ⟨W.heap.size + 1, 0, none⟩ = some (.slice none 0 0) := cell_of_row _ _ 0 _ _ _ rR6_.out
  try clear ax_
  obtain rfl : len1 = qn := by have := (rdP_cells plainB qo.out.rd).1; have := HE1.out; omega
  clear A_0_ R_0_
  have al_ : (wc4).grownBy ((wc4).alloc (.cells #[.slice qp len1 qc] 46)) none := gby_alloc (gby_refl _ _) _
  have rA8_ := Lib.hid (show ((wc4.alloc (.cells #[.slice qp len1 qc] 46))).heap[W.heap.size]? = some (.cells #[.slice a1 len1 cap1] 46 (0, 0)) from row_held al_ rA5_.out)
  clear rA5_
  have rR9_ := Lib.hid (show ((wc4.alloc (.cells #[.slice qp len1 qc] 46))).heap[W.heap.size + 1]? = some (.cells #[.slice none 0 0] 46 (0, 0)) from row_held al_ rR6_.out)
  clear rR6_
  have G10_ := Lib.hid (show (W).grownBy ((wc4.alloc (.cells #[.slice qp len1 qc] 46))) none from gby_trans G7_.out al_)
  have rX11_ := Lib.hid (show ((wc4.alloc (.cells #[.slice qp len1 qc] 46))).heap[wc4.heap.size]? = some (.cells #[.slice qp len1 qc] 46 (0, 0)) from by first | exact heap_alloc_new _ _ | exact heap_pair _ _ _ | exact heap_trip _ _ _ _)
  clear al_
  have A_0_ : ((wc4.alloc (.cells #[.slice qp len1 qc] 46))).cell? ⟨W.heap.size, 0, none⟩ = some (.slice a1 len1 cap1) := cell_of_row _ _ 0 _ _ _ rA8_.out
  have R_0_ : ((wc4.alloc (.cells #[.slice qp len1 qc] 46))).cell? ⟨W.heap.size + 1, 0, none⟩ = some (.slice none 0 0) := cell_of_row _ _ 0 _ _ _ rR9_.out
  have X_0_ : ((wc4.alloc (.cells #[.slice qp len1 qc] 46))).cell? ⟨wc4.heap.size, 0, none⟩ = some (.slice qp len1 qc) := cell_of_row _ _ 0 _ _ _ rX11_.out
  go_wp2_with fail
  go_at_call 36
  refine (((specGuard _ _ _ xs os (HT.out.grow G10_.out) (HSB.out.grow G10_.out) HL.out HLS.out).mono (bpost_no HP_.out))).mono ?_
  rintro e w1 ⟨rfl, g⟩
  have gq_ := Lib.hid (gby_trans (gby_alloc (gby_refl _ none) _) g)
  have szw1 := g.size
  try simp only [World.size_alloc] at szw1
  try simp only [World.size_setCell] at szw1
  clear A_0_ R_0_ X_0_
  have rA12_ := Lib.hid (show (w1).heap[W.heap.size]? = some (.cells #[.slice a1 len1 cap1] 46 (0, 0)) from row_held g rA8_.out)
  clear rA8_
  have rR13_ := Lib.hid (show (w1).heap[W.heap.size + 1]? = some (.cells #[.slice none 0 0] 46 (0, 0)) from row_held g rR9_.out)
  clear rR9_
  have rX14_ := Lib.hid (show (w1).heap[wc4.heap.size]? = some (.cells #[.slice qp len1 qc] 46 (0, 0)) from row_held g rX11_.out)
  clear rX11_
  have G15_ := Lib.hid (show (W).grownBy (w1) none from gby_trans G10_.out g)
  clear g
  have A_0_ : (w1).cell? ⟨W.heap.size, 0, none⟩ = some (.slice a1 len1 cap1) := cell_of_row _ _ 0 _ _ _ rA12_.out
  have R_0_ : (w1).cell? ⟨W.heap.size + 1, 0, none⟩ = some (.slice none 0 0) := cell_of_row _ _ 0 _ _ _ rR13_.out
  have X_0_ : (w1).cell? ⟨wc4.heap.size, 0, none⟩ = some (.slice qp len1 qc) := cell_of_row _ _ 0 _ _ _ rX14_.out
  clear A_0_ R_0_ X_0_
  have A_0_ : (w1).cell? ⟨W.heap.size, 0, none⟩ = some (.slice a1 len1 cap1) := cell_of_row _ _ 0 _ _ _ rA12_.out
  have R_0_ : (w1).cell? ⟨W.heap.size + 1, 0, none⟩ = some (.slice none 0 0) := cell_of_row _ _ 0 _ _ _ rR13_.out
  have Rf0_ : (w1).frozen? ⟨W.heap.size + 1, 0, none⟩ = false := frozen_of_row _ _ 0 _ _ rR13_.out
  have X_0_ : (w1).cell? ⟨wc4.heap.size, 0, none⟩ = some (.slice qp len1 qc) := cell_of_row _ _ 0 _ _ _ rX14_.out
  have z0_ : (w1.setCell ⟨W.heap.size + 1, 0, none⟩ (.slice qp len1 qc)).cell? ⟨W.heap.size + 1, 0, none⟩ = some (.slice qp len1 qc) := cell_of_row _ _ 0 _ _ _ (heap_setCell_same _ _ 0 _ _ _ rR13_.out)
  go_wp2
  refine bodyPost_ret (v := .tuple #[.agg #[.slice qp len1 qc], .bool false]) (by simp [results, go_sem, z0_]) rfl ⟨_, rfl, ?_, ?_⟩
  · exact OwU.one (OwL.wide (OwL.keep ((qo.out.grow gq_.out)) (chg_one _ _ _ _) (.inr (by omega))) (by omega) (by simp; omega))
  · exact gby_setnew G15_.out _ (by dsimp only; omega) _

set_option maxRecDepth 8000 in
set_option maxHeartbeats 2000000 in
theorem specGSet_out (W : World) (v u : Value) (xs : List DNode) (os : List Bool) (k : Int) (o : Bool) (H : RdL shNode W v xs) (Hs : RdL shB W u os) (hl : szL shNode xs ≤ 1048576) (hls : szL shB os ≤ 1048576) (hp : GuardP xs os) (hk : k < 1 ∨ (xs.length : Int) - 1 < k) : Calls Try.prog 70 #[v, vGuard u, .int .i64 k, .bool o] W (GSet os false W) := by
  have HP_ := Lib.hid hp
  have HKK := Lib.hid hk
  clear hp hk
  have HT := Lib.hid H
  have HSB := Lib.hid Hs
  have HL := Lib.hid hl
  have HLS := Lib.hid hls
  have HMX := Lib.hid Hs.max
  rw [szL_B] at hls
  have hlx : xs.length ≤ 1048576 := by have := szL_len shNode xs; omega
  obtain ⟨a0, n0, c0, rfl⟩ := RdL.form H
  have hn0 : n0 = xs.length := by obtain ⟨_, _, e, _⟩ := H; injection e
  obtain ⟨a1, cap1, rfl, hcap1, hi1⟩ := rdB_in Hs
  have HA1 := Lib.hid hi1
  have HE := Lib.hid hn0
  obtain ⟨len1, hlen1⟩ : ∃ len, len = os.length := ⟨_, rfl⟩
  have HE1 := Lib.hid hlen1
  unfold RdB at HA1
  rw [← hlen1] at hls HA1 HSB ⊢
  have hn0b : n0 ≤ 1048576 := by omega
  clear H Hs hi1 hn0 hlen1 hl hcap1
  have hlb : len1 ≤ 1048576 := by omega
  unfold vGuard
  have HK := Lib.hid (show k < 1 ∨ (n0 : Int) - 1 < k from by rw [HE.out]; exact HKK.out)
  go_enter Try.func70, Try.ntmps70
  have rA1_ := Lib.hid (show (((W.alloc (.cells #[.slice a1 len1 cap1] 46)).alloc (.cells #[.slice none 0 0] 46))).heap[W.heap.size]? = some (.cells #[.slice a1 len1 cap1] 46 (0, 0)) from by rw [heap_alloc_old _ _ (by simp only [World.size_alloc]; omega)]; exact heap_alloc_new _ _)
  have rR2_ := Lib.hid (show (((W.alloc (.cells #[.slice a1 len1 cap1] 46)).alloc (.cells #[.slice none 0 0] 46))).heap[W.heap.size + 1]? = some (.cells #[.slice none 0 0] 46 (0, 0)) from by exact heap_pair _ _ _)
  have G3_ := Lib.hid (show (W).grownBy (((W.alloc (.cells #[.slice a1 len1 cap1] 46)).alloc (.cells #[.slice none 0 0] 46))) none from (gby_alloc (gby_alloc (gby_refl _ _) _) _))
  have A_0_ : (((W.alloc (.cells #[.slice a1 len1 cap1] 46)).alloc (.cells #[.slice none 0 0] 46))).cell? ⟨W.heap.size, 0, none⟩ = some (.slice a1 len1 cap1) := cell_of_row _ _ 0 _ _ _ rA1_.out
  have R_0_ : (((W.alloc (.cells #[.slice a1 len1 cap1] 46)).alloc (.cells #[.slice none 0 0] 46))).cell? ⟨W.heap.size + 1, 0, none⟩ = some (.slice none 0 0) := cell_of_row _ _ 0 _ _ _ rR2_.out
  go_wp2_with (at_builtin; refine wpList_append_plain plainB slTB _ rfl _ _ rfl (W.heap.size + 1 + 1) _ 0 [] rfl (own_emptyP (heap_trip _ _ _ _) (Nat.le_refl _)) a1 len1 cap1 (os) rfl (HSB.out.grow (gby_alloc G3_.out _)) (by omega) (by simp) ?_; intro v2_ wc4 hown2 hg2; have HO4 := Lib.hid hown2; have HG4 := Lib.hid (gby_new (gby_alloc (gby_refl (((W.alloc (.cells #[.slice a1 len1 cap1] 46)).alloc (.cells #[.slice none 0 0] 46))) none) _) hg2 (fun i hi => by obtain rfl := Option.some.inj (show some (W.heap.size + 1 + 1) = some i from hi); simp)); clear hown2 hg2; have o_ := owP_row (s := shB) _ plainB.len plainB.ow HMX.out (show wc4.ownsRow (W.heap.size + 1 + 1) 4 1 v2_ (os).length ((os).flatMap (fun x => [.bool x])) by have q := HO4.out; rw [Nat.zero_add, List.nil_append] at q; rw [← HE1.out]; exact q); obtain ⟨qp, qn, qc, hv_⟩ := RdL.form o_.rd; subst hv_; have qo := Lib.hid o_; clear o_; have hswc4 := HG4.out.size; (try simp only [World.size_alloc] at hswc4); (try simp only [World.size_setCell] at hswc4); have ax_ : (wc4.alloc (.cells #[.slice qp qn qc] 46)).cell? ⟨W.heap.size, 0, none⟩ = some (.slice a1 len1 cap1) := (gby_alloc (gby_refl wc4 none) _).cell (cell_of_row _ _ 0 _ _ _ (row_held HG4.out rA1_.out)) (by simp))
  clear A_0_ R_0_
  have rA5_ := Lib.hid (show (wc4).heap[W.heap.size]? = some (.cells #[.slice a1 len1 cap1] 46 (0, 0)) from row_held HG4.out rA1_.out)
  clear rA1_
  have rR6_ := Lib.hid (show (wc4).heap[W.heap.size + 1]? = some (.cells #[.slice none 0 0] 46 (0, 0)) from row_held HG4.out rR2_.out)
  clear rR2_
  have G7_ := Lib.hid (show (W).grownBy (wc4) none from gby_trans G3_.out HG4.out)
  have A_0_ : (wc4).cell? ⟨W.heap.size, 0, none⟩ = some (.slice a1 len1 cap1) := cell_of_row _ _ 0 _ _ _ rA5_.out
  have R_0_ : (wc4).cell? ⟨W.heap.size + 1, 0, none⟩ = some (.slice none 0 0) := cell_of_row _ _ 0 _ _ _ rR6_.out
  try clear ax_
  obtain rfl : len1 = qn := by have := (rdP_cells plainB qo.out.rd).1; have := HE1.out; omega
  clear A_0_ R_0_
  have al_ : (wc4).grownBy ((wc4).alloc (.cells #[.slice qp len1 qc] 46)) none := gby_alloc (gby_refl _ _) _
  have rA8_ := Lib.hid (show ((wc4.alloc (.cells #[.slice qp len1 qc] 46))).heap[W.heap.size]? = some (.cells #[.slice a1 len1 cap1] 46 (0, 0)) from row_held al_ rA5_.out)
  clear rA5_
  have rR9_ := Lib.hid (show ((wc4.alloc (.cells #[.slice qp len1 qc] 46))).heap[W.heap.size + 1]? = some (.cells #[.slice none 0 0] 46 (0, 0)) from row_held al_ rR6_.out)
  clear rR6_
  have G10_ := Lib.hid (show (W).grownBy ((wc4.alloc (.cells #[.slice qp len1 qc] 46))) none from gby_trans G7_.out al_)
  have rX11_ := Lib.hid (show ((wc4.alloc (.cells #[.slice qp len1 qc] 46))).heap[wc4.heap.size]? = some (.cells #[.slice qp len1 qc] 46 (0, 0)) from by first | exact heap_alloc_new _ _ | exact heap_pair _ _ _ | exact heap_trip _ _ _ _)
  clear al_
  have A_0_ : ((wc4.alloc (.cells #[.slice qp len1 qc] 46))).cell? ⟨W.heap.size, 0, none⟩ = some (.slice a1 len1 cap1) := cell_of_row _ _ 0 _ _ _ rA8_.out
  have R_0_ : ((wc4.alloc (.cells #[.slice qp len1 qc] 46))).cell? ⟨W.heap.size + 1, 0, none⟩ = some (.slice none 0 0) := cell_of_row _ _ 0 _ _ _ rR9_.out
  have X_0_ : ((wc4.alloc (.cells #[.slice qp len1 qc] 46))).cell? ⟨wc4.heap.size, 0, none⟩ = some (.slice qp len1 qc) := cell_of_row _ _ 0 _ _ _ rX11_.out
  go_wp2_with fail
  go_at_call 36
  refine (((specGuard _ _ _ xs os (HT.out.grow G10_.out) (HSB.out.grow G10_.out) HL.out HLS.out).mono (bpost_yes HP_.out))).mono ?_
  rintro e w1 ⟨rfl, g⟩
  have gq_ := Lib.hid (gby_trans (gby_alloc (gby_refl _ none) _) g)
  have szw1 := g.size
  try simp only [World.size_alloc] at szw1
  try simp only [World.size_setCell] at szw1
  clear A_0_ R_0_ X_0_
  have rA12_ := Lib.hid (show (w1).heap[W.heap.size]? = some (.cells #[.slice a1 len1 cap1] 46 (0, 0)) from row_held g rA8_.out)
  clear rA8_
  have rR13_ := Lib.hid (show (w1).heap[W.heap.size + 1]? = some (.cells #[.slice none 0 0] 46 (0, 0)) from row_held g rR9_.out)
  clear rR9_
  have rX14_ := Lib.hid (show (w1).heap[wc4.heap.size]? = some (.cells #[.slice qp len1 qc] 46 (0, 0)) from row_held g rX11_.out)
  clear rX11_
  have G15_ := Lib.hid (show (W).grownBy (w1) none from gby_trans G10_.out g)
  clear g
  have A_0_ : (w1).cell? ⟨W.heap.size, 0, none⟩ = some (.slice a1 len1 cap1) := cell_of_row _ _ 0 _ _ _ rA12_.out
  have R_0_ : (w1).cell? ⟨W.heap.size + 1, 0, none⟩ = some (.slice none 0 0) := cell_of_row _ _ 0 _ _ _ rR13_.out
  have X_0_ : (w1).cell? ⟨wc4.heap.size, 0, none⟩ = some (.slice qp len1 qc) := cell_of_row _ _ 0 _ _ _ rX14_.out
  have hk1 : IntKind.i64.wrap ((n0 : Int) - 1) = (n0 : Int) - 1 := IntWalk.i64_in _ (by omega)
  go_wp2_with fail
  go_at_call 52
  refine (in_no _ _ _ _ HK.out).mono ?_
  rintro e w2_ ⟨rfl, rfl⟩
  clear A_0_ R_0_ X_0_
  have A_0_ : (w1).cell? ⟨W.heap.size, 0, none⟩ = some (.slice a1 len1 cap1) := cell_of_row _ _ 0 _ _ _ rA12_.out
  have R_0_ : (w1).cell? ⟨W.heap.size + 1, 0, none⟩ = some (.slice none 0 0) := cell_of_row _ _ 0 _ _ _ rR13_.out
  have Rf0_ : (w1).frozen? ⟨W.heap.size + 1, 0, none⟩ = false := frozen_of_row _ _ 0 _ _ rR13_.out
  have X_0_ : (w1).cell? ⟨wc4.heap.size, 0, none⟩ = some (.slice qp len1 qc) := cell_of_row _ _ 0 _ _ _ rX14_.out
  have z0_ : (w1.setCell ⟨W.heap.size + 1, 0, none⟩ (.slice qp len1 qc)).cell? ⟨W.heap.size + 1, 0, none⟩ = some (.slice qp len1 qc) := cell_of_row _ _ 0 _ _ _ (heap_setCell_same _ _ 0 _ _ _ rR13_.out)
  go_wp2
  refine bodyPost_ret (v := .tuple #[.agg #[.slice qp len1 qc], .bool false]) (by simp [results, go_sem, z0_]) rfl ⟨_, rfl, ?_, ?_⟩
  · exact OwU.one (OwL.wide (OwL.keep ((qo.out.grow gq_.out)) (chg_one _ _ _ _) (.inr (by omega))) (by omega) (by simp; omega))
  · exact gby_setnew G15_.out _ (by dsimp only; omega) _

set_option maxRecDepth 8000 in
set_option maxHeartbeats 2000000 in
theorem specGSet_same_true (W : World) (v u : Value) (xs : List DNode) (os : List Bool) (k : Nat) (H : RdL shNode W v xs) (Hs : RdL shB W u os) (hl : szL shNode xs ≤ 1048576) (hls : szL shB os ≤ 1048576) (hp : GuardP xs os) (hk1_ : 1 ≤ k) (hk : k < xs.length) (hx : os.getD k false = true) : Calls Try.prog 70 #[v, vGuard u, .int .i64 (k : Int), .bool true] W (GSet os false W) := by
  have HP_ := Lib.hid hp
  have hsl : os.length = xs.length := hp.2.1
  have HKN := Lib.hid hk
  have HSN := Lib.hid hsl
  have HXO := Lib.hid hx
  clear hp hk hsl hx
  have HT := Lib.hid H
  have HSB := Lib.hid Hs
  have HL := Lib.hid hl
  have HLS := Lib.hid hls
  have HMX := Lib.hid Hs.max
  rw [szL_B] at hls
  have hlx : xs.length ≤ 1048576 := by have := szL_len shNode xs; omega
  obtain ⟨a0, n0, c0, rfl⟩ := RdL.form H
  have hn0 : n0 = xs.length := by obtain ⟨_, _, e, _⟩ := H; injection e
  obtain ⟨a1, cap1, rfl, hcap1, hi1⟩ := rdB_in Hs
  have HA1 := Lib.hid hi1
  have HE := Lib.hid hn0
  obtain ⟨len1, hlen1⟩ : ∃ len, len = os.length := ⟨_, rfl⟩
  have HE1 := Lib.hid hlen1
  unfold RdB at HA1
  rw [← hlen1] at hls HA1 HSB ⊢
  have hn0b : n0 ≤ 1048576 := by omega
  clear H Hs hi1 hn0 hlen1 hl hcap1
  have hlb : len1 ≤ 1048576 := by omega
  unfold vGuard
  have hkL : k < len1 := by have := HKN.out; have := HSN.out; have := HE1.out; omega
  have hkl0 : k < n0 := by have := HKN.out; have := HE.out; omega
  have hki : (k : Int) < (len1 : Int) := by omega
  have hk0 : (0 : Int) ≤ (k : Int) := by omega
  have htk : ((k : Int)).toNat = k := by omega
  obtain ⟨b1, off1, rfl, hcell1⟩ := HA1.out.resolve_left (by omega)
  have hxc := hcell1 k (by have := HE1.out; omega)
  rw [HXO.out] at hxc
  have HXC := Lib.hid hxc
  clear hxc hcell1
  go_enter Try.func70, Try.ntmps70
  have rA1_ := Lib.hid (show (((W.alloc (.cells #[.slice (some ⟨b1, off1, none⟩) len1 cap1] 46)).alloc (.cells #[.slice none 0 0] 46))).heap[W.heap.size]? = some (.cells #[.slice (some ⟨b1, off1, none⟩) len1 cap1] 46 (0, 0)) from by rw [heap_alloc_old _ _ (by simp only [World.size_alloc]; omega)]; exact heap_alloc_new _ _)
  have rR2_ := Lib.hid (show (((W.alloc (.cells #[.slice (some ⟨b1, off1, none⟩) len1 cap1] 46)).alloc (.cells #[.slice none 0 0] 46))).heap[W.heap.size + 1]? = some (.cells #[.slice none 0 0] 46 (0, 0)) from by exact heap_pair _ _ _)
  have G3_ := Lib.hid (show (W).grownBy (((W.alloc (.cells #[.slice (some ⟨b1, off1, none⟩) len1 cap1] 46)).alloc (.cells #[.slice none 0 0] 46))) none from (gby_alloc (gby_alloc (gby_refl _ _) _) _))
  have A_0_ : (((W.alloc (.cells #[.slice (some ⟨b1, off1, none⟩) len1 cap1] 46)).alloc (.cells #[.slice none 0 0] 46))).cell? ⟨W.heap.size, 0, none⟩ = some (.slice (some ⟨b1, off1, none⟩) len1 cap1) := cell_of_row _ _ 0 _ _ _ rA1_.out
  have R_0_ : (((W.alloc (.cells #[.slice (some ⟨b1, off1, none⟩) len1 cap1] 46)).alloc (.cells #[.slice none 0 0] 46))).cell? ⟨W.heap.size + 1, 0, none⟩ = some (.slice none 0 0) := cell_of_row _ _ 0 _ _ _ rR2_.out
  have x_ := (G3_.out).cell HXC.out (by simp)
  go_wp2_with (at_builtin; refine wpList_append_plain plainB slTB _ rfl _ _ rfl (W.heap.size + 1 + 1) _ 0 [] rfl (own_emptyP (heap_trip _ _ _ _) (Nat.le_refl _)) (some ⟨b1, off1, none⟩) len1 cap1 (os) rfl (HSB.out.grow (gby_alloc G3_.out _)) (by omega) (by simp) ?_; intro v2_ wc4 hown2 hg2; have HO4 := Lib.hid hown2; have HG4 := Lib.hid (gby_new (gby_alloc (gby_refl (((W.alloc (.cells #[.slice (some ⟨b1, off1, none⟩) len1 cap1] 46)).alloc (.cells #[.slice none 0 0] 46))) none) _) hg2 (fun i hi => by obtain rfl := Option.some.inj (show some (W.heap.size + 1 + 1) = some i from hi); simp)); clear hown2 hg2; have o_ := owP_row (s := shB) _ plainB.len plainB.ow HMX.out (show wc4.ownsRow (W.heap.size + 1 + 1) 4 1 v2_ (os).length ((os).flatMap (fun x => [.bool x])) by have q := HO4.out; rw [Nat.zero_add, List.nil_append] at q; rw [← HE1.out]; exact q); obtain ⟨qp, qn, qc, hv_⟩ := RdL.form o_.rd; subst hv_; have qo := Lib.hid o_; clear o_; have hswc4 := HG4.out.size; (try simp only [World.size_alloc] at hswc4); (try simp only [World.size_setCell] at hswc4); have ax_ : (wc4.alloc (.cells #[.slice qp qn qc] 46)).cell? ⟨W.heap.size, 0, none⟩ = some (.slice (some ⟨b1, off1, none⟩) len1 cap1) := (gby_alloc (gby_refl wc4 none) _).cell (cell_of_row _ _ 0 _ _ _ (row_held HG4.out rA1_.out)) (by simp))
  clear A_0_ R_0_ x_
  have rA5_ := Lib.hid (show (wc4).heap[W.heap.size]? = some (.cells #[.slice (some ⟨b1, off1, none⟩) len1 cap1] 46 (0, 0)) from row_held HG4.out rA1_.out)
  clear rA1_
  have rR6_ := Lib.hid (show (wc4).heap[W.heap.size + 1]? = some (.cells #[.slice none 0 0] 46 (0, 0)) from row_held HG4.out rR2_.out)
  clear rR2_
  have G7_ := Lib.hid (show (W).grownBy (wc4) none from gby_trans G3_.out HG4.out)
  have A_0_ : (wc4).cell? ⟨W.heap.size, 0, none⟩ = some (.slice (some ⟨b1, off1, none⟩) len1 cap1) := cell_of_row _ _ 0 _ _ _ rA5_.out
  have R_0_ : (wc4).cell? ⟨W.heap.size + 1, 0, none⟩ = some (.slice none 0 0) := cell_of_row _ _ 0 _ _ _ rR6_.out
  have x_ := (G7_.out).cell HXC.out (by simp)
  try clear ax_
  obtain rfl : len1 = qn := by have := (rdP_cells plainB qo.out.rd).1; have := HE1.out; omega
  clear A_0_ R_0_ x_
  have al_ : (wc4).grownBy ((wc4).alloc (.cells #[.slice qp len1 qc] 46)) none := gby_alloc (gby_refl _ _) _
  have rA8_ := Lib.hid (show ((wc4.alloc (.cells #[.slice qp len1 qc] 46))).heap[W.heap.size]? = some (.cells #[.slice (some ⟨b1, off1, none⟩) len1 cap1] 46 (0, 0)) from row_held al_ rA5_.out)
  clear rA5_
  have rR9_ := Lib.hid (show ((wc4.alloc (.cells #[.slice qp len1 qc] 46))).heap[W.heap.size + 1]? = some (.cells #[.slice none 0 0] 46 (0, 0)) from row_held al_ rR6_.out)
  clear rR6_
  have G10_ := Lib.hid (show (W).grownBy ((wc4.alloc (.cells #[.slice qp len1 qc] 46))) none from gby_trans G7_.out al_)
  have rX11_ := Lib.hid (show ((wc4.alloc (.cells #[.slice qp len1 qc] 46))).heap[wc4.heap.size]? = some (.cells #[.slice qp len1 qc] 46 (0, 0)) from by first | exact heap_alloc_new _ _ | exact heap_pair _ _ _ | exact heap_trip _ _ _ _)
  clear al_
  have A_0_ : ((wc4.alloc (.cells #[.slice qp len1 qc] 46))).cell? ⟨W.heap.size, 0, none⟩ = some (.slice (some ⟨b1, off1, none⟩) len1 cap1) := cell_of_row _ _ 0 _ _ _ rA8_.out
  have R_0_ : ((wc4.alloc (.cells #[.slice qp len1 qc] 46))).cell? ⟨W.heap.size + 1, 0, none⟩ = some (.slice none 0 0) := cell_of_row _ _ 0 _ _ _ rR9_.out
  have X_0_ : ((wc4.alloc (.cells #[.slice qp len1 qc] 46))).cell? ⟨wc4.heap.size, 0, none⟩ = some (.slice qp len1 qc) := cell_of_row _ _ 0 _ _ _ rX11_.out
  have x_ := (G10_.out).cell HXC.out (by simp)
  go_wp2_with fail
  go_at_call 36
  refine (((specGuard _ _ _ xs os (HT.out.grow G10_.out) (HSB.out.grow G10_.out) HL.out HLS.out).mono (bpost_yes HP_.out))).mono ?_
  rintro e w1 ⟨rfl, g⟩
  have gq_ := Lib.hid (gby_trans (gby_alloc (gby_refl _ none) _) g)
  have szw1 := g.size
  try simp only [World.size_alloc] at szw1
  try simp only [World.size_setCell] at szw1
  clear A_0_ R_0_ X_0_ x_
  have rA12_ := Lib.hid (show (w1).heap[W.heap.size]? = some (.cells #[.slice (some ⟨b1, off1, none⟩) len1 cap1] 46 (0, 0)) from row_held g rA8_.out)
  clear rA8_
  have rR13_ := Lib.hid (show (w1).heap[W.heap.size + 1]? = some (.cells #[.slice none 0 0] 46 (0, 0)) from row_held g rR9_.out)
  clear rR9_
  have rX14_ := Lib.hid (show (w1).heap[wc4.heap.size]? = some (.cells #[.slice qp len1 qc] 46 (0, 0)) from row_held g rX11_.out)
  clear rX11_
  have G15_ := Lib.hid (show (W).grownBy (w1) none from gby_trans G10_.out g)
  clear g
  have A_0_ : (w1).cell? ⟨W.heap.size, 0, none⟩ = some (.slice (some ⟨b1, off1, none⟩) len1 cap1) := cell_of_row _ _ 0 _ _ _ rA12_.out
  have R_0_ : (w1).cell? ⟨W.heap.size + 1, 0, none⟩ = some (.slice none 0 0) := cell_of_row _ _ 0 _ _ _ rR13_.out
  have X_0_ : (w1).cell? ⟨wc4.heap.size, 0, none⟩ = some (.slice qp len1 qc) := cell_of_row _ _ 0 _ _ _ rX14_.out
  have x_ := (G15_.out).cell HXC.out (by simp)
  have hk1 : IntKind.i64.wrap ((n0 : Int) - 1) = (n0 : Int) - 1 := IntWalk.i64_in _ (by omega)
  go_wp2_with fail
  go_at_call 52
  refine (in_yes _ _ _ _ (by omega) (by omega)).mono ?_
  rintro e w2_ ⟨rfl, rfl⟩
  clear A_0_ R_0_ X_0_ x_
  have A_0_ : (w1).cell? ⟨W.heap.size, 0, none⟩ = some (.slice (some ⟨b1, off1, none⟩) len1 cap1) := cell_of_row _ _ 0 _ _ _ rA12_.out
  have R_0_ : (w1).cell? ⟨W.heap.size + 1, 0, none⟩ = some (.slice none 0 0) := cell_of_row _ _ 0 _ _ _ rR13_.out
  have Rf0_ : (w1).frozen? ⟨W.heap.size + 1, 0, none⟩ = false := frozen_of_row _ _ 0 _ _ rR13_.out
  have X_0_ : (w1).cell? ⟨wc4.heap.size, 0, none⟩ = some (.slice qp len1 qc) := cell_of_row _ _ 0 _ _ _ rX14_.out
  have x_ := (G15_.out).cell HXC.out (by simp)
  have z0_ : (w1.setCell ⟨W.heap.size + 1, 0, none⟩ (.slice qp len1 qc)).cell? ⟨W.heap.size + 1, 0, none⟩ = some (.slice qp len1 qc) := cell_of_row _ _ 0 _ _ _ (heap_setCell_same _ _ 0 _ _ _ rR13_.out)
  go_wp2
  refine bodyPost_ret (v := .tuple #[.agg #[.slice qp len1 qc], .bool false]) (by simp [results, go_sem, z0_]) rfl ⟨_, rfl, ?_, ?_⟩
  · exact OwU.one (OwL.wide (OwL.keep ((qo.out.grow gq_.out)) (chg_one _ _ _ _) (.inr (by omega))) (by omega) (by simp; omega))
  · exact gby_setnew G15_.out _ (by dsimp only; omega) _

set_option maxRecDepth 8000 in
set_option maxHeartbeats 2000000 in
theorem specGSet_same_false (W : World) (v u : Value) (xs : List DNode) (os : List Bool) (k : Nat) (H : RdL shNode W v xs) (Hs : RdL shB W u os) (hl : szL shNode xs ≤ 1048576) (hls : szL shB os ≤ 1048576) (hp : GuardP xs os) (hk1_ : 1 ≤ k) (hk : k < xs.length) (hx : os.getD k false = false) : Calls Try.prog 70 #[v, vGuard u, .int .i64 (k : Int), .bool false] W (GSet os false W) := by
  have HP_ := Lib.hid hp
  have hsl : os.length = xs.length := hp.2.1
  have HKN := Lib.hid hk
  have HSN := Lib.hid hsl
  have HXO := Lib.hid hx
  clear hp hk hsl hx
  have HT := Lib.hid H
  have HSB := Lib.hid Hs
  have HL := Lib.hid hl
  have HLS := Lib.hid hls
  have HMX := Lib.hid Hs.max
  rw [szL_B] at hls
  have hlx : xs.length ≤ 1048576 := by have := szL_len shNode xs; omega
  obtain ⟨a0, n0, c0, rfl⟩ := RdL.form H
  have hn0 : n0 = xs.length := by obtain ⟨_, _, e, _⟩ := H; injection e
  obtain ⟨a1, cap1, rfl, hcap1, hi1⟩ := rdB_in Hs
  have HA1 := Lib.hid hi1
  have HE := Lib.hid hn0
  obtain ⟨len1, hlen1⟩ : ∃ len, len = os.length := ⟨_, rfl⟩
  have HE1 := Lib.hid hlen1
  unfold RdB at HA1
  rw [← hlen1] at hls HA1 HSB ⊢
  have hn0b : n0 ≤ 1048576 := by omega
  clear H Hs hi1 hn0 hlen1 hl hcap1
  have hlb : len1 ≤ 1048576 := by omega
  unfold vGuard
  have hkL : k < len1 := by have := HKN.out; have := HSN.out; have := HE1.out; omega
  have hkl0 : k < n0 := by have := HKN.out; have := HE.out; omega
  have hki : (k : Int) < (len1 : Int) := by omega
  have hk0 : (0 : Int) ≤ (k : Int) := by omega
  have htk : ((k : Int)).toNat = k := by omega
  obtain ⟨b1, off1, rfl, hcell1⟩ := HA1.out.resolve_left (by omega)
  have hxc := hcell1 k (by have := HE1.out; omega)
  rw [HXO.out] at hxc
  have HXC := Lib.hid hxc
  clear hxc hcell1
  go_enter Try.func70, Try.ntmps70
  have rA1_ := Lib.hid (show (((W.alloc (.cells #[.slice (some ⟨b1, off1, none⟩) len1 cap1] 46)).alloc (.cells #[.slice none 0 0] 46))).heap[W.heap.size]? = some (.cells #[.slice (some ⟨b1, off1, none⟩) len1 cap1] 46 (0, 0)) from by rw [heap_alloc_old _ _ (by simp only [World.size_alloc]; omega)]; exact heap_alloc_new _ _)
  have rR2_ := Lib.hid (show (((W.alloc (.cells #[.slice (some ⟨b1, off1, none⟩) len1 cap1] 46)).alloc (.cells #[.slice none 0 0] 46))).heap[W.heap.size + 1]? = some (.cells #[.slice none 0 0] 46 (0, 0)) from by exact heap_pair _ _ _)
  have G3_ := Lib.hid (show (W).grownBy (((W.alloc (.cells #[.slice (some ⟨b1, off1, none⟩) len1 cap1] 46)).alloc (.cells #[.slice none 0 0] 46))) none from (gby_alloc (gby_alloc (gby_refl _ _) _) _))
  have A_0_ : (((W.alloc (.cells #[.slice (some ⟨b1, off1, none⟩) len1 cap1] 46)).alloc (.cells #[.slice none 0 0] 46))).cell? ⟨W.heap.size, 0, none⟩ = some (.slice (some ⟨b1, off1, none⟩) len1 cap1) := cell_of_row _ _ 0 _ _ _ rA1_.out
  have R_0_ : (((W.alloc (.cells #[.slice (some ⟨b1, off1, none⟩) len1 cap1] 46)).alloc (.cells #[.slice none 0 0] 46))).cell? ⟨W.heap.size + 1, 0, none⟩ = some (.slice none 0 0) := cell_of_row _ _ 0 _ _ _ rR2_.out
  have x_ := (G3_.out).cell HXC.out (by simp)
  go_wp2_with (at_builtin; refine wpList_append_plain plainB slTB _ rfl _ _ rfl (W.heap.size + 1 + 1) _ 0 [] rfl (own_emptyP (heap_trip _ _ _ _) (Nat.le_refl _)) (some ⟨b1, off1, none⟩) len1 cap1 (os) rfl (HSB.out.grow (gby_alloc G3_.out _)) (by omega) (by simp) ?_; intro v2_ wc4 hown2 hg2; have HO4 := Lib.hid hown2; have HG4 := Lib.hid (gby_new (gby_alloc (gby_refl (((W.alloc (.cells #[.slice (some ⟨b1, off1, none⟩) len1 cap1] 46)).alloc (.cells #[.slice none 0 0] 46))) none) _) hg2 (fun i hi => by obtain rfl := Option.some.inj (show some (W.heap.size + 1 + 1) = some i from hi); simp)); clear hown2 hg2; have o_ := owP_row (s := shB) _ plainB.len plainB.ow HMX.out (show wc4.ownsRow (W.heap.size + 1 + 1) 4 1 v2_ (os).length ((os).flatMap (fun x => [.bool x])) by have q := HO4.out; rw [Nat.zero_add, List.nil_append] at q; rw [← HE1.out]; exact q); obtain ⟨qp, qn, qc, hv_⟩ := RdL.form o_.rd; subst hv_; have qo := Lib.hid o_; clear o_; have hswc4 := HG4.out.size; (try simp only [World.size_alloc] at hswc4); (try simp only [World.size_setCell] at hswc4); have ax_ : (wc4.alloc (.cells #[.slice qp qn qc] 46)).cell? ⟨W.heap.size, 0, none⟩ = some (.slice (some ⟨b1, off1, none⟩) len1 cap1) := (gby_alloc (gby_refl wc4 none) _).cell (cell_of_row _ _ 0 _ _ _ (row_held HG4.out rA1_.out)) (by simp))
  clear A_0_ R_0_ x_
  have rA5_ := Lib.hid (show (wc4).heap[W.heap.size]? = some (.cells #[.slice (some ⟨b1, off1, none⟩) len1 cap1] 46 (0, 0)) from row_held HG4.out rA1_.out)
  clear rA1_
  have rR6_ := Lib.hid (show (wc4).heap[W.heap.size + 1]? = some (.cells #[.slice none 0 0] 46 (0, 0)) from row_held HG4.out rR2_.out)
  clear rR2_
  have G7_ := Lib.hid (show (W).grownBy (wc4) none from gby_trans G3_.out HG4.out)
  have A_0_ : (wc4).cell? ⟨W.heap.size, 0, none⟩ = some (.slice (some ⟨b1, off1, none⟩) len1 cap1) := cell_of_row _ _ 0 _ _ _ rA5_.out
  have R_0_ : (wc4).cell? ⟨W.heap.size + 1, 0, none⟩ = some (.slice none 0 0) := cell_of_row _ _ 0 _ _ _ rR6_.out
  have x_ := (G7_.out).cell HXC.out (by simp)
  try clear ax_
  obtain rfl : len1 = qn := by have := (rdP_cells plainB qo.out.rd).1; have := HE1.out; omega
  clear A_0_ R_0_ x_
  have al_ : (wc4).grownBy ((wc4).alloc (.cells #[.slice qp len1 qc] 46)) none := gby_alloc (gby_refl _ _) _
  have rA8_ := Lib.hid (show ((wc4.alloc (.cells #[.slice qp len1 qc] 46))).heap[W.heap.size]? = some (.cells #[.slice (some ⟨b1, off1, none⟩) len1 cap1] 46 (0, 0)) from row_held al_ rA5_.out)
  clear rA5_
  have rR9_ := Lib.hid (show ((wc4.alloc (.cells #[.slice qp len1 qc] 46))).heap[W.heap.size + 1]? = some (.cells #[.slice none 0 0] 46 (0, 0)) from row_held al_ rR6_.out)
  clear rR6_
  have G10_ := Lib.hid (show (W).grownBy ((wc4.alloc (.cells #[.slice qp len1 qc] 46))) none from gby_trans G7_.out al_)
  have rX11_ := Lib.hid (show ((wc4.alloc (.cells #[.slice qp len1 qc] 46))).heap[wc4.heap.size]? = some (.cells #[.slice qp len1 qc] 46 (0, 0)) from by first | exact heap_alloc_new _ _ | exact heap_pair _ _ _ | exact heap_trip _ _ _ _)
  clear al_
  have A_0_ : ((wc4.alloc (.cells #[.slice qp len1 qc] 46))).cell? ⟨W.heap.size, 0, none⟩ = some (.slice (some ⟨b1, off1, none⟩) len1 cap1) := cell_of_row _ _ 0 _ _ _ rA8_.out
  have R_0_ : ((wc4.alloc (.cells #[.slice qp len1 qc] 46))).cell? ⟨W.heap.size + 1, 0, none⟩ = some (.slice none 0 0) := cell_of_row _ _ 0 _ _ _ rR9_.out
  have X_0_ : ((wc4.alloc (.cells #[.slice qp len1 qc] 46))).cell? ⟨wc4.heap.size, 0, none⟩ = some (.slice qp len1 qc) := cell_of_row _ _ 0 _ _ _ rX11_.out
  have x_ := (G10_.out).cell HXC.out (by simp)
  go_wp2_with fail
  go_at_call 36
  refine (((specGuard _ _ _ xs os (HT.out.grow G10_.out) (HSB.out.grow G10_.out) HL.out HLS.out).mono (bpost_yes HP_.out))).mono ?_
  rintro e w1 ⟨rfl, g⟩
  have gq_ := Lib.hid (gby_trans (gby_alloc (gby_refl _ none) _) g)
  have szw1 := g.size
  try simp only [World.size_alloc] at szw1
  try simp only [World.size_setCell] at szw1
  clear A_0_ R_0_ X_0_ x_
  have rA12_ := Lib.hid (show (w1).heap[W.heap.size]? = some (.cells #[.slice (some ⟨b1, off1, none⟩) len1 cap1] 46 (0, 0)) from row_held g rA8_.out)
  clear rA8_
  have rR13_ := Lib.hid (show (w1).heap[W.heap.size + 1]? = some (.cells #[.slice none 0 0] 46 (0, 0)) from row_held g rR9_.out)
  clear rR9_
  have rX14_ := Lib.hid (show (w1).heap[wc4.heap.size]? = some (.cells #[.slice qp len1 qc] 46 (0, 0)) from row_held g rX11_.out)
  clear rX11_
  have G15_ := Lib.hid (show (W).grownBy (w1) none from gby_trans G10_.out g)
  clear g
  have A_0_ : (w1).cell? ⟨W.heap.size, 0, none⟩ = some (.slice (some ⟨b1, off1, none⟩) len1 cap1) := cell_of_row _ _ 0 _ _ _ rA12_.out
  have R_0_ : (w1).cell? ⟨W.heap.size + 1, 0, none⟩ = some (.slice none 0 0) := cell_of_row _ _ 0 _ _ _ rR13_.out
  have X_0_ : (w1).cell? ⟨wc4.heap.size, 0, none⟩ = some (.slice qp len1 qc) := cell_of_row _ _ 0 _ _ _ rX14_.out
  have x_ := (G15_.out).cell HXC.out (by simp)
  have hk1 : IntKind.i64.wrap ((n0 : Int) - 1) = (n0 : Int) - 1 := IntWalk.i64_in _ (by omega)
  go_wp2_with fail
  go_at_call 52
  refine (in_yes _ _ _ _ (by omega) (by omega)).mono ?_
  rintro e w2_ ⟨rfl, rfl⟩
  clear A_0_ R_0_ X_0_ x_
  have A_0_ : (w1).cell? ⟨W.heap.size, 0, none⟩ = some (.slice (some ⟨b1, off1, none⟩) len1 cap1) := cell_of_row _ _ 0 _ _ _ rA12_.out
  have R_0_ : (w1).cell? ⟨W.heap.size + 1, 0, none⟩ = some (.slice none 0 0) := cell_of_row _ _ 0 _ _ _ rR13_.out
  have Rf0_ : (w1).frozen? ⟨W.heap.size + 1, 0, none⟩ = false := frozen_of_row _ _ 0 _ _ rR13_.out
  have X_0_ : (w1).cell? ⟨wc4.heap.size, 0, none⟩ = some (.slice qp len1 qc) := cell_of_row _ _ 0 _ _ _ rX14_.out
  have x_ := (G15_.out).cell HXC.out (by simp)
  have z0_ : (w1.setCell ⟨W.heap.size + 1, 0, none⟩ (.slice qp len1 qc)).cell? ⟨W.heap.size + 1, 0, none⟩ = some (.slice qp len1 qc) := cell_of_row _ _ 0 _ _ _ (heap_setCell_same _ _ 0 _ _ _ rR13_.out)
  go_wp2
  refine bodyPost_ret (v := .tuple #[.agg #[.slice qp len1 qc], .bool false]) (by simp [results, go_sem, z0_]) rfl ⟨_, rfl, ?_, ?_⟩
  · exact OwU.one (OwL.wide (OwL.keep ((qo.out.grow gq_.out)) (chg_one _ _ _ _) (.inr (by omega))) (by omega) (by simp; omega))
  · exact gby_setnew G15_.out _ (by dsimp only; omega) _

set_option maxRecDepth 8000 in
set_option maxHeartbeats 2000000 in
theorem specGSet_set_true (W : World) (v u : Value) (xs : List DNode) (os : List Bool) (k : Nat) (H : RdL shNode W v xs) (Hs : RdL shB W u os) (hl : szL shNode xs ≤ 1048576) (hls : szL shB os ≤ 1048576) (hp : GuardP xs os) (hk1_ : 1 ≤ k) (hk : k < xs.length) (hx : os.getD k false = false) : Calls Try.prog 70 #[v, vGuard u, .int .i64 (k : Int), .bool true] W (GSet (os.set k true) true W) := by
  have HP_ := Lib.hid hp
  have hsl : os.length = xs.length := hp.2.1
  have HKN := Lib.hid hk
  have HSN := Lib.hid hsl
  have HXO := Lib.hid hx
  clear hp hk hsl hx
  have HT := Lib.hid H
  have HSB := Lib.hid Hs
  have HL := Lib.hid hl
  have HLS := Lib.hid hls
  have HMX := Lib.hid Hs.max
  rw [szL_B] at hls
  have hlx : xs.length ≤ 1048576 := by have := szL_len shNode xs; omega
  obtain ⟨a0, n0, c0, rfl⟩ := RdL.form H
  have hn0 : n0 = xs.length := by obtain ⟨_, _, e, _⟩ := H; injection e
  obtain ⟨a1, cap1, rfl, hcap1, hi1⟩ := rdB_in Hs
  have HA1 := Lib.hid hi1
  have HE := Lib.hid hn0
  obtain ⟨len1, hlen1⟩ : ∃ len, len = os.length := ⟨_, rfl⟩
  have HE1 := Lib.hid hlen1
  unfold RdB at HA1
  rw [← hlen1] at hls HA1 HSB ⊢
  have hn0b : n0 ≤ 1048576 := by omega
  clear H Hs hi1 hn0 hlen1 hl hcap1
  have hlb : len1 ≤ 1048576 := by omega
  unfold vGuard
  have hkL : k < len1 := by have := HKN.out; have := HSN.out; have := HE1.out; omega
  have hkl0 : k < n0 := by have := HKN.out; have := HE.out; omega
  have hki : (k : Int) < (len1 : Int) := by omega
  have hk0 : (0 : Int) ≤ (k : Int) := by omega
  have htk : ((k : Int)).toNat = k := by omega
  obtain ⟨b1, off1, rfl, hcell1⟩ := HA1.out.resolve_left (by omega)
  have hxc := hcell1 k (by have := HE1.out; omega)
  rw [HXO.out] at hxc
  have HXC := Lib.hid hxc
  clear hxc hcell1
  go_enter Try.func70, Try.ntmps70
  have rA1_ := Lib.hid (show (((W.alloc (.cells #[.slice (some ⟨b1, off1, none⟩) len1 cap1] 46)).alloc (.cells #[.slice none 0 0] 46))).heap[W.heap.size]? = some (.cells #[.slice (some ⟨b1, off1, none⟩) len1 cap1] 46 (0, 0)) from by rw [heap_alloc_old _ _ (by simp only [World.size_alloc]; omega)]; exact heap_alloc_new _ _)
  have rR2_ := Lib.hid (show (((W.alloc (.cells #[.slice (some ⟨b1, off1, none⟩) len1 cap1] 46)).alloc (.cells #[.slice none 0 0] 46))).heap[W.heap.size + 1]? = some (.cells #[.slice none 0 0] 46 (0, 0)) from by exact heap_pair _ _ _)
  have G3_ := Lib.hid (show (W).grownBy (((W.alloc (.cells #[.slice (some ⟨b1, off1, none⟩) len1 cap1] 46)).alloc (.cells #[.slice none 0 0] 46))) none from (gby_alloc (gby_alloc (gby_refl _ _) _) _))
  have A_0_ : (((W.alloc (.cells #[.slice (some ⟨b1, off1, none⟩) len1 cap1] 46)).alloc (.cells #[.slice none 0 0] 46))).cell? ⟨W.heap.size, 0, none⟩ = some (.slice (some ⟨b1, off1, none⟩) len1 cap1) := cell_of_row _ _ 0 _ _ _ rA1_.out
  have R_0_ : (((W.alloc (.cells #[.slice (some ⟨b1, off1, none⟩) len1 cap1] 46)).alloc (.cells #[.slice none 0 0] 46))).cell? ⟨W.heap.size + 1, 0, none⟩ = some (.slice none 0 0) := cell_of_row _ _ 0 _ _ _ rR2_.out
  have x_ := (G3_.out).cell HXC.out (by simp)
  go_wp2_with (at_builtin; refine wpList_append_plain plainB slTB _ rfl _ _ rfl (W.heap.size + 1 + 1) _ 0 [] rfl (own_emptyP (heap_trip _ _ _ _) (Nat.le_refl _)) (some ⟨b1, off1, none⟩) len1 cap1 (os) rfl (HSB.out.grow (gby_alloc G3_.out _)) (by omega) (by simp) ?_; intro v2_ wc4 hown2 hg2; have HO4 := Lib.hid hown2; have HG4 := Lib.hid (gby_new (gby_alloc (gby_refl (((W.alloc (.cells #[.slice (some ⟨b1, off1, none⟩) len1 cap1] 46)).alloc (.cells #[.slice none 0 0] 46))) none) _) hg2 (fun i hi => by obtain rfl := Option.some.inj (show some (W.heap.size + 1 + 1) = some i from hi); simp)); clear hown2 hg2; have o_ := owP_row (s := shB) _ plainB.len plainB.ow HMX.out (show wc4.ownsRow (W.heap.size + 1 + 1) 4 1 v2_ (os).length ((os).flatMap (fun x => [.bool x])) by have q := HO4.out; rw [Nat.zero_add, List.nil_append] at q; rw [← HE1.out]; exact q); obtain ⟨qp, qn, qc, hv_⟩ := RdL.form o_.rd; subst hv_; have qo := Lib.hid o_; clear o_; have hswc4 := HG4.out.size; (try simp only [World.size_alloc] at hswc4); (try simp only [World.size_setCell] at hswc4); have ax_ : (wc4.alloc (.cells #[.slice qp qn qc] 46)).cell? ⟨W.heap.size, 0, none⟩ = some (.slice (some ⟨b1, off1, none⟩) len1 cap1) := (gby_alloc (gby_refl wc4 none) _).cell (cell_of_row _ _ 0 _ _ _ (row_held HG4.out rA1_.out)) (by simp))
  clear A_0_ R_0_ x_
  have rA5_ := Lib.hid (show (wc4).heap[W.heap.size]? = some (.cells #[.slice (some ⟨b1, off1, none⟩) len1 cap1] 46 (0, 0)) from row_held HG4.out rA1_.out)
  clear rA1_
  have rR6_ := Lib.hid (show (wc4).heap[W.heap.size + 1]? = some (.cells #[.slice none 0 0] 46 (0, 0)) from row_held HG4.out rR2_.out)
  clear rR2_
  have G7_ := Lib.hid (show (W).grownBy (wc4) none from gby_trans G3_.out HG4.out)
  have A_0_ : (wc4).cell? ⟨W.heap.size, 0, none⟩ = some (.slice (some ⟨b1, off1, none⟩) len1 cap1) := cell_of_row _ _ 0 _ _ _ rA5_.out
  have R_0_ : (wc4).cell? ⟨W.heap.size + 1, 0, none⟩ = some (.slice none 0 0) := cell_of_row _ _ 0 _ _ _ rR6_.out
  have x_ := (G7_.out).cell HXC.out (by simp)
  try clear ax_
  obtain rfl : len1 = qn := by have := (rdP_cells plainB qo.out.rd).1; have := HE1.out; omega
  clear A_0_ R_0_ x_
  have al_ : (wc4).grownBy ((wc4).alloc (.cells #[.slice qp len1 qc] 46)) none := gby_alloc (gby_refl _ _) _
  have rA8_ := Lib.hid (show ((wc4.alloc (.cells #[.slice qp len1 qc] 46))).heap[W.heap.size]? = some (.cells #[.slice (some ⟨b1, off1, none⟩) len1 cap1] 46 (0, 0)) from row_held al_ rA5_.out)
  clear rA5_
  have rR9_ := Lib.hid (show ((wc4.alloc (.cells #[.slice qp len1 qc] 46))).heap[W.heap.size + 1]? = some (.cells #[.slice none 0 0] 46 (0, 0)) from row_held al_ rR6_.out)
  clear rR6_
  have G10_ := Lib.hid (show (W).grownBy ((wc4.alloc (.cells #[.slice qp len1 qc] 46))) none from gby_trans G7_.out al_)
  have rX11_ := Lib.hid (show ((wc4.alloc (.cells #[.slice qp len1 qc] 46))).heap[wc4.heap.size]? = some (.cells #[.slice qp len1 qc] 46 (0, 0)) from by first | exact heap_alloc_new _ _ | exact heap_pair _ _ _ | exact heap_trip _ _ _ _)
  clear al_
  have A_0_ : ((wc4.alloc (.cells #[.slice qp len1 qc] 46))).cell? ⟨W.heap.size, 0, none⟩ = some (.slice (some ⟨b1, off1, none⟩) len1 cap1) := cell_of_row _ _ 0 _ _ _ rA8_.out
  have R_0_ : ((wc4.alloc (.cells #[.slice qp len1 qc] 46))).cell? ⟨W.heap.size + 1, 0, none⟩ = some (.slice none 0 0) := cell_of_row _ _ 0 _ _ _ rR9_.out
  have X_0_ : ((wc4.alloc (.cells #[.slice qp len1 qc] 46))).cell? ⟨wc4.heap.size, 0, none⟩ = some (.slice qp len1 qc) := cell_of_row _ _ 0 _ _ _ rX11_.out
  have x_ := (G10_.out).cell HXC.out (by simp)
  go_wp2_with fail
  go_at_call 36
  refine (((specGuard _ _ _ xs os (HT.out.grow G10_.out) (HSB.out.grow G10_.out) HL.out HLS.out).mono (bpost_yes HP_.out))).mono ?_
  rintro e w1 ⟨rfl, g⟩
  have gq_ := Lib.hid (gby_trans (gby_alloc (gby_refl _ none) _) g)
  have szw1 := g.size
  try simp only [World.size_alloc] at szw1
  try simp only [World.size_setCell] at szw1
  clear A_0_ R_0_ X_0_ x_
  have rA12_ := Lib.hid (show (w1).heap[W.heap.size]? = some (.cells #[.slice (some ⟨b1, off1, none⟩) len1 cap1] 46 (0, 0)) from row_held g rA8_.out)
  clear rA8_
  have rR13_ := Lib.hid (show (w1).heap[W.heap.size + 1]? = some (.cells #[.slice none 0 0] 46 (0, 0)) from row_held g rR9_.out)
  clear rR9_
  have rX14_ := Lib.hid (show (w1).heap[wc4.heap.size]? = some (.cells #[.slice qp len1 qc] 46 (0, 0)) from row_held g rX11_.out)
  clear rX11_
  have G15_ := Lib.hid (show (W).grownBy (w1) none from gby_trans G10_.out g)
  clear g
  have A_0_ : (w1).cell? ⟨W.heap.size, 0, none⟩ = some (.slice (some ⟨b1, off1, none⟩) len1 cap1) := cell_of_row _ _ 0 _ _ _ rA12_.out
  have R_0_ : (w1).cell? ⟨W.heap.size + 1, 0, none⟩ = some (.slice none 0 0) := cell_of_row _ _ 0 _ _ _ rR13_.out
  have X_0_ : (w1).cell? ⟨wc4.heap.size, 0, none⟩ = some (.slice qp len1 qc) := cell_of_row _ _ 0 _ _ _ rX14_.out
  have x_ := (G15_.out).cell HXC.out (by simp)
  have hk1 : IntKind.i64.wrap ((n0 : Int) - 1) = (n0 : Int) - 1 := IntWalk.i64_in _ (by omega)
  go_wp2_with fail
  go_at_call 52
  refine (in_yes _ _ _ _ (by omega) (by omega)).mono ?_
  rintro e w2_ ⟨rfl, rfl⟩
  obtain ⟨bb, off2, cc, hvv, s1, s2, s3, s4, s5⟩ := owB_at (qo.out.grow gq_.out) k (by have := HE1.out; omega)
  injection hvv with e1 e2 e3
  subst e1
  subst e3
  clear e2
  have S5 := Lib.hid (s5 true)
  clear s5
  clear A_0_ R_0_ X_0_ x_
  have A_0_ : (w1).cell? ⟨W.heap.size, 0, none⟩ = some (.slice (some ⟨b1, off1, none⟩) len1 cap1) := cell_of_row _ _ 0 _ _ _ rA12_.out
  have R_0_ : (w1).cell? ⟨W.heap.size + 1, 0, none⟩ = some (.slice none 0 0) := cell_of_row _ _ 0 _ _ _ rR13_.out
  have X_0_ : (w1).cell? ⟨wc4.heap.size, 0, none⟩ = some (.slice (some ⟨bb, off2, none⟩) len1 qc) := cell_of_row _ _ 0 _ _ _ rX14_.out
  have x_ := (G15_.out).cell HXC.out (by simp)
  have rA16_ := Lib.hid (show ((w1.setCell ⟨bb, off2 + k, none⟩ (.bool true))).heap[W.heap.size]? = some (.cells #[.slice (some ⟨b1, off1, none⟩) len1 cap1] 46 (0, 0)) from Chg.keep S5.out.2 rA12_.out (by omega))
  clear rA12_
  have rR17_ := Lib.hid (show ((w1.setCell ⟨bb, off2 + k, none⟩ (.bool true))).heap[W.heap.size + 1]? = some (.cells #[.slice none 0 0] 46 (0, 0)) from Chg.keep S5.out.2 rR13_.out (by omega))
  clear rR13_
  have rX18_ := Lib.hid (show ((w1.setCell ⟨bb, off2 + k, none⟩ (.bool true))).heap[wc4.heap.size]? = some (.cells #[.slice (some ⟨bb, off2, none⟩) len1 qc] 46 (0, 0)) from Chg.keep S5.out.2 rX14_.out (by omega))
  clear rX14_
  have G19_ := Lib.hid (show (W).grownBy ((w1.setCell ⟨bb, off2 + k, none⟩ (.bool true))) none from gby_chg G15_.out S5.out.2 (by omega))
  have A_0_ : ((w1.setCell ⟨bb, off2 + k, none⟩ (.bool true))).cell? ⟨W.heap.size, 0, none⟩ = some (.slice (some ⟨b1, off1, none⟩) len1 cap1) := cell_of_row _ _ 0 _ _ _ rA16_.out
  have R_0_ : ((w1.setCell ⟨bb, off2 + k, none⟩ (.bool true))).cell? ⟨W.heap.size + 1, 0, none⟩ = some (.slice none 0 0) := cell_of_row _ _ 0 _ _ _ rR17_.out
  have Rf0_ : ((w1.setCell ⟨bb, off2 + k, none⟩ (.bool true))).frozen? ⟨W.heap.size + 1, 0, none⟩ = false := frozen_of_row _ _ 0 _ _ rR17_.out
  have X_0_ : ((w1.setCell ⟨bb, off2 + k, none⟩ (.bool true))).cell? ⟨wc4.heap.size, 0, none⟩ = some (.slice (some ⟨bb, off2, none⟩) len1 qc) := cell_of_row _ _ 0 _ _ _ rX18_.out
  have x_ := (G19_.out).cell HXC.out (by simp)
  have z0_ : ((w1.setCell ⟨bb, off2 + k, none⟩ (.bool true)).setCell ⟨W.heap.size + 1, 0, none⟩ (.slice (some ⟨bb, off2, none⟩) len1 qc)).cell? ⟨W.heap.size + 1, 0, none⟩ = some (.slice (some ⟨bb, off2, none⟩) len1 qc) := cell_of_row _ _ 0 _ _ _ (heap_setCell_same _ _ 0 _ _ _ rR17_.out)
  go_wp2
  refine bodyPost_ret (v := .tuple #[.agg #[.slice (some ⟨bb, off2, none⟩) len1 qc], .bool true]) (by simp [results, go_sem, z0_]) rfl ⟨_, rfl, ?_, ?_⟩
  · exact OwU.one (OwL.wide (OwL.keep (S5.out.1) (chg_one _ _ _ _) (.inr (by omega))) (by omega) (by simp; omega))
  · exact gby_setnew G19_.out _ (by dsimp only; omega) _

set_option maxRecDepth 8000 in
set_option maxHeartbeats 2000000 in
theorem specGSet_set_false (W : World) (v u : Value) (xs : List DNode) (os : List Bool) (k : Nat) (H : RdL shNode W v xs) (Hs : RdL shB W u os) (hl : szL shNode xs ≤ 1048576) (hls : szL shB os ≤ 1048576) (hp : GuardP xs os) (hk1_ : 1 ≤ k) (hk : k < xs.length) (hx : os.getD k false = true) : Calls Try.prog 70 #[v, vGuard u, .int .i64 (k : Int), .bool false] W (GSet (os.set k false) true W) := by
  have HP_ := Lib.hid hp
  have hsl : os.length = xs.length := hp.2.1
  have HKN := Lib.hid hk
  have HSN := Lib.hid hsl
  have HXO := Lib.hid hx
  clear hp hk hsl hx
  have HT := Lib.hid H
  have HSB := Lib.hid Hs
  have HL := Lib.hid hl
  have HLS := Lib.hid hls
  have HMX := Lib.hid Hs.max
  rw [szL_B] at hls
  have hlx : xs.length ≤ 1048576 := by have := szL_len shNode xs; omega
  obtain ⟨a0, n0, c0, rfl⟩ := RdL.form H
  have hn0 : n0 = xs.length := by obtain ⟨_, _, e, _⟩ := H; injection e
  obtain ⟨a1, cap1, rfl, hcap1, hi1⟩ := rdB_in Hs
  have HA1 := Lib.hid hi1
  have HE := Lib.hid hn0
  obtain ⟨len1, hlen1⟩ : ∃ len, len = os.length := ⟨_, rfl⟩
  have HE1 := Lib.hid hlen1
  unfold RdB at HA1
  rw [← hlen1] at hls HA1 HSB ⊢
  have hn0b : n0 ≤ 1048576 := by omega
  clear H Hs hi1 hn0 hlen1 hl hcap1
  have hlb : len1 ≤ 1048576 := by omega
  unfold vGuard
  have hkL : k < len1 := by have := HKN.out; have := HSN.out; have := HE1.out; omega
  have hkl0 : k < n0 := by have := HKN.out; have := HE.out; omega
  have hki : (k : Int) < (len1 : Int) := by omega
  have hk0 : (0 : Int) ≤ (k : Int) := by omega
  have htk : ((k : Int)).toNat = k := by omega
  obtain ⟨b1, off1, rfl, hcell1⟩ := HA1.out.resolve_left (by omega)
  have hxc := hcell1 k (by have := HE1.out; omega)
  rw [HXO.out] at hxc
  have HXC := Lib.hid hxc
  clear hxc hcell1
  go_enter Try.func70, Try.ntmps70
  have rA1_ := Lib.hid (show (((W.alloc (.cells #[.slice (some ⟨b1, off1, none⟩) len1 cap1] 46)).alloc (.cells #[.slice none 0 0] 46))).heap[W.heap.size]? = some (.cells #[.slice (some ⟨b1, off1, none⟩) len1 cap1] 46 (0, 0)) from by rw [heap_alloc_old _ _ (by simp only [World.size_alloc]; omega)]; exact heap_alloc_new _ _)
  have rR2_ := Lib.hid (show (((W.alloc (.cells #[.slice (some ⟨b1, off1, none⟩) len1 cap1] 46)).alloc (.cells #[.slice none 0 0] 46))).heap[W.heap.size + 1]? = some (.cells #[.slice none 0 0] 46 (0, 0)) from by exact heap_pair _ _ _)
  have G3_ := Lib.hid (show (W).grownBy (((W.alloc (.cells #[.slice (some ⟨b1, off1, none⟩) len1 cap1] 46)).alloc (.cells #[.slice none 0 0] 46))) none from (gby_alloc (gby_alloc (gby_refl _ _) _) _))
  have A_0_ : (((W.alloc (.cells #[.slice (some ⟨b1, off1, none⟩) len1 cap1] 46)).alloc (.cells #[.slice none 0 0] 46))).cell? ⟨W.heap.size, 0, none⟩ = some (.slice (some ⟨b1, off1, none⟩) len1 cap1) := cell_of_row _ _ 0 _ _ _ rA1_.out
  have R_0_ : (((W.alloc (.cells #[.slice (some ⟨b1, off1, none⟩) len1 cap1] 46)).alloc (.cells #[.slice none 0 0] 46))).cell? ⟨W.heap.size + 1, 0, none⟩ = some (.slice none 0 0) := cell_of_row _ _ 0 _ _ _ rR2_.out
  have x_ := (G3_.out).cell HXC.out (by simp)
  go_wp2_with (at_builtin; refine wpList_append_plain plainB slTB _ rfl _ _ rfl (W.heap.size + 1 + 1) _ 0 [] rfl (own_emptyP (heap_trip _ _ _ _) (Nat.le_refl _)) (some ⟨b1, off1, none⟩) len1 cap1 (os) rfl (HSB.out.grow (gby_alloc G3_.out _)) (by omega) (by simp) ?_; intro v2_ wc4 hown2 hg2; have HO4 := Lib.hid hown2; have HG4 := Lib.hid (gby_new (gby_alloc (gby_refl (((W.alloc (.cells #[.slice (some ⟨b1, off1, none⟩) len1 cap1] 46)).alloc (.cells #[.slice none 0 0] 46))) none) _) hg2 (fun i hi => by obtain rfl := Option.some.inj (show some (W.heap.size + 1 + 1) = some i from hi); simp)); clear hown2 hg2; have o_ := owP_row (s := shB) _ plainB.len plainB.ow HMX.out (show wc4.ownsRow (W.heap.size + 1 + 1) 4 1 v2_ (os).length ((os).flatMap (fun x => [.bool x])) by have q := HO4.out; rw [Nat.zero_add, List.nil_append] at q; rw [← HE1.out]; exact q); obtain ⟨qp, qn, qc, hv_⟩ := RdL.form o_.rd; subst hv_; have qo := Lib.hid o_; clear o_; have hswc4 := HG4.out.size; (try simp only [World.size_alloc] at hswc4); (try simp only [World.size_setCell] at hswc4); have ax_ : (wc4.alloc (.cells #[.slice qp qn qc] 46)).cell? ⟨W.heap.size, 0, none⟩ = some (.slice (some ⟨b1, off1, none⟩) len1 cap1) := (gby_alloc (gby_refl wc4 none) _).cell (cell_of_row _ _ 0 _ _ _ (row_held HG4.out rA1_.out)) (by simp))
  clear A_0_ R_0_ x_
  have rA5_ := Lib.hid (show (wc4).heap[W.heap.size]? = some (.cells #[.slice (some ⟨b1, off1, none⟩) len1 cap1] 46 (0, 0)) from row_held HG4.out rA1_.out)
  clear rA1_
  have rR6_ := Lib.hid (show (wc4).heap[W.heap.size + 1]? = some (.cells #[.slice none 0 0] 46 (0, 0)) from row_held HG4.out rR2_.out)
  clear rR2_
  have G7_ := Lib.hid (show (W).grownBy (wc4) none from gby_trans G3_.out HG4.out)
  have A_0_ : (wc4).cell? ⟨W.heap.size, 0, none⟩ = some (.slice (some ⟨b1, off1, none⟩) len1 cap1) := cell_of_row _ _ 0 _ _ _ rA5_.out
  have R_0_ : (wc4).cell? ⟨W.heap.size + 1, 0, none⟩ = some (.slice none 0 0) := cell_of_row _ _ 0 _ _ _ rR6_.out
  have x_ := (G7_.out).cell HXC.out (by simp)
  try clear ax_
  obtain rfl : len1 = qn := by have := (rdP_cells plainB qo.out.rd).1; have := HE1.out; omega
  clear A_0_ R_0_ x_
  have al_ : (wc4).grownBy ((wc4).alloc (.cells #[.slice qp len1 qc] 46)) none := gby_alloc (gby_refl _ _) _
  have rA8_ := Lib.hid (show ((wc4.alloc (.cells #[.slice qp len1 qc] 46))).heap[W.heap.size]? = some (.cells #[.slice (some ⟨b1, off1, none⟩) len1 cap1] 46 (0, 0)) from row_held al_ rA5_.out)
  clear rA5_
  have rR9_ := Lib.hid (show ((wc4.alloc (.cells #[.slice qp len1 qc] 46))).heap[W.heap.size + 1]? = some (.cells #[.slice none 0 0] 46 (0, 0)) from row_held al_ rR6_.out)
  clear rR6_
  have G10_ := Lib.hid (show (W).grownBy ((wc4.alloc (.cells #[.slice qp len1 qc] 46))) none from gby_trans G7_.out al_)
  have rX11_ := Lib.hid (show ((wc4.alloc (.cells #[.slice qp len1 qc] 46))).heap[wc4.heap.size]? = some (.cells #[.slice qp len1 qc] 46 (0, 0)) from by first | exact heap_alloc_new _ _ | exact heap_pair _ _ _ | exact heap_trip _ _ _ _)
  clear al_
  have A_0_ : ((wc4.alloc (.cells #[.slice qp len1 qc] 46))).cell? ⟨W.heap.size, 0, none⟩ = some (.slice (some ⟨b1, off1, none⟩) len1 cap1) := cell_of_row _ _ 0 _ _ _ rA8_.out
  have R_0_ : ((wc4.alloc (.cells #[.slice qp len1 qc] 46))).cell? ⟨W.heap.size + 1, 0, none⟩ = some (.slice none 0 0) := cell_of_row _ _ 0 _ _ _ rR9_.out
  have X_0_ : ((wc4.alloc (.cells #[.slice qp len1 qc] 46))).cell? ⟨wc4.heap.size, 0, none⟩ = some (.slice qp len1 qc) := cell_of_row _ _ 0 _ _ _ rX11_.out
  have x_ := (G10_.out).cell HXC.out (by simp)
  go_wp2_with fail
  go_at_call 36
  refine (((specGuard _ _ _ xs os (HT.out.grow G10_.out) (HSB.out.grow G10_.out) HL.out HLS.out).mono (bpost_yes HP_.out))).mono ?_
  rintro e w1 ⟨rfl, g⟩
  have gq_ := Lib.hid (gby_trans (gby_alloc (gby_refl _ none) _) g)
  have szw1 := g.size
  try simp only [World.size_alloc] at szw1
  try simp only [World.size_setCell] at szw1
  clear A_0_ R_0_ X_0_ x_
  have rA12_ := Lib.hid (show (w1).heap[W.heap.size]? = some (.cells #[.slice (some ⟨b1, off1, none⟩) len1 cap1] 46 (0, 0)) from row_held g rA8_.out)
  clear rA8_
  have rR13_ := Lib.hid (show (w1).heap[W.heap.size + 1]? = some (.cells #[.slice none 0 0] 46 (0, 0)) from row_held g rR9_.out)
  clear rR9_
  have rX14_ := Lib.hid (show (w1).heap[wc4.heap.size]? = some (.cells #[.slice qp len1 qc] 46 (0, 0)) from row_held g rX11_.out)
  clear rX11_
  have G15_ := Lib.hid (show (W).grownBy (w1) none from gby_trans G10_.out g)
  clear g
  have A_0_ : (w1).cell? ⟨W.heap.size, 0, none⟩ = some (.slice (some ⟨b1, off1, none⟩) len1 cap1) := cell_of_row _ _ 0 _ _ _ rA12_.out
  have R_0_ : (w1).cell? ⟨W.heap.size + 1, 0, none⟩ = some (.slice none 0 0) := cell_of_row _ _ 0 _ _ _ rR13_.out
  have X_0_ : (w1).cell? ⟨wc4.heap.size, 0, none⟩ = some (.slice qp len1 qc) := cell_of_row _ _ 0 _ _ _ rX14_.out
  have x_ := (G15_.out).cell HXC.out (by simp)
  have hk1 : IntKind.i64.wrap ((n0 : Int) - 1) = (n0 : Int) - 1 := IntWalk.i64_in _ (by omega)
  go_wp2_with fail
  go_at_call 52
  refine (in_yes _ _ _ _ (by omega) (by omega)).mono ?_
  rintro e w2_ ⟨rfl, rfl⟩
  obtain ⟨bb, off2, cc, hvv, s1, s2, s3, s4, s5⟩ := owB_at (qo.out.grow gq_.out) k (by have := HE1.out; omega)
  injection hvv with e1 e2 e3
  subst e1
  subst e3
  clear e2
  have S5 := Lib.hid (s5 false)
  clear s5
  clear A_0_ R_0_ X_0_ x_
  have A_0_ : (w1).cell? ⟨W.heap.size, 0, none⟩ = some (.slice (some ⟨b1, off1, none⟩) len1 cap1) := cell_of_row _ _ 0 _ _ _ rA12_.out
  have R_0_ : (w1).cell? ⟨W.heap.size + 1, 0, none⟩ = some (.slice none 0 0) := cell_of_row _ _ 0 _ _ _ rR13_.out
  have X_0_ : (w1).cell? ⟨wc4.heap.size, 0, none⟩ = some (.slice (some ⟨bb, off2, none⟩) len1 qc) := cell_of_row _ _ 0 _ _ _ rX14_.out
  have x_ := (G15_.out).cell HXC.out (by simp)
  have rA16_ := Lib.hid (show ((w1.setCell ⟨bb, off2 + k, none⟩ (.bool false))).heap[W.heap.size]? = some (.cells #[.slice (some ⟨b1, off1, none⟩) len1 cap1] 46 (0, 0)) from Chg.keep S5.out.2 rA12_.out (by omega))
  clear rA12_
  have rR17_ := Lib.hid (show ((w1.setCell ⟨bb, off2 + k, none⟩ (.bool false))).heap[W.heap.size + 1]? = some (.cells #[.slice none 0 0] 46 (0, 0)) from Chg.keep S5.out.2 rR13_.out (by omega))
  clear rR13_
  have rX18_ := Lib.hid (show ((w1.setCell ⟨bb, off2 + k, none⟩ (.bool false))).heap[wc4.heap.size]? = some (.cells #[.slice (some ⟨bb, off2, none⟩) len1 qc] 46 (0, 0)) from Chg.keep S5.out.2 rX14_.out (by omega))
  clear rX14_
  have G19_ := Lib.hid (show (W).grownBy ((w1.setCell ⟨bb, off2 + k, none⟩ (.bool false))) none from gby_chg G15_.out S5.out.2 (by omega))
  have A_0_ : ((w1.setCell ⟨bb, off2 + k, none⟩ (.bool false))).cell? ⟨W.heap.size, 0, none⟩ = some (.slice (some ⟨b1, off1, none⟩) len1 cap1) := cell_of_row _ _ 0 _ _ _ rA16_.out
  have R_0_ : ((w1.setCell ⟨bb, off2 + k, none⟩ (.bool false))).cell? ⟨W.heap.size + 1, 0, none⟩ = some (.slice none 0 0) := cell_of_row _ _ 0 _ _ _ rR17_.out
  have Rf0_ : ((w1.setCell ⟨bb, off2 + k, none⟩ (.bool false))).frozen? ⟨W.heap.size + 1, 0, none⟩ = false := frozen_of_row _ _ 0 _ _ rR17_.out
  have X_0_ : ((w1.setCell ⟨bb, off2 + k, none⟩ (.bool false))).cell? ⟨wc4.heap.size, 0, none⟩ = some (.slice (some ⟨bb, off2, none⟩) len1 qc) := cell_of_row _ _ 0 _ _ _ rX18_.out
  have x_ := (G19_.out).cell HXC.out (by simp)
  have z0_ : ((w1.setCell ⟨bb, off2 + k, none⟩ (.bool false)).setCell ⟨W.heap.size + 1, 0, none⟩ (.slice (some ⟨bb, off2, none⟩) len1 qc)).cell? ⟨W.heap.size + 1, 0, none⟩ = some (.slice (some ⟨bb, off2, none⟩) len1 qc) := cell_of_row _ _ 0 _ _ _ (heap_setCell_same _ _ 0 _ _ _ rR17_.out)
  go_wp2
  refine bodyPost_ret (v := .tuple #[.agg #[.slice (some ⟨bb, off2, none⟩) len1 qc], .bool true]) (by simp [results, go_sem, z0_]) rfl ⟨_, rfl, ?_, ?_⟩
  · exact OwU.one (OwL.wide (OwL.keep (S5.out.1) (chg_one _ _ _ _) (.inr (by omega))) (by omega) (by simp; omega))
  · exact gby_setnew G19_.out _ (by dsimp only; omega) _

set_option maxRecDepth 8000 in
set_option maxHeartbeats 2000000 in
theorem implGSet_bad (W : World) (v u : Value) (xs : List DNode) (os : List Bool) (k : Int) (o : Bool) (H : RdL shNode W v xs) (Hs : RdL shB W u os) (hl : szL shNode xs ≤ 1048576) (hls : szL shB os ≤ 1048576) (hp : ¬ GuardP xs os) : Calls Try.prog 71 #[v, vGuard u, .int .i64 k, .bool o] W (GSet os false W) := by
  have HP_ := Lib.hid hp
  clear hp
  have HT := Lib.hid H
  have HSB := Lib.hid Hs
  have HL := Lib.hid hl
  have HLS := Lib.hid hls
  have HMX := Lib.hid Hs.max
  rw [szL_B] at hls
  have hlx : xs.length ≤ 1048576 := by have := szL_len shNode xs; omega
  obtain ⟨a0, n0, c0, rfl⟩ := RdL.form H
  have hn0 : n0 = xs.length := by obtain ⟨_, _, e, _⟩ := H; injection e
  obtain ⟨a1, cap1, rfl, hcap1, hi1⟩ := rdB_in Hs
  have HA1 := Lib.hid hi1
  have HE := Lib.hid hn0
  obtain ⟨len1, hlen1⟩ : ∃ len, len = os.length := ⟨_, rfl⟩
  have HE1 := Lib.hid hlen1
  unfold RdB at HA1
  rw [← hlen1] at hls HA1 HSB ⊢
  have hn0b : n0 ≤ 1048576 := by omega
  clear H Hs hi1 hn0 hlen1 hl hcap1
  have hlb : len1 ≤ 1048576 := by omega
  unfold vGuard
  go_enter Try.func71, Try.ntmps71
  have rA1_ := Lib.hid (show (((W.alloc (.cells #[.slice a1 len1 cap1] 46)).alloc (.cells #[.slice none 0 0] 46))).heap[W.heap.size]? = some (.cells #[.slice a1 len1 cap1] 46 (0, 0)) from by rw [heap_alloc_old _ _ (by simp only [World.size_alloc]; omega)]; exact heap_alloc_new _ _)
  have rR2_ := Lib.hid (show (((W.alloc (.cells #[.slice a1 len1 cap1] 46)).alloc (.cells #[.slice none 0 0] 46))).heap[W.heap.size + 1]? = some (.cells #[.slice none 0 0] 46 (0, 0)) from by exact heap_pair _ _ _)
  have G3_ := Lib.hid (show (W).grownBy (((W.alloc (.cells #[.slice a1 len1 cap1] 46)).alloc (.cells #[.slice none 0 0] 46))) none from (gby_alloc (gby_alloc (gby_refl _ _) _) _))
  have A_0_ : (((W.alloc (.cells #[.slice a1 len1 cap1] 46)).alloc (.cells #[.slice none 0 0] 46))).cell? ⟨W.heap.size, 0, none⟩ = some (.slice a1 len1 cap1) := cell_of_row _ _ 0 _ _ _ rA1_.out
  have R_0_ : (((W.alloc (.cells #[.slice a1 len1 cap1] 46)).alloc (.cells #[.slice none 0 0] 46))).cell? ⟨W.heap.size + 1, 0, none⟩ = some (.slice none 0 0) := cell_of_row _ _ 0 _ _ _ rR2_.out
  go_wp2_with fail
  go_at_call 85
  refine (copiedGuard_d _ _ os (HSB.out.grow G3_.out) HLS.out).mono ?_
  rintro e w1 ⟨v2_, rfl, o_, g⟩
  have sz_ := g.size
  try simp only [World.size_alloc] at sz_ o_
  try unfold vGuard
  have o_ := gowU_out o_
  obtain ⟨qp, qn, qc, hv_⟩ := RdL.form o_.rd
  subst hv_
  obtain rfl : len1 = qn := by have := (rdP_cells plainB o_.rd).1; have := HE1.out; omega
  have qo := Lib.hid o_
  clear o_
  clear A_0_ R_0_
  have rA4_ := Lib.hid (show (w1).heap[W.heap.size]? = some (.cells #[.slice a1 len1 cap1] 46 (0, 0)) from row_held g rA1_.out)
  clear rA1_
  have rR5_ := Lib.hid (show (w1).heap[W.heap.size + 1]? = some (.cells #[.slice none 0 0] 46 (0, 0)) from row_held g rR2_.out)
  clear rR2_
  have G6_ := Lib.hid (show (W).grownBy (w1) none from gby_trans G3_.out g)
  clear g
  have A_0_ : (w1).cell? ⟨W.heap.size, 0, none⟩ = some (.slice a1 len1 cap1) := cell_of_row _ _ 0 _ _ _ rA4_.out
  have Af0_ : (w1).frozen? ⟨W.heap.size, 0, none⟩ = false := frozen_of_row _ _ 0 _ _ rA4_.out
  have R_0_ : (w1).cell? ⟨W.heap.size + 1, 0, none⟩ = some (.slice none 0 0) := cell_of_row _ _ 0 _ _ _ rR5_.out
  go_wp2_with fail
  clear A_0_ Af0_ R_0_
  have rR7_ := Lib.hid (show ((w1.setCell ⟨W.heap.size, 0, none⟩ (.slice qp len1 qc))).heap[W.heap.size + 1]? = some (.cells #[.slice none 0 0] 46 (0, 0)) from (set_far rR5_.out (by dsimp only; omega)))
  clear rR5_
  have rA8_ := Lib.hid (show ((w1.setCell ⟨W.heap.size, 0, none⟩ (.slice qp len1 qc))).heap[W.heap.size]? = some (.cells #[.slice qp len1 qc] 46 (0, 0)) from (heap_setCell_same _ _ 0 _ _ _ rA4_.out))
  clear rA4_
  have G9_ := Lib.hid (show (W).grownBy ((w1.setCell ⟨W.heap.size, 0, none⟩ (.slice qp len1 qc))) none from (gby_setnew G6_.out _ (by dsimp only; omega) _))
  have qo_ := Lib.hid (show OwL shB ((w1.setCell ⟨W.heap.size, 0, none⟩ (.slice qp len1 qc))) (W.heap.size + 1 + 1) (w1.heap.size) (.slice qp len1 qc) os from OwL.keep qo.out (chg_one _ _ _ _) (.inr (by omega)))
  have A_0_ : ((w1.setCell ⟨W.heap.size, 0, none⟩ (.slice qp len1 qc))).cell? ⟨W.heap.size, 0, none⟩ = some (.slice qp len1 qc) := cell_of_row _ _ 0 _ _ _ rA8_.out
  have R_0_ : ((w1.setCell ⟨W.heap.size, 0, none⟩ (.slice qp len1 qc))).cell? ⟨W.heap.size + 1, 0, none⟩ = some (.slice none 0 0) := cell_of_row _ _ 0 _ _ _ rR7_.out
  go_wp2_with fail
  go_at_call 38
  refine (((implGuard _ _ _ xs os (HT.out.grow G9_.out) (qo_.out.rd) HL.out HLS.out).mono (bpost_no HP_.out))).mono ?_
  rintro e w2 ⟨rfl, g⟩
  have gq_ := Lib.hid g
  have szw2 := g.size
  try simp only [World.size_alloc] at szw2
  try simp only [World.size_setCell] at szw2
  clear A_0_ R_0_
  have rA10_ := Lib.hid (show (w2).heap[W.heap.size]? = some (.cells #[.slice qp len1 qc] 46 (0, 0)) from row_held g rA8_.out)
  clear rA8_
  have rR11_ := Lib.hid (show (w2).heap[W.heap.size + 1]? = some (.cells #[.slice none 0 0] 46 (0, 0)) from row_held g rR7_.out)
  clear rR7_
  have G12_ := Lib.hid (show (W).grownBy (w2) none from gby_trans G9_.out g)
  clear g
  have A_0_ : (w2).cell? ⟨W.heap.size, 0, none⟩ = some (.slice qp len1 qc) := cell_of_row _ _ 0 _ _ _ rA10_.out
  have R_0_ : (w2).cell? ⟨W.heap.size + 1, 0, none⟩ = some (.slice none 0 0) := cell_of_row _ _ 0 _ _ _ rR11_.out
  clear A_0_ R_0_
  have A_0_ : (w2).cell? ⟨W.heap.size, 0, none⟩ = some (.slice qp len1 qc) := cell_of_row _ _ 0 _ _ _ rA10_.out
  have R_0_ : (w2).cell? ⟨W.heap.size + 1, 0, none⟩ = some (.slice none 0 0) := cell_of_row _ _ 0 _ _ _ rR11_.out
  have Rf0_ : (w2).frozen? ⟨W.heap.size + 1, 0, none⟩ = false := frozen_of_row _ _ 0 _ _ rR11_.out
  have z0_ : (w2.setCell ⟨W.heap.size + 1, 0, none⟩ (.slice qp len1 qc)).cell? ⟨W.heap.size + 1, 0, none⟩ = some (.slice qp len1 qc) := cell_of_row _ _ 0 _ _ _ (heap_setCell_same _ _ 0 _ _ _ rR11_.out)
  go_wp2
  refine bodyPost_ret (v := .tuple #[.agg #[.slice qp len1 qc], .bool false]) (by simp [results, go_sem, z0_]) rfl ⟨_, rfl, ?_, ?_⟩
  · exact OwU.one (OwL.wide (OwL.keep ((qo_.out.grow gq_.out)) (chg_one _ _ _ _) (.inr (by omega))) (by omega) (by simp; omega))
  · exact gby_setnew G12_.out _ (by dsimp only; omega) _

set_option maxRecDepth 8000 in
set_option maxHeartbeats 2000000 in
theorem implGSet_out (W : World) (v u : Value) (xs : List DNode) (os : List Bool) (k : Int) (o : Bool) (H : RdL shNode W v xs) (Hs : RdL shB W u os) (hl : szL shNode xs ≤ 1048576) (hls : szL shB os ≤ 1048576) (hp : GuardP xs os) (hk : k < 1 ∨ (xs.length : Int) - 1 < k) : Calls Try.prog 71 #[v, vGuard u, .int .i64 k, .bool o] W (GSet os false W) := by
  have HP_ := Lib.hid hp
  have HKK := Lib.hid hk
  clear hp hk
  have HT := Lib.hid H
  have HSB := Lib.hid Hs
  have HL := Lib.hid hl
  have HLS := Lib.hid hls
  have HMX := Lib.hid Hs.max
  rw [szL_B] at hls
  have hlx : xs.length ≤ 1048576 := by have := szL_len shNode xs; omega
  obtain ⟨a0, n0, c0, rfl⟩ := RdL.form H
  have hn0 : n0 = xs.length := by obtain ⟨_, _, e, _⟩ := H; injection e
  obtain ⟨a1, cap1, rfl, hcap1, hi1⟩ := rdB_in Hs
  have HA1 := Lib.hid hi1
  have HE := Lib.hid hn0
  obtain ⟨len1, hlen1⟩ : ∃ len, len = os.length := ⟨_, rfl⟩
  have HE1 := Lib.hid hlen1
  unfold RdB at HA1
  rw [← hlen1] at hls HA1 HSB ⊢
  have hn0b : n0 ≤ 1048576 := by omega
  clear H Hs hi1 hn0 hlen1 hl hcap1
  have hlb : len1 ≤ 1048576 := by omega
  unfold vGuard
  have HK := Lib.hid (show k < 1 ∨ (n0 : Int) - 1 < k from by rw [HE.out]; exact HKK.out)
  go_enter Try.func71, Try.ntmps71
  have rA1_ := Lib.hid (show (((W.alloc (.cells #[.slice a1 len1 cap1] 46)).alloc (.cells #[.slice none 0 0] 46))).heap[W.heap.size]? = some (.cells #[.slice a1 len1 cap1] 46 (0, 0)) from by rw [heap_alloc_old _ _ (by simp only [World.size_alloc]; omega)]; exact heap_alloc_new _ _)
  have rR2_ := Lib.hid (show (((W.alloc (.cells #[.slice a1 len1 cap1] 46)).alloc (.cells #[.slice none 0 0] 46))).heap[W.heap.size + 1]? = some (.cells #[.slice none 0 0] 46 (0, 0)) from by exact heap_pair _ _ _)
  have G3_ := Lib.hid (show (W).grownBy (((W.alloc (.cells #[.slice a1 len1 cap1] 46)).alloc (.cells #[.slice none 0 0] 46))) none from (gby_alloc (gby_alloc (gby_refl _ _) _) _))
  have A_0_ : (((W.alloc (.cells #[.slice a1 len1 cap1] 46)).alloc (.cells #[.slice none 0 0] 46))).cell? ⟨W.heap.size, 0, none⟩ = some (.slice a1 len1 cap1) := cell_of_row _ _ 0 _ _ _ rA1_.out
  have R_0_ : (((W.alloc (.cells #[.slice a1 len1 cap1] 46)).alloc (.cells #[.slice none 0 0] 46))).cell? ⟨W.heap.size + 1, 0, none⟩ = some (.slice none 0 0) := cell_of_row _ _ 0 _ _ _ rR2_.out
  go_wp2_with fail
  go_at_call 85
  refine (copiedGuard_d _ _ os (HSB.out.grow G3_.out) HLS.out).mono ?_
  rintro e w1 ⟨v2_, rfl, o_, g⟩
  have sz_ := g.size
  try simp only [World.size_alloc] at sz_ o_
  try unfold vGuard
  have o_ := gowU_out o_
  obtain ⟨qp, qn, qc, hv_⟩ := RdL.form o_.rd
  subst hv_
  obtain rfl : len1 = qn := by have := (rdP_cells plainB o_.rd).1; have := HE1.out; omega
  have qo := Lib.hid o_
  clear o_
  clear A_0_ R_0_
  have rA4_ := Lib.hid (show (w1).heap[W.heap.size]? = some (.cells #[.slice a1 len1 cap1] 46 (0, 0)) from row_held g rA1_.out)
  clear rA1_
  have rR5_ := Lib.hid (show (w1).heap[W.heap.size + 1]? = some (.cells #[.slice none 0 0] 46 (0, 0)) from row_held g rR2_.out)
  clear rR2_
  have G6_ := Lib.hid (show (W).grownBy (w1) none from gby_trans G3_.out g)
  clear g
  have A_0_ : (w1).cell? ⟨W.heap.size, 0, none⟩ = some (.slice a1 len1 cap1) := cell_of_row _ _ 0 _ _ _ rA4_.out
  have Af0_ : (w1).frozen? ⟨W.heap.size, 0, none⟩ = false := frozen_of_row _ _ 0 _ _ rA4_.out
  have R_0_ : (w1).cell? ⟨W.heap.size + 1, 0, none⟩ = some (.slice none 0 0) := cell_of_row _ _ 0 _ _ _ rR5_.out
  go_wp2_with fail
  clear A_0_ Af0_ R_0_
  have rR7_ := Lib.hid (show ((w1.setCell ⟨W.heap.size, 0, none⟩ (.slice qp len1 qc))).heap[W.heap.size + 1]? = some (.cells #[.slice none 0 0] 46 (0, 0)) from (set_far rR5_.out (by dsimp only; omega)))
  clear rR5_
  have rA8_ := Lib.hid (show ((w1.setCell ⟨W.heap.size, 0, none⟩ (.slice qp len1 qc))).heap[W.heap.size]? = some (.cells #[.slice qp len1 qc] 46 (0, 0)) from (heap_setCell_same _ _ 0 _ _ _ rA4_.out))
  clear rA4_
  have G9_ := Lib.hid (show (W).grownBy ((w1.setCell ⟨W.heap.size, 0, none⟩ (.slice qp len1 qc))) none from (gby_setnew G6_.out _ (by dsimp only; omega) _))
  have qo_ := Lib.hid (show OwL shB ((w1.setCell ⟨W.heap.size, 0, none⟩ (.slice qp len1 qc))) (W.heap.size + 1 + 1) (w1.heap.size) (.slice qp len1 qc) os from OwL.keep qo.out (chg_one _ _ _ _) (.inr (by omega)))
  have A_0_ : ((w1.setCell ⟨W.heap.size, 0, none⟩ (.slice qp len1 qc))).cell? ⟨W.heap.size, 0, none⟩ = some (.slice qp len1 qc) := cell_of_row _ _ 0 _ _ _ rA8_.out
  have R_0_ : ((w1.setCell ⟨W.heap.size, 0, none⟩ (.slice qp len1 qc))).cell? ⟨W.heap.size + 1, 0, none⟩ = some (.slice none 0 0) := cell_of_row _ _ 0 _ _ _ rR7_.out
  go_wp2_with fail
  go_at_call 38
  refine (((implGuard _ _ _ xs os (HT.out.grow G9_.out) (qo_.out.rd) HL.out HLS.out).mono (bpost_yes HP_.out))).mono ?_
  rintro e w2 ⟨rfl, g⟩
  have gq_ := Lib.hid g
  have szw2 := g.size
  try simp only [World.size_alloc] at szw2
  try simp only [World.size_setCell] at szw2
  clear A_0_ R_0_
  have rA10_ := Lib.hid (show (w2).heap[W.heap.size]? = some (.cells #[.slice qp len1 qc] 46 (0, 0)) from row_held g rA8_.out)
  clear rA8_
  have rR11_ := Lib.hid (show (w2).heap[W.heap.size + 1]? = some (.cells #[.slice none 0 0] 46 (0, 0)) from row_held g rR7_.out)
  clear rR7_
  have G12_ := Lib.hid (show (W).grownBy (w2) none from gby_trans G9_.out g)
  clear g
  have A_0_ : (w2).cell? ⟨W.heap.size, 0, none⟩ = some (.slice qp len1 qc) := cell_of_row _ _ 0 _ _ _ rA10_.out
  have R_0_ : (w2).cell? ⟨W.heap.size + 1, 0, none⟩ = some (.slice none 0 0) := cell_of_row _ _ 0 _ _ _ rR11_.out
  have hk1 : IntKind.i64.wrap ((n0 : Int) - 1) = (n0 : Int) - 1 := IntWalk.i64_in _ (by omega)
  go_wp2_with fail
  go_at_call 54
  refine (rng_no _ _ _ _ HK.out).mono ?_
  rintro e w3_ ⟨rfl, rfl⟩
  clear A_0_ R_0_
  have A_0_ : (w2).cell? ⟨W.heap.size, 0, none⟩ = some (.slice qp len1 qc) := cell_of_row _ _ 0 _ _ _ rA10_.out
  have R_0_ : (w2).cell? ⟨W.heap.size + 1, 0, none⟩ = some (.slice none 0 0) := cell_of_row _ _ 0 _ _ _ rR11_.out
  have Rf0_ : (w2).frozen? ⟨W.heap.size + 1, 0, none⟩ = false := frozen_of_row _ _ 0 _ _ rR11_.out
  have z0_ : (w2.setCell ⟨W.heap.size + 1, 0, none⟩ (.slice qp len1 qc)).cell? ⟨W.heap.size + 1, 0, none⟩ = some (.slice qp len1 qc) := cell_of_row _ _ 0 _ _ _ (heap_setCell_same _ _ 0 _ _ _ rR11_.out)
  go_wp2
  refine bodyPost_ret (v := .tuple #[.agg #[.slice qp len1 qc], .bool false]) (by simp [results, go_sem, z0_]) rfl ⟨_, rfl, ?_, ?_⟩
  · exact OwU.one (OwL.wide (OwL.keep ((qo_.out.grow gq_.out)) (chg_one _ _ _ _) (.inr (by omega))) (by omega) (by simp; omega))
  · exact gby_setnew G12_.out _ (by dsimp only; omega) _

set_option maxRecDepth 8000 in
set_option maxHeartbeats 2000000 in
theorem implGSet_same_true (W : World) (v u : Value) (xs : List DNode) (os : List Bool) (k : Nat) (H : RdL shNode W v xs) (Hs : RdL shB W u os) (hl : szL shNode xs ≤ 1048576) (hls : szL shB os ≤ 1048576) (hp : GuardP xs os) (hk1_ : 1 ≤ k) (hk : k < xs.length) (hx : os.getD k false = true) : Calls Try.prog 71 #[v, vGuard u, .int .i64 (k : Int), .bool true] W (GSet os false W) := by
  have HP_ := Lib.hid hp
  have hsl : os.length = xs.length := hp.2.1
  have HKN := Lib.hid hk
  have HSN := Lib.hid hsl
  have HXO := Lib.hid hx
  clear hp hk hsl hx
  have HT := Lib.hid H
  have HSB := Lib.hid Hs
  have HL := Lib.hid hl
  have HLS := Lib.hid hls
  have HMX := Lib.hid Hs.max
  rw [szL_B] at hls
  have hlx : xs.length ≤ 1048576 := by have := szL_len shNode xs; omega
  obtain ⟨a0, n0, c0, rfl⟩ := RdL.form H
  have hn0 : n0 = xs.length := by obtain ⟨_, _, e, _⟩ := H; injection e
  obtain ⟨a1, cap1, rfl, hcap1, hi1⟩ := rdB_in Hs
  have HA1 := Lib.hid hi1
  have HE := Lib.hid hn0
  obtain ⟨len1, hlen1⟩ : ∃ len, len = os.length := ⟨_, rfl⟩
  have HE1 := Lib.hid hlen1
  unfold RdB at HA1
  rw [← hlen1] at hls HA1 HSB ⊢
  have hn0b : n0 ≤ 1048576 := by omega
  clear H Hs hi1 hn0 hlen1 hl hcap1
  have hlb : len1 ≤ 1048576 := by omega
  unfold vGuard
  have hkL : k < len1 := by have := HKN.out; have := HSN.out; have := HE1.out; omega
  have hkl0 : k < n0 := by have := HKN.out; have := HE.out; omega
  have hki : (k : Int) < (len1 : Int) := by omega
  have hk0 : (0 : Int) ≤ (k : Int) := by omega
  have htk : ((k : Int)).toNat = k := by omega
  obtain ⟨b1, off1, rfl, hcell1⟩ := HA1.out.resolve_left (by omega)
  have hxc := hcell1 k (by have := HE1.out; omega)
  rw [HXO.out] at hxc
  have HXC := Lib.hid hxc
  clear hxc hcell1
  go_enter Try.func71, Try.ntmps71
  have rA1_ := Lib.hid (show (((W.alloc (.cells #[.slice (some ⟨b1, off1, none⟩) len1 cap1] 46)).alloc (.cells #[.slice none 0 0] 46))).heap[W.heap.size]? = some (.cells #[.slice (some ⟨b1, off1, none⟩) len1 cap1] 46 (0, 0)) from by rw [heap_alloc_old _ _ (by simp only [World.size_alloc]; omega)]; exact heap_alloc_new _ _)
  have rR2_ := Lib.hid (show (((W.alloc (.cells #[.slice (some ⟨b1, off1, none⟩) len1 cap1] 46)).alloc (.cells #[.slice none 0 0] 46))).heap[W.heap.size + 1]? = some (.cells #[.slice none 0 0] 46 (0, 0)) from by exact heap_pair _ _ _)
  have G3_ := Lib.hid (show (W).grownBy (((W.alloc (.cells #[.slice (some ⟨b1, off1, none⟩) len1 cap1] 46)).alloc (.cells #[.slice none 0 0] 46))) none from (gby_alloc (gby_alloc (gby_refl _ _) _) _))
  have A_0_ : (((W.alloc (.cells #[.slice (some ⟨b1, off1, none⟩) len1 cap1] 46)).alloc (.cells #[.slice none 0 0] 46))).cell? ⟨W.heap.size, 0, none⟩ = some (.slice (some ⟨b1, off1, none⟩) len1 cap1) := cell_of_row _ _ 0 _ _ _ rA1_.out
  have R_0_ : (((W.alloc (.cells #[.slice (some ⟨b1, off1, none⟩) len1 cap1] 46)).alloc (.cells #[.slice none 0 0] 46))).cell? ⟨W.heap.size + 1, 0, none⟩ = some (.slice none 0 0) := cell_of_row _ _ 0 _ _ _ rR2_.out
  go_wp2_with fail
  go_at_call 85
  refine (copiedGuard_d _ _ os (HSB.out.grow G3_.out) HLS.out).mono ?_
  rintro e w1 ⟨v2_, rfl, o_, g⟩
  have sz_ := g.size
  try simp only [World.size_alloc] at sz_ o_
  try unfold vGuard
  have o_ := gowU_out o_
  obtain ⟨qp, qn, qc, hv_⟩ := RdL.form o_.rd
  subst hv_
  obtain rfl : len1 = qn := by have := (rdP_cells plainB o_.rd).1; have := HE1.out; omega
  have qo := Lib.hid o_
  clear o_
  clear A_0_ R_0_
  have rA4_ := Lib.hid (show (w1).heap[W.heap.size]? = some (.cells #[.slice (some ⟨b1, off1, none⟩) len1 cap1] 46 (0, 0)) from row_held g rA1_.out)
  clear rA1_
  have rR5_ := Lib.hid (show (w1).heap[W.heap.size + 1]? = some (.cells #[.slice none 0 0] 46 (0, 0)) from row_held g rR2_.out)
  clear rR2_
  have G6_ := Lib.hid (show (W).grownBy (w1) none from gby_trans G3_.out g)
  clear g
  have A_0_ : (w1).cell? ⟨W.heap.size, 0, none⟩ = some (.slice (some ⟨b1, off1, none⟩) len1 cap1) := cell_of_row _ _ 0 _ _ _ rA4_.out
  have Af0_ : (w1).frozen? ⟨W.heap.size, 0, none⟩ = false := frozen_of_row _ _ 0 _ _ rA4_.out
  have R_0_ : (w1).cell? ⟨W.heap.size + 1, 0, none⟩ = some (.slice none 0 0) := cell_of_row _ _ 0 _ _ _ rR5_.out
  go_wp2_with fail
  clear A_0_ Af0_ R_0_
  have rR7_ := Lib.hid (show ((w1.setCell ⟨W.heap.size, 0, none⟩ (.slice qp len1 qc))).heap[W.heap.size + 1]? = some (.cells #[.slice none 0 0] 46 (0, 0)) from (set_far rR5_.out (by dsimp only; omega)))
  clear rR5_
  have rA8_ := Lib.hid (show ((w1.setCell ⟨W.heap.size, 0, none⟩ (.slice qp len1 qc))).heap[W.heap.size]? = some (.cells #[.slice qp len1 qc] 46 (0, 0)) from (heap_setCell_same _ _ 0 _ _ _ rA4_.out))
  clear rA4_
  have G9_ := Lib.hid (show (W).grownBy ((w1.setCell ⟨W.heap.size, 0, none⟩ (.slice qp len1 qc))) none from (gby_setnew G6_.out _ (by dsimp only; omega) _))
  have qo_ := Lib.hid (show OwL shB ((w1.setCell ⟨W.heap.size, 0, none⟩ (.slice qp len1 qc))) (W.heap.size + 1 + 1) (w1.heap.size) (.slice qp len1 qc) os from OwL.keep qo.out (chg_one _ _ _ _) (.inr (by omega)))
  have A_0_ : ((w1.setCell ⟨W.heap.size, 0, none⟩ (.slice qp len1 qc))).cell? ⟨W.heap.size, 0, none⟩ = some (.slice qp len1 qc) := cell_of_row _ _ 0 _ _ _ rA8_.out
  have R_0_ : ((w1.setCell ⟨W.heap.size, 0, none⟩ (.slice qp len1 qc))).cell? ⟨W.heap.size + 1, 0, none⟩ = some (.slice none 0 0) := cell_of_row _ _ 0 _ _ _ rR7_.out
  go_wp2_with fail
  go_at_call 38
  refine (((implGuard _ _ _ xs os (HT.out.grow G9_.out) (qo_.out.rd) HL.out HLS.out).mono (bpost_yes HP_.out))).mono ?_
  rintro e w2 ⟨rfl, g⟩
  have gq_ := Lib.hid g
  have szw2 := g.size
  try simp only [World.size_alloc] at szw2
  try simp only [World.size_setCell] at szw2
  clear A_0_ R_0_
  have rA10_ := Lib.hid (show (w2).heap[W.heap.size]? = some (.cells #[.slice qp len1 qc] 46 (0, 0)) from row_held g rA8_.out)
  clear rA8_
  have rR11_ := Lib.hid (show (w2).heap[W.heap.size + 1]? = some (.cells #[.slice none 0 0] 46 (0, 0)) from row_held g rR7_.out)
  clear rR7_
  have G12_ := Lib.hid (show (W).grownBy (w2) none from gby_trans G9_.out g)
  clear g
  have A_0_ : (w2).cell? ⟨W.heap.size, 0, none⟩ = some (.slice qp len1 qc) := cell_of_row _ _ 0 _ _ _ rA10_.out
  have R_0_ : (w2).cell? ⟨W.heap.size + 1, 0, none⟩ = some (.slice none 0 0) := cell_of_row _ _ 0 _ _ _ rR11_.out
  have hk1 : IntKind.i64.wrap ((n0 : Int) - 1) = (n0 : Int) - 1 := IntWalk.i64_in _ (by omega)
  obtain ⟨bb, off2, cc, hvv, s1, s2, s3, s4, s5⟩ := owB_at (qo_.out.grow gq_.out) k (by have := HE1.out; omega)
  injection hvv with e1 e2 e3
  subst e1
  subst e3
  clear e2
  rw [HXO.out] at s3
  have S5 := Lib.hid (s5 true)
  clear s5
  clear A_0_ R_0_
  have A_0_ : (w2).cell? ⟨W.heap.size, 0, none⟩ = some (.slice (some ⟨bb, off2, none⟩) len1 qc) := cell_of_row _ _ 0 _ _ _ rA10_.out
  have R_0_ : (w2).cell? ⟨W.heap.size + 1, 0, none⟩ = some (.slice none 0 0) := cell_of_row _ _ 0 _ _ _ rR11_.out
  go_wp2_with fail
  go_at_call 54
  refine (rng_yes _ _ _ _ (by omega) (by omega)).mono ?_
  rintro e w3_ ⟨rfl, rfl⟩
  clear A_0_ R_0_
  have A_0_ : (w2).cell? ⟨W.heap.size, 0, none⟩ = some (.slice (some ⟨bb, off2, none⟩) len1 qc) := cell_of_row _ _ 0 _ _ _ rA10_.out
  have R_0_ : (w2).cell? ⟨W.heap.size + 1, 0, none⟩ = some (.slice none 0 0) := cell_of_row _ _ 0 _ _ _ rR11_.out
  have Rf0_ : (w2).frozen? ⟨W.heap.size + 1, 0, none⟩ = false := frozen_of_row _ _ 0 _ _ rR11_.out
  have z0_ : (w2.setCell ⟨W.heap.size + 1, 0, none⟩ (.slice (some ⟨bb, off2, none⟩) len1 qc)).cell? ⟨W.heap.size + 1, 0, none⟩ = some (.slice (some ⟨bb, off2, none⟩) len1 qc) := cell_of_row _ _ 0 _ _ _ (heap_setCell_same _ _ 0 _ _ _ rR11_.out)
  go_wp2
  refine bodyPost_ret (v := .tuple #[.agg #[.slice (some ⟨bb, off2, none⟩) len1 qc], .bool false]) (by simp [results, go_sem, z0_]) rfl ⟨_, rfl, ?_, ?_⟩
  · exact OwU.one (OwL.wide (OwL.keep ((qo_.out.grow gq_.out)) (chg_one _ _ _ _) (.inr (by omega))) (by omega) (by simp; omega))
  · exact gby_setnew G12_.out _ (by dsimp only; omega) _

set_option maxRecDepth 8000 in
set_option maxHeartbeats 2000000 in
theorem implGSet_same_false (W : World) (v u : Value) (xs : List DNode) (os : List Bool) (k : Nat) (H : RdL shNode W v xs) (Hs : RdL shB W u os) (hl : szL shNode xs ≤ 1048576) (hls : szL shB os ≤ 1048576) (hp : GuardP xs os) (hk1_ : 1 ≤ k) (hk : k < xs.length) (hx : os.getD k false = false) : Calls Try.prog 71 #[v, vGuard u, .int .i64 (k : Int), .bool false] W (GSet os false W) := by
  have HP_ := Lib.hid hp
  have hsl : os.length = xs.length := hp.2.1
  have HKN := Lib.hid hk
  have HSN := Lib.hid hsl
  have HXO := Lib.hid hx
  clear hp hk hsl hx
  have HT := Lib.hid H
  have HSB := Lib.hid Hs
  have HL := Lib.hid hl
  have HLS := Lib.hid hls
  have HMX := Lib.hid Hs.max
  rw [szL_B] at hls
  have hlx : xs.length ≤ 1048576 := by have := szL_len shNode xs; omega
  obtain ⟨a0, n0, c0, rfl⟩ := RdL.form H
  have hn0 : n0 = xs.length := by obtain ⟨_, _, e, _⟩ := H; injection e
  obtain ⟨a1, cap1, rfl, hcap1, hi1⟩ := rdB_in Hs
  have HA1 := Lib.hid hi1
  have HE := Lib.hid hn0
  obtain ⟨len1, hlen1⟩ : ∃ len, len = os.length := ⟨_, rfl⟩
  have HE1 := Lib.hid hlen1
  unfold RdB at HA1
  rw [← hlen1] at hls HA1 HSB ⊢
  have hn0b : n0 ≤ 1048576 := by omega
  clear H Hs hi1 hn0 hlen1 hl hcap1
  have hlb : len1 ≤ 1048576 := by omega
  unfold vGuard
  have hkL : k < len1 := by have := HKN.out; have := HSN.out; have := HE1.out; omega
  have hkl0 : k < n0 := by have := HKN.out; have := HE.out; omega
  have hki : (k : Int) < (len1 : Int) := by omega
  have hk0 : (0 : Int) ≤ (k : Int) := by omega
  have htk : ((k : Int)).toNat = k := by omega
  obtain ⟨b1, off1, rfl, hcell1⟩ := HA1.out.resolve_left (by omega)
  have hxc := hcell1 k (by have := HE1.out; omega)
  rw [HXO.out] at hxc
  have HXC := Lib.hid hxc
  clear hxc hcell1
  go_enter Try.func71, Try.ntmps71
  have rA1_ := Lib.hid (show (((W.alloc (.cells #[.slice (some ⟨b1, off1, none⟩) len1 cap1] 46)).alloc (.cells #[.slice none 0 0] 46))).heap[W.heap.size]? = some (.cells #[.slice (some ⟨b1, off1, none⟩) len1 cap1] 46 (0, 0)) from by rw [heap_alloc_old _ _ (by simp only [World.size_alloc]; omega)]; exact heap_alloc_new _ _)
  have rR2_ := Lib.hid (show (((W.alloc (.cells #[.slice (some ⟨b1, off1, none⟩) len1 cap1] 46)).alloc (.cells #[.slice none 0 0] 46))).heap[W.heap.size + 1]? = some (.cells #[.slice none 0 0] 46 (0, 0)) from by exact heap_pair _ _ _)
  have G3_ := Lib.hid (show (W).grownBy (((W.alloc (.cells #[.slice (some ⟨b1, off1, none⟩) len1 cap1] 46)).alloc (.cells #[.slice none 0 0] 46))) none from (gby_alloc (gby_alloc (gby_refl _ _) _) _))
  have A_0_ : (((W.alloc (.cells #[.slice (some ⟨b1, off1, none⟩) len1 cap1] 46)).alloc (.cells #[.slice none 0 0] 46))).cell? ⟨W.heap.size, 0, none⟩ = some (.slice (some ⟨b1, off1, none⟩) len1 cap1) := cell_of_row _ _ 0 _ _ _ rA1_.out
  have R_0_ : (((W.alloc (.cells #[.slice (some ⟨b1, off1, none⟩) len1 cap1] 46)).alloc (.cells #[.slice none 0 0] 46))).cell? ⟨W.heap.size + 1, 0, none⟩ = some (.slice none 0 0) := cell_of_row _ _ 0 _ _ _ rR2_.out
  go_wp2_with fail
  go_at_call 85
  refine (copiedGuard_d _ _ os (HSB.out.grow G3_.out) HLS.out).mono ?_
  rintro e w1 ⟨v2_, rfl, o_, g⟩
  have sz_ := g.size
  try simp only [World.size_alloc] at sz_ o_
  try unfold vGuard
  have o_ := gowU_out o_
  obtain ⟨qp, qn, qc, hv_⟩ := RdL.form o_.rd
  subst hv_
  obtain rfl : len1 = qn := by have := (rdP_cells plainB o_.rd).1; have := HE1.out; omega
  have qo := Lib.hid o_
  clear o_
  clear A_0_ R_0_
  have rA4_ := Lib.hid (show (w1).heap[W.heap.size]? = some (.cells #[.slice (some ⟨b1, off1, none⟩) len1 cap1] 46 (0, 0)) from row_held g rA1_.out)
  clear rA1_
  have rR5_ := Lib.hid (show (w1).heap[W.heap.size + 1]? = some (.cells #[.slice none 0 0] 46 (0, 0)) from row_held g rR2_.out)
  clear rR2_
  have G6_ := Lib.hid (show (W).grownBy (w1) none from gby_trans G3_.out g)
  clear g
  have A_0_ : (w1).cell? ⟨W.heap.size, 0, none⟩ = some (.slice (some ⟨b1, off1, none⟩) len1 cap1) := cell_of_row _ _ 0 _ _ _ rA4_.out
  have Af0_ : (w1).frozen? ⟨W.heap.size, 0, none⟩ = false := frozen_of_row _ _ 0 _ _ rA4_.out
  have R_0_ : (w1).cell? ⟨W.heap.size + 1, 0, none⟩ = some (.slice none 0 0) := cell_of_row _ _ 0 _ _ _ rR5_.out
  go_wp2_with fail
  clear A_0_ Af0_ R_0_
  have rR7_ := Lib.hid (show ((w1.setCell ⟨W.heap.size, 0, none⟩ (.slice qp len1 qc))).heap[W.heap.size + 1]? = some (.cells #[.slice none 0 0] 46 (0, 0)) from (set_far rR5_.out (by dsimp only; omega)))
  clear rR5_
  have rA8_ := Lib.hid (show ((w1.setCell ⟨W.heap.size, 0, none⟩ (.slice qp len1 qc))).heap[W.heap.size]? = some (.cells #[.slice qp len1 qc] 46 (0, 0)) from (heap_setCell_same _ _ 0 _ _ _ rA4_.out))
  clear rA4_
  have G9_ := Lib.hid (show (W).grownBy ((w1.setCell ⟨W.heap.size, 0, none⟩ (.slice qp len1 qc))) none from (gby_setnew G6_.out _ (by dsimp only; omega) _))
  have qo_ := Lib.hid (show OwL shB ((w1.setCell ⟨W.heap.size, 0, none⟩ (.slice qp len1 qc))) (W.heap.size + 1 + 1) (w1.heap.size) (.slice qp len1 qc) os from OwL.keep qo.out (chg_one _ _ _ _) (.inr (by omega)))
  have A_0_ : ((w1.setCell ⟨W.heap.size, 0, none⟩ (.slice qp len1 qc))).cell? ⟨W.heap.size, 0, none⟩ = some (.slice qp len1 qc) := cell_of_row _ _ 0 _ _ _ rA8_.out
  have R_0_ : ((w1.setCell ⟨W.heap.size, 0, none⟩ (.slice qp len1 qc))).cell? ⟨W.heap.size + 1, 0, none⟩ = some (.slice none 0 0) := cell_of_row _ _ 0 _ _ _ rR7_.out
  go_wp2_with fail
  go_at_call 38
  refine (((implGuard _ _ _ xs os (HT.out.grow G9_.out) (qo_.out.rd) HL.out HLS.out).mono (bpost_yes HP_.out))).mono ?_
  rintro e w2 ⟨rfl, g⟩
  have gq_ := Lib.hid g
  have szw2 := g.size
  try simp only [World.size_alloc] at szw2
  try simp only [World.size_setCell] at szw2
  clear A_0_ R_0_
  have rA10_ := Lib.hid (show (w2).heap[W.heap.size]? = some (.cells #[.slice qp len1 qc] 46 (0, 0)) from row_held g rA8_.out)
  clear rA8_
  have rR11_ := Lib.hid (show (w2).heap[W.heap.size + 1]? = some (.cells #[.slice none 0 0] 46 (0, 0)) from row_held g rR7_.out)
  clear rR7_
  have G12_ := Lib.hid (show (W).grownBy (w2) none from gby_trans G9_.out g)
  clear g
  have A_0_ : (w2).cell? ⟨W.heap.size, 0, none⟩ = some (.slice qp len1 qc) := cell_of_row _ _ 0 _ _ _ rA10_.out
  have R_0_ : (w2).cell? ⟨W.heap.size + 1, 0, none⟩ = some (.slice none 0 0) := cell_of_row _ _ 0 _ _ _ rR11_.out
  have hk1 : IntKind.i64.wrap ((n0 : Int) - 1) = (n0 : Int) - 1 := IntWalk.i64_in _ (by omega)
  obtain ⟨bb, off2, cc, hvv, s1, s2, s3, s4, s5⟩ := owB_at (qo_.out.grow gq_.out) k (by have := HE1.out; omega)
  injection hvv with e1 e2 e3
  subst e1
  subst e3
  clear e2
  rw [HXO.out] at s3
  have S5 := Lib.hid (s5 false)
  clear s5
  clear A_0_ R_0_
  have A_0_ : (w2).cell? ⟨W.heap.size, 0, none⟩ = some (.slice (some ⟨bb, off2, none⟩) len1 qc) := cell_of_row _ _ 0 _ _ _ rA10_.out
  have R_0_ : (w2).cell? ⟨W.heap.size + 1, 0, none⟩ = some (.slice none 0 0) := cell_of_row _ _ 0 _ _ _ rR11_.out
  go_wp2_with fail
  go_at_call 54
  refine (rng_yes _ _ _ _ (by omega) (by omega)).mono ?_
  rintro e w3_ ⟨rfl, rfl⟩
  clear A_0_ R_0_
  have A_0_ : (w2).cell? ⟨W.heap.size, 0, none⟩ = some (.slice (some ⟨bb, off2, none⟩) len1 qc) := cell_of_row _ _ 0 _ _ _ rA10_.out
  have R_0_ : (w2).cell? ⟨W.heap.size + 1, 0, none⟩ = some (.slice none 0 0) := cell_of_row _ _ 0 _ _ _ rR11_.out
  have Rf0_ : (w2).frozen? ⟨W.heap.size + 1, 0, none⟩ = false := frozen_of_row _ _ 0 _ _ rR11_.out
  have z0_ : (w2.setCell ⟨W.heap.size + 1, 0, none⟩ (.slice (some ⟨bb, off2, none⟩) len1 qc)).cell? ⟨W.heap.size + 1, 0, none⟩ = some (.slice (some ⟨bb, off2, none⟩) len1 qc) := cell_of_row _ _ 0 _ _ _ (heap_setCell_same _ _ 0 _ _ _ rR11_.out)
  go_wp2
  refine bodyPost_ret (v := .tuple #[.agg #[.slice (some ⟨bb, off2, none⟩) len1 qc], .bool false]) (by simp [results, go_sem, z0_]) rfl ⟨_, rfl, ?_, ?_⟩
  · exact OwU.one (OwL.wide (OwL.keep ((qo_.out.grow gq_.out)) (chg_one _ _ _ _) (.inr (by omega))) (by omega) (by simp; omega))
  · exact gby_setnew G12_.out _ (by dsimp only; omega) _

set_option maxRecDepth 8000 in
set_option maxHeartbeats 2000000 in
theorem implGSet_set_true (W : World) (v u : Value) (xs : List DNode) (os : List Bool) (k : Nat) (H : RdL shNode W v xs) (Hs : RdL shB W u os) (hl : szL shNode xs ≤ 1048576) (hls : szL shB os ≤ 1048576) (hp : GuardP xs os) (hk1_ : 1 ≤ k) (hk : k < xs.length) (hx : os.getD k false = false) : Calls Try.prog 71 #[v, vGuard u, .int .i64 (k : Int), .bool true] W (GSet (os.set k true) true W) := by
  have HP_ := Lib.hid hp
  have hsl : os.length = xs.length := hp.2.1
  have HKN := Lib.hid hk
  have HSN := Lib.hid hsl
  have HXO := Lib.hid hx
  clear hp hk hsl hx
  have HT := Lib.hid H
  have HSB := Lib.hid Hs
  have HL := Lib.hid hl
  have HLS := Lib.hid hls
  have HMX := Lib.hid Hs.max
  rw [szL_B] at hls
  have hlx : xs.length ≤ 1048576 := by have := szL_len shNode xs; omega
  obtain ⟨a0, n0, c0, rfl⟩ := RdL.form H
  have hn0 : n0 = xs.length := by obtain ⟨_, _, e, _⟩ := H; injection e
  obtain ⟨a1, cap1, rfl, hcap1, hi1⟩ := rdB_in Hs
  have HA1 := Lib.hid hi1
  have HE := Lib.hid hn0
  obtain ⟨len1, hlen1⟩ : ∃ len, len = os.length := ⟨_, rfl⟩
  have HE1 := Lib.hid hlen1
  unfold RdB at HA1
  rw [← hlen1] at hls HA1 HSB ⊢
  have hn0b : n0 ≤ 1048576 := by omega
  clear H Hs hi1 hn0 hlen1 hl hcap1
  have hlb : len1 ≤ 1048576 := by omega
  unfold vGuard
  have hkL : k < len1 := by have := HKN.out; have := HSN.out; have := HE1.out; omega
  have hkl0 : k < n0 := by have := HKN.out; have := HE.out; omega
  have hki : (k : Int) < (len1 : Int) := by omega
  have hk0 : (0 : Int) ≤ (k : Int) := by omega
  have htk : ((k : Int)).toNat = k := by omega
  obtain ⟨b1, off1, rfl, hcell1⟩ := HA1.out.resolve_left (by omega)
  have hxc := hcell1 k (by have := HE1.out; omega)
  rw [HXO.out] at hxc
  have HXC := Lib.hid hxc
  clear hxc hcell1
  go_enter Try.func71, Try.ntmps71
  have rA1_ := Lib.hid (show (((W.alloc (.cells #[.slice (some ⟨b1, off1, none⟩) len1 cap1] 46)).alloc (.cells #[.slice none 0 0] 46))).heap[W.heap.size]? = some (.cells #[.slice (some ⟨b1, off1, none⟩) len1 cap1] 46 (0, 0)) from by rw [heap_alloc_old _ _ (by simp only [World.size_alloc]; omega)]; exact heap_alloc_new _ _)
  have rR2_ := Lib.hid (show (((W.alloc (.cells #[.slice (some ⟨b1, off1, none⟩) len1 cap1] 46)).alloc (.cells #[.slice none 0 0] 46))).heap[W.heap.size + 1]? = some (.cells #[.slice none 0 0] 46 (0, 0)) from by exact heap_pair _ _ _)
  have G3_ := Lib.hid (show (W).grownBy (((W.alloc (.cells #[.slice (some ⟨b1, off1, none⟩) len1 cap1] 46)).alloc (.cells #[.slice none 0 0] 46))) none from (gby_alloc (gby_alloc (gby_refl _ _) _) _))
  have A_0_ : (((W.alloc (.cells #[.slice (some ⟨b1, off1, none⟩) len1 cap1] 46)).alloc (.cells #[.slice none 0 0] 46))).cell? ⟨W.heap.size, 0, none⟩ = some (.slice (some ⟨b1, off1, none⟩) len1 cap1) := cell_of_row _ _ 0 _ _ _ rA1_.out
  have R_0_ : (((W.alloc (.cells #[.slice (some ⟨b1, off1, none⟩) len1 cap1] 46)).alloc (.cells #[.slice none 0 0] 46))).cell? ⟨W.heap.size + 1, 0, none⟩ = some (.slice none 0 0) := cell_of_row _ _ 0 _ _ _ rR2_.out
  go_wp2_with fail
  go_at_call 85
  refine (copiedGuard_d _ _ os (HSB.out.grow G3_.out) HLS.out).mono ?_
  rintro e w1 ⟨v2_, rfl, o_, g⟩
  have sz_ := g.size
  try simp only [World.size_alloc] at sz_ o_
  try unfold vGuard
  have o_ := gowU_out o_
  obtain ⟨qp, qn, qc, hv_⟩ := RdL.form o_.rd
  subst hv_
  obtain rfl : len1 = qn := by have := (rdP_cells plainB o_.rd).1; have := HE1.out; omega
  have qo := Lib.hid o_
  clear o_
  clear A_0_ R_0_
  have rA4_ := Lib.hid (show (w1).heap[W.heap.size]? = some (.cells #[.slice (some ⟨b1, off1, none⟩) len1 cap1] 46 (0, 0)) from row_held g rA1_.out)
  clear rA1_
  have rR5_ := Lib.hid (show (w1).heap[W.heap.size + 1]? = some (.cells #[.slice none 0 0] 46 (0, 0)) from row_held g rR2_.out)
  clear rR2_
  have G6_ := Lib.hid (show (W).grownBy (w1) none from gby_trans G3_.out g)
  clear g
  have A_0_ : (w1).cell? ⟨W.heap.size, 0, none⟩ = some (.slice (some ⟨b1, off1, none⟩) len1 cap1) := cell_of_row _ _ 0 _ _ _ rA4_.out
  have Af0_ : (w1).frozen? ⟨W.heap.size, 0, none⟩ = false := frozen_of_row _ _ 0 _ _ rA4_.out
  have R_0_ : (w1).cell? ⟨W.heap.size + 1, 0, none⟩ = some (.slice none 0 0) := cell_of_row _ _ 0 _ _ _ rR5_.out
  go_wp2_with fail
  clear A_0_ Af0_ R_0_
  have rR7_ := Lib.hid (show ((w1.setCell ⟨W.heap.size, 0, none⟩ (.slice qp len1 qc))).heap[W.heap.size + 1]? = some (.cells #[.slice none 0 0] 46 (0, 0)) from (set_far rR5_.out (by dsimp only; omega)))
  clear rR5_
  have rA8_ := Lib.hid (show ((w1.setCell ⟨W.heap.size, 0, none⟩ (.slice qp len1 qc))).heap[W.heap.size]? = some (.cells #[.slice qp len1 qc] 46 (0, 0)) from (heap_setCell_same _ _ 0 _ _ _ rA4_.out))
  clear rA4_
  have G9_ := Lib.hid (show (W).grownBy ((w1.setCell ⟨W.heap.size, 0, none⟩ (.slice qp len1 qc))) none from (gby_setnew G6_.out _ (by dsimp only; omega) _))
  have qo_ := Lib.hid (show OwL shB ((w1.setCell ⟨W.heap.size, 0, none⟩ (.slice qp len1 qc))) (W.heap.size + 1 + 1) (w1.heap.size) (.slice qp len1 qc) os from OwL.keep qo.out (chg_one _ _ _ _) (.inr (by omega)))
  have A_0_ : ((w1.setCell ⟨W.heap.size, 0, none⟩ (.slice qp len1 qc))).cell? ⟨W.heap.size, 0, none⟩ = some (.slice qp len1 qc) := cell_of_row _ _ 0 _ _ _ rA8_.out
  have R_0_ : ((w1.setCell ⟨W.heap.size, 0, none⟩ (.slice qp len1 qc))).cell? ⟨W.heap.size + 1, 0, none⟩ = some (.slice none 0 0) := cell_of_row _ _ 0 _ _ _ rR7_.out
  go_wp2_with fail
  go_at_call 38
  refine (((implGuard _ _ _ xs os (HT.out.grow G9_.out) (qo_.out.rd) HL.out HLS.out).mono (bpost_yes HP_.out))).mono ?_
  rintro e w2 ⟨rfl, g⟩
  have gq_ := Lib.hid g
  have szw2 := g.size
  try simp only [World.size_alloc] at szw2
  try simp only [World.size_setCell] at szw2
  clear A_0_ R_0_
  have rA10_ := Lib.hid (show (w2).heap[W.heap.size]? = some (.cells #[.slice qp len1 qc] 46 (0, 0)) from row_held g rA8_.out)
  clear rA8_
  have rR11_ := Lib.hid (show (w2).heap[W.heap.size + 1]? = some (.cells #[.slice none 0 0] 46 (0, 0)) from row_held g rR7_.out)
  clear rR7_
  have G12_ := Lib.hid (show (W).grownBy (w2) none from gby_trans G9_.out g)
  clear g
  have A_0_ : (w2).cell? ⟨W.heap.size, 0, none⟩ = some (.slice qp len1 qc) := cell_of_row _ _ 0 _ _ _ rA10_.out
  have R_0_ : (w2).cell? ⟨W.heap.size + 1, 0, none⟩ = some (.slice none 0 0) := cell_of_row _ _ 0 _ _ _ rR11_.out
  have hk1 : IntKind.i64.wrap ((n0 : Int) - 1) = (n0 : Int) - 1 := IntWalk.i64_in _ (by omega)
  obtain ⟨bb, off2, cc, hvv, s1, s2, s3, s4, s5⟩ := owB_at (qo_.out.grow gq_.out) k (by have := HE1.out; omega)
  injection hvv with e1 e2 e3
  subst e1
  subst e3
  clear e2
  rw [HXO.out] at s3
  have S5 := Lib.hid (s5 true)
  clear s5
  clear A_0_ R_0_
  have A_0_ : (w2).cell? ⟨W.heap.size, 0, none⟩ = some (.slice (some ⟨bb, off2, none⟩) len1 qc) := cell_of_row _ _ 0 _ _ _ rA10_.out
  have R_0_ : (w2).cell? ⟨W.heap.size + 1, 0, none⟩ = some (.slice none 0 0) := cell_of_row _ _ 0 _ _ _ rR11_.out
  go_wp2_with fail
  go_at_call 54
  refine (rng_yes _ _ _ _ (by omega) (by omega)).mono ?_
  rintro e w3_ ⟨rfl, rfl⟩
  have rA13_ := Lib.hid (show ((w2.setCell ⟨bb, off2 + k, none⟩ (.bool true))).heap[W.heap.size]? = some (.cells #[.slice (some ⟨bb, off2, none⟩) len1 qc] 46 (0, 0)) from Chg.keep S5.out.2 rA10_.out (by omega))
  clear rA10_
  have rR14_ := Lib.hid (show ((w2.setCell ⟨bb, off2 + k, none⟩ (.bool true))).heap[W.heap.size + 1]? = some (.cells #[.slice none 0 0] 46 (0, 0)) from Chg.keep S5.out.2 rR11_.out (by omega))
  clear rR11_
  have G15_ := Lib.hid (show (W).grownBy ((w2.setCell ⟨bb, off2 + k, none⟩ (.bool true))) none from gby_chg G12_.out S5.out.2 (by omega))
  have A_0_ : ((w2.setCell ⟨bb, off2 + k, none⟩ (.bool true))).cell? ⟨W.heap.size, 0, none⟩ = some (.slice (some ⟨bb, off2, none⟩) len1 qc) := cell_of_row _ _ 0 _ _ _ rA13_.out
  have R_0_ : ((w2.setCell ⟨bb, off2 + k, none⟩ (.bool true))).cell? ⟨W.heap.size + 1, 0, none⟩ = some (.slice none 0 0) := cell_of_row _ _ 0 _ _ _ rR14_.out
  have Rf0_ : ((w2.setCell ⟨bb, off2 + k, none⟩ (.bool true))).frozen? ⟨W.heap.size + 1, 0, none⟩ = false := frozen_of_row _ _ 0 _ _ rR14_.out
  have z0_ : ((w2.setCell ⟨bb, off2 + k, none⟩ (.bool true)).setCell ⟨W.heap.size + 1, 0, none⟩ (.slice (some ⟨bb, off2, none⟩) len1 qc)).cell? ⟨W.heap.size + 1, 0, none⟩ = some (.slice (some ⟨bb, off2, none⟩) len1 qc) := cell_of_row _ _ 0 _ _ _ (heap_setCell_same _ _ 0 _ _ _ rR14_.out)
  go_wp2
  refine bodyPost_ret (v := .tuple #[.agg #[.slice (some ⟨bb, off2, none⟩) len1 qc], .bool true]) (by simp [results, go_sem, z0_]) rfl ⟨_, rfl, ?_, ?_⟩
  · exact OwU.one (OwL.wide (OwL.keep (S5.out.1) (chg_one _ _ _ _) (.inr (by omega))) (by omega) (by simp; omega))
  · exact gby_setnew G15_.out _ (by dsimp only; omega) _

set_option maxRecDepth 8000 in
set_option maxHeartbeats 2000000 in
theorem implGSet_set_false (W : World) (v u : Value) (xs : List DNode) (os : List Bool) (k : Nat) (H : RdL shNode W v xs) (Hs : RdL shB W u os) (hl : szL shNode xs ≤ 1048576) (hls : szL shB os ≤ 1048576) (hp : GuardP xs os) (hk1_ : 1 ≤ k) (hk : k < xs.length) (hx : os.getD k false = true) : Calls Try.prog 71 #[v, vGuard u, .int .i64 (k : Int), .bool false] W (GSet (os.set k false) true W) := by
  have HP_ := Lib.hid hp
  have hsl : os.length = xs.length := hp.2.1
  have HKN := Lib.hid hk
  have HSN := Lib.hid hsl
  have HXO := Lib.hid hx
  clear hp hk hsl hx
  have HT := Lib.hid H
  have HSB := Lib.hid Hs
  have HL := Lib.hid hl
  have HLS := Lib.hid hls
  have HMX := Lib.hid Hs.max
  rw [szL_B] at hls
  have hlx : xs.length ≤ 1048576 := by have := szL_len shNode xs; omega
  obtain ⟨a0, n0, c0, rfl⟩ := RdL.form H
  have hn0 : n0 = xs.length := by obtain ⟨_, _, e, _⟩ := H; injection e
  obtain ⟨a1, cap1, rfl, hcap1, hi1⟩ := rdB_in Hs
  have HA1 := Lib.hid hi1
  have HE := Lib.hid hn0
  obtain ⟨len1, hlen1⟩ : ∃ len, len = os.length := ⟨_, rfl⟩
  have HE1 := Lib.hid hlen1
  unfold RdB at HA1
  rw [← hlen1] at hls HA1 HSB ⊢
  have hn0b : n0 ≤ 1048576 := by omega
  clear H Hs hi1 hn0 hlen1 hl hcap1
  have hlb : len1 ≤ 1048576 := by omega
  unfold vGuard
  have hkL : k < len1 := by have := HKN.out; have := HSN.out; have := HE1.out; omega
  have hkl0 : k < n0 := by have := HKN.out; have := HE.out; omega
  have hki : (k : Int) < (len1 : Int) := by omega
  have hk0 : (0 : Int) ≤ (k : Int) := by omega
  have htk : ((k : Int)).toNat = k := by omega
  obtain ⟨b1, off1, rfl, hcell1⟩ := HA1.out.resolve_left (by omega)
  have hxc := hcell1 k (by have := HE1.out; omega)
  rw [HXO.out] at hxc
  have HXC := Lib.hid hxc
  clear hxc hcell1
  go_enter Try.func71, Try.ntmps71
  have rA1_ := Lib.hid (show (((W.alloc (.cells #[.slice (some ⟨b1, off1, none⟩) len1 cap1] 46)).alloc (.cells #[.slice none 0 0] 46))).heap[W.heap.size]? = some (.cells #[.slice (some ⟨b1, off1, none⟩) len1 cap1] 46 (0, 0)) from by rw [heap_alloc_old _ _ (by simp only [World.size_alloc]; omega)]; exact heap_alloc_new _ _)
  have rR2_ := Lib.hid (show (((W.alloc (.cells #[.slice (some ⟨b1, off1, none⟩) len1 cap1] 46)).alloc (.cells #[.slice none 0 0] 46))).heap[W.heap.size + 1]? = some (.cells #[.slice none 0 0] 46 (0, 0)) from by exact heap_pair _ _ _)
  have G3_ := Lib.hid (show (W).grownBy (((W.alloc (.cells #[.slice (some ⟨b1, off1, none⟩) len1 cap1] 46)).alloc (.cells #[.slice none 0 0] 46))) none from (gby_alloc (gby_alloc (gby_refl _ _) _) _))
  have A_0_ : (((W.alloc (.cells #[.slice (some ⟨b1, off1, none⟩) len1 cap1] 46)).alloc (.cells #[.slice none 0 0] 46))).cell? ⟨W.heap.size, 0, none⟩ = some (.slice (some ⟨b1, off1, none⟩) len1 cap1) := cell_of_row _ _ 0 _ _ _ rA1_.out
  have R_0_ : (((W.alloc (.cells #[.slice (some ⟨b1, off1, none⟩) len1 cap1] 46)).alloc (.cells #[.slice none 0 0] 46))).cell? ⟨W.heap.size + 1, 0, none⟩ = some (.slice none 0 0) := cell_of_row _ _ 0 _ _ _ rR2_.out
  go_wp2_with fail
  go_at_call 85
  refine (copiedGuard_d _ _ os (HSB.out.grow G3_.out) HLS.out).mono ?_
  rintro e w1 ⟨v2_, rfl, o_, g⟩
  have sz_ := g.size
  try simp only [World.size_alloc] at sz_ o_
  try unfold vGuard
  have o_ := gowU_out o_
  obtain ⟨qp, qn, qc, hv_⟩ := RdL.form o_.rd
  subst hv_
  obtain rfl : len1 = qn := by have := (rdP_cells plainB o_.rd).1; have := HE1.out; omega
  have qo := Lib.hid o_
  clear o_
  clear A_0_ R_0_
  have rA4_ := Lib.hid (show (w1).heap[W.heap.size]? = some (.cells #[.slice (some ⟨b1, off1, none⟩) len1 cap1] 46 (0, 0)) from row_held g rA1_.out)
  clear rA1_
  have rR5_ := Lib.hid (show (w1).heap[W.heap.size + 1]? = some (.cells #[.slice none 0 0] 46 (0, 0)) from row_held g rR2_.out)
  clear rR2_
  have G6_ := Lib.hid (show (W).grownBy (w1) none from gby_trans G3_.out g)
  clear g
  have A_0_ : (w1).cell? ⟨W.heap.size, 0, none⟩ = some (.slice (some ⟨b1, off1, none⟩) len1 cap1) := cell_of_row _ _ 0 _ _ _ rA4_.out
  have Af0_ : (w1).frozen? ⟨W.heap.size, 0, none⟩ = false := frozen_of_row _ _ 0 _ _ rA4_.out
  have R_0_ : (w1).cell? ⟨W.heap.size + 1, 0, none⟩ = some (.slice none 0 0) := cell_of_row _ _ 0 _ _ _ rR5_.out
  go_wp2_with fail
  clear A_0_ Af0_ R_0_
  have rR7_ := Lib.hid (show ((w1.setCell ⟨W.heap.size, 0, none⟩ (.slice qp len1 qc))).heap[W.heap.size + 1]? = some (.cells #[.slice none 0 0] 46 (0, 0)) from (set_far rR5_.out (by dsimp only; omega)))
  clear rR5_
  have rA8_ := Lib.hid (show ((w1.setCell ⟨W.heap.size, 0, none⟩ (.slice qp len1 qc))).heap[W.heap.size]? = some (.cells #[.slice qp len1 qc] 46 (0, 0)) from (heap_setCell_same _ _ 0 _ _ _ rA4_.out))
  clear rA4_
  have G9_ := Lib.hid (show (W).grownBy ((w1.setCell ⟨W.heap.size, 0, none⟩ (.slice qp len1 qc))) none from (gby_setnew G6_.out _ (by dsimp only; omega) _))
  have qo_ := Lib.hid (show OwL shB ((w1.setCell ⟨W.heap.size, 0, none⟩ (.slice qp len1 qc))) (W.heap.size + 1 + 1) (w1.heap.size) (.slice qp len1 qc) os from OwL.keep qo.out (chg_one _ _ _ _) (.inr (by omega)))
  have A_0_ : ((w1.setCell ⟨W.heap.size, 0, none⟩ (.slice qp len1 qc))).cell? ⟨W.heap.size, 0, none⟩ = some (.slice qp len1 qc) := cell_of_row _ _ 0 _ _ _ rA8_.out
  have R_0_ : ((w1.setCell ⟨W.heap.size, 0, none⟩ (.slice qp len1 qc))).cell? ⟨W.heap.size + 1, 0, none⟩ = some (.slice none 0 0) := cell_of_row _ _ 0 _ _ _ rR7_.out
  go_wp2_with fail
  go_at_call 38
  refine (((implGuard _ _ _ xs os (HT.out.grow G9_.out) (qo_.out.rd) HL.out HLS.out).mono (bpost_yes HP_.out))).mono ?_
  rintro e w2 ⟨rfl, g⟩
  have gq_ := Lib.hid g
  have szw2 := g.size
  try simp only [World.size_alloc] at szw2
  try simp only [World.size_setCell] at szw2
  clear A_0_ R_0_
  have rA10_ := Lib.hid (show (w2).heap[W.heap.size]? = some (.cells #[.slice qp len1 qc] 46 (0, 0)) from row_held g rA8_.out)
  clear rA8_
  have rR11_ := Lib.hid (show (w2).heap[W.heap.size + 1]? = some (.cells #[.slice none 0 0] 46 (0, 0)) from row_held g rR7_.out)
  clear rR7_
  have G12_ := Lib.hid (show (W).grownBy (w2) none from gby_trans G9_.out g)
  clear g
  have A_0_ : (w2).cell? ⟨W.heap.size, 0, none⟩ = some (.slice qp len1 qc) := cell_of_row _ _ 0 _ _ _ rA10_.out
  have R_0_ : (w2).cell? ⟨W.heap.size + 1, 0, none⟩ = some (.slice none 0 0) := cell_of_row _ _ 0 _ _ _ rR11_.out
  have hk1 : IntKind.i64.wrap ((n0 : Int) - 1) = (n0 : Int) - 1 := IntWalk.i64_in _ (by omega)
  obtain ⟨bb, off2, cc, hvv, s1, s2, s3, s4, s5⟩ := owB_at (qo_.out.grow gq_.out) k (by have := HE1.out; omega)
  injection hvv with e1 e2 e3
  subst e1
  subst e3
  clear e2
  rw [HXO.out] at s3
  have S5 := Lib.hid (s5 false)
  clear s5
  clear A_0_ R_0_
  have A_0_ : (w2).cell? ⟨W.heap.size, 0, none⟩ = some (.slice (some ⟨bb, off2, none⟩) len1 qc) := cell_of_row _ _ 0 _ _ _ rA10_.out
  have R_0_ : (w2).cell? ⟨W.heap.size + 1, 0, none⟩ = some (.slice none 0 0) := cell_of_row _ _ 0 _ _ _ rR11_.out
  go_wp2_with fail
  go_at_call 54
  refine (rng_yes _ _ _ _ (by omega) (by omega)).mono ?_
  rintro e w3_ ⟨rfl, rfl⟩
  have rA13_ := Lib.hid (show ((w2.setCell ⟨bb, off2 + k, none⟩ (.bool false))).heap[W.heap.size]? = some (.cells #[.slice (some ⟨bb, off2, none⟩) len1 qc] 46 (0, 0)) from Chg.keep S5.out.2 rA10_.out (by omega))
  clear rA10_
  have rR14_ := Lib.hid (show ((w2.setCell ⟨bb, off2 + k, none⟩ (.bool false))).heap[W.heap.size + 1]? = some (.cells #[.slice none 0 0] 46 (0, 0)) from Chg.keep S5.out.2 rR11_.out (by omega))
  clear rR11_
  have G15_ := Lib.hid (show (W).grownBy ((w2.setCell ⟨bb, off2 + k, none⟩ (.bool false))) none from gby_chg G12_.out S5.out.2 (by omega))
  have A_0_ : ((w2.setCell ⟨bb, off2 + k, none⟩ (.bool false))).cell? ⟨W.heap.size, 0, none⟩ = some (.slice (some ⟨bb, off2, none⟩) len1 qc) := cell_of_row _ _ 0 _ _ _ rA13_.out
  have R_0_ : ((w2.setCell ⟨bb, off2 + k, none⟩ (.bool false))).cell? ⟨W.heap.size + 1, 0, none⟩ = some (.slice none 0 0) := cell_of_row _ _ 0 _ _ _ rR14_.out
  have Rf0_ : ((w2.setCell ⟨bb, off2 + k, none⟩ (.bool false))).frozen? ⟨W.heap.size + 1, 0, none⟩ = false := frozen_of_row _ _ 0 _ _ rR14_.out
  have z0_ : ((w2.setCell ⟨bb, off2 + k, none⟩ (.bool false)).setCell ⟨W.heap.size + 1, 0, none⟩ (.slice (some ⟨bb, off2, none⟩) len1 qc)).cell? ⟨W.heap.size + 1, 0, none⟩ = some (.slice (some ⟨bb, off2, none⟩) len1 qc) := cell_of_row _ _ 0 _ _ _ (heap_setCell_same _ _ 0 _ _ _ rR14_.out)
  go_wp2
  refine bodyPost_ret (v := .tuple #[.agg #[.slice (some ⟨bb, off2, none⟩) len1 qc], .bool true]) (by simp [results, go_sem, z0_]) rfl ⟨_, rfl, ?_, ?_⟩
  · exact OwU.one (OwL.wide (OwL.keep (S5.out.1) (chg_one _ _ _ _) (.inr (by omega))) (by omega) (by simp; omega))
  · exact gby_setnew G15_.out _ (by dsimp only; omega) _

set_option linter.unusedVariables false
/-- what becomes of a guard -/
def gsetL (xs : List DNode) (os : List Bool) (k : Int) (o : Bool) (os' : List Bool) (b : Bool) : Prop :=
  (os' = os ∧ b = false ∧ (¬ GuardP xs os ∨ (GuardP xs os ∧ (k < 1 ∨ (xs.length : Int) - 1 < k)) ∨ ∃ n : Nat, k = (n : Int) ∧ GuardP xs os ∧ 1 ≤ n ∧ n < xs.length ∧ os.getD n false = o)) ∨
  ∃ n : Nat, k = (n : Int) ∧ GuardP xs os ∧ 1 ≤ n ∧ n < xs.length ∧ os.getD n false = (!o) ∧ os' = os.set n o ∧ b = true
theorem gsetL_ex (xs : List DNode) (os : List Bool) (k : Int) (o : Bool) : ∃ os' b, gsetL xs os k o os' b ∧ os'.length = os.length := by
  by_cases hp : GuardP xs os
  · rcases inr_or k 1 ((xs.length : Int) - 1) with ⟨k1, k2⟩ | hk
    · obtain ⟨n, rfl⟩ : ∃ n : Nat, k = (n : Int) := ⟨k.toNat, by omega⟩
      by_cases hx : os.getD n false = o
      · exact ⟨os, false, .inl ⟨rfl, rfl, .inr (.inr ⟨n, rfl, hp, by omega, by omega, hx⟩)⟩, rfl⟩
      · refine ⟨os.set n o, true, .inr ⟨n, rfl, hp, by omega, by omega, ?_, rfl, rfl⟩, by simp⟩
        cases o <;> cases h : os.getD n false <;> simp_all
    · exact ⟨os, false, .inl ⟨rfl, rfl, .inr (.inl ⟨hp, hk⟩)⟩, rfl⟩
  · exact ⟨os, false, .inl ⟨rfl, rfl, .inl hp⟩, rfl⟩

theorem specGSet_any (W : World) (v u : Value) (xs : List DNode) (os : List Bool) (k : Int) (o : Bool) (H : RdL shNode W v xs) (Hs : RdL shB W u os) (hl : szL shNode xs ≤ 1048576) (hls : szL shB os ≤ 1048576) (os' : List Bool) (b : Bool) (h : gsetL xs os k o os' b) : Calls Try.prog 70 #[v, vGuard u, .int .i64 k, .bool o] W (GSet os' b W) := by
  rcases h with ⟨rfl, rfl, h | ⟨h, hk⟩ | ⟨n, rfl, h, h1, h2, hx⟩⟩ | ⟨n, rfl, h, h1, h2, hx, rfl, rfl⟩
  · exact specGSet_bad W v u xs _ k o H Hs hl hls h
  · exact specGSet_out W v u xs _ k o H Hs hl hls h hk
  · cases o
    · exact specGSet_same_false W v u xs _ n H Hs hl hls h h1 h2 hx
    · exact specGSet_same_true W v u xs _ n H Hs hl hls h h1 h2 hx
  · cases o
    · exact specGSet_set_false W v u xs _ n H Hs hl hls h h1 h2 hx
    · exact specGSet_set_true W v u xs _ n H Hs hl hls h h1 h2 hx

theorem implGSet_any (W : World) (v u : Value) (xs : List DNode) (os : List Bool) (k : Int) (o : Bool) (H : RdL shNode W v xs) (Hs : RdL shB W u os) (hl : szL shNode xs ≤ 1048576) (hls : szL shB os ≤ 1048576) (os' : List Bool) (b : Bool) (h : gsetL xs os k o os' b) : Calls Try.prog 71 #[v, vGuard u, .int .i64 k, .bool o] W (GSet os' b W) := by
  rcases h with ⟨rfl, rfl, h | ⟨h, hk⟩ | ⟨n, rfl, h, h1, h2, hx⟩⟩ | ⟨n, rfl, h, h1, h2, hx, rfl, rfl⟩
  · exact implGSet_bad W v u xs _ k o H Hs hl hls h
  · exact implGSet_out W v u xs _ k o H Hs hl hls h hk
  · cases o
    · exact implGSet_same_false W v u xs _ n H Hs hl hls h h1 h2 hx
    · exact implGSet_same_true W v u xs _ n H Hs hl hls h h1 h2 hx
  · cases o
    · exact implGSet_set_false W v u xs _ n H Hs hl hls h h1 h2 hx
    · exact implGSet_set_true W v u xs _ n H Hs hl hls h h1 h2 hx

set_option maxHeartbeats 1000000 in
theorem specCutNode (W : World) (v u : Value) (xs : List DNode) (os : List Bool) (k : Int) (H : RdL shNode W v xs) (Hs : RdL shB W u os) (hl : szL shNode xs ≤ 1048576) (hls : szL shB os ≤ 1048576) (os' : List Bool) (b : Bool) (h : gsetL xs os k false os' b) : Calls Try.prog 40 #[v, .agg #[u], .int .i64 k] W (ResICutNode os' b W) := by
  have HT := Lib.hid H
  have HSB := Lib.hid Hs
  have HQ := Lib.hid (fun W H Hs => specGSet_any W v u xs os k false H Hs hl hls os' b h)
  obtain ⟨a0, n0, c0, rfl⟩ := RdL.form H
  unfold vGuard at HQ
  clear H Hs h
  go_enter Try.func40, Try.ntmps40
  have rA1_ := Lib.hid (show (((W.alloc (.cells #[u] 46)).alloc (.cells #[.slice none 0 0] 46))).heap[W.heap.size]? = some (.cells #[u] 46 (0, 0)) from by rw [heap_alloc_old _ _ (by simp only [World.size_alloc]; omega)]; exact heap_alloc_new _ _)
  have rR2_ := Lib.hid (show (((W.alloc (.cells #[u] 46)).alloc (.cells #[.slice none 0 0] 46))).heap[W.heap.size + 1]? = some (.cells #[.slice none 0 0] 46 (0, 0)) from by exact heap_pair _ _ _)
  have G3_ := Lib.hid (show (W).grownBy (((W.alloc (.cells #[u] 46)).alloc (.cells #[.slice none 0 0] 46))) none from (gby_alloc (gby_alloc (gby_refl _ _) _) _))
  have A_0_ : (((W.alloc (.cells #[u] 46)).alloc (.cells #[.slice none 0 0] 46))).cell? ⟨W.heap.size, 0, none⟩ = some (u) := cell_of_row _ _ 0 _ _ _ rA1_.out
  have R_0_ : (((W.alloc (.cells #[u] 46)).alloc (.cells #[.slice none 0 0] 46))).cell? ⟨W.heap.size + 1, 0, none⟩ = some (.slice none 0 0) := cell_of_row _ _ 0 _ _ _ rR2_.out
  go_wp2_with fail
  go_at_call 70
  refine (HQ.out _ (HT.out.grow G3_.out) (HSB.out.grow G3_.out)).mono ?_
  rintro e w1 ⟨v2, rfl, o1, g⟩
  have sz_ := g.size
  try simp only [World.size_alloc] at sz_ o1
  obtain ⟨p, n2, c2, hv⟩ := RdL.form (OwU.rd o1)
  subst hv
  have O1 := Lib.hid o1
  clear o1
  clear A_0_ R_0_
  have rA4_ := Lib.hid (show (w1).heap[W.heap.size]? = some (.cells #[u] 46 (0, 0)) from row_held g rA1_.out)
  clear rA1_
  have rR5_ := Lib.hid (show (w1).heap[W.heap.size + 1]? = some (.cells #[.slice none 0 0] 46 (0, 0)) from row_held g rR2_.out)
  clear rR2_
  have G6_ := Lib.hid (show (W).grownBy (w1) none from gby_trans G3_.out g)
  clear g
  have A_0_ : (w1).cell? ⟨W.heap.size, 0, none⟩ = some (u) := cell_of_row _ _ 0 _ _ _ rA4_.out
  have R_0_ : (w1).cell? ⟨W.heap.size + 1, 0, none⟩ = some (.slice none 0 0) := cell_of_row _ _ 0 _ _ _ rR5_.out
  have Rf0_ : (w1).frozen? ⟨W.heap.size + 1, 0, none⟩ = false := frozen_of_row _ _ 0 _ _ rR5_.out
  have z0_ : (w1.setCell ⟨W.heap.size + 1, 0, none⟩ (.slice p n2 c2)).cell? ⟨W.heap.size + 1, 0, none⟩ = some (.slice p n2 c2) := cell_of_row _ _ 0 _ _ _ (heap_setCell_same _ _ 0 _ _ _ rR5_.out)
  go_wp2
  refine bodyPost_ret (v := .tuple #[.agg #[.slice p n2 c2], .bool b]) (by simp [results, go_sem, z0_]) rfl ⟨_, rfl, ?_, ?_⟩
  · exact OwU.wide (by omega) (by simp) (OwU.keep (chg_one _ _ _ _) (.inr (by omega)) O1.out)
  · exact gby_setnew G6_.out _ (by dsimp only; omega) _

set_option maxHeartbeats 1000000 in
theorem implCutNode (W : World) (v u : Value) (xs : List DNode) (os : List Bool) (k : Int) (H : RdL shNode W v xs) (Hs : RdL shB W u os) (hl : szL shNode xs ≤ 1048576) (hls : szL shB os ≤ 1048576) (os' : List Bool) (b : Bool) (h : gsetL xs os k false os' b) : Calls Try.prog 41 #[v, .agg #[u], .int .i64 k] W (ResICutNode os' b W) := by
  have HT := Lib.hid H
  have HSB := Lib.hid Hs
  have HQ := Lib.hid (fun W H Hs => implGSet_any W v u xs os k false H Hs hl hls os' b h)
  obtain ⟨a0, n0, c0, rfl⟩ := RdL.form H
  unfold vGuard at HQ
  clear H Hs h
  go_enter Try.func41, Try.ntmps41
  have rA1_ := Lib.hid (show (((W.alloc (.cells #[u] 46)).alloc (.cells #[.slice none 0 0] 46))).heap[W.heap.size]? = some (.cells #[u] 46 (0, 0)) from by rw [heap_alloc_old _ _ (by simp only [World.size_alloc]; omega)]; exact heap_alloc_new _ _)
  have rR2_ := Lib.hid (show (((W.alloc (.cells #[u] 46)).alloc (.cells #[.slice none 0 0] 46))).heap[W.heap.size + 1]? = some (.cells #[.slice none 0 0] 46 (0, 0)) from by exact heap_pair _ _ _)
  have G3_ := Lib.hid (show (W).grownBy (((W.alloc (.cells #[u] 46)).alloc (.cells #[.slice none 0 0] 46))) none from (gby_alloc (gby_alloc (gby_refl _ _) _) _))
  have A_0_ : (((W.alloc (.cells #[u] 46)).alloc (.cells #[.slice none 0 0] 46))).cell? ⟨W.heap.size, 0, none⟩ = some (u) := cell_of_row _ _ 0 _ _ _ rA1_.out
  have R_0_ : (((W.alloc (.cells #[u] 46)).alloc (.cells #[.slice none 0 0] 46))).cell? ⟨W.heap.size + 1, 0, none⟩ = some (.slice none 0 0) := cell_of_row _ _ 0 _ _ _ rR2_.out
  go_wp2_with fail
  go_at_call 71
  refine (HQ.out _ (HT.out.grow G3_.out) (HSB.out.grow G3_.out)).mono ?_
  rintro e w1 ⟨v2, rfl, o1, g⟩
  have sz_ := g.size
  try simp only [World.size_alloc] at sz_ o1
  obtain ⟨p, n2, c2, hv⟩ := RdL.form (OwU.rd o1)
  subst hv
  have O1 := Lib.hid o1
  clear o1
  clear A_0_ R_0_
  have rA4_ := Lib.hid (show (w1).heap[W.heap.size]? = some (.cells #[u] 46 (0, 0)) from row_held g rA1_.out)
  clear rA1_
  have rR5_ := Lib.hid (show (w1).heap[W.heap.size + 1]? = some (.cells #[.slice none 0 0] 46 (0, 0)) from row_held g rR2_.out)
  clear rR2_
  have G6_ := Lib.hid (show (W).grownBy (w1) none from gby_trans G3_.out g)
  clear g
  have A_0_ : (w1).cell? ⟨W.heap.size, 0, none⟩ = some (u) := cell_of_row _ _ 0 _ _ _ rA4_.out
  have R_0_ : (w1).cell? ⟨W.heap.size + 1, 0, none⟩ = some (.slice none 0 0) := cell_of_row _ _ 0 _ _ _ rR5_.out
  have Rf0_ : (w1).frozen? ⟨W.heap.size + 1, 0, none⟩ = false := frozen_of_row _ _ 0 _ _ rR5_.out
  have z0_ : (w1.setCell ⟨W.heap.size + 1, 0, none⟩ (.slice p n2 c2)).cell? ⟨W.heap.size + 1, 0, none⟩ = some (.slice p n2 c2) := cell_of_row _ _ 0 _ _ _ (heap_setCell_same _ _ 0 _ _ _ rR5_.out)
  go_wp2
  refine bodyPost_ret (v := .tuple #[.agg #[.slice p n2 c2], .bool b]) (by simp [results, go_sem, z0_]) rfl ⟨_, rfl, ?_, ?_⟩
  · exact OwU.wide (by omega) (by simp) (OwU.keep (chg_one _ _ _ _) (.inr (by omega)) O1.out)
  · exact gby_setnew G6_.out _ (by dsimp only; omega) _

theorem cutNode_both (xs0 : List DNode) (xs1_0 : List Bool) (i2 : Int) (h0 : szL shNode xs0 ≤ 1048576) (h1 : szL shB xs1_0 ≤ 1048576) : ∃ (xsr0_0 : List Bool) (br1 : Bool), szL shB xsr0_0 ≤ 1048576 ∧ (∀ (W : World), ∀ u0 u1_0, RdL shNode W u0 xs0 → RdL shB W u1_0 xs1_0 → Calls Try.prog 40 #[u0, .agg #[u1_0], .int .i64 i2] W (ResICutNode xsr0_0 br1 W)) ∧ ∀ (W : World), ∀ u0 u1_0, RdL shNode W u0 xs0 → RdL shB W u1_0 xs1_0 → Calls Try.prog 41 #[u0, .agg #[u1_0], .int .i64 i2] W (ResICutNode xsr0_0 br1 W) := by
  obtain ⟨os, b, h, hl⟩ := gsetL_ex xs0 xs1_0 i2 false
  exact ⟨os, b, by rw [szL_B, hl]; rw [szL_B] at h1; exact h1, fun W u0 u1 H0 H1 => specCutNode W u0 u1 _ _ i2 H0 H1 h0 h1 os b h, fun W u0 u1 H0 H1 => implCutNode W u0 u1 _ _ i2 H0 H1 h0 h1 os b h⟩

set_option maxHeartbeats 1000000 in
theorem specOpenNode (W : World) (v u : Value) (xs : List DNode) (os : List Bool) (k : Int) (H : RdL shNode W v xs) (Hs : RdL shB W u os) (hl : szL shNode xs ≤ 1048576) (hls : szL shB os ≤ 1048576) (os' : List Bool) (b : Bool) (h : gsetL xs os k true os' b) : Calls Try.prog 44 #[v, .agg #[u], .int .i64 k] W (ResIOpenNode os' b W) := by
  have HT := Lib.hid H
  have HSB := Lib.hid Hs
  have HQ := Lib.hid (fun W H Hs => specGSet_any W v u xs os k true H Hs hl hls os' b h)
  obtain ⟨a0, n0, c0, rfl⟩ := RdL.form H
  unfold vGuard at HQ
  clear H Hs h
  go_enter Try.func44, Try.ntmps44
  have rA1_ := Lib.hid (show (((W.alloc (.cells #[u] 46)).alloc (.cells #[.slice none 0 0] 46))).heap[W.heap.size]? = some (.cells #[u] 46 (0, 0)) from by rw [heap_alloc_old _ _ (by simp only [World.size_alloc]; omega)]; exact heap_alloc_new _ _)
  have rR2_ := Lib.hid (show (((W.alloc (.cells #[u] 46)).alloc (.cells #[.slice none 0 0] 46))).heap[W.heap.size + 1]? = some (.cells #[.slice none 0 0] 46 (0, 0)) from by exact heap_pair _ _ _)
  have G3_ := Lib.hid (show (W).grownBy (((W.alloc (.cells #[u] 46)).alloc (.cells #[.slice none 0 0] 46))) none from (gby_alloc (gby_alloc (gby_refl _ _) _) _))
  have A_0_ : (((W.alloc (.cells #[u] 46)).alloc (.cells #[.slice none 0 0] 46))).cell? ⟨W.heap.size, 0, none⟩ = some (u) := cell_of_row _ _ 0 _ _ _ rA1_.out
  have R_0_ : (((W.alloc (.cells #[u] 46)).alloc (.cells #[.slice none 0 0] 46))).cell? ⟨W.heap.size + 1, 0, none⟩ = some (.slice none 0 0) := cell_of_row _ _ 0 _ _ _ rR2_.out
  go_wp2_with fail
  go_at_call 70
  refine (HQ.out _ (HT.out.grow G3_.out) (HSB.out.grow G3_.out)).mono ?_
  rintro e w1 ⟨v2, rfl, o1, g⟩
  have sz_ := g.size
  try simp only [World.size_alloc] at sz_ o1
  obtain ⟨p, n2, c2, hv⟩ := RdL.form (OwU.rd o1)
  subst hv
  have O1 := Lib.hid o1
  clear o1
  clear A_0_ R_0_
  have rA4_ := Lib.hid (show (w1).heap[W.heap.size]? = some (.cells #[u] 46 (0, 0)) from row_held g rA1_.out)
  clear rA1_
  have rR5_ := Lib.hid (show (w1).heap[W.heap.size + 1]? = some (.cells #[.slice none 0 0] 46 (0, 0)) from row_held g rR2_.out)
  clear rR2_
  have G6_ := Lib.hid (show (W).grownBy (w1) none from gby_trans G3_.out g)
  clear g
  have A_0_ : (w1).cell? ⟨W.heap.size, 0, none⟩ = some (u) := cell_of_row _ _ 0 _ _ _ rA4_.out
  have R_0_ : (w1).cell? ⟨W.heap.size + 1, 0, none⟩ = some (.slice none 0 0) := cell_of_row _ _ 0 _ _ _ rR5_.out
  have Rf0_ : (w1).frozen? ⟨W.heap.size + 1, 0, none⟩ = false := frozen_of_row _ _ 0 _ _ rR5_.out
  have z0_ : (w1.setCell ⟨W.heap.size + 1, 0, none⟩ (.slice p n2 c2)).cell? ⟨W.heap.size + 1, 0, none⟩ = some (.slice p n2 c2) := cell_of_row _ _ 0 _ _ _ (heap_setCell_same _ _ 0 _ _ _ rR5_.out)
  go_wp2
  refine bodyPost_ret (v := .tuple #[.agg #[.slice p n2 c2], .bool b]) (by simp [results, go_sem, z0_]) rfl ⟨_, rfl, ?_, ?_⟩
  · exact OwU.wide (by omega) (by simp) (OwU.keep (chg_one _ _ _ _) (.inr (by omega)) O1.out)
  · exact gby_setnew G6_.out _ (by dsimp only; omega) _

set_option maxHeartbeats 1000000 in
theorem implOpenNode (W : World) (v u : Value) (xs : List DNode) (os : List Bool) (k : Int) (H : RdL shNode W v xs) (Hs : RdL shB W u os) (hl : szL shNode xs ≤ 1048576) (hls : szL shB os ≤ 1048576) (os' : List Bool) (b : Bool) (h : gsetL xs os k true os' b) : Calls Try.prog 45 #[v, .agg #[u], .int .i64 k] W (ResIOpenNode os' b W) := by
  have HT := Lib.hid H
  have HSB := Lib.hid Hs
  have HQ := Lib.hid (fun W H Hs => implGSet_any W v u xs os k true H Hs hl hls os' b h)
  obtain ⟨a0, n0, c0, rfl⟩ := RdL.form H
  unfold vGuard at HQ
  clear H Hs h
  go_enter Try.func45, Try.ntmps45
  have rA1_ := Lib.hid (show (((W.alloc (.cells #[u] 46)).alloc (.cells #[.slice none 0 0] 46))).heap[W.heap.size]? = some (.cells #[u] 46 (0, 0)) from by rw [heap_alloc_old _ _ (by simp only [World.size_alloc]; omega)]; exact heap_alloc_new _ _)
  have rR2_ := Lib.hid (show (((W.alloc (.cells #[u] 46)).alloc (.cells #[.slice none 0 0] 46))).heap[W.heap.size + 1]? = some (.cells #[.slice none 0 0] 46 (0, 0)) from by exact heap_pair _ _ _)
  have G3_ := Lib.hid (show (W).grownBy (((W.alloc (.cells #[u] 46)).alloc (.cells #[.slice none 0 0] 46))) none from (gby_alloc (gby_alloc (gby_refl _ _) _) _))
  have A_0_ : (((W.alloc (.cells #[u] 46)).alloc (.cells #[.slice none 0 0] 46))).cell? ⟨W.heap.size, 0, none⟩ = some (u) := cell_of_row _ _ 0 _ _ _ rA1_.out
  have R_0_ : (((W.alloc (.cells #[u] 46)).alloc (.cells #[.slice none 0 0] 46))).cell? ⟨W.heap.size + 1, 0, none⟩ = some (.slice none 0 0) := cell_of_row _ _ 0 _ _ _ rR2_.out
  go_wp2_with fail
  go_at_call 71
  refine (HQ.out _ (HT.out.grow G3_.out) (HSB.out.grow G3_.out)).mono ?_
  rintro e w1 ⟨v2, rfl, o1, g⟩
  have sz_ := g.size
  try simp only [World.size_alloc] at sz_ o1
  obtain ⟨p, n2, c2, hv⟩ := RdL.form (OwU.rd o1)
  subst hv
  have O1 := Lib.hid o1
  clear o1
  clear A_0_ R_0_
  have rA4_ := Lib.hid (show (w1).heap[W.heap.size]? = some (.cells #[u] 46 (0, 0)) from row_held g rA1_.out)
  clear rA1_
  have rR5_ := Lib.hid (show (w1).heap[W.heap.size + 1]? = some (.cells #[.slice none 0 0] 46 (0, 0)) from row_held g rR2_.out)
  clear rR2_
  have G6_ := Lib.hid (show (W).grownBy (w1) none from gby_trans G3_.out g)
  clear g
  have A_0_ : (w1).cell? ⟨W.heap.size, 0, none⟩ = some (u) := cell_of_row _ _ 0 _ _ _ rA4_.out
  have R_0_ : (w1).cell? ⟨W.heap.size + 1, 0, none⟩ = some (.slice none 0 0) := cell_of_row _ _ 0 _ _ _ rR5_.out
  have Rf0_ : (w1).frozen? ⟨W.heap.size + 1, 0, none⟩ = false := frozen_of_row _ _ 0 _ _ rR5_.out
  have z0_ : (w1.setCell ⟨W.heap.size + 1, 0, none⟩ (.slice p n2 c2)).cell? ⟨W.heap.size + 1, 0, none⟩ = some (.slice p n2 c2) := cell_of_row _ _ 0 _ _ _ (heap_setCell_same _ _ 0 _ _ _ rR5_.out)
  go_wp2
  refine bodyPost_ret (v := .tuple #[.agg #[.slice p n2 c2], .bool b]) (by simp [results, go_sem, z0_]) rfl ⟨_, rfl, ?_, ?_⟩
  · exact OwU.wide (by omega) (by simp) (OwU.keep (chg_one _ _ _ _) (.inr (by omega)) O1.out)
  · exact gby_setnew G6_.out _ (by dsimp only; omega) _

theorem openNode_both (xs0 : List DNode) (xs1_0 : List Bool) (i2 : Int) (h0 : szL shNode xs0 ≤ 1048576) (h1 : szL shB xs1_0 ≤ 1048576) : ∃ (xsr0_0 : List Bool) (br1 : Bool), szL shB xsr0_0 ≤ 1048576 ∧ (∀ (W : World), ∀ u0 u1_0, RdL shNode W u0 xs0 → RdL shB W u1_0 xs1_0 → Calls Try.prog 44 #[u0, .agg #[u1_0], .int .i64 i2] W (ResIOpenNode xsr0_0 br1 W)) ∧ ∀ (W : World), ∀ u0 u1_0, RdL shNode W u0 xs0 → RdL shB W u1_0 xs1_0 → Calls Try.prog 45 #[u0, .agg #[u1_0], .int .i64 i2] W (ResIOpenNode xsr0_0 br1 W) := by
  obtain ⟨os, b, h, hl⟩ := gsetL_ex xs0 xs1_0 i2 true
  exact ⟨os, b, by rw [szL_B, hl]; rw [szL_B] at h1; exact h1, fun W u0 u1 H0 H1 => specOpenNode W u0 u1 _ _ i2 H0 H1 h0 h1 os b h, fun W u0 u1 H0 H1 => implOpenNode W u0 u1 _ _ i2 H0 H1 h0 h1 os b h⟩

end Go.Proofs.Ytjkjodcgpdhldac
