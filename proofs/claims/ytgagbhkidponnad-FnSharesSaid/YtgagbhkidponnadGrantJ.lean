/-
  Grant: the program's, and both sides.
-/
import Derived.Test.YtgagbhkidponnadGrantI
namespace Go.Proofs.Ytgagbhkidponnad
open Go Go.RowKit
set_option linter.unusedVariables false

set_option maxRecDepth 8000 in
set_option maxHeartbeats 2000000 in
theorem canGrant_bad (W : World) (t l : Int) (v u : Value) (xs : List Int) (ask : List Bool) (H : RdL shI W v xs) (Hu : RdL shB W u ask) (hl : szL shI xs ≤ 1048576) (hlu : szL shB ask ≤ 1048576) (hb : ¬ ArbOk xs t l ∨ ¬ ask.length = xs.length) : Calls Try.prog 60 #[vArbiter v t l, u] W (AnsN (.bool false) W) := by
  have HSL := Lib.hid H
  have HSU := Lib.hid Hu
  have HL := Lib.hid hl
  obtain ⟨a1, n1, c1, rfl⟩ := RdL.form H
  have hn1 : n1 = xs.length := by obtain ⟨_, _, e, _⟩ := H; injection e
  have hnb : n1 ≤ 1048576 := by rw [szL_I] at hl; omega
  obtain ⟨b1, m1, d1, rfl⟩ := RdL.form Hu
  have hm1 : m1 = ask.length := by obtain ⟨_, _, e, _⟩ := Hu; injection e
  have HE1 := Lib.hid hn1
  have HE2 := Lib.hid hm1
  clear H Hu hl hlu hn1 hm1
  by_cases hok : ArbOk xs t l
  rotate_left
  · have HOK := Lib.hid hok
    clear hok hb
    unfold vArbiter
    go_enter Try.func60, Try.ntmps60
    have rA1_ := Lib.hid (show ((W.alloc (.cells #[.slice a1 n1 c1, .int .i64 t, .int .i64 l] 44))).heap[W.heap.size]? = some (.cells #[.slice a1 n1 c1, .int .i64 t, .int .i64 l] 44 (0, 0)) from by exact heap_alloc_new _ _)
    have G2_ := Lib.hid (show (W).grownBy ((W.alloc (.cells #[.slice a1 n1 c1, .int .i64 t, .int .i64 l] 44))) none from (gby_alloc (gby_refl _ _) _))
    have A_0_ : ((W.alloc (.cells #[.slice a1 n1 c1, .int .i64 t, .int .i64 l] 44))).cell? ⟨W.heap.size, 0, none⟩ = some (.slice a1 n1 c1) := cell_of_row _ _ 0 _ _ _ rA1_.out
    have A_1_ : ((W.alloc (.cells #[.slice a1 n1 c1, .int .i64 t, .int .i64 l] 44))).cell? ⟨W.heap.size, 1, none⟩ = some (.int .i64 t) := cell_of_row _ _ 1 _ _ _ rA1_.out
    have A_2_ : ((W.alloc (.cells #[.slice a1 n1 c1, .int .i64 t, .int .i64 l] 44))).cell? ⟨W.heap.size, 2, none⟩ = some (.int .i64 l) := cell_of_row _ _ 2 _ _ _ rA1_.out
    go_wp2_with fail
    go_at_call 42
    refine (implArb_no _ _ _ _ xs _ _ (HSL.out.grow G2_.out) hnb HOK.out).mono ?_
    rintro e w1 ⟨rfl, g⟩
    have szw1 := g.size
    try simp only [World.size_alloc] at szw1
    try simp only [World.size_setCell] at szw1
    clear A_0_ A_1_ A_2_
    have rA3_ := Lib.hid (show (w1).heap[W.heap.size]? = some (.cells #[.slice a1 n1 c1, .int .i64 t, .int .i64 l] 44 (0, 0)) from row_held g rA1_.out)
    clear rA1_
    have G4_ := Lib.hid (show (W).grownBy (w1) none from gby_trans G2_.out g)
    clear g
    have A_0_ : (w1).cell? ⟨W.heap.size, 0, none⟩ = some (.slice a1 n1 c1) := cell_of_row _ _ 0 _ _ _ rA3_.out
    have A_1_ : (w1).cell? ⟨W.heap.size, 1, none⟩ = some (.int .i64 t) := cell_of_row _ _ 1 _ _ _ rA3_.out
    have A_2_ : (w1).cell? ⟨W.heap.size, 2, none⟩ = some (.int .i64 l) := cell_of_row _ _ 2 _ _ _ rA3_.out
    go_wp2
    go_ret
    exact ⟨rfl, G4_.out⟩
  have hne := hb.resolve_left (fun q => q hok)
  have HOK := Lib.hid hok
  clear hok hb
  unfold vArbiter
  go_enter Try.func60, Try.ntmps60
  have rA1_ := Lib.hid (show ((W.alloc (.cells #[.slice a1 n1 c1, .int .i64 t, .int .i64 l] 44))).heap[W.heap.size]? = some (.cells #[.slice a1 n1 c1, .int .i64 t, .int .i64 l] 44 (0, 0)) from by exact heap_alloc_new _ _)
  have G2_ := Lib.hid (show (W).grownBy ((W.alloc (.cells #[.slice a1 n1 c1, .int .i64 t, .int .i64 l] 44))) none from (gby_alloc (gby_refl _ _) _))
  have A_0_ : ((W.alloc (.cells #[.slice a1 n1 c1, .int .i64 t, .int .i64 l] 44))).cell? ⟨W.heap.size, 0, none⟩ = some (.slice a1 n1 c1) := cell_of_row _ _ 0 _ _ _ rA1_.out
  have A_1_ : ((W.alloc (.cells #[.slice a1 n1 c1, .int .i64 t, .int .i64 l] 44))).cell? ⟨W.heap.size, 1, none⟩ = some (.int .i64 t) := cell_of_row _ _ 1 _ _ _ rA1_.out
  have A_2_ : ((W.alloc (.cells #[.slice a1 n1 c1, .int .i64 t, .int .i64 l] 44))).cell? ⟨W.heap.size, 2, none⟩ = some (.int .i64 l) := cell_of_row _ _ 2 _ _ _ rA1_.out
  go_wp2_with fail
  go_at_call 42
  refine (implArb_yes _ _ _ _ xs _ _ (HSL.out.grow G2_.out) hnb HOK.out).mono ?_
  rintro e w1 ⟨rfl, g⟩
  have szw1 := g.size
  try simp only [World.size_alloc] at szw1
  try simp only [World.size_setCell] at szw1
  clear A_0_ A_1_ A_2_
  have rA3_ := Lib.hid (show (w1).heap[W.heap.size]? = some (.cells #[.slice a1 n1 c1, .int .i64 t, .int .i64 l] 44 (0, 0)) from row_held g rA1_.out)
  clear rA1_
  have G4_ := Lib.hid (show (W).grownBy (w1) none from gby_trans G2_.out g)
  clear g
  have A_0_ : (w1).cell? ⟨W.heap.size, 0, none⟩ = some (.slice a1 n1 c1) := cell_of_row _ _ 0 _ _ _ rA3_.out
  have A_1_ : (w1).cell? ⟨W.heap.size, 1, none⟩ = some (.int .i64 t) := cell_of_row _ _ 1 _ _ _ rA3_.out
  have A_2_ : (w1).cell? ⟨W.heap.size, 2, none⟩ = some (.int .i64 l) := cell_of_row _ _ 2 _ _ _ rA3_.out
  have e9_ : ((m1 : Int) == (n1 : Int)) = false := beq_eq_false_iff_ne.2 (by have := HE1.out; have := HE2.out; omega)
  go_wp2
  go_ret
  exact ⟨rfl, G4_.out⟩

set_option maxRecDepth 8000 in
set_option maxHeartbeats 2000000 in
theorem canGrant_none (W : World) (t l : Int) (v u : Value) (xs : List Int) (ask : List Bool) (H : RdL shI W v xs) (Hu : RdL shB W u ask) (hl : szL shI xs ≤ 1048576) (hlu : szL shB ask ≤ 1048576) (hok : ArbOk xs t l) (hq : ask.length = xs.length) (hN : NoneAt ask t.toNat xs.length) : Calls Try.prog 60 #[vArbiter v t l, u] W (AnsN (.bool false) W) := by
  have HOK := Lib.hid hok
  have HQ := Lib.hid hq
  have h14 : 1 ≤ xs.length ∧ xs.length ≤ 4 := ⟨hok.2.1, hok.2.2.1⟩
  obtain ⟨tn, htn⟩ : ∃ n : Nat, t = (n : Int) := ⟨t.toNat, by have := hok.2.2.2.1; omega⟩
  subst htn
  have htl : tn < xs.length := by have := hok.2.2.2.2.1; omega
  have hl0 := hok.2.2.2.2.2.1
  have hl9 : l ≤ 9 := by
    have h1 := hok.2.2.2.2.2.2
    rw [Int.toNat_natCast] at h1
    have h2 := (hok.1 (xs.getD tn 0) (by rw [List.getD_eq_getElem?_getD, List.getElem?_eq_getElem htl]; exact List.getElem_mem _)).2
    omega
  obtain ⟨b2, o2, k2, hv2, hc2⟩ := rdB_at Hu (by omega)
  obtain ⟨b3, o3, k3, hv3, hc3⟩ := rdI1_at H (by omega)
  subst hv2 hv3
  have HSL := Lib.hid H
  have HL := Lib.hid hl
  obtain ⟨n, hn⟩ : ∃ n, n = xs.length := ⟨_, rfl⟩
  have HE := Lib.hid hn
  rw [hq, ← hn] at hc2 ⊢
  rw [← hn] at hc3 HSL
  have HCA := Lib.hid hc2
  have HCW := Lib.hid hc3
  have hn1 : 1 ≤ n := by omega
  have hn4 : n ≤ 4 := by omega
  have htn : tn < n := by omega
  have hnb : n ≤ 1048576 := by omega
  have hti : (tn : Int) < (n : Int) := by omega
  have ht0 : (0 : Int) ≤ (tn : Int) := by omega
  have htt : ((tn : Int)).toNat = tn := by omega
  have e1_ : ((n : Int) != (n : Int)) = false := by simp
  have e2_ : ((n : Int) == (n : Int)) = true := by simp
  have HN := Lib.hid (show NoneAt ask tn n by rw [hn]; simpa using hN)
  clear hN
  clear H Hu hl hlu hc2 hc3 hn hok hq h14 htl
  unfold vArbiter
  go_enter Try.func60, Try.ntmps60
  have rA1_ := Lib.hid (show ((W.alloc (.cells #[.slice (some ⟨b3, o3, none⟩) n k3, .int .i64 (tn : Int), .int .i64 l] 44))).heap[W.heap.size]? = some (.cells #[.slice (some ⟨b3, o3, none⟩) n k3, .int .i64 (tn : Int), .int .i64 l] 44 (0, 0)) from by exact heap_alloc_new _ _)
  have G2_ := Lib.hid (show (W).grownBy ((W.alloc (.cells #[.slice (some ⟨b3, o3, none⟩) n k3, .int .i64 (tn : Int), .int .i64 l] 44))) none from (gby_alloc (gby_refl _ _) _))
  have A_0_ : ((W.alloc (.cells #[.slice (some ⟨b3, o3, none⟩) n k3, .int .i64 (tn : Int), .int .i64 l] 44))).cell? ⟨W.heap.size, 0, none⟩ = some (.slice (some ⟨b3, o3, none⟩) n k3) := cell_of_row _ _ 0 _ _ _ rA1_.out
  have A_1_ : ((W.alloc (.cells #[.slice (some ⟨b3, o3, none⟩) n k3, .int .i64 (tn : Int), .int .i64 l] 44))).cell? ⟨W.heap.size, 1, none⟩ = some (.int .i64 (tn : Int)) := cell_of_row _ _ 1 _ _ _ rA1_.out
  have A_2_ : ((W.alloc (.cells #[.slice (some ⟨b3, o3, none⟩) n k3, .int .i64 (tn : Int), .int .i64 l] 44))).cell? ⟨W.heap.size, 2, none⟩ = some (.int .i64 l) := cell_of_row _ _ 2 _ _ _ rA1_.out
  go_wp2_with fail
  go_at_call 42
  refine (implArb_yes _ _ _ _ xs _ _ (HSL.out.grow G2_.out) hnb HOK.out).mono ?_
  rintro e w1 ⟨rfl, g⟩
  have szw1 := g.size
  try simp only [World.size_alloc] at szw1
  try simp only [World.size_setCell] at szw1
  clear A_0_ A_1_ A_2_
  have rA3_ := Lib.hid (show (w1).heap[W.heap.size]? = some (.cells #[.slice (some ⟨b3, o3, none⟩) n k3, .int .i64 (tn : Int), .int .i64 l] 44 (0, 0)) from row_held g rA1_.out)
  clear rA1_
  have G4_ := Lib.hid (show (W).grownBy (w1) none from gby_trans G2_.out g)
  clear g
  have A_0_ : (w1).cell? ⟨W.heap.size, 0, none⟩ = some (.slice (some ⟨b3, o3, none⟩) n k3) := cell_of_row _ _ 0 _ _ _ rA3_.out
  have A_1_ : (w1).cell? ⟨W.heap.size, 1, none⟩ = some (.int .i64 (tn : Int)) := cell_of_row _ _ 1 _ _ _ rA3_.out
  have A_2_ : (w1).cell? ⟨W.heap.size, 2, none⟩ = some (.int .i64 l) := cell_of_row _ _ 2 _ _ _ rA3_.out
  go_wp2_with fail
  go_at_call 67
  refine (implNext_no _ b2 o2 k2 n tn ask (fun q hq => (G4_.out).cell (HCA.out q hq) (by simp)) hn1 hn4 htn HN.out).mono ?_
  rintro e w2 ⟨rfl, g⟩
  have szw2 := g.size
  try simp only [World.size_alloc] at szw2
  try simp only [World.size_setCell] at szw2
  clear A_0_ A_1_ A_2_
  have rA5_ := Lib.hid (show (w2).heap[W.heap.size]? = some (.cells #[.slice (some ⟨b3, o3, none⟩) n k3, .int .i64 (tn : Int), .int .i64 l] 44 (0, 0)) from row_held g rA3_.out)
  clear rA3_
  have G6_ := Lib.hid (show (W).grownBy (w2) none from gby_trans G4_.out g)
  clear g
  have A_0_ : (w2).cell? ⟨W.heap.size, 0, none⟩ = some (.slice (some ⟨b3, o3, none⟩) n k3) := cell_of_row _ _ 0 _ _ _ rA5_.out
  have A_1_ : (w2).cell? ⟨W.heap.size, 1, none⟩ = some (.int .i64 (tn : Int)) := cell_of_row _ _ 1 _ _ _ rA5_.out
  have A_2_ : (w2).cell? ⟨W.heap.size, 2, none⟩ = some (.int .i64 l) := cell_of_row _ _ 2 _ _ _ rA5_.out
  go_wp2
  go_ret
  exact ⟨rfl, G6_.out⟩

set_option maxRecDepth 8000 in
set_option maxHeartbeats 2000000 in
theorem canGrant_yes (W : World) (t l : Int) (v u : Value) (xs : List Int) (ask : List Bool) (H : RdL shI W v xs) (Hu : RdL shB W u ask) (hl : szL shI xs ≤ 1048576) (hlu : szL shB ask ≤ 1048576) (hok : ArbOk xs t l) (hq : ask.length = xs.length) (k : Nat) (hN : NextAt ask t.toNat xs.length k) : Calls Try.prog 60 #[vArbiter v t l, u] W (AnsN (.bool true) W) := by
  have HOK := Lib.hid hok
  have HQ := Lib.hid hq
  have h14 : 1 ≤ xs.length ∧ xs.length ≤ 4 := ⟨hok.2.1, hok.2.2.1⟩
  obtain ⟨tn, htn⟩ : ∃ n : Nat, t = (n : Int) := ⟨t.toNat, by have := hok.2.2.2.1; omega⟩
  subst htn
  have htl : tn < xs.length := by have := hok.2.2.2.2.1; omega
  have hl0 := hok.2.2.2.2.2.1
  have hl9 : l ≤ 9 := by
    have h1 := hok.2.2.2.2.2.2
    rw [Int.toNat_natCast] at h1
    have h2 := (hok.1 (xs.getD tn 0) (by rw [List.getD_eq_getElem?_getD, List.getElem?_eq_getElem htl]; exact List.getElem_mem _)).2
    omega
  obtain ⟨b2, o2, k2, hv2, hc2⟩ := rdB_at Hu (by omega)
  obtain ⟨b3, o3, k3, hv3, hc3⟩ := rdI1_at H (by omega)
  subst hv2 hv3
  have HSL := Lib.hid H
  have HL := Lib.hid hl
  obtain ⟨n, hn⟩ : ∃ n, n = xs.length := ⟨_, rfl⟩
  have HE := Lib.hid hn
  rw [hq, ← hn] at hc2 ⊢
  rw [← hn] at hc3 HSL
  have HCA := Lib.hid hc2
  have HCW := Lib.hid hc3
  have hn1 : 1 ≤ n := by omega
  have hn4 : n ≤ 4 := by omega
  have htn : tn < n := by omega
  have hnb : n ≤ 1048576 := by omega
  have hti : (tn : Int) < (n : Int) := by omega
  have ht0 : (0 : Int) ≤ (tn : Int) := by omega
  have htt : ((tn : Int)).toNat = tn := by omega
  have e1_ : ((n : Int) != (n : Int)) = false := by simp
  have e2_ : ((n : Int) == (n : Int)) = true := by simp
  have HN := Lib.hid (show NextAt ask tn n k by rw [hn]; simpa using hN)
  clear hN
  clear H Hu hl hlu hc2 hc3 hn hok hq h14 htl
  unfold vArbiter
  go_enter Try.func60, Try.ntmps60
  have rA1_ := Lib.hid (show ((W.alloc (.cells #[.slice (some ⟨b3, o3, none⟩) n k3, .int .i64 (tn : Int), .int .i64 l] 44))).heap[W.heap.size]? = some (.cells #[.slice (some ⟨b3, o3, none⟩) n k3, .int .i64 (tn : Int), .int .i64 l] 44 (0, 0)) from by exact heap_alloc_new _ _)
  have G2_ := Lib.hid (show (W).grownBy ((W.alloc (.cells #[.slice (some ⟨b3, o3, none⟩) n k3, .int .i64 (tn : Int), .int .i64 l] 44))) none from (gby_alloc (gby_refl _ _) _))
  have A_0_ : ((W.alloc (.cells #[.slice (some ⟨b3, o3, none⟩) n k3, .int .i64 (tn : Int), .int .i64 l] 44))).cell? ⟨W.heap.size, 0, none⟩ = some (.slice (some ⟨b3, o3, none⟩) n k3) := cell_of_row _ _ 0 _ _ _ rA1_.out
  have A_1_ : ((W.alloc (.cells #[.slice (some ⟨b3, o3, none⟩) n k3, .int .i64 (tn : Int), .int .i64 l] 44))).cell? ⟨W.heap.size, 1, none⟩ = some (.int .i64 (tn : Int)) := cell_of_row _ _ 1 _ _ _ rA1_.out
  have A_2_ : ((W.alloc (.cells #[.slice (some ⟨b3, o3, none⟩) n k3, .int .i64 (tn : Int), .int .i64 l] 44))).cell? ⟨W.heap.size, 2, none⟩ = some (.int .i64 l) := cell_of_row _ _ 2 _ _ _ rA1_.out
  go_wp2_with fail
  go_at_call 42
  refine (implArb_yes _ _ _ _ xs _ _ (HSL.out.grow G2_.out) hnb HOK.out).mono ?_
  rintro e w1 ⟨rfl, g⟩
  have szw1 := g.size
  try simp only [World.size_alloc] at szw1
  try simp only [World.size_setCell] at szw1
  clear A_0_ A_1_ A_2_
  have rA3_ := Lib.hid (show (w1).heap[W.heap.size]? = some (.cells #[.slice (some ⟨b3, o3, none⟩) n k3, .int .i64 (tn : Int), .int .i64 l] 44 (0, 0)) from row_held g rA1_.out)
  clear rA1_
  have G4_ := Lib.hid (show (W).grownBy (w1) none from gby_trans G2_.out g)
  clear g
  have A_0_ : (w1).cell? ⟨W.heap.size, 0, none⟩ = some (.slice (some ⟨b3, o3, none⟩) n k3) := cell_of_row _ _ 0 _ _ _ rA3_.out
  have A_1_ : (w1).cell? ⟨W.heap.size, 1, none⟩ = some (.int .i64 (tn : Int)) := cell_of_row _ _ 1 _ _ _ rA3_.out
  have A_2_ : (w1).cell? ⟨W.heap.size, 2, none⟩ = some (.int .i64 l) := cell_of_row _ _ 2 _ _ _ rA3_.out
  go_wp2_with fail
  go_at_call 67
  refine (implNext_yes _ b2 o2 k2 n tn k ask (fun q hq => (G4_.out).cell (HCA.out q hq) (by simp)) hn1 hn4 htn HN.out).mono ?_
  rintro e w2 ⟨rfl, g⟩
  have szw2 := g.size
  try simp only [World.size_alloc] at szw2
  try simp only [World.size_setCell] at szw2
  clear A_0_ A_1_ A_2_
  have rA5_ := Lib.hid (show (w2).heap[W.heap.size]? = some (.cells #[.slice (some ⟨b3, o3, none⟩) n k3, .int .i64 (tn : Int), .int .i64 l] 44 (0, 0)) from row_held g rA3_.out)
  clear rA3_
  have G6_ := Lib.hid (show (W).grownBy (w2) none from gby_trans G4_.out g)
  clear g
  have A_0_ : (w2).cell? ⟨W.heap.size, 0, none⟩ = some (.slice (some ⟨b3, o3, none⟩) n k3) := cell_of_row _ _ 0 _ _ _ rA5_.out
  have A_1_ : (w2).cell? ⟨W.heap.size, 1, none⟩ = some (.int .i64 (tn : Int)) := cell_of_row _ _ 1 _ _ _ rA5_.out
  have A_2_ : (w2).cell? ⟨W.heap.size, 2, none⟩ = some (.int .i64 l) := cell_of_row _ _ 2 _ _ _ rA5_.out
  have g9_ : (0 : Int) ≤ (((tn + k) % n : Nat) : Int) := by omega
  have g8_ : decide ((0 : Int) ≤ (((tn + k) % n : Nat) : Int)) = true := decide_eq_true g9_
  go_wp2
  go_ret
  exact ⟨rfl, G6_.out⟩

set_option maxRecDepth 8000 in
set_option maxHeartbeats 2000000 in
theorem implGrant_bad (W : World) (t l : Int) (v u : Value) (xs : List Int) (ask : List Bool) (H : RdL shI W v xs) (Hu : RdL shB W u ask) (hl : szL shI xs ≤ 1048576) (hlu : szL shB ask ≤ 1048576) (hb : ¬ ArbOk xs t l ∨ ¬ ask.length = xs.length) : Calls Try.prog 29 #[vArbiter v t l, u] W (ResIGrant xs t l (-1) W) := by
  have HSL := Lib.hid H
  have HSU := Lib.hid Hu
  have HL := Lib.hid hl
  obtain ⟨a1, n1, c1, rfl⟩ := RdL.form H
  have hn1 : n1 = xs.length := by obtain ⟨_, _, e, _⟩ := H; injection e
  have hnb : n1 ≤ 1048576 := by rw [szL_I] at hl; omega
  obtain ⟨b1, m1, d1, rfl⟩ := RdL.form Hu
  have hm1 : m1 = ask.length := by obtain ⟨_, _, e, _⟩ := Hu; injection e
  have HE1 := Lib.hid hn1
  have HE2 := Lib.hid hm1
  have HLU := Lib.hid hlu
  clear H Hu hl hlu hn1 hm1
  have HB := Lib.hid hb
  clear hb
  unfold vArbiter
  go_enter Try.func29, Try.ntmps29
  have rA1_ := Lib.hid (show (((W.alloc (.cells #[.slice a1 n1 c1, .int .i64 t, .int .i64 l] 44)).alloc (.cells #[.slice none 0 0, .int .i64 0, .int .i64 0] 44))).heap[W.heap.size]? = some (.cells #[.slice a1 n1 c1, .int .i64 t, .int .i64 l] 44 (0, 0)) from by rw [heap_alloc_old _ _ (by simp only [World.size_alloc]; omega)]; exact heap_alloc_new _ _)
  have rR2_ := Lib.hid (show (((W.alloc (.cells #[.slice a1 n1 c1, .int .i64 t, .int .i64 l] 44)).alloc (.cells #[.slice none 0 0, .int .i64 0, .int .i64 0] 44))).heap[W.heap.size + 1]? = some (.cells #[.slice none 0 0, .int .i64 0, .int .i64 0] 44 (0, 0)) from by exact heap_pair _ _ _)
  have G3_ := Lib.hid (show (W).grownBy (((W.alloc (.cells #[.slice a1 n1 c1, .int .i64 t, .int .i64 l] 44)).alloc (.cells #[.slice none 0 0, .int .i64 0, .int .i64 0] 44))) none from (gby_alloc (gby_alloc (gby_refl _ _) _) _))
  have A_0_ : (((W.alloc (.cells #[.slice a1 n1 c1, .int .i64 t, .int .i64 l] 44)).alloc (.cells #[.slice none 0 0, .int .i64 0, .int .i64 0] 44))).cell? ⟨W.heap.size, 0, none⟩ = some (.slice a1 n1 c1) := cell_of_row _ _ 0 _ _ _ rA1_.out
  have A_1_ : (((W.alloc (.cells #[.slice a1 n1 c1, .int .i64 t, .int .i64 l] 44)).alloc (.cells #[.slice none 0 0, .int .i64 0, .int .i64 0] 44))).cell? ⟨W.heap.size, 1, none⟩ = some (.int .i64 t) := cell_of_row _ _ 1 _ _ _ rA1_.out
  have A_2_ : (((W.alloc (.cells #[.slice a1 n1 c1, .int .i64 t, .int .i64 l] 44)).alloc (.cells #[.slice none 0 0, .int .i64 0, .int .i64 0] 44))).cell? ⟨W.heap.size, 2, none⟩ = some (.int .i64 l) := cell_of_row _ _ 2 _ _ _ rA1_.out
  have R_0_ : (((W.alloc (.cells #[.slice a1 n1 c1, .int .i64 t, .int .i64 l] 44)).alloc (.cells #[.slice none 0 0, .int .i64 0, .int .i64 0] 44))).cell? ⟨W.heap.size + 1, 0, none⟩ = some (.slice none 0 0) := cell_of_row _ _ 0 _ _ _ rR2_.out
  have R_1_ : (((W.alloc (.cells #[.slice a1 n1 c1, .int .i64 t, .int .i64 l] 44)).alloc (.cells #[.slice none 0 0, .int .i64 0, .int .i64 0] 44))).cell? ⟨W.heap.size + 1, 1, none⟩ = some (.int .i64 0) := cell_of_row _ _ 1 _ _ _ rR2_.out
  have R_2_ : (((W.alloc (.cells #[.slice a1 n1 c1, .int .i64 t, .int .i64 l] 44)).alloc (.cells #[.slice none 0 0, .int .i64 0, .int .i64 0] 44))).cell? ⟨W.heap.size + 1, 2, none⟩ = some (.int .i64 0) := cell_of_row _ _ 2 _ _ _ rR2_.out
  go_wp2_with fail
  go_at_call 59
  refine (copiedArb_d _ t l _ xs (HSL.out.grow G3_.out) HL.out).mono ?_
  rintro e w1 ⟨d_, rfl, o, g⟩
  have sz_ := g.size
  try simp only [World.size_alloc] at sz_ o
  clear A_0_ A_1_ A_2_ R_0_ R_1_ R_2_
  have rA4_ := Lib.hid (show (w1).heap[W.heap.size]? = some (.cells #[.slice a1 n1 c1, .int .i64 t, .int .i64 l] 44 (0, 0)) from row_held g rA1_.out)
  clear rA1_
  have rR5_ := Lib.hid (show (w1).heap[W.heap.size + 1]? = some (.cells #[.slice none 0 0, .int .i64 0, .int .i64 0] 44 (0, 0)) from row_held g rR2_.out)
  clear rR2_
  have G6_ := Lib.hid (show (W).grownBy (w1) none from gby_trans G3_.out g)
  clear g
  obtain ⟨qp, qn, qc, hv_⟩ := RdL.form (OwU.rd o)
  subst hv_
  unfold vArbiter
  have oC7_ := Lib.hid (show OwU (w1) ((W.heap.size + 1 + 1)) (w1.heap.size) [] [own shI (.slice qp qn qc) xs] from o)
  clear o
  have A_0_ : (w1).cell? ⟨W.heap.size, 0, none⟩ = some (.slice a1 n1 c1) := cell_of_row _ _ 0 _ _ _ rA4_.out
  have A_1_ : (w1).cell? ⟨W.heap.size, 1, none⟩ = some (.int .i64 t) := cell_of_row _ _ 1 _ _ _ rA4_.out
  have A_2_ : (w1).cell? ⟨W.heap.size, 2, none⟩ = some (.int .i64 l) := cell_of_row _ _ 2 _ _ _ rA4_.out
  have Af0_ : (w1).frozen? ⟨W.heap.size, 0, none⟩ = false := frozen_of_row _ _ 0 _ _ rA4_.out
  have Af1_ : (w1).frozen? ⟨W.heap.size, 1, none⟩ = false := frozen_of_row _ _ 1 _ _ rA4_.out
  have Af2_ : (w1).frozen? ⟨W.heap.size, 2, none⟩ = false := frozen_of_row _ _ 2 _ _ rA4_.out
  have R_0_ : (w1).cell? ⟨W.heap.size + 1, 0, none⟩ = some (.slice none 0 0) := cell_of_row _ _ 0 _ _ _ rR5_.out
  have R_1_ : (w1).cell? ⟨W.heap.size + 1, 1, none⟩ = some (.int .i64 0) := cell_of_row _ _ 1 _ _ _ rR5_.out
  have R_2_ : (w1).cell? ⟨W.heap.size + 1, 2, none⟩ = some (.int .i64 0) := cell_of_row _ _ 2 _ _ _ rR5_.out
  go_wp2_with fail
  go_at_call 60
  clear A_0_ A_1_ A_2_ Af0_ Af1_ Af2_ R_0_ R_1_ R_2_
  have rR8_ := Lib.hid (show ((((w1.setCell ⟨W.heap.size, 0, none⟩ (.slice qp qn qc)).setCell ⟨W.heap.size, 1, none⟩ (.int .i64 t)).setCell ⟨W.heap.size, 2, none⟩ (.int .i64 l))).heap[W.heap.size + 1]? = some (.cells #[.slice none 0 0, .int .i64 0, .int .i64 0] 44 (0, 0)) from (set_far (set_far (set_far rR5_.out (by dsimp only; omega)) (by dsimp only; omega)) (by dsimp only; omega)))
  clear rR5_
  have rA9_ := Lib.hid (show ((((w1.setCell ⟨W.heap.size, 0, none⟩ (.slice qp qn qc)).setCell ⟨W.heap.size, 1, none⟩ (.int .i64 t)).setCell ⟨W.heap.size, 2, none⟩ (.int .i64 l))).heap[W.heap.size]? = some (.cells #[.slice qp qn qc, .int .i64 t, .int .i64 l] 44 (0, 0)) from (heap_setCell_same _ _ 2 _ _ _ (heap_setCell_same _ _ 1 _ _ _ (heap_setCell_same _ _ 0 _ _ _ rA4_.out))))
  clear rA4_
  have oC10_ := Lib.hid (show OwU ((((w1.setCell ⟨W.heap.size, 0, none⟩ (.slice qp qn qc)).setCell ⟨W.heap.size, 1, none⟩ (.int .i64 t)).setCell ⟨W.heap.size, 2, none⟩ (.int .i64 l))) ((W.heap.size + 1 + 1)) (w1.heap.size) [] [own shI (.slice qp qn qc) xs] from (OwU.keep (chg_one _ _ _ _) (by omega) (OwU.keep (chg_one _ _ _ _) (by omega) (OwU.keep (chg_one _ _ _ _) (by omega) oC7_.out))))
  clear oC7_
  have G11_ := Lib.hid (show (W).grownBy ((((w1.setCell ⟨W.heap.size, 0, none⟩ (.slice qp qn qc)).setCell ⟨W.heap.size, 1, none⟩ (.int .i64 t)).setCell ⟨W.heap.size, 2, none⟩ (.int .i64 l))) none from (gby_setnew (gby_setnew (gby_setnew G6_.out _ (by dsimp only; omega) _) _ (by dsimp only; omega) _) _ (by dsimp only; omega) _))
  have A_0_ : ((((w1.setCell ⟨W.heap.size, 0, none⟩ (.slice qp qn qc)).setCell ⟨W.heap.size, 1, none⟩ (.int .i64 t)).setCell ⟨W.heap.size, 2, none⟩ (.int .i64 l))).cell? ⟨W.heap.size, 0, none⟩ = some (.slice qp qn qc) := cell_of_row _ _ 0 _ _ _ rA9_.out
  have A_1_ : ((((w1.setCell ⟨W.heap.size, 0, none⟩ (.slice qp qn qc)).setCell ⟨W.heap.size, 1, none⟩ (.int .i64 t)).setCell ⟨W.heap.size, 2, none⟩ (.int .i64 l))).cell? ⟨W.heap.size, 1, none⟩ = some (.int .i64 t) := cell_of_row _ _ 1 _ _ _ rA9_.out
  have A_2_ : ((((w1.setCell ⟨W.heap.size, 0, none⟩ (.slice qp qn qc)).setCell ⟨W.heap.size, 1, none⟩ (.int .i64 t)).setCell ⟨W.heap.size, 2, none⟩ (.int .i64 l))).cell? ⟨W.heap.size, 2, none⟩ = some (.int .i64 l) := cell_of_row _ _ 2 _ _ _ rA9_.out
  have R_0_ : ((((w1.setCell ⟨W.heap.size, 0, none⟩ (.slice qp qn qc)).setCell ⟨W.heap.size, 1, none⟩ (.int .i64 t)).setCell ⟨W.heap.size, 2, none⟩ (.int .i64 l))).cell? ⟨W.heap.size + 1, 0, none⟩ = some (.slice none 0 0) := cell_of_row _ _ 0 _ _ _ rR8_.out
  have R_1_ : ((((w1.setCell ⟨W.heap.size, 0, none⟩ (.slice qp qn qc)).setCell ⟨W.heap.size, 1, none⟩ (.int .i64 t)).setCell ⟨W.heap.size, 2, none⟩ (.int .i64 l))).cell? ⟨W.heap.size + 1, 1, none⟩ = some (.int .i64 0) := cell_of_row _ _ 1 _ _ _ rR8_.out
  have R_2_ : ((((w1.setCell ⟨W.heap.size, 0, none⟩ (.slice qp qn qc)).setCell ⟨W.heap.size, 1, none⟩ (.int .i64 t)).setCell ⟨W.heap.size, 2, none⟩ (.int .i64 l))).cell? ⟨W.heap.size + 1, 2, none⟩ = some (.int .i64 0) := cell_of_row _ _ 2 _ _ _ rR8_.out
  refine (canGrant_bad _ t l _ _ xs ask (OwU.rd oC10_.out) (HSU.out.grow G11_.out) HL.out HLU.out HB.out).mono ?_
  rintro e w2 ⟨rfl, g⟩
  have szl_ := g.size
  try simp only [World.size_setCell, World.size_alloc] at szl_
  clear A_0_ A_1_ A_2_ R_0_ R_1_ R_2_
  have rA12_ := Lib.hid (show (w2).heap[W.heap.size]? = some (.cells #[.slice qp qn qc, .int .i64 t, .int .i64 l] 44 (0, 0)) from row_held g rA9_.out)
  clear rA9_
  have rR13_ := Lib.hid (show (w2).heap[W.heap.size + 1]? = some (.cells #[.slice none 0 0, .int .i64 0, .int .i64 0] 44 (0, 0)) from row_held g rR8_.out)
  clear rR8_
  have oC14_ := Lib.hid (show OwU (w2) ((W.heap.size + 1 + 1)) (w1.heap.size) [] [own shI (.slice qp qn qc) xs] from OwU.grow oC10_.out g)
  clear oC10_
  have G15_ := Lib.hid (show (W).grownBy (w2) none from gby_trans G11_.out g)
  clear g
  have A_0_ : (w2).cell? ⟨W.heap.size, 0, none⟩ = some (.slice qp qn qc) := cell_of_row _ _ 0 _ _ _ rA12_.out
  have A_1_ : (w2).cell? ⟨W.heap.size, 1, none⟩ = some (.int .i64 t) := cell_of_row _ _ 1 _ _ _ rA12_.out
  have A_2_ : (w2).cell? ⟨W.heap.size, 2, none⟩ = some (.int .i64 l) := cell_of_row _ _ 2 _ _ _ rA12_.out
  have R_0_ : (w2).cell? ⟨W.heap.size + 1, 0, none⟩ = some (.slice none 0 0) := cell_of_row _ _ 0 _ _ _ rR13_.out
  have R_1_ : (w2).cell? ⟨W.heap.size + 1, 1, none⟩ = some (.int .i64 0) := cell_of_row _ _ 1 _ _ _ rR13_.out
  have R_2_ : (w2).cell? ⟨W.heap.size + 1, 2, none⟩ = some (.int .i64 0) := cell_of_row _ _ 2 _ _ _ rR13_.out
  clear A_0_ A_1_ A_2_ R_0_ R_1_ R_2_
  have A_0_ : (w2).cell? ⟨W.heap.size, 0, none⟩ = some (.slice qp qn qc) := cell_of_row _ _ 0 _ _ _ rA12_.out
  have A_1_ : (w2).cell? ⟨W.heap.size, 1, none⟩ = some (.int .i64 t) := cell_of_row _ _ 1 _ _ _ rA12_.out
  have A_2_ : (w2).cell? ⟨W.heap.size, 2, none⟩ = some (.int .i64 l) := cell_of_row _ _ 2 _ _ _ rA12_.out
  have R_0_ : (w2).cell? ⟨W.heap.size + 1, 0, none⟩ = some (.slice none 0 0) := cell_of_row _ _ 0 _ _ _ rR13_.out
  have R_1_ : (w2).cell? ⟨W.heap.size + 1, 1, none⟩ = some (.int .i64 0) := cell_of_row _ _ 1 _ _ _ rR13_.out
  have R_2_ : (w2).cell? ⟨W.heap.size + 1, 2, none⟩ = some (.int .i64 0) := cell_of_row _ _ 2 _ _ _ rR13_.out
  clear A_0_ A_1_ A_2_ R_0_ R_1_ R_2_
  have A_0_ : (w2).cell? ⟨W.heap.size, 0, none⟩ = some (.slice qp qn qc) := cell_of_row _ _ 0 _ _ _ rA12_.out
  have A_1_ : (w2).cell? ⟨W.heap.size, 1, none⟩ = some (.int .i64 t) := cell_of_row _ _ 1 _ _ _ rA12_.out
  have A_2_ : (w2).cell? ⟨W.heap.size, 2, none⟩ = some (.int .i64 l) := cell_of_row _ _ 2 _ _ _ rA12_.out
  have R_0_ : (w2).cell? ⟨W.heap.size + 1, 0, none⟩ = some (.slice none 0 0) := cell_of_row _ _ 0 _ _ _ rR13_.out
  have R_1_ : (w2).cell? ⟨W.heap.size + 1, 1, none⟩ = some (.int .i64 0) := cell_of_row _ _ 1 _ _ _ rR13_.out
  have R_2_ : (w2).cell? ⟨W.heap.size + 1, 2, none⟩ = some (.int .i64 0) := cell_of_row _ _ 2 _ _ _ rR13_.out
  have Rf0_ : (w2).frozen? ⟨W.heap.size + 1, 0, none⟩ = false := frozen_of_row _ _ 0 _ _ rR13_.out
  have Rf1_ : (w2).frozen? ⟨W.heap.size + 1, 1, none⟩ = false := frozen_of_row _ _ 1 _ _ rR13_.out
  have Rf2_ : (w2).frozen? ⟨W.heap.size + 1, 2, none⟩ = false := frozen_of_row _ _ 2 _ _ rR13_.out
  have zr_ := Lib.hid (show ((((w2.setCell ⟨W.heap.size + 1, 0, none⟩ (.slice qp qn qc)).setCell ⟨W.heap.size + 1, 1, none⟩ (.int .i64 t)).setCell ⟨W.heap.size + 1, 2, none⟩ (.int .i64 l))).heap[W.heap.size + 1]? = some (.cells #[.slice qp qn qc, .int .i64 t, .int .i64 l] 44 (0, 0)) from (heap_setCell_same _ _ 2 _ _ _ (heap_setCell_same _ _ 1 _ _ _ (heap_setCell_same _ _ 0 _ _ _ rR13_.out))))
  have z0_ : ((((w2.setCell ⟨W.heap.size + 1, 0, none⟩ (.slice qp qn qc)).setCell ⟨W.heap.size + 1, 1, none⟩ (.int .i64 t)).setCell ⟨W.heap.size + 1, 2, none⟩ (.int .i64 l))).cell? ⟨W.heap.size + 1, 0, none⟩ = some (.slice qp qn qc) := cell_of_row _ _ 0 _ _ _ zr_.out
  have z1_ : ((((w2.setCell ⟨W.heap.size + 1, 0, none⟩ (.slice qp qn qc)).setCell ⟨W.heap.size + 1, 1, none⟩ (.int .i64 t)).setCell ⟨W.heap.size + 1, 2, none⟩ (.int .i64 l))).cell? ⟨W.heap.size + 1, 1, none⟩ = some (.int .i64 t) := cell_of_row _ _ 1 _ _ _ zr_.out
  have z2_ : ((((w2.setCell ⟨W.heap.size + 1, 0, none⟩ (.slice qp qn qc)).setCell ⟨W.heap.size + 1, 1, none⟩ (.int .i64 t)).setCell ⟨W.heap.size + 1, 2, none⟩ (.int .i64 l))).cell? ⟨W.heap.size + 1, 2, none⟩ = some (.int .i64 l) := cell_of_row _ _ 2 _ _ _ zr_.out
  go_wp2
  refine bodyPost_ret (v := .tuple #[.agg #[.slice qp qn qc, .int .i64 t, .int .i64 l], .int .i64 (-1)]) (by simp [results, go_sem, z0_, z1_, z2_]) rfl ⟨_, rfl, ?_, ?_⟩
  · exact OwU.wide (lo := W.heap.size + 1 + 1) (by omega) (by simp only [World.size_setCell]; omega) (OwU.keep (chg_one _ _ _ _) (.inr (by omega)) (OwU.keep (chg_one _ _ _ _) (.inr (by omega)) (OwU.keep (chg_one _ _ _ _) (.inr (by omega)) oC14_.out)))
  · exact (gby_setnew (gby_setnew (gby_setnew G15_.out _ (by dsimp only; omega) _) _ (by dsimp only; omega) _) _ (by dsimp only; omega) _)

set_option maxRecDepth 8000 in
set_option maxHeartbeats 2000000 in
theorem implGrant_none (W : World) (t l : Int) (v u : Value) (xs : List Int) (ask : List Bool) (H : RdL shI W v xs) (Hu : RdL shB W u ask) (hl : szL shI xs ≤ 1048576) (hlu : szL shB ask ≤ 1048576) (hok : ArbOk xs t l) (hq : ask.length = xs.length) (hN : NoneAt ask t.toNat xs.length) : Calls Try.prog 29 #[vArbiter v t l, u] W (ResIGrant xs t l (-1) W) := by
  have HSL := Lib.hid H
  have HSU := Lib.hid Hu
  have HL := Lib.hid hl
  obtain ⟨a1, n1, c1, rfl⟩ := RdL.form H
  have hn1 : n1 = xs.length := by obtain ⟨_, _, e, _⟩ := H; injection e
  have hnb : n1 ≤ 1048576 := by rw [szL_I] at hl; omega
  obtain ⟨b1, m1, d1, rfl⟩ := RdL.form Hu
  have hm1 : m1 = ask.length := by obtain ⟨_, _, e, _⟩ := Hu; injection e
  have HE1 := Lib.hid hn1
  have HE2 := Lib.hid hm1
  have HLU := Lib.hid hlu
  clear H Hu hl hlu hn1 hm1
  have HOK := Lib.hid hok
  have HQ := Lib.hid hq
  have HN := Lib.hid hN
  clear hok hq hN
  unfold vArbiter
  go_enter Try.func29, Try.ntmps29
  have rA1_ := Lib.hid (show (((W.alloc (.cells #[.slice a1 n1 c1, .int .i64 t, .int .i64 l] 44)).alloc (.cells #[.slice none 0 0, .int .i64 0, .int .i64 0] 44))).heap[W.heap.size]? = some (.cells #[.slice a1 n1 c1, .int .i64 t, .int .i64 l] 44 (0, 0)) from by rw [heap_alloc_old _ _ (by simp only [World.size_alloc]; omega)]; exact heap_alloc_new _ _)
  have rR2_ := Lib.hid (show (((W.alloc (.cells #[.slice a1 n1 c1, .int .i64 t, .int .i64 l] 44)).alloc (.cells #[.slice none 0 0, .int .i64 0, .int .i64 0] 44))).heap[W.heap.size + 1]? = some (.cells #[.slice none 0 0, .int .i64 0, .int .i64 0] 44 (0, 0)) from by exact heap_pair _ _ _)
  have G3_ := Lib.hid (show (W).grownBy (((W.alloc (.cells #[.slice a1 n1 c1, .int .i64 t, .int .i64 l] 44)).alloc (.cells #[.slice none 0 0, .int .i64 0, .int .i64 0] 44))) none from (gby_alloc (gby_alloc (gby_refl _ _) _) _))
  have A_0_ : (((W.alloc (.cells #[.slice a1 n1 c1, .int .i64 t, .int .i64 l] 44)).alloc (.cells #[.slice none 0 0, .int .i64 0, .int .i64 0] 44))).cell? ⟨W.heap.size, 0, none⟩ = some (.slice a1 n1 c1) := cell_of_row _ _ 0 _ _ _ rA1_.out
  have A_1_ : (((W.alloc (.cells #[.slice a1 n1 c1, .int .i64 t, .int .i64 l] 44)).alloc (.cells #[.slice none 0 0, .int .i64 0, .int .i64 0] 44))).cell? ⟨W.heap.size, 1, none⟩ = some (.int .i64 t) := cell_of_row _ _ 1 _ _ _ rA1_.out
  have A_2_ : (((W.alloc (.cells #[.slice a1 n1 c1, .int .i64 t, .int .i64 l] 44)).alloc (.cells #[.slice none 0 0, .int .i64 0, .int .i64 0] 44))).cell? ⟨W.heap.size, 2, none⟩ = some (.int .i64 l) := cell_of_row _ _ 2 _ _ _ rA1_.out
  have R_0_ : (((W.alloc (.cells #[.slice a1 n1 c1, .int .i64 t, .int .i64 l] 44)).alloc (.cells #[.slice none 0 0, .int .i64 0, .int .i64 0] 44))).cell? ⟨W.heap.size + 1, 0, none⟩ = some (.slice none 0 0) := cell_of_row _ _ 0 _ _ _ rR2_.out
  have R_1_ : (((W.alloc (.cells #[.slice a1 n1 c1, .int .i64 t, .int .i64 l] 44)).alloc (.cells #[.slice none 0 0, .int .i64 0, .int .i64 0] 44))).cell? ⟨W.heap.size + 1, 1, none⟩ = some (.int .i64 0) := cell_of_row _ _ 1 _ _ _ rR2_.out
  have R_2_ : (((W.alloc (.cells #[.slice a1 n1 c1, .int .i64 t, .int .i64 l] 44)).alloc (.cells #[.slice none 0 0, .int .i64 0, .int .i64 0] 44))).cell? ⟨W.heap.size + 1, 2, none⟩ = some (.int .i64 0) := cell_of_row _ _ 2 _ _ _ rR2_.out
  go_wp2_with fail
  go_at_call 59
  refine (copiedArb_d _ t l _ xs (HSL.out.grow G3_.out) HL.out).mono ?_
  rintro e w1 ⟨d_, rfl, o, g⟩
  have sz_ := g.size
  try simp only [World.size_alloc] at sz_ o
  clear A_0_ A_1_ A_2_ R_0_ R_1_ R_2_
  have rA4_ := Lib.hid (show (w1).heap[W.heap.size]? = some (.cells #[.slice a1 n1 c1, .int .i64 t, .int .i64 l] 44 (0, 0)) from row_held g rA1_.out)
  clear rA1_
  have rR5_ := Lib.hid (show (w1).heap[W.heap.size + 1]? = some (.cells #[.slice none 0 0, .int .i64 0, .int .i64 0] 44 (0, 0)) from row_held g rR2_.out)
  clear rR2_
  have G6_ := Lib.hid (show (W).grownBy (w1) none from gby_trans G3_.out g)
  clear g
  obtain ⟨qp, qn, qc, hv_⟩ := RdL.form (OwU.rd o)
  subst hv_
  unfold vArbiter
  have oC7_ := Lib.hid (show OwU (w1) ((W.heap.size + 1 + 1)) (w1.heap.size) [] [own shI (.slice qp qn qc) xs] from o)
  clear o
  have A_0_ : (w1).cell? ⟨W.heap.size, 0, none⟩ = some (.slice a1 n1 c1) := cell_of_row _ _ 0 _ _ _ rA4_.out
  have A_1_ : (w1).cell? ⟨W.heap.size, 1, none⟩ = some (.int .i64 t) := cell_of_row _ _ 1 _ _ _ rA4_.out
  have A_2_ : (w1).cell? ⟨W.heap.size, 2, none⟩ = some (.int .i64 l) := cell_of_row _ _ 2 _ _ _ rA4_.out
  have Af0_ : (w1).frozen? ⟨W.heap.size, 0, none⟩ = false := frozen_of_row _ _ 0 _ _ rA4_.out
  have Af1_ : (w1).frozen? ⟨W.heap.size, 1, none⟩ = false := frozen_of_row _ _ 1 _ _ rA4_.out
  have Af2_ : (w1).frozen? ⟨W.heap.size, 2, none⟩ = false := frozen_of_row _ _ 2 _ _ rA4_.out
  have R_0_ : (w1).cell? ⟨W.heap.size + 1, 0, none⟩ = some (.slice none 0 0) := cell_of_row _ _ 0 _ _ _ rR5_.out
  have R_1_ : (w1).cell? ⟨W.heap.size + 1, 1, none⟩ = some (.int .i64 0) := cell_of_row _ _ 1 _ _ _ rR5_.out
  have R_2_ : (w1).cell? ⟨W.heap.size + 1, 2, none⟩ = some (.int .i64 0) := cell_of_row _ _ 2 _ _ _ rR5_.out
  go_wp2_with fail
  go_at_call 60
  clear A_0_ A_1_ A_2_ Af0_ Af1_ Af2_ R_0_ R_1_ R_2_
  have rR8_ := Lib.hid (show ((((w1.setCell ⟨W.heap.size, 0, none⟩ (.slice qp qn qc)).setCell ⟨W.heap.size, 1, none⟩ (.int .i64 t)).setCell ⟨W.heap.size, 2, none⟩ (.int .i64 l))).heap[W.heap.size + 1]? = some (.cells #[.slice none 0 0, .int .i64 0, .int .i64 0] 44 (0, 0)) from (set_far (set_far (set_far rR5_.out (by dsimp only; omega)) (by dsimp only; omega)) (by dsimp only; omega)))
  clear rR5_
  have rA9_ := Lib.hid (show ((((w1.setCell ⟨W.heap.size, 0, none⟩ (.slice qp qn qc)).setCell ⟨W.heap.size, 1, none⟩ (.int .i64 t)).setCell ⟨W.heap.size, 2, none⟩ (.int .i64 l))).heap[W.heap.size]? = some (.cells #[.slice qp qn qc, .int .i64 t, .int .i64 l] 44 (0, 0)) from (heap_setCell_same _ _ 2 _ _ _ (heap_setCell_same _ _ 1 _ _ _ (heap_setCell_same _ _ 0 _ _ _ rA4_.out))))
  clear rA4_
  have oC10_ := Lib.hid (show OwU ((((w1.setCell ⟨W.heap.size, 0, none⟩ (.slice qp qn qc)).setCell ⟨W.heap.size, 1, none⟩ (.int .i64 t)).setCell ⟨W.heap.size, 2, none⟩ (.int .i64 l))) ((W.heap.size + 1 + 1)) (w1.heap.size) [] [own shI (.slice qp qn qc) xs] from (OwU.keep (chg_one _ _ _ _) (by omega) (OwU.keep (chg_one _ _ _ _) (by omega) (OwU.keep (chg_one _ _ _ _) (by omega) oC7_.out))))
  clear oC7_
  have G11_ := Lib.hid (show (W).grownBy ((((w1.setCell ⟨W.heap.size, 0, none⟩ (.slice qp qn qc)).setCell ⟨W.heap.size, 1, none⟩ (.int .i64 t)).setCell ⟨W.heap.size, 2, none⟩ (.int .i64 l))) none from (gby_setnew (gby_setnew (gby_setnew G6_.out _ (by dsimp only; omega) _) _ (by dsimp only; omega) _) _ (by dsimp only; omega) _))
  have A_0_ : ((((w1.setCell ⟨W.heap.size, 0, none⟩ (.slice qp qn qc)).setCell ⟨W.heap.size, 1, none⟩ (.int .i64 t)).setCell ⟨W.heap.size, 2, none⟩ (.int .i64 l))).cell? ⟨W.heap.size, 0, none⟩ = some (.slice qp qn qc) := cell_of_row _ _ 0 _ _ _ rA9_.out
  have A_1_ : ((((w1.setCell ⟨W.heap.size, 0, none⟩ (.slice qp qn qc)).setCell ⟨W.heap.size, 1, none⟩ (.int .i64 t)).setCell ⟨W.heap.size, 2, none⟩ (.int .i64 l))).cell? ⟨W.heap.size, 1, none⟩ = some (.int .i64 t) := cell_of_row _ _ 1 _ _ _ rA9_.out
  have A_2_ : ((((w1.setCell ⟨W.heap.size, 0, none⟩ (.slice qp qn qc)).setCell ⟨W.heap.size, 1, none⟩ (.int .i64 t)).setCell ⟨W.heap.size, 2, none⟩ (.int .i64 l))).cell? ⟨W.heap.size, 2, none⟩ = some (.int .i64 l) := cell_of_row _ _ 2 _ _ _ rA9_.out
  have R_0_ : ((((w1.setCell ⟨W.heap.size, 0, none⟩ (.slice qp qn qc)).setCell ⟨W.heap.size, 1, none⟩ (.int .i64 t)).setCell ⟨W.heap.size, 2, none⟩ (.int .i64 l))).cell? ⟨W.heap.size + 1, 0, none⟩ = some (.slice none 0 0) := cell_of_row _ _ 0 _ _ _ rR8_.out
  have R_1_ : ((((w1.setCell ⟨W.heap.size, 0, none⟩ (.slice qp qn qc)).setCell ⟨W.heap.size, 1, none⟩ (.int .i64 t)).setCell ⟨W.heap.size, 2, none⟩ (.int .i64 l))).cell? ⟨W.heap.size + 1, 1, none⟩ = some (.int .i64 0) := cell_of_row _ _ 1 _ _ _ rR8_.out
  have R_2_ : ((((w1.setCell ⟨W.heap.size, 0, none⟩ (.slice qp qn qc)).setCell ⟨W.heap.size, 1, none⟩ (.int .i64 t)).setCell ⟨W.heap.size, 2, none⟩ (.int .i64 l))).cell? ⟨W.heap.size + 1, 2, none⟩ = some (.int .i64 0) := cell_of_row _ _ 2 _ _ _ rR8_.out
  refine (canGrant_none _ t l _ _ xs ask (OwU.rd oC10_.out) (HSU.out.grow G11_.out) HL.out HLU.out HOK.out HQ.out HN.out).mono ?_
  rintro e w2 ⟨rfl, g⟩
  have szl_ := g.size
  try simp only [World.size_setCell, World.size_alloc] at szl_
  clear A_0_ A_1_ A_2_ R_0_ R_1_ R_2_
  have rA12_ := Lib.hid (show (w2).heap[W.heap.size]? = some (.cells #[.slice qp qn qc, .int .i64 t, .int .i64 l] 44 (0, 0)) from row_held g rA9_.out)
  clear rA9_
  have rR13_ := Lib.hid (show (w2).heap[W.heap.size + 1]? = some (.cells #[.slice none 0 0, .int .i64 0, .int .i64 0] 44 (0, 0)) from row_held g rR8_.out)
  clear rR8_
  have oC14_ := Lib.hid (show OwU (w2) ((W.heap.size + 1 + 1)) (w1.heap.size) [] [own shI (.slice qp qn qc) xs] from OwU.grow oC10_.out g)
  clear oC10_
  have G15_ := Lib.hid (show (W).grownBy (w2) none from gby_trans G11_.out g)
  clear g
  have A_0_ : (w2).cell? ⟨W.heap.size, 0, none⟩ = some (.slice qp qn qc) := cell_of_row _ _ 0 _ _ _ rA12_.out
  have A_1_ : (w2).cell? ⟨W.heap.size, 1, none⟩ = some (.int .i64 t) := cell_of_row _ _ 1 _ _ _ rA12_.out
  have A_2_ : (w2).cell? ⟨W.heap.size, 2, none⟩ = some (.int .i64 l) := cell_of_row _ _ 2 _ _ _ rA12_.out
  have R_0_ : (w2).cell? ⟨W.heap.size + 1, 0, none⟩ = some (.slice none 0 0) := cell_of_row _ _ 0 _ _ _ rR13_.out
  have R_1_ : (w2).cell? ⟨W.heap.size + 1, 1, none⟩ = some (.int .i64 0) := cell_of_row _ _ 1 _ _ _ rR13_.out
  have R_2_ : (w2).cell? ⟨W.heap.size + 1, 2, none⟩ = some (.int .i64 0) := cell_of_row _ _ 2 _ _ _ rR13_.out
  clear A_0_ A_1_ A_2_ R_0_ R_1_ R_2_
  have A_0_ : (w2).cell? ⟨W.heap.size, 0, none⟩ = some (.slice qp qn qc) := cell_of_row _ _ 0 _ _ _ rA12_.out
  have A_1_ : (w2).cell? ⟨W.heap.size, 1, none⟩ = some (.int .i64 t) := cell_of_row _ _ 1 _ _ _ rA12_.out
  have A_2_ : (w2).cell? ⟨W.heap.size, 2, none⟩ = some (.int .i64 l) := cell_of_row _ _ 2 _ _ _ rA12_.out
  have R_0_ : (w2).cell? ⟨W.heap.size + 1, 0, none⟩ = some (.slice none 0 0) := cell_of_row _ _ 0 _ _ _ rR13_.out
  have R_1_ : (w2).cell? ⟨W.heap.size + 1, 1, none⟩ = some (.int .i64 0) := cell_of_row _ _ 1 _ _ _ rR13_.out
  have R_2_ : (w2).cell? ⟨W.heap.size + 1, 2, none⟩ = some (.int .i64 0) := cell_of_row _ _ 2 _ _ _ rR13_.out
  clear A_0_ A_1_ A_2_ R_0_ R_1_ R_2_
  have A_0_ : (w2).cell? ⟨W.heap.size, 0, none⟩ = some (.slice qp qn qc) := cell_of_row _ _ 0 _ _ _ rA12_.out
  have A_1_ : (w2).cell? ⟨W.heap.size, 1, none⟩ = some (.int .i64 t) := cell_of_row _ _ 1 _ _ _ rA12_.out
  have A_2_ : (w2).cell? ⟨W.heap.size, 2, none⟩ = some (.int .i64 l) := cell_of_row _ _ 2 _ _ _ rA12_.out
  have R_0_ : (w2).cell? ⟨W.heap.size + 1, 0, none⟩ = some (.slice none 0 0) := cell_of_row _ _ 0 _ _ _ rR13_.out
  have R_1_ : (w2).cell? ⟨W.heap.size + 1, 1, none⟩ = some (.int .i64 0) := cell_of_row _ _ 1 _ _ _ rR13_.out
  have R_2_ : (w2).cell? ⟨W.heap.size + 1, 2, none⟩ = some (.int .i64 0) := cell_of_row _ _ 2 _ _ _ rR13_.out
  have Rf0_ : (w2).frozen? ⟨W.heap.size + 1, 0, none⟩ = false := frozen_of_row _ _ 0 _ _ rR13_.out
  have Rf1_ : (w2).frozen? ⟨W.heap.size + 1, 1, none⟩ = false := frozen_of_row _ _ 1 _ _ rR13_.out
  have Rf2_ : (w2).frozen? ⟨W.heap.size + 1, 2, none⟩ = false := frozen_of_row _ _ 2 _ _ rR13_.out
  have zr_ := Lib.hid (show ((((w2.setCell ⟨W.heap.size + 1, 0, none⟩ (.slice qp qn qc)).setCell ⟨W.heap.size + 1, 1, none⟩ (.int .i64 t)).setCell ⟨W.heap.size + 1, 2, none⟩ (.int .i64 l))).heap[W.heap.size + 1]? = some (.cells #[.slice qp qn qc, .int .i64 t, .int .i64 l] 44 (0, 0)) from (heap_setCell_same _ _ 2 _ _ _ (heap_setCell_same _ _ 1 _ _ _ (heap_setCell_same _ _ 0 _ _ _ rR13_.out))))
  have z0_ : ((((w2.setCell ⟨W.heap.size + 1, 0, none⟩ (.slice qp qn qc)).setCell ⟨W.heap.size + 1, 1, none⟩ (.int .i64 t)).setCell ⟨W.heap.size + 1, 2, none⟩ (.int .i64 l))).cell? ⟨W.heap.size + 1, 0, none⟩ = some (.slice qp qn qc) := cell_of_row _ _ 0 _ _ _ zr_.out
  have z1_ : ((((w2.setCell ⟨W.heap.size + 1, 0, none⟩ (.slice qp qn qc)).setCell ⟨W.heap.size + 1, 1, none⟩ (.int .i64 t)).setCell ⟨W.heap.size + 1, 2, none⟩ (.int .i64 l))).cell? ⟨W.heap.size + 1, 1, none⟩ = some (.int .i64 t) := cell_of_row _ _ 1 _ _ _ zr_.out
  have z2_ : ((((w2.setCell ⟨W.heap.size + 1, 0, none⟩ (.slice qp qn qc)).setCell ⟨W.heap.size + 1, 1, none⟩ (.int .i64 t)).setCell ⟨W.heap.size + 1, 2, none⟩ (.int .i64 l))).cell? ⟨W.heap.size + 1, 2, none⟩ = some (.int .i64 l) := cell_of_row _ _ 2 _ _ _ zr_.out
  go_wp2
  refine bodyPost_ret (v := .tuple #[.agg #[.slice qp qn qc, .int .i64 t, .int .i64 l], .int .i64 (-1)]) (by simp [results, go_sem, z0_, z1_, z2_]) rfl ⟨_, rfl, ?_, ?_⟩
  · exact OwU.wide (lo := W.heap.size + 1 + 1) (by omega) (by simp only [World.size_setCell]; omega) (OwU.keep (chg_one _ _ _ _) (.inr (by omega)) (OwU.keep (chg_one _ _ _ _) (.inr (by omega)) (OwU.keep (chg_one _ _ _ _) (.inr (by omega)) oC14_.out)))
  · exact (gby_setnew (gby_setnew (gby_setnew G15_.out _ (by dsimp only; omega) _) _ (by dsimp only; omega) _) _ (by dsimp only; omega) _)

set_option maxRecDepth 8000 in
set_option maxHeartbeats 2000000 in
theorem implGrant_direct (W : World) (t l : Int) (v u : Value) (xs : List Int) (ask : List Bool) (H : RdL shI W v xs) (Hu : RdL shB W u ask) (hl : szL shI xs ≤ 1048576) (hlu : szL shB ask ≤ 1048576) (hok : ArbOk xs t l) (hq : ask.length = xs.length) (hd : ak ask t.toNat = true) (hlp : 0 < l) (k : Nat) (hN : NextAt ask t.toNat xs.length k) : Calls Try.prog 29 #[vArbiter v t l, u] W (ResIGrant xs t (l - 1) t W) := by
  have h14 : 1 ≤ xs.length ∧ xs.length ≤ 4 := ⟨hok.2.1, hok.2.2.1⟩
  have HOK := Lib.hid hok
  have HQ := Lib.hid hq
  obtain ⟨tn, htn⟩ : ∃ n : Nat, t = (n : Int) := ⟨t.toNat, by have := hok.2.2.2.1; omega⟩
  subst htn
  have htl : tn < xs.length := by have := hok.2.2.2.2.1; omega
  have hl0 := hok.2.2.2.2.2.1
  have hl9 : l ≤ 9 := by
    have h1 := hok.2.2.2.2.2.2
    rw [Int.toNat_natCast] at h1
    have h2 := (hok.1 (xs.getD tn 0) (by rw [List.getD_eq_getElem?_getD, List.getElem?_eq_getElem htl]; exact List.getElem_mem _)).2
    omega
  obtain ⟨b2, o2, k2, hv2, hc2⟩ := rdB_at Hu (by omega)
  subst hv2
  have HSL := Lib.hid H
  have HSU := Lib.hid Hu
  have HL := Lib.hid hl
  have HLU := Lib.hid hlu
  obtain ⟨a1, n1, c1, rfl⟩ := RdL.form H
  obtain ⟨n, hn⟩ : ∃ n, n = xs.length := ⟨_, rfl⟩
  have HEN := Lib.hid hn
  rw [hq, ← hn] at hc2 HSU ⊢
  have HCA := Lib.hid hc2
  have hn1 : 1 ≤ n := by omega
  have hn4 : n ≤ 4 := by omega
  have htn : tn < n := by omega
  have HN := Lib.hid hN
  have HD := Lib.hid (show ak ask tn = true by simpa using hd)
  clear H Hu hl hlu hn hok hq hN hd hc2
  unfold vArbiter
  go_enter Try.func29, Try.ntmps29
  have rA1_ := Lib.hid (show (((W.alloc (.cells #[.slice a1 n1 c1, .int .i64 (tn : Int), .int .i64 l] 44)).alloc (.cells #[.slice none 0 0, .int .i64 0, .int .i64 0] 44))).heap[W.heap.size]? = some (.cells #[.slice a1 n1 c1, .int .i64 (tn : Int), .int .i64 l] 44 (0, 0)) from by rw [heap_alloc_old _ _ (by simp only [World.size_alloc]; omega)]; exact heap_alloc_new _ _)
  have rR2_ := Lib.hid (show (((W.alloc (.cells #[.slice a1 n1 c1, .int .i64 (tn : Int), .int .i64 l] 44)).alloc (.cells #[.slice none 0 0, .int .i64 0, .int .i64 0] 44))).heap[W.heap.size + 1]? = some (.cells #[.slice none 0 0, .int .i64 0, .int .i64 0] 44 (0, 0)) from by exact heap_pair _ _ _)
  have G3_ := Lib.hid (show (W).grownBy (((W.alloc (.cells #[.slice a1 n1 c1, .int .i64 (tn : Int), .int .i64 l] 44)).alloc (.cells #[.slice none 0 0, .int .i64 0, .int .i64 0] 44))) none from (gby_alloc (gby_alloc (gby_refl _ _) _) _))
  have A_0_ : (((W.alloc (.cells #[.slice a1 n1 c1, .int .i64 (tn : Int), .int .i64 l] 44)).alloc (.cells #[.slice none 0 0, .int .i64 0, .int .i64 0] 44))).cell? ⟨W.heap.size, 0, none⟩ = some (.slice a1 n1 c1) := cell_of_row _ _ 0 _ _ _ rA1_.out
  have A_1_ : (((W.alloc (.cells #[.slice a1 n1 c1, .int .i64 (tn : Int), .int .i64 l] 44)).alloc (.cells #[.slice none 0 0, .int .i64 0, .int .i64 0] 44))).cell? ⟨W.heap.size, 1, none⟩ = some (.int .i64 (tn : Int)) := cell_of_row _ _ 1 _ _ _ rA1_.out
  have A_2_ : (((W.alloc (.cells #[.slice a1 n1 c1, .int .i64 (tn : Int), .int .i64 l] 44)).alloc (.cells #[.slice none 0 0, .int .i64 0, .int .i64 0] 44))).cell? ⟨W.heap.size, 2, none⟩ = some (.int .i64 l) := cell_of_row _ _ 2 _ _ _ rA1_.out
  have R_0_ : (((W.alloc (.cells #[.slice a1 n1 c1, .int .i64 (tn : Int), .int .i64 l] 44)).alloc (.cells #[.slice none 0 0, .int .i64 0, .int .i64 0] 44))).cell? ⟨W.heap.size + 1, 0, none⟩ = some (.slice none 0 0) := cell_of_row _ _ 0 _ _ _ rR2_.out
  have R_1_ : (((W.alloc (.cells #[.slice a1 n1 c1, .int .i64 (tn : Int), .int .i64 l] 44)).alloc (.cells #[.slice none 0 0, .int .i64 0, .int .i64 0] 44))).cell? ⟨W.heap.size + 1, 1, none⟩ = some (.int .i64 0) := cell_of_row _ _ 1 _ _ _ rR2_.out
  have R_2_ : (((W.alloc (.cells #[.slice a1 n1 c1, .int .i64 (tn : Int), .int .i64 l] 44)).alloc (.cells #[.slice none 0 0, .int .i64 0, .int .i64 0] 44))).cell? ⟨W.heap.size + 1, 2, none⟩ = some (.int .i64 0) := cell_of_row _ _ 2 _ _ _ rR2_.out
  go_wp2_with fail
  go_at_call 59
  refine (copiedArb_d _ (tn : Int) l _ xs (HSL.out.grow G3_.out) HL.out).mono ?_
  rintro e w1 ⟨d_, rfl, o, g⟩
  have sz_ := g.size
  try simp only [World.size_alloc] at sz_ o
  clear A_0_ A_1_ A_2_ R_0_ R_1_ R_2_
  have rA4_ := Lib.hid (show (w1).heap[W.heap.size]? = some (.cells #[.slice a1 n1 c1, .int .i64 (tn : Int), .int .i64 l] 44 (0, 0)) from row_held g rA1_.out)
  clear rA1_
  have rR5_ := Lib.hid (show (w1).heap[W.heap.size + 1]? = some (.cells #[.slice none 0 0, .int .i64 0, .int .i64 0] 44 (0, 0)) from row_held g rR2_.out)
  clear rR2_
  have G6_ := Lib.hid (show (W).grownBy (w1) none from gby_trans G3_.out g)
  clear g
  obtain ⟨qp, qn, qc, hv_⟩ := RdL.form (OwU.rd o)
  subst hv_
  unfold vArbiter
  have oC7_ := Lib.hid (show OwU (w1) ((W.heap.size + 1 + 1)) (w1.heap.size) [] [own shI (.slice qp qn qc) xs] from o)
  clear o
  have A_0_ : (w1).cell? ⟨W.heap.size, 0, none⟩ = some (.slice a1 n1 c1) := cell_of_row _ _ 0 _ _ _ rA4_.out
  have A_1_ : (w1).cell? ⟨W.heap.size, 1, none⟩ = some (.int .i64 (tn : Int)) := cell_of_row _ _ 1 _ _ _ rA4_.out
  have A_2_ : (w1).cell? ⟨W.heap.size, 2, none⟩ = some (.int .i64 l) := cell_of_row _ _ 2 _ _ _ rA4_.out
  have Af0_ : (w1).frozen? ⟨W.heap.size, 0, none⟩ = false := frozen_of_row _ _ 0 _ _ rA4_.out
  have Af1_ : (w1).frozen? ⟨W.heap.size, 1, none⟩ = false := frozen_of_row _ _ 1 _ _ rA4_.out
  have Af2_ : (w1).frozen? ⟨W.heap.size, 2, none⟩ = false := frozen_of_row _ _ 2 _ _ rA4_.out
  have R_0_ : (w1).cell? ⟨W.heap.size + 1, 0, none⟩ = some (.slice none 0 0) := cell_of_row _ _ 0 _ _ _ rR5_.out
  have R_1_ : (w1).cell? ⟨W.heap.size + 1, 1, none⟩ = some (.int .i64 0) := cell_of_row _ _ 1 _ _ _ rR5_.out
  have R_2_ : (w1).cell? ⟨W.heap.size + 1, 2, none⟩ = some (.int .i64 0) := cell_of_row _ _ 2 _ _ _ rR5_.out
  go_wp2_with fail
  go_at_call 60
  clear A_0_ A_1_ A_2_ Af0_ Af1_ Af2_ R_0_ R_1_ R_2_
  have rR8_ := Lib.hid (show ((((w1.setCell ⟨W.heap.size, 0, none⟩ (.slice qp qn qc)).setCell ⟨W.heap.size, 1, none⟩ (.int .i64 (tn : Int))).setCell ⟨W.heap.size, 2, none⟩ (.int .i64 l))).heap[W.heap.size + 1]? = some (.cells #[.slice none 0 0, .int .i64 0, .int .i64 0] 44 (0, 0)) from (set_far (set_far (set_far rR5_.out (by dsimp only; omega)) (by dsimp only; omega)) (by dsimp only; omega)))
  clear rR5_
  have rA9_ := Lib.hid (show ((((w1.setCell ⟨W.heap.size, 0, none⟩ (.slice qp qn qc)).setCell ⟨W.heap.size, 1, none⟩ (.int .i64 (tn : Int))).setCell ⟨W.heap.size, 2, none⟩ (.int .i64 l))).heap[W.heap.size]? = some (.cells #[.slice qp qn qc, .int .i64 (tn : Int), .int .i64 l] 44 (0, 0)) from (heap_setCell_same _ _ 2 _ _ _ (heap_setCell_same _ _ 1 _ _ _ (heap_setCell_same _ _ 0 _ _ _ rA4_.out))))
  clear rA4_
  have oC10_ := Lib.hid (show OwU ((((w1.setCell ⟨W.heap.size, 0, none⟩ (.slice qp qn qc)).setCell ⟨W.heap.size, 1, none⟩ (.int .i64 (tn : Int))).setCell ⟨W.heap.size, 2, none⟩ (.int .i64 l))) ((W.heap.size + 1 + 1)) (w1.heap.size) [] [own shI (.slice qp qn qc) xs] from (OwU.keep (chg_one _ _ _ _) (by omega) (OwU.keep (chg_one _ _ _ _) (by omega) (OwU.keep (chg_one _ _ _ _) (by omega) oC7_.out))))
  clear oC7_
  have G11_ := Lib.hid (show (W).grownBy ((((w1.setCell ⟨W.heap.size, 0, none⟩ (.slice qp qn qc)).setCell ⟨W.heap.size, 1, none⟩ (.int .i64 (tn : Int))).setCell ⟨W.heap.size, 2, none⟩ (.int .i64 l))) none from (gby_setnew (gby_setnew (gby_setnew G6_.out _ (by dsimp only; omega) _) _ (by dsimp only; omega) _) _ (by dsimp only; omega) _))
  have A_0_ : ((((w1.setCell ⟨W.heap.size, 0, none⟩ (.slice qp qn qc)).setCell ⟨W.heap.size, 1, none⟩ (.int .i64 (tn : Int))).setCell ⟨W.heap.size, 2, none⟩ (.int .i64 l))).cell? ⟨W.heap.size, 0, none⟩ = some (.slice qp qn qc) := cell_of_row _ _ 0 _ _ _ rA9_.out
  have A_1_ : ((((w1.setCell ⟨W.heap.size, 0, none⟩ (.slice qp qn qc)).setCell ⟨W.heap.size, 1, none⟩ (.int .i64 (tn : Int))).setCell ⟨W.heap.size, 2, none⟩ (.int .i64 l))).cell? ⟨W.heap.size, 1, none⟩ = some (.int .i64 (tn : Int)) := cell_of_row _ _ 1 _ _ _ rA9_.out
  have A_2_ : ((((w1.setCell ⟨W.heap.size, 0, none⟩ (.slice qp qn qc)).setCell ⟨W.heap.size, 1, none⟩ (.int .i64 (tn : Int))).setCell ⟨W.heap.size, 2, none⟩ (.int .i64 l))).cell? ⟨W.heap.size, 2, none⟩ = some (.int .i64 l) := cell_of_row _ _ 2 _ _ _ rA9_.out
  have R_0_ : ((((w1.setCell ⟨W.heap.size, 0, none⟩ (.slice qp qn qc)).setCell ⟨W.heap.size, 1, none⟩ (.int .i64 (tn : Int))).setCell ⟨W.heap.size, 2, none⟩ (.int .i64 l))).cell? ⟨W.heap.size + 1, 0, none⟩ = some (.slice none 0 0) := cell_of_row _ _ 0 _ _ _ rR8_.out
  have R_1_ : ((((w1.setCell ⟨W.heap.size, 0, none⟩ (.slice qp qn qc)).setCell ⟨W.heap.size, 1, none⟩ (.int .i64 (tn : Int))).setCell ⟨W.heap.size, 2, none⟩ (.int .i64 l))).cell? ⟨W.heap.size + 1, 1, none⟩ = some (.int .i64 0) := cell_of_row _ _ 1 _ _ _ rR8_.out
  have R_2_ : ((((w1.setCell ⟨W.heap.size, 0, none⟩ (.slice qp qn qc)).setCell ⟨W.heap.size, 1, none⟩ (.int .i64 (tn : Int))).setCell ⟨W.heap.size, 2, none⟩ (.int .i64 l))).cell? ⟨W.heap.size + 1, 2, none⟩ = some (.int .i64 0) := cell_of_row _ _ 2 _ _ _ rR8_.out
  refine (canGrant_yes _ (tn : Int) l _ _ xs ask (OwU.rd oC10_.out) (HSU.out.grow G11_.out) HL.out HLU.out HOK.out HQ.out k HN.out).mono ?_
  rintro e w2 ⟨rfl, g⟩
  have szl_ := g.size
  try simp only [World.size_setCell, World.size_alloc] at szl_
  clear A_0_ A_1_ A_2_ R_0_ R_1_ R_2_
  have rA12_ := Lib.hid (show (w2).heap[W.heap.size]? = some (.cells #[.slice qp qn qc, .int .i64 (tn : Int), .int .i64 l] 44 (0, 0)) from row_held g rA9_.out)
  clear rA9_
  have rR13_ := Lib.hid (show (w2).heap[W.heap.size + 1]? = some (.cells #[.slice none 0 0, .int .i64 0, .int .i64 0] 44 (0, 0)) from row_held g rR8_.out)
  clear rR8_
  have oC14_ := Lib.hid (show OwU (w2) ((W.heap.size + 1 + 1)) (w1.heap.size) [] [own shI (.slice qp qn qc) xs] from OwU.grow oC10_.out g)
  clear oC10_
  have G15_ := Lib.hid (show (W).grownBy (w2) none from gby_trans G11_.out g)
  clear g
  have A_0_ : (w2).cell? ⟨W.heap.size, 0, none⟩ = some (.slice qp qn qc) := cell_of_row _ _ 0 _ _ _ rA12_.out
  have A_1_ : (w2).cell? ⟨W.heap.size, 1, none⟩ = some (.int .i64 (tn : Int)) := cell_of_row _ _ 1 _ _ _ rA12_.out
  have A_2_ : (w2).cell? ⟨W.heap.size, 2, none⟩ = some (.int .i64 l) := cell_of_row _ _ 2 _ _ _ rA12_.out
  have R_0_ : (w2).cell? ⟨W.heap.size + 1, 0, none⟩ = some (.slice none 0 0) := cell_of_row _ _ 0 _ _ _ rR13_.out
  have R_1_ : (w2).cell? ⟨W.heap.size + 1, 1, none⟩ = some (.int .i64 0) := cell_of_row _ _ 1 _ _ _ rR13_.out
  have R_2_ : (w2).cell? ⟨W.heap.size + 1, 2, none⟩ = some (.int .i64 0) := cell_of_row _ _ 2 _ _ _ rR13_.out
  clear A_0_ A_1_ A_2_ R_0_ R_1_ R_2_
  obtain ⟨la_, lb_, hla_, hlb_, _, how_, _⟩ := oC14_.out
  obtain ⟨a9_, cp9_, e9_, _, _, hpl_, _⟩ := how_
  obtain ⟨q3, r3, k3, hv3, hc3⟩ := rdI1_at (OwU.rd oC14_.out) (by have := h14; omega)
  injection hv3 with f1 f2 f3
  injection e9_ with f4 f5 f6
  have hqb := hpl_ ⟨q3, r3, none⟩ (f4.symm.trans f1)
  dsimp only at hqb
  have hb2 : b2 < W.heap.size := World.block_lt_of_cell? _ _ (HCA.out 0 (by omega))
  have hqn : qn = n := f2.trans HEN.out.symm
  rw [← HEN.out] at hc3
  have HCW := Lib.hid hc3
  clear f2 f3 f4 f5 f6 hpl_ hlb_ hc3
  subst f1 hqn
  have A_0_ : (w2).cell? ⟨W.heap.size, 0, none⟩ = some (.slice (some ⟨q3, r3, none⟩) qn qc) := cell_of_row _ _ 0 _ _ _ rA12_.out
  have A_1_ : (w2).cell? ⟨W.heap.size, 1, none⟩ = some (.int .i64 (tn : Int)) := cell_of_row _ _ 1 _ _ _ rA12_.out
  have A_2_ : (w2).cell? ⟨W.heap.size, 2, none⟩ = some (.int .i64 l) := cell_of_row _ _ 2 _ _ _ rA12_.out
  have R_0_ : (w2).cell? ⟨W.heap.size + 1, 0, none⟩ = some (.slice none 0 0) := cell_of_row _ _ 0 _ _ _ rR13_.out
  have R_1_ : (w2).cell? ⟨W.heap.size + 1, 1, none⟩ = some (.int .i64 0) := cell_of_row _ _ 1 _ _ _ rR13_.out
  have R_2_ : (w2).cell? ⟨W.heap.size + 1, 2, none⟩ = some (.int .i64 0) := cell_of_row _ _ 2 _ _ _ rR13_.out
  go_wp2_with fail
  go_at_call 61
  refine (grant_direct _ W.heap.size q3 r3 qc b2 o2 k2 qn tn l xs ask rA12_.out HCW.out (fun q hq => (G15_.out).cell (HCA.out q hq) (by simp)) (by omega) (by omega) hn1 hn4 htn hl0 hl9 HD.out hlp).mono ?_
  rintro e w3 ⟨rfl, hrow, gc⟩
  have szv_ := gc.size
  have NR_ := Lib.hid (show w3.heap[W.heap.size + 1]? = some (.cells #[.slice none 0 0, .int .i64 0, .int .i64 0] 44 (0, 0)) from Chg.keep gc rR13_.out (by omega))
  have NA_ := Lib.hid hrow
  have NO_ := Lib.hid (OwU.keep gc (by omega) oC14_.out)
  have NG_ := Lib.hid (gby_chg G15_.out gc (by omega))
  clear A_0_ A_1_ A_2_ R_0_ R_1_ R_2_
  have G16_ := Lib.hid (show (W).grownBy (w3) none from NG_.out)
  have rA17_ := Lib.hid (show (w3).heap[W.heap.size]? = some (.cells #[.slice (some ⟨q3, r3, none⟩) qn qc, .int .i64 (tn : Int), .int .i64 (l - 1)] 44 (0, 0)) from NA_.out)
  have rR18_ := Lib.hid (show (w3).heap[W.heap.size + 1]? = some (.cells #[.slice none 0 0, .int .i64 0, .int .i64 0] 44 (0, 0)) from NR_.out)
  clear hrow gc
  have A_0_ : (w3).cell? ⟨W.heap.size, 0, none⟩ = some (.slice (some ⟨q3, r3, none⟩) qn qc) := cell_of_row _ _ 0 _ _ _ rA17_.out
  have A_1_ : (w3).cell? ⟨W.heap.size, 1, none⟩ = some (.int .i64 (tn : Int)) := cell_of_row _ _ 1 _ _ _ rA17_.out
  have A_2_ : (w3).cell? ⟨W.heap.size, 2, none⟩ = some (.int .i64 (l - 1)) := cell_of_row _ _ 2 _ _ _ rA17_.out
  have R_0_ : (w3).cell? ⟨W.heap.size + 1, 0, none⟩ = some (.slice none 0 0) := cell_of_row _ _ 0 _ _ _ rR18_.out
  have R_1_ : (w3).cell? ⟨W.heap.size + 1, 1, none⟩ = some (.int .i64 0) := cell_of_row _ _ 1 _ _ _ rR18_.out
  have R_2_ : (w3).cell? ⟨W.heap.size + 1, 2, none⟩ = some (.int .i64 0) := cell_of_row _ _ 2 _ _ _ rR18_.out
  clear A_0_ A_1_ A_2_ R_0_ R_1_ R_2_
  have A_0_ : (w3).cell? ⟨W.heap.size, 0, none⟩ = some (.slice (some ⟨q3, r3, none⟩) qn qc) := cell_of_row _ _ 0 _ _ _ rA17_.out
  have A_1_ : (w3).cell? ⟨W.heap.size, 1, none⟩ = some (.int .i64 (tn : Int)) := cell_of_row _ _ 1 _ _ _ rA17_.out
  have A_2_ : (w3).cell? ⟨W.heap.size, 2, none⟩ = some (.int .i64 (l - 1)) := cell_of_row _ _ 2 _ _ _ rA17_.out
  have R_0_ : (w3).cell? ⟨W.heap.size + 1, 0, none⟩ = some (.slice none 0 0) := cell_of_row _ _ 0 _ _ _ rR18_.out
  have R_1_ : (w3).cell? ⟨W.heap.size + 1, 1, none⟩ = some (.int .i64 0) := cell_of_row _ _ 1 _ _ _ rR18_.out
  have R_2_ : (w3).cell? ⟨W.heap.size + 1, 2, none⟩ = some (.int .i64 0) := cell_of_row _ _ 2 _ _ _ rR18_.out
  have Rf0_ : (w3).frozen? ⟨W.heap.size + 1, 0, none⟩ = false := frozen_of_row _ _ 0 _ _ rR18_.out
  have Rf1_ : (w3).frozen? ⟨W.heap.size + 1, 1, none⟩ = false := frozen_of_row _ _ 1 _ _ rR18_.out
  have Rf2_ : (w3).frozen? ⟨W.heap.size + 1, 2, none⟩ = false := frozen_of_row _ _ 2 _ _ rR18_.out
  have zr_ := Lib.hid (show ((((w3.setCell ⟨W.heap.size + 1, 0, none⟩ (.slice (some ⟨q3, r3, none⟩) qn qc)).setCell ⟨W.heap.size + 1, 1, none⟩ (.int .i64 (tn : Int))).setCell ⟨W.heap.size + 1, 2, none⟩ (.int .i64 (l - 1)))).heap[W.heap.size + 1]? = some (.cells #[.slice (some ⟨q3, r3, none⟩) qn qc, .int .i64 (tn : Int), .int .i64 (l - 1)] 44 (0, 0)) from (heap_setCell_same _ _ 2 _ _ _ (heap_setCell_same _ _ 1 _ _ _ (heap_setCell_same _ _ 0 _ _ _ rR18_.out))))
  have z0_ : ((((w3.setCell ⟨W.heap.size + 1, 0, none⟩ (.slice (some ⟨q3, r3, none⟩) qn qc)).setCell ⟨W.heap.size + 1, 1, none⟩ (.int .i64 (tn : Int))).setCell ⟨W.heap.size + 1, 2, none⟩ (.int .i64 (l - 1)))).cell? ⟨W.heap.size + 1, 0, none⟩ = some (.slice (some ⟨q3, r3, none⟩) qn qc) := cell_of_row _ _ 0 _ _ _ zr_.out
  have z1_ : ((((w3.setCell ⟨W.heap.size + 1, 0, none⟩ (.slice (some ⟨q3, r3, none⟩) qn qc)).setCell ⟨W.heap.size + 1, 1, none⟩ (.int .i64 (tn : Int))).setCell ⟨W.heap.size + 1, 2, none⟩ (.int .i64 (l - 1)))).cell? ⟨W.heap.size + 1, 1, none⟩ = some (.int .i64 (tn : Int)) := cell_of_row _ _ 1 _ _ _ zr_.out
  have z2_ : ((((w3.setCell ⟨W.heap.size + 1, 0, none⟩ (.slice (some ⟨q3, r3, none⟩) qn qc)).setCell ⟨W.heap.size + 1, 1, none⟩ (.int .i64 (tn : Int))).setCell ⟨W.heap.size + 1, 2, none⟩ (.int .i64 (l - 1)))).cell? ⟨W.heap.size + 1, 2, none⟩ = some (.int .i64 (l - 1)) := cell_of_row _ _ 2 _ _ _ zr_.out
  go_wp2
  refine bodyPost_ret (v := .tuple #[.agg #[.slice (some ⟨q3, r3, none⟩) qn qc, .int .i64 (tn : Int), .int .i64 (l - 1)], .int .i64 (tn : Int)]) (by simp [results, go_sem, z0_, z1_, z2_]) rfl ⟨_, rfl, ?_, ?_⟩
  · exact OwU.wide (lo := W.heap.size + 1 + 1) (by omega) (by simp only [World.size_setCell]; omega) (OwU.keep (chg_one _ _ _ _) (.inr (by omega)) (OwU.keep (chg_one _ _ _ _) (.inr (by omega)) (OwU.keep (chg_one _ _ _ _) (.inr (by omega)) NO_.out)))
  · exact (gby_setnew (gby_setnew (gby_setnew G16_.out _ (by dsimp only; omega) _) _ (by dsimp only; omega) _) _ (by dsimp only; omega) _)

set_option maxRecDepth 8000 in
set_option maxHeartbeats 2000000 in
theorem implGrant_found (W : World) (t l : Int) (v u : Value) (xs : List Int) (ask : List Bool) (H : RdL shI W v xs) (Hu : RdL shB W u ask) (hl : szL shI xs ≤ 1048576) (hlu : szL shB ask ≤ 1048576) (hok : ArbOk xs t l) (hq : ask.length = xs.length) (hd : ak ask t.toNat = false ∨ ¬ 0 < l) (k pr : Nat) (yr : Int) (hN : NextAt ask t.toNat xs.length k) (hP : (t.toNat + k) % xs.length = pr ∧ xs.getD ((t.toNat + k) % xs.length) 0 = yr) (hy1 : 1 ≤ yr) (hy9 : yr ≤ 9) : Calls Try.prog 29 #[vArbiter v t l, u] W (ResIGrant xs (pr : Int) (yr - 1) (pr : Int) W) := by
  have h14 : 1 ≤ xs.length ∧ xs.length ≤ 4 := ⟨hok.2.1, hok.2.2.1⟩
  have HOK := Lib.hid hok
  have HQ := Lib.hid hq
  obtain ⟨tn, htn⟩ : ∃ n : Nat, t = (n : Int) := ⟨t.toNat, by have := hok.2.2.2.1; omega⟩
  subst htn
  have htl : tn < xs.length := by have := hok.2.2.2.2.1; omega
  have hl0 := hok.2.2.2.2.2.1
  have hl9 : l ≤ 9 := by
    have h1 := hok.2.2.2.2.2.2
    rw [Int.toNat_natCast] at h1
    have h2 := (hok.1 (xs.getD tn 0) (by rw [List.getD_eq_getElem?_getD, List.getElem?_eq_getElem htl]; exact List.getElem_mem _)).2
    omega
  obtain ⟨b2, o2, k2, hv2, hc2⟩ := rdB_at Hu (by omega)
  subst hv2
  have HSL := Lib.hid H
  have HSU := Lib.hid Hu
  have HL := Lib.hid hl
  have HLU := Lib.hid hlu
  obtain ⟨a1, n1, c1, rfl⟩ := RdL.form H
  obtain ⟨n, hn⟩ : ∃ n, n = xs.length := ⟨_, rfl⟩
  have HEN := Lib.hid hn
  rw [hq, ← hn] at hc2 HSU ⊢
  have HCA := Lib.hid hc2
  have hn1 : 1 ≤ n := by omega
  have hn4 : n ≤ 4 := by omega
  have htn : tn < n := by omega
  have HN := Lib.hid hN
  have HN2 := Lib.hid (show NextAt ask tn n k by rw [hn]; simpa using hN)
  have HP := Lib.hid (show (tn + k) % n = pr ∧ xs.getD pr 0 = yr from by
    obtain ⟨p1, p2⟩ := hP
    rw [Int.toNat_natCast] at p1 p2
    rw [p1] at p2
    rw [hn]
    exact ⟨p1, p2⟩)
  have HD := Lib.hid (show ak ask tn = false ∨ l = 0 from by
    rw [Int.toNat_natCast] at hd
    rcases hd with h | h
    · exact .inl h
    · exact .inr (by omega))
  clear H Hu hl hlu hn hok hq hN hd hc2 hP
  unfold vArbiter
  go_enter Try.func29, Try.ntmps29
  have rA1_ := Lib.hid (show (((W.alloc (.cells #[.slice a1 n1 c1, .int .i64 (tn : Int), .int .i64 l] 44)).alloc (.cells #[.slice none 0 0, .int .i64 0, .int .i64 0] 44))).heap[W.heap.size]? = some (.cells #[.slice a1 n1 c1, .int .i64 (tn : Int), .int .i64 l] 44 (0, 0)) from by rw [heap_alloc_old _ _ (by simp only [World.size_alloc]; omega)]; exact heap_alloc_new _ _)
  have rR2_ := Lib.hid (show (((W.alloc (.cells #[.slice a1 n1 c1, .int .i64 (tn : Int), .int .i64 l] 44)).alloc (.cells #[.slice none 0 0, .int .i64 0, .int .i64 0] 44))).heap[W.heap.size + 1]? = some (.cells #[.slice none 0 0, .int .i64 0, .int .i64 0] 44 (0, 0)) from by exact heap_pair _ _ _)
  have G3_ := Lib.hid (show (W).grownBy (((W.alloc (.cells #[.slice a1 n1 c1, .int .i64 (tn : Int), .int .i64 l] 44)).alloc (.cells #[.slice none 0 0, .int .i64 0, .int .i64 0] 44))) none from (gby_alloc (gby_alloc (gby_refl _ _) _) _))
  have A_0_ : (((W.alloc (.cells #[.slice a1 n1 c1, .int .i64 (tn : Int), .int .i64 l] 44)).alloc (.cells #[.slice none 0 0, .int .i64 0, .int .i64 0] 44))).cell? ⟨W.heap.size, 0, none⟩ = some (.slice a1 n1 c1) := cell_of_row _ _ 0 _ _ _ rA1_.out
  have A_1_ : (((W.alloc (.cells #[.slice a1 n1 c1, .int .i64 (tn : Int), .int .i64 l] 44)).alloc (.cells #[.slice none 0 0, .int .i64 0, .int .i64 0] 44))).cell? ⟨W.heap.size, 1, none⟩ = some (.int .i64 (tn : Int)) := cell_of_row _ _ 1 _ _ _ rA1_.out
  have A_2_ : (((W.alloc (.cells #[.slice a1 n1 c1, .int .i64 (tn : Int), .int .i64 l] 44)).alloc (.cells #[.slice none 0 0, .int .i64 0, .int .i64 0] 44))).cell? ⟨W.heap.size, 2, none⟩ = some (.int .i64 l) := cell_of_row _ _ 2 _ _ _ rA1_.out
  have R_0_ : (((W.alloc (.cells #[.slice a1 n1 c1, .int .i64 (tn : Int), .int .i64 l] 44)).alloc (.cells #[.slice none 0 0, .int .i64 0, .int .i64 0] 44))).cell? ⟨W.heap.size + 1, 0, none⟩ = some (.slice none 0 0) := cell_of_row _ _ 0 _ _ _ rR2_.out
  have R_1_ : (((W.alloc (.cells #[.slice a1 n1 c1, .int .i64 (tn : Int), .int .i64 l] 44)).alloc (.cells #[.slice none 0 0, .int .i64 0, .int .i64 0] 44))).cell? ⟨W.heap.size + 1, 1, none⟩ = some (.int .i64 0) := cell_of_row _ _ 1 _ _ _ rR2_.out
  have R_2_ : (((W.alloc (.cells #[.slice a1 n1 c1, .int .i64 (tn : Int), .int .i64 l] 44)).alloc (.cells #[.slice none 0 0, .int .i64 0, .int .i64 0] 44))).cell? ⟨W.heap.size + 1, 2, none⟩ = some (.int .i64 0) := cell_of_row _ _ 2 _ _ _ rR2_.out
  go_wp2_with fail
  go_at_call 59
  refine (copiedArb_d _ (tn : Int) l _ xs (HSL.out.grow G3_.out) HL.out).mono ?_
  rintro e w1 ⟨d_, rfl, o, g⟩
  have sz_ := g.size
  try simp only [World.size_alloc] at sz_ o
  clear A_0_ A_1_ A_2_ R_0_ R_1_ R_2_
  have rA4_ := Lib.hid (show (w1).heap[W.heap.size]? = some (.cells #[.slice a1 n1 c1, .int .i64 (tn : Int), .int .i64 l] 44 (0, 0)) from row_held g rA1_.out)
  clear rA1_
  have rR5_ := Lib.hid (show (w1).heap[W.heap.size + 1]? = some (.cells #[.slice none 0 0, .int .i64 0, .int .i64 0] 44 (0, 0)) from row_held g rR2_.out)
  clear rR2_
  have G6_ := Lib.hid (show (W).grownBy (w1) none from gby_trans G3_.out g)
  clear g
  obtain ⟨qp, qn, qc, hv_⟩ := RdL.form (OwU.rd o)
  subst hv_
  unfold vArbiter
  have oC7_ := Lib.hid (show OwU (w1) ((W.heap.size + 1 + 1)) (w1.heap.size) [] [own shI (.slice qp qn qc) xs] from o)
  clear o
  have A_0_ : (w1).cell? ⟨W.heap.size, 0, none⟩ = some (.slice a1 n1 c1) := cell_of_row _ _ 0 _ _ _ rA4_.out
  have A_1_ : (w1).cell? ⟨W.heap.size, 1, none⟩ = some (.int .i64 (tn : Int)) := cell_of_row _ _ 1 _ _ _ rA4_.out
  have A_2_ : (w1).cell? ⟨W.heap.size, 2, none⟩ = some (.int .i64 l) := cell_of_row _ _ 2 _ _ _ rA4_.out
  have Af0_ : (w1).frozen? ⟨W.heap.size, 0, none⟩ = false := frozen_of_row _ _ 0 _ _ rA4_.out
  have Af1_ : (w1).frozen? ⟨W.heap.size, 1, none⟩ = false := frozen_of_row _ _ 1 _ _ rA4_.out
  have Af2_ : (w1).frozen? ⟨W.heap.size, 2, none⟩ = false := frozen_of_row _ _ 2 _ _ rA4_.out
  have R_0_ : (w1).cell? ⟨W.heap.size + 1, 0, none⟩ = some (.slice none 0 0) := cell_of_row _ _ 0 _ _ _ rR5_.out
  have R_1_ : (w1).cell? ⟨W.heap.size + 1, 1, none⟩ = some (.int .i64 0) := cell_of_row _ _ 1 _ _ _ rR5_.out
  have R_2_ : (w1).cell? ⟨W.heap.size + 1, 2, none⟩ = some (.int .i64 0) := cell_of_row _ _ 2 _ _ _ rR5_.out
  go_wp2_with fail
  go_at_call 60
  clear A_0_ A_1_ A_2_ Af0_ Af1_ Af2_ R_0_ R_1_ R_2_
  have rR8_ := Lib.hid (show ((((w1.setCell ⟨W.heap.size, 0, none⟩ (.slice qp qn qc)).setCell ⟨W.heap.size, 1, none⟩ (.int .i64 (tn : Int))).setCell ⟨W.heap.size, 2, none⟩ (.int .i64 l))).heap[W.heap.size + 1]? = some (.cells #[.slice none 0 0, .int .i64 0, .int .i64 0] 44 (0, 0)) from (set_far (set_far (set_far rR5_.out (by dsimp only; omega)) (by dsimp only; omega)) (by dsimp only; omega)))
  clear rR5_
  have rA9_ := Lib.hid (show ((((w1.setCell ⟨W.heap.size, 0, none⟩ (.slice qp qn qc)).setCell ⟨W.heap.size, 1, none⟩ (.int .i64 (tn : Int))).setCell ⟨W.heap.size, 2, none⟩ (.int .i64 l))).heap[W.heap.size]? = some (.cells #[.slice qp qn qc, .int .i64 (tn : Int), .int .i64 l] 44 (0, 0)) from (heap_setCell_same _ _ 2 _ _ _ (heap_setCell_same _ _ 1 _ _ _ (heap_setCell_same _ _ 0 _ _ _ rA4_.out))))
  clear rA4_
  have oC10_ := Lib.hid (show OwU ((((w1.setCell ⟨W.heap.size, 0, none⟩ (.slice qp qn qc)).setCell ⟨W.heap.size, 1, none⟩ (.int .i64 (tn : Int))).setCell ⟨W.heap.size, 2, none⟩ (.int .i64 l))) ((W.heap.size + 1 + 1)) (w1.heap.size) [] [own shI (.slice qp qn qc) xs] from (OwU.keep (chg_one _ _ _ _) (by omega) (OwU.keep (chg_one _ _ _ _) (by omega) (OwU.keep (chg_one _ _ _ _) (by omega) oC7_.out))))
  clear oC7_
  have G11_ := Lib.hid (show (W).grownBy ((((w1.setCell ⟨W.heap.size, 0, none⟩ (.slice qp qn qc)).setCell ⟨W.heap.size, 1, none⟩ (.int .i64 (tn : Int))).setCell ⟨W.heap.size, 2, none⟩ (.int .i64 l))) none from (gby_setnew (gby_setnew (gby_setnew G6_.out _ (by dsimp only; omega) _) _ (by dsimp only; omega) _) _ (by dsimp only; omega) _))
  have A_0_ : ((((w1.setCell ⟨W.heap.size, 0, none⟩ (.slice qp qn qc)).setCell ⟨W.heap.size, 1, none⟩ (.int .i64 (tn : Int))).setCell ⟨W.heap.size, 2, none⟩ (.int .i64 l))).cell? ⟨W.heap.size, 0, none⟩ = some (.slice qp qn qc) := cell_of_row _ _ 0 _ _ _ rA9_.out
  have A_1_ : ((((w1.setCell ⟨W.heap.size, 0, none⟩ (.slice qp qn qc)).setCell ⟨W.heap.size, 1, none⟩ (.int .i64 (tn : Int))).setCell ⟨W.heap.size, 2, none⟩ (.int .i64 l))).cell? ⟨W.heap.size, 1, none⟩ = some (.int .i64 (tn : Int)) := cell_of_row _ _ 1 _ _ _ rA9_.out
  have A_2_ : ((((w1.setCell ⟨W.heap.size, 0, none⟩ (.slice qp qn qc)).setCell ⟨W.heap.size, 1, none⟩ (.int .i64 (tn : Int))).setCell ⟨W.heap.size, 2, none⟩ (.int .i64 l))).cell? ⟨W.heap.size, 2, none⟩ = some (.int .i64 l) := cell_of_row _ _ 2 _ _ _ rA9_.out
  have R_0_ : ((((w1.setCell ⟨W.heap.size, 0, none⟩ (.slice qp qn qc)).setCell ⟨W.heap.size, 1, none⟩ (.int .i64 (tn : Int))).setCell ⟨W.heap.size, 2, none⟩ (.int .i64 l))).cell? ⟨W.heap.size + 1, 0, none⟩ = some (.slice none 0 0) := cell_of_row _ _ 0 _ _ _ rR8_.out
  have R_1_ : ((((w1.setCell ⟨W.heap.size, 0, none⟩ (.slice qp qn qc)).setCell ⟨W.heap.size, 1, none⟩ (.int .i64 (tn : Int))).setCell ⟨W.heap.size, 2, none⟩ (.int .i64 l))).cell? ⟨W.heap.size + 1, 1, none⟩ = some (.int .i64 0) := cell_of_row _ _ 1 _ _ _ rR8_.out
  have R_2_ : ((((w1.setCell ⟨W.heap.size, 0, none⟩ (.slice qp qn qc)).setCell ⟨W.heap.size, 1, none⟩ (.int .i64 (tn : Int))).setCell ⟨W.heap.size, 2, none⟩ (.int .i64 l))).cell? ⟨W.heap.size + 1, 2, none⟩ = some (.int .i64 0) := cell_of_row _ _ 2 _ _ _ rR8_.out
  refine (canGrant_yes _ (tn : Int) l _ _ xs ask (OwU.rd oC10_.out) (HSU.out.grow G11_.out) HL.out HLU.out HOK.out HQ.out k HN.out).mono ?_
  rintro e w2 ⟨rfl, g⟩
  have szl_ := g.size
  try simp only [World.size_setCell, World.size_alloc] at szl_
  clear A_0_ A_1_ A_2_ R_0_ R_1_ R_2_
  have rA12_ := Lib.hid (show (w2).heap[W.heap.size]? = some (.cells #[.slice qp qn qc, .int .i64 (tn : Int), .int .i64 l] 44 (0, 0)) from row_held g rA9_.out)
  clear rA9_
  have rR13_ := Lib.hid (show (w2).heap[W.heap.size + 1]? = some (.cells #[.slice none 0 0, .int .i64 0, .int .i64 0] 44 (0, 0)) from row_held g rR8_.out)
  clear rR8_
  have oC14_ := Lib.hid (show OwU (w2) ((W.heap.size + 1 + 1)) (w1.heap.size) [] [own shI (.slice qp qn qc) xs] from OwU.grow oC10_.out g)
  clear oC10_
  have G15_ := Lib.hid (show (W).grownBy (w2) none from gby_trans G11_.out g)
  clear g
  have A_0_ : (w2).cell? ⟨W.heap.size, 0, none⟩ = some (.slice qp qn qc) := cell_of_row _ _ 0 _ _ _ rA12_.out
  have A_1_ : (w2).cell? ⟨W.heap.size, 1, none⟩ = some (.int .i64 (tn : Int)) := cell_of_row _ _ 1 _ _ _ rA12_.out
  have A_2_ : (w2).cell? ⟨W.heap.size, 2, none⟩ = some (.int .i64 l) := cell_of_row _ _ 2 _ _ _ rA12_.out
  have R_0_ : (w2).cell? ⟨W.heap.size + 1, 0, none⟩ = some (.slice none 0 0) := cell_of_row _ _ 0 _ _ _ rR13_.out
  have R_1_ : (w2).cell? ⟨W.heap.size + 1, 1, none⟩ = some (.int .i64 0) := cell_of_row _ _ 1 _ _ _ rR13_.out
  have R_2_ : (w2).cell? ⟨W.heap.size + 1, 2, none⟩ = some (.int .i64 0) := cell_of_row _ _ 2 _ _ _ rR13_.out
  clear A_0_ A_1_ A_2_ R_0_ R_1_ R_2_
  obtain ⟨la_, lb_, hla_, hlb_, _, how_, _⟩ := oC14_.out
  obtain ⟨a9_, cp9_, e9_, _, _, hpl_, _⟩ := how_
  obtain ⟨q3, r3, k3, hv3, hc3⟩ := rdI1_at (OwU.rd oC14_.out) (by have := h14; omega)
  injection hv3 with f1 f2 f3
  injection e9_ with f4 f5 f6
  have hqb := hpl_ ⟨q3, r3, none⟩ (f4.symm.trans f1)
  dsimp only at hqb
  have hb2 : b2 < W.heap.size := World.block_lt_of_cell? _ _ (HCA.out 0 (by omega))
  have hqn : qn = n := f2.trans HEN.out.symm
  rw [← HEN.out] at hc3
  have HCW := Lib.hid hc3
  clear f2 f3 f4 f5 f6 hpl_ hlb_ hc3
  subst f1 hqn
  have A_0_ : (w2).cell? ⟨W.heap.size, 0, none⟩ = some (.slice (some ⟨q3, r3, none⟩) qn qc) := cell_of_row _ _ 0 _ _ _ rA12_.out
  have A_1_ : (w2).cell? ⟨W.heap.size, 1, none⟩ = some (.int .i64 (tn : Int)) := cell_of_row _ _ 1 _ _ _ rA12_.out
  have A_2_ : (w2).cell? ⟨W.heap.size, 2, none⟩ = some (.int .i64 l) := cell_of_row _ _ 2 _ _ _ rA12_.out
  have R_0_ : (w2).cell? ⟨W.heap.size + 1, 0, none⟩ = some (.slice none 0 0) := cell_of_row _ _ 0 _ _ _ rR13_.out
  have R_1_ : (w2).cell? ⟨W.heap.size + 1, 1, none⟩ = some (.int .i64 0) := cell_of_row _ _ 1 _ _ _ rR13_.out
  have R_2_ : (w2).cell? ⟨W.heap.size + 1, 2, none⟩ = some (.int .i64 0) := cell_of_row _ _ 2 _ _ _ rR13_.out
  go_wp2_with fail
  go_at_call 61
  refine (grant_found _ W.heap.size q3 r3 qc b2 o2 k2 qn tn l xs ask rA12_.out HCW.out (fun q hq => (G15_.out).cell (HCA.out q hq) (by simp)) (by omega) (by omega) hn1 hn4 htn hl0 hl9 HD.out k pr yr HN2.out HP.out hy1 hy9).mono ?_
  rintro e w3 ⟨rfl, hrow, gc⟩
  have szv_ := gc.size
  have NR_ := Lib.hid (show w3.heap[W.heap.size + 1]? = some (.cells #[.slice none 0 0, .int .i64 0, .int .i64 0] 44 (0, 0)) from Chg.keep gc rR13_.out (by omega))
  have NA_ := Lib.hid hrow
  have NO_ := Lib.hid (OwU.keep gc (by omega) oC14_.out)
  have NG_ := Lib.hid (gby_chg G15_.out gc (by omega))
  clear A_0_ A_1_ A_2_ R_0_ R_1_ R_2_
  have G16_ := Lib.hid (show (W).grownBy (w3) none from NG_.out)
  have rA17_ := Lib.hid (show (w3).heap[W.heap.size]? = some (.cells #[.slice (some ⟨q3, r3, none⟩) qn qc, .int .i64 (pr : Int), .int .i64 (yr - 1)] 44 (0, 0)) from NA_.out)
  have rR18_ := Lib.hid (show (w3).heap[W.heap.size + 1]? = some (.cells #[.slice none 0 0, .int .i64 0, .int .i64 0] 44 (0, 0)) from NR_.out)
  clear hrow gc
  have A_0_ : (w3).cell? ⟨W.heap.size, 0, none⟩ = some (.slice (some ⟨q3, r3, none⟩) qn qc) := cell_of_row _ _ 0 _ _ _ rA17_.out
  have A_1_ : (w3).cell? ⟨W.heap.size, 1, none⟩ = some (.int .i64 (pr : Int)) := cell_of_row _ _ 1 _ _ _ rA17_.out
  have A_2_ : (w3).cell? ⟨W.heap.size, 2, none⟩ = some (.int .i64 (yr - 1)) := cell_of_row _ _ 2 _ _ _ rA17_.out
  have R_0_ : (w3).cell? ⟨W.heap.size + 1, 0, none⟩ = some (.slice none 0 0) := cell_of_row _ _ 0 _ _ _ rR18_.out
  have R_1_ : (w3).cell? ⟨W.heap.size + 1, 1, none⟩ = some (.int .i64 0) := cell_of_row _ _ 1 _ _ _ rR18_.out
  have R_2_ : (w3).cell? ⟨W.heap.size + 1, 2, none⟩ = some (.int .i64 0) := cell_of_row _ _ 2 _ _ _ rR18_.out
  clear A_0_ A_1_ A_2_ R_0_ R_1_ R_2_
  have A_0_ : (w3).cell? ⟨W.heap.size, 0, none⟩ = some (.slice (some ⟨q3, r3, none⟩) qn qc) := cell_of_row _ _ 0 _ _ _ rA17_.out
  have A_1_ : (w3).cell? ⟨W.heap.size, 1, none⟩ = some (.int .i64 (pr : Int)) := cell_of_row _ _ 1 _ _ _ rA17_.out
  have A_2_ : (w3).cell? ⟨W.heap.size, 2, none⟩ = some (.int .i64 (yr - 1)) := cell_of_row _ _ 2 _ _ _ rA17_.out
  have R_0_ : (w3).cell? ⟨W.heap.size + 1, 0, none⟩ = some (.slice none 0 0) := cell_of_row _ _ 0 _ _ _ rR18_.out
  have R_1_ : (w3).cell? ⟨W.heap.size + 1, 1, none⟩ = some (.int .i64 0) := cell_of_row _ _ 1 _ _ _ rR18_.out
  have R_2_ : (w3).cell? ⟨W.heap.size + 1, 2, none⟩ = some (.int .i64 0) := cell_of_row _ _ 2 _ _ _ rR18_.out
  have Rf0_ : (w3).frozen? ⟨W.heap.size + 1, 0, none⟩ = false := frozen_of_row _ _ 0 _ _ rR18_.out
  have Rf1_ : (w3).frozen? ⟨W.heap.size + 1, 1, none⟩ = false := frozen_of_row _ _ 1 _ _ rR18_.out
  have Rf2_ : (w3).frozen? ⟨W.heap.size + 1, 2, none⟩ = false := frozen_of_row _ _ 2 _ _ rR18_.out
  have zr_ := Lib.hid (show ((((w3.setCell ⟨W.heap.size + 1, 0, none⟩ (.slice (some ⟨q3, r3, none⟩) qn qc)).setCell ⟨W.heap.size + 1, 1, none⟩ (.int .i64 (pr : Int))).setCell ⟨W.heap.size + 1, 2, none⟩ (.int .i64 (yr - 1)))).heap[W.heap.size + 1]? = some (.cells #[.slice (some ⟨q3, r3, none⟩) qn qc, .int .i64 (pr : Int), .int .i64 (yr - 1)] 44 (0, 0)) from (heap_setCell_same _ _ 2 _ _ _ (heap_setCell_same _ _ 1 _ _ _ (heap_setCell_same _ _ 0 _ _ _ rR18_.out))))
  have z0_ : ((((w3.setCell ⟨W.heap.size + 1, 0, none⟩ (.slice (some ⟨q3, r3, none⟩) qn qc)).setCell ⟨W.heap.size + 1, 1, none⟩ (.int .i64 (pr : Int))).setCell ⟨W.heap.size + 1, 2, none⟩ (.int .i64 (yr - 1)))).cell? ⟨W.heap.size + 1, 0, none⟩ = some (.slice (some ⟨q3, r3, none⟩) qn qc) := cell_of_row _ _ 0 _ _ _ zr_.out
  have z1_ : ((((w3.setCell ⟨W.heap.size + 1, 0, none⟩ (.slice (some ⟨q3, r3, none⟩) qn qc)).setCell ⟨W.heap.size + 1, 1, none⟩ (.int .i64 (pr : Int))).setCell ⟨W.heap.size + 1, 2, none⟩ (.int .i64 (yr - 1)))).cell? ⟨W.heap.size + 1, 1, none⟩ = some (.int .i64 (pr : Int)) := cell_of_row _ _ 1 _ _ _ zr_.out
  have z2_ : ((((w3.setCell ⟨W.heap.size + 1, 0, none⟩ (.slice (some ⟨q3, r3, none⟩) qn qc)).setCell ⟨W.heap.size + 1, 1, none⟩ (.int .i64 (pr : Int))).setCell ⟨W.heap.size + 1, 2, none⟩ (.int .i64 (yr - 1)))).cell? ⟨W.heap.size + 1, 2, none⟩ = some (.int .i64 (yr - 1)) := cell_of_row _ _ 2 _ _ _ zr_.out
  go_wp2
  refine bodyPost_ret (v := .tuple #[.agg #[.slice (some ⟨q3, r3, none⟩) qn qc, .int .i64 (pr : Int), .int .i64 (yr - 1)], .int .i64 (pr : Int)]) (by simp [results, go_sem, z0_, z1_, z2_]) rfl ⟨_, rfl, ?_, ?_⟩
  · exact OwU.wide (lo := W.heap.size + 1 + 1) (by omega) (by simp only [World.size_setCell]; omega) (OwU.keep (chg_one _ _ _ _) (.inr (by omega)) (OwU.keep (chg_one _ _ _ _) (.inr (by omega)) (OwU.keep (chg_one _ _ _ _) (.inr (by omega)) NO_.out)))
  · exact (gby_setnew (gby_setnew (gby_setnew G16_.out _ (by dsimp only; omega) _) _ (by dsimp only; omega) _) _ (by dsimp only; omega) _)

end Go.Proofs.Ytgagbhkidponnad
