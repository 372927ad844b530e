/-
  The free slots of a bridge, on both sides.
-/
import Derived.Test.YtodfbodagjmfmabKidsB
import Derived.Test.YtodfbodagjmfmabRSlotsOf
namespace Go.Proofs.Ytodfbodagjmfmab
open Go Go.RowKit
set_option linter.unusedVariables false

/-- a node below k has the device d -/
def Taken (xs : List DNode) (k d : Int) : Prop := ∃ j, j < xs.length ∧ Same2 (nd xs j) k d
/-- the free ones of the first n devices -/
def SlotIs (xs : List DNode) (k : Int) : Nat → List Int → Prop
  | 0, ys => ys = []
  | n + 1, ys => ∃ zs, SlotIs xs k n zs ∧ ((Taken xs k (n : Int) ∧ ys = zs) ∨ (¬ Taken xs k (n : Int) ∧ ys = zs ++ [(n : Int)]))
theorem slotIs_ex (xs : List DNode) (k : Int) : ∀ n, ∃ ys, SlotIs xs k n ys
  | 0 => ⟨[], rfl⟩
  | n + 1 => by
    obtain ⟨zs, hz⟩ := slotIs_ex xs k n
    by_cases h : Taken xs k (n : Int)
    · exact ⟨zs, zs, hz, .inl ⟨h, rfl⟩⟩
    · exact ⟨_, zs, hz, .inr ⟨h, rfl⟩⟩
theorem slotIs_one {xs : List DNode} {k : Int} : ∀ {n : Nat} {y z : List Int}, SlotIs xs k n y → SlotIs xs k n z → y = z
  | 0, _, _, h, g => h.trans g.symm
  | n + 1, _, _, ⟨y, h1, h2⟩, ⟨z, g1, g2⟩ => by
    obtain rfl := slotIs_one h1 g1
    rcases h2 with ⟨a, rfl⟩ | ⟨a, rfl⟩
    · rcases g2 with ⟨_, rfl⟩ | ⟨b, _⟩
      · rfl
      · exact absurd a b
    · rcases g2 with ⟨b, _⟩ | ⟨_, rfl⟩
      · exact absurd b a
      · rfl
theorem slotIs_len {xs : List DNode} {k : Int} : ∀ {n : Nat} {y : List Int}, SlotIs xs k n y → y.length ≤ n
  | 0, _, h => by
    have : _ = [] := h
    subst this; exact Nat.le_refl _
  | n + 1, _, ⟨z, h1, h2⟩ => by
    have := slotIs_len h1
    rcases h2 with ⟨_, rfl⟩ | ⟨_, rfl⟩
    · omega
    · rw [List.length_append, List.length_singleton]; omega
/-- a bridge of a valid tree -/
def BridgeP (xs : List DNode) (k : Int) : Prop := NodeP xs k ∧ (nd xs k.toNat).f2 = 0
theorem taken_kids {xs : List DNode} (h : TOk xs) {k : Int} (hk : 0 ≤ k) {d : Int} : Taken xs k d ↔ ∃ n ∈ kidsN xs k 4, (nd xs n).f1 = d := by
  constructor
  · rintro ⟨j, h1, h2, h3⟩
    refine ⟨j, ((kids_is h k).1 j).2 ⟨?_, h1, h2⟩, h3⟩
    by_cases j0 : j = 0
    · subst j0; rw [h.2.1.1] at h2; omega
    · omega
  · rintro ⟨n, h1, h2⟩
    obtain ⟨_, q2, q3⟩ := ((kids_is h k).1 n).1 h1
    exact ⟨n, q2, q3, h2⟩

set_option maxHeartbeats 1000000 in
theorem clo2_yes (i0 i1 i2 q0 q1 : Int) (a b : Nat) (W : World) (ha : W.heap[a]? = some (.cells #[.int .i64 q0] 3 (0, 0))) (hb : W.heap[b]? = some (.cells #[.int .i64 q1] 3 (0, 0))) (h0 : i0 = q0) (h1 : i1 = q1) : Calls Try.prog 66 #[.agg #[.int .i64 i0, .int .i64 i1, .int .i64 i2], .pointer (some ⟨a, 0, none⟩), .pointer (some ⟨b, 0, none⟩)] W (AnsN (.bool true) W) := by
  have qa : W.cell? ⟨a, 0, none⟩ = some (.int .i64 q0) := cell_of_row W a 0 _ _ _ ha
  have qb : W.cell? ⟨b, 0, none⟩ = some (.int .i64 q1) := cell_of_row W b 0 _ _ _ hb
  clear ha hb
  subst h0
  subst h1
  go_enter Try.func66, Try.ntmps66
  have rA1_ := Lib.hid (show ((W.alloc (.cells #[.int .i64 i0, .int .i64 i1, .int .i64 i2] 41))).heap[W.heap.size]? = some (.cells #[.int .i64 i0, .int .i64 i1, .int .i64 i2] 41 (0, 0)) from by exact heap_alloc_new _ _)
  have G2_ := Lib.hid (show (W).grownBy ((W.alloc (.cells #[.int .i64 i0, .int .i64 i1, .int .i64 i2] 41))) none from (gby_alloc (gby_refl _ _) _))
  have A_0_ : ((W.alloc (.cells #[.int .i64 i0, .int .i64 i1, .int .i64 i2] 41))).cell? ⟨W.heap.size, 0, none⟩ = some (.int .i64 i0) := cell_of_row _ _ 0 _ _ _ rA1_.out
  have A_1_ : ((W.alloc (.cells #[.int .i64 i0, .int .i64 i1, .int .i64 i2] 41))).cell? ⟨W.heap.size, 1, none⟩ = some (.int .i64 i1) := cell_of_row _ _ 1 _ _ _ rA1_.out
  have A_2_ : ((W.alloc (.cells #[.int .i64 i0, .int .i64 i1, .int .i64 i2] 41))).cell? ⟨W.heap.size, 2, none⟩ = some (.int .i64 i2) := cell_of_row _ _ 2 _ _ _ rA1_.out
  have q0_ := G2_.out.cell qa (by simp)
  have q1_ := G2_.out.cell qb (by simp)
  go_wp2
  try go_quiet (fail)
  try go_wp2
  go_ret
  exact ⟨rfl, by repeat (first | exact G2_.out | with_reducible refine gby_drewN ?_ _)⟩

set_option maxHeartbeats 1000000 in
theorem clo2_no0 (i0 i1 i2 q0 q1 : Int) (a b : Nat) (W : World) (ha : W.heap[a]? = some (.cells #[.int .i64 q0] 3 (0, 0))) (hb : W.heap[b]? = some (.cells #[.int .i64 q1] 3 (0, 0))) (h0 : ¬ i0 = q0) : Calls Try.prog 66 #[.agg #[.int .i64 i0, .int .i64 i1, .int .i64 i2], .pointer (some ⟨a, 0, none⟩), .pointer (some ⟨b, 0, none⟩)] W (AnsN (.bool false) W) := by
  have qa : W.cell? ⟨a, 0, none⟩ = some (.int .i64 q0) := cell_of_row W a 0 _ _ _ ha
  have qb : W.cell? ⟨b, 0, none⟩ = some (.int .i64 q1) := cell_of_row W b 0 _ _ _ hb
  clear ha hb
  have h0b : (i0 == q0) = false := by simpa using h0
  clear h0
  go_enter Try.func66, Try.ntmps66
  have rA1_ := Lib.hid (show ((W.alloc (.cells #[.int .i64 i0, .int .i64 i1, .int .i64 i2] 41))).heap[W.heap.size]? = some (.cells #[.int .i64 i0, .int .i64 i1, .int .i64 i2] 41 (0, 0)) from by exact heap_alloc_new _ _)
  have G2_ := Lib.hid (show (W).grownBy ((W.alloc (.cells #[.int .i64 i0, .int .i64 i1, .int .i64 i2] 41))) none from (gby_alloc (gby_refl _ _) _))
  have A_0_ : ((W.alloc (.cells #[.int .i64 i0, .int .i64 i1, .int .i64 i2] 41))).cell? ⟨W.heap.size, 0, none⟩ = some (.int .i64 i0) := cell_of_row _ _ 0 _ _ _ rA1_.out
  have A_1_ : ((W.alloc (.cells #[.int .i64 i0, .int .i64 i1, .int .i64 i2] 41))).cell? ⟨W.heap.size, 1, none⟩ = some (.int .i64 i1) := cell_of_row _ _ 1 _ _ _ rA1_.out
  have A_2_ : ((W.alloc (.cells #[.int .i64 i0, .int .i64 i1, .int .i64 i2] 41))).cell? ⟨W.heap.size, 2, none⟩ = some (.int .i64 i2) := cell_of_row _ _ 2 _ _ _ rA1_.out
  have q0_ := G2_.out.cell qa (by simp)
  have q1_ := G2_.out.cell qb (by simp)
  go_wp2
  try go_quiet (fail)
  try go_wp2
  go_ret
  exact ⟨rfl, by repeat (first | exact G2_.out | with_reducible refine gby_drewN ?_ _)⟩

set_option maxHeartbeats 1000000 in
theorem clo2_no1 (i0 i1 i2 q0 q1 : Int) (a b : Nat) (W : World) (ha : W.heap[a]? = some (.cells #[.int .i64 q0] 3 (0, 0))) (hb : W.heap[b]? = some (.cells #[.int .i64 q1] 3 (0, 0))) (h0 : i0 = q0) (h1 : ¬ i1 = q1) : Calls Try.prog 66 #[.agg #[.int .i64 i0, .int .i64 i1, .int .i64 i2], .pointer (some ⟨a, 0, none⟩), .pointer (some ⟨b, 0, none⟩)] W (AnsN (.bool false) W) := by
  have qa : W.cell? ⟨a, 0, none⟩ = some (.int .i64 q0) := cell_of_row W a 0 _ _ _ ha
  have qb : W.cell? ⟨b, 0, none⟩ = some (.int .i64 q1) := cell_of_row W b 0 _ _ _ hb
  clear ha hb
  subst h0
  have h1b : (i1 == q1) = false := by simpa using h1
  clear h1
  go_enter Try.func66, Try.ntmps66
  have rA1_ := Lib.hid (show ((W.alloc (.cells #[.int .i64 i0, .int .i64 i1, .int .i64 i2] 41))).heap[W.heap.size]? = some (.cells #[.int .i64 i0, .int .i64 i1, .int .i64 i2] 41 (0, 0)) from by exact heap_alloc_new _ _)
  have G2_ := Lib.hid (show (W).grownBy ((W.alloc (.cells #[.int .i64 i0, .int .i64 i1, .int .i64 i2] 41))) none from (gby_alloc (gby_refl _ _) _))
  have A_0_ : ((W.alloc (.cells #[.int .i64 i0, .int .i64 i1, .int .i64 i2] 41))).cell? ⟨W.heap.size, 0, none⟩ = some (.int .i64 i0) := cell_of_row _ _ 0 _ _ _ rA1_.out
  have A_1_ : ((W.alloc (.cells #[.int .i64 i0, .int .i64 i1, .int .i64 i2] 41))).cell? ⟨W.heap.size, 1, none⟩ = some (.int .i64 i1) := cell_of_row _ _ 1 _ _ _ rA1_.out
  have A_2_ : ((W.alloc (.cells #[.int .i64 i0, .int .i64 i1, .int .i64 i2] 41))).cell? ⟨W.heap.size, 2, none⟩ = some (.int .i64 i2) := cell_of_row _ _ 2 _ _ _ rA1_.out
  have q0_ := G2_.out.cell qa (by simp)
  have q1_ := G2_.out.cell qb (by simp)
  go_wp2
  try go_quiet (fail)
  try go_wp2
  go_ret
  exact ⟨rfl, by repeat (first | exact G2_.out | with_reducible refine gby_drewN ?_ _)⟩

set_option maxRecDepth 8000 in
set_option maxHeartbeats 2000000 in
theorem index_same2 (W : World) (a : Option Addr) (m c : Nat) (xs : List DNode) (H : RdNm W a m xs) (hm : m ≤ 1048576) (q0 q1 : Int) (ga gb : Nat) (hba : W.heap[ga]? = some (.cells #[.int .i64 q0] 3 (0, 0))) (hbb : W.heap[gb]? = some (.cells #[.int .i64 q1] 3 (0, 0))) : Calls Try.prog 85 #[.slice a m c, .func (.func 66) #[] #[.pointer (some ⟨ga, 0, none⟩), .pointer (some ⟨gb, 0, none⟩)]] W (IxPost xs m q0 q1 W) := by
  have HA := Lib.hid H
  have HBA := Lib.hid hba
  have HBB := Lib.hid hbb
  clear H hba hbb
  unfold RdNm at HA
  go_enter Try.func85, Try.ntmps85
  go_wp2
  go_loopw [5, 8] (fun z i wr => ∃ n : Nat, n ≤ m ∧ (∃ q, z = q) ∧ i = .int .i64 (n : Int) ∧ (∀ j, j < n → ¬ Same2 (nd xs j) q0 q1) ∧ (W).grownBy wr none) (fun _ i _ => m - (intOf i).toNat)
  case atStart => exact ⟨0, by omega, ⟨_, rfl⟩, rfl, fun j hj => absurd hj (Nat.not_lt_zero _), gby_refl _ _⟩
  case round =>
    obtain ⟨n, hn, ⟨z, rfl⟩, rfl, hj, hg⟩ := hrel
    have szrwr := hg.size
    try simp only [World.size_alloc] at szrwr
    try simp only [World.size_setCell] at szrwr
    have szr_ := szrwr
    have G1_ := Lib.hid (show (W).grownBy (wr) none from gby_trans (gby_refl _ _) hg)
    have HTB_ := Lib.hid hg
    clear hg
    have HJ := Lib.hid hj
    clear hj
    have hn0 : (0 : Int) ≤ (n : Int) := by omega
    have htn : ((n : Int)).toNat = n := by omega
    by_cases hlt : n < m
    · have hki : (n : Int) < (m : Int) := by omega
      obtain ⟨b, off, rfl, hcell⟩ := HA.out.resolve_left (by omega)
      obtain ⟨y, hy⟩ : ∃ y, y = nd xs n := ⟨_, rfl⟩
      have HY := Lib.hid hy
      have hyc := hcell n hlt
      rw [← hy] at hyc
      clear hy hcell
      have y0_ := (G1_.out).cell hyc.1 (by simp)
      have y1_ := (G1_.out).cell hyc.2.1 (by simp)
      have y2_ := (G1_.out).cell hyc.2.2 (by simp)
      clear hyc
      obtain ⟨y0, y1, y2⟩ := y
      have HRA := Lib.hid (row_held G1_.out HBA.out)
      have HRB := Lib.hid (row_held G1_.out HBB.out)
      by_cases h0 : y0 = q0
      rotate_left
      · have HE1 := Lib.hid h0
        clear h0
        go_wp2_with fail
        go_at_call 66
        refine (clo2_no0 _ _ _ _ q1 _ _ _ HRA.out HRB.out HE1.out).mono ?_
        rintro e w1 ⟨rfl, g⟩
        have szw1 := g.size
        try simp only [World.size_alloc] at szw1
        try simp only [World.size_setCell] at szw1
        have G2_ := Lib.hid (show (W).grownBy (w1) none from gby_trans G1_.out g)
        have HTB3_ := Lib.hid (show (W).grownBy (w1) none from gby_trans HTB_.out g)
        clear HTB_
        clear g
        go_wp2
        refine ⟨⟨n + 1, by omega, ⟨_, rfl⟩, by go_num, fun j hj => ?_, HTB3_.out⟩, by simp [intOf]; omega⟩
        by_cases e : j = n
        · subst e
          rw [← HY.out]
          rintro ⟨q1, q2⟩
          exact HE1.out (by first | exact q1 | exact q2)
        · exact HJ.out j (by omega)
      have HE0 := Lib.hid h0
      clear h0
      by_cases h1 : y1 = q1
      rotate_left
      · have HE1 := Lib.hid h1
        clear h1
        go_wp2_with fail
        go_at_call 66
        refine (clo2_no1 _ _ _ _ _ _ _ _ HRA.out HRB.out HE0.out HE1.out).mono ?_
        rintro e w1 ⟨rfl, g⟩
        have szw1 := g.size
        try simp only [World.size_alloc] at szw1
        try simp only [World.size_setCell] at szw1
        have G2_ := Lib.hid (show (W).grownBy (w1) none from gby_trans G1_.out g)
        have HTB3_ := Lib.hid (show (W).grownBy (w1) none from gby_trans HTB_.out g)
        clear HTB_
        clear g
        go_wp2
        refine ⟨⟨n + 1, by omega, ⟨_, rfl⟩, by go_num, fun j hj => ?_, HTB3_.out⟩, by simp [intOf]; omega⟩
        by_cases e : j = n
        · subst e
          rw [← HY.out]
          rintro ⟨q1, q2⟩
          exact HE1.out (by first | exact q1 | exact q2)
        · exact HJ.out j (by omega)
      have HE1 := Lib.hid h1
      clear h1
      go_wp2_with fail
      go_at_call 66
      refine (clo2_yes _ _ _ _ _ _ _ _ HRA.out HRB.out HE0.out HE1.out).mono ?_
      rintro e w1 ⟨rfl, g⟩
      have szw1 := g.size
      try simp only [World.size_alloc] at szw1
      try simp only [World.size_setCell] at szw1
      have G2_ := Lib.hid (show (W).grownBy (w1) none from gby_trans G1_.out g)
      have HTB3_ := Lib.hid (show (W).grownBy (w1) none from gby_trans HTB_.out g)
      clear HTB_
      clear g
      go_wp2
      go_ret
      exact ⟨(n : Int), rfl, .inr ⟨n, hlt, rfl, by rw [← HY.out]; exact ⟨HE0.out, HE1.out⟩⟩, G2_.out⟩
    · have hki : ¬ (n : Int) < (m : Int) := by omega
      obtain rfl : n = m := by omega
      go_wp2
      go_ret
      exact ⟨-1, rfl, .inl ⟨rfl, HJ.out⟩, G1_.out⟩

set_option maxHeartbeats 2000000 in
theorem contains_same2 (W : World) (a : Option Addr) (m c : Nat) (xs : List DNode) (H : RdNm W a m xs) (hm : m ≤ 1048576) (q0 q1 : Int) (ga gb : Nat) (hba : W.heap[ga]? = some (.cells #[.int .i64 q0] 3 (0, 0))) (hbb : W.heap[gb]? = some (.cells #[.int .i64 q1] 3 (0, 0))) : Calls Try.prog 65 #[.slice a m c, .func (.func 66) #[] #[.pointer (some ⟨ga, 0, none⟩), .pointer (some ⟨gb, 0, none⟩)]] W (CoPost xs m q0 q1 W) := by
  have HA := Lib.hid H
  have HBA := Lib.hid hba
  have HBB := Lib.hid hbb
  clear H hba hbb
  go_enter Try.func65, Try.ntmps65
  go_wp2_with fail
  go_at_call 85
  refine (index_same2 _ a m c xs HA.out hm q0 q1 ga gb HBA.out HBB.out).mono ?_
  rintro e w1 ⟨z, rfl, hz, g_⟩
  have G1_ := Lib.hid (show (W).grownBy (w1) none from gby_trans (gby_refl _ _) g_)
  clear g_
  rcases hz with ⟨rfl, hz⟩ | ⟨k, hk, rfl, hz⟩
  · have HZ := Lib.hid hz
    clear hz
    go_wp2
    go_ret
    exact ⟨false, rfl, iff_no (fun ⟨j, h1, h2⟩ => HZ.out j h1 h2), G1_.out⟩
  · have HZ := Lib.hid hz
    have hk0 : 0 ≤ (k : Int) := by omega
    clear hz
    go_wp2
    go_ret
    exact ⟨true, rfl, iff_yes ⟨k, hk, HZ.out⟩, G1_.out⟩

set_option maxRecDepth 8000 in
set_option maxHeartbeats 2000000 in
theorem specSlots_no (W : World) (v : Value) (xs : List DNode) (k : Int) (H : RdL shNode W v xs) (hl : szL shNode xs ≤ 1048576) (hp : ¬ NodeP xs k) : Calls Try.prog 36 #[v, .int .i64 k] W (ResISlotsOf [] W) := by
  have HP_ := Lib.hid hp
  clear hp
  have HT := Lib.hid H
  have HL := Lib.hid hl
  obtain ⟨a0, n0, c0, rfl⟩ := RdL.form H
  have hn0 : n0 = xs.length := by obtain ⟨_, _, e, _⟩ := H; injection e
  have HE := Lib.hid hn0
  have hlx : n0 ≤ 1048576 := by have := szL_len shNode xs; omega
  clear H hn0 hl
  go_enter Try.func36, Try.ntmps36
  have al_ : (W).grownBy ((W).alloc (.cells #[] 3)) none := gby_alloc (gby_refl _ _) _
  have G1_ := Lib.hid (show (W).grownBy ((W.alloc (.cells #[] 3))) none from gby_trans (gby_refl _ _) al_)
  have rO2_ := Lib.hid (show ((W.alloc (.cells #[] 3))).heap[W.heap.size]? = some (.cells #[] 3 (0, 0)) from by first | exact heap_alloc_new _ _ | exact heap_pair _ _ _ | exact heap_trip _ _ _ _)
  clear al_
  go_wp2_with fail
  go_at_call 50
  refine (specNode_no _ _ xs _ (HT.out.grow G1_.out) HL.out HP_.out).mono ?_
  rintro e w1 ⟨rfl, g⟩
  have szw1 := g.size
  try simp only [World.size_alloc] at szw1
  try simp only [World.size_setCell] at szw1
  have rO3_ := Lib.hid (show (w1).heap[W.heap.size]? = some (.cells #[] 3 (0, 0)) from row_held g rO2_.out)
  clear rO2_
  have G4_ := Lib.hid (show (W).grownBy (w1) none from gby_trans G1_.out g)
  clear g
  go_wp2
  go_ret
  exact ⟨_, rfl, OwU.one (owL_empty (by omega) (by omega)), G4_.out⟩

set_option maxRecDepth 8000 in
set_option maxHeartbeats 2000000 in
theorem specSlots_dev (W : World) (v : Value) (xs : List DNode) (k : Nat) (H : RdL shNode W v xs) (hl : szL shNode xs ≤ 1048576) (hp : NodeP xs (k : Int)) (hf : ¬ (nd xs k).f2 = 0) : Calls Try.prog 36 #[v, .int .i64 (k : Int)] W (ResISlotsOf [] W) := by
  have HP_ := Lib.hid hp
  have hf2 : 0 ≤ (nd xs k).f2 := by
    by_cases k0 : k = 0
    · subst k0; rw [hp.1.2.1.2.2]; omega
    · exact (hp.1.2.2 k (by omega) (by have := hp.2.2; omega)).2.2.2.1.1
  have hf : 0 < (nd xs k).f2 := by omega
  clear hp hf2
  have HT := Lib.hid H
  have HL := Lib.hid hl
  have HMX := Lib.hid H.max
  obtain ⟨a0, c0, rfl, hcap, hi⟩ := rdN_in H
  obtain ⟨n0, hlen⟩ : ∃ n, n = xs.length := ⟨_, rfl⟩
  have HE := Lib.hid hlen
  unfold RdN at hi
  rw [← hlen] at hi HT ⊢
  have HA := Lib.hid hi
  have hlx : n0 ≤ 1048576 := by have := szL_len shNode xs; omega
  clear H hi hlen hl hcap
  have hkn : (k : Int) < (n0 : Int) := by have := HE.out; have := HP_.out.2.2; omega
  have hk0 : (0 : Int) ≤ (k : Int) := by omega
  have htk : ((k : Int)).toNat = k := by omega
  obtain ⟨b, off, rfl, hcell⟩ := HA.out.resolve_left (by omega)
  have HC := Lib.hid hcell
  clear hcell
  obtain ⟨y, hy⟩ : ∃ y, y = nd xs k := ⟨_, rfl⟩
  have hyc := HC.out k (by omega)
  rw [← hy] at hyc
  have HY0 := Lib.hid hyc.1
  have HY1 := Lib.hid hyc.2.1
  have HY2 := Lib.hid hyc.2.2
  rw [← hy] at hf
  clear hyc hy
  obtain ⟨y0, y1, y2⟩ := y
  dsimp only at HY0 HY1 HY2 hf
  go_enter Try.func36, Try.ntmps36
  have al_ : (W).grownBy ((W).alloc (.cells #[] 3)) none := gby_alloc (gby_refl _ _) _
  have G1_ := Lib.hid (show (W).grownBy ((W.alloc (.cells #[] 3))) none from gby_trans (gby_refl _ _) al_)
  have rO2_ := Lib.hid (show ((W.alloc (.cells #[] 3))).heap[W.heap.size]? = some (.cells #[] 3 (0, 0)) from by first | exact heap_alloc_new _ _ | exact heap_pair _ _ _ | exact heap_trip _ _ _ _)
  clear al_
  have y2_ := (G1_.out).cell HY2.out (by simp)
  go_wp2_with fail
  go_at_call 50
  refine (specNode_yes _ _ xs _ (HT.out.grow G1_.out) HL.out HP_.out).mono ?_
  rintro e w1 ⟨rfl, g⟩
  have szw1 := g.size
  try simp only [World.size_alloc] at szw1
  try simp only [World.size_setCell] at szw1
  clear y2_
  have rO3_ := Lib.hid (show (w1).heap[W.heap.size]? = some (.cells #[] 3 (0, 0)) from row_held g rO2_.out)
  clear rO2_
  have G4_ := Lib.hid (show (W).grownBy (w1) none from gby_trans G1_.out g)
  clear g
  have y2_ := (G4_.out).cell HY2.out (by simp)
  go_wp2
  go_ret
  exact ⟨_, rfl, OwU.one (owL_empty (by omega) (by omega)), G4_.out⟩

theorem rdI_own2 {w : World} {lo hi : Nat} {v : Value} {ys : List Int} (h : OwL shI w lo hi v ys) (h1 : 1 ≤ ys.length) : ∃ b off cap, v = .slice (some ⟨b, off, none⟩) ys.length cap ∧ lo ≤ b ∧ b < hi ∧ ∀ k, k < ys.length → w.cell? ⟨b, off + k, none⟩ = some (.int .i64 (ys.getD k 0)) := by
  obtain ⟨b, off, c, rfl, hb, hb2, _⟩ := owL_I_at h 0 (by omega)
  refine ⟨b, off, c, rfl, hb, hb2, fun k hk => ?_⟩
  obtain ⟨b2, off2, c2, e, _, _, hc, _⟩ := owL_I_at h k hk
  injection e with e1 e2 e3
  injection e1 with e1
  injection e1 with e4 e5
  subst e4 e5
  exact hc
theorem nums_getD (ks : List Nat) (j : Nat) (h : j < ks.length) : ∃ n ∈ ks, (nums ks).getD j 0 = (n : Int) ∧ ks[j]? = some n := ⟨ks[j], List.getElem_mem h, by rw [nums_at ks j h], by rw [List.getElem?_eq_getElem h]⟩

set_option maxRecDepth 8000 in
set_option maxHeartbeats 4000000 in
theorem specSlots_e (W : World) (v : Value) (xs : List DNode) (k : Nat) (H : RdL shNode W v xs) (hl : szL shNode xs ≤ 1048576) (hp : NodeP xs (k : Int)) (hf : (nd xs k).f2 = 0) (hem : kidsN xs (k : Int) 4 = []) (ys0 : List Int) (hys : SlotIs xs (k : Int) 4 ys0) : Calls Try.prog 36 #[v, .int .i64 (k : Int)] W (ResISlotsOf ys0 W) := by
  have HP_ := Lib.hid hp
  have HEM := Lib.hid hem
  have HYS := Lib.hid hys
  clear hp hem hys
  obtain ⟨i1_, hi1_, hz0_, hz1_, hz2_⟩ := info_parts infoInt
  have HT := Lib.hid H
  have HL := Lib.hid hl
  have HMX := Lib.hid H.max
  obtain ⟨a0, c0, rfl, hcap, hi⟩ := rdN_in H
  obtain ⟨n0, hlen⟩ : ∃ n, n = xs.length := ⟨_, rfl⟩
  have HE := Lib.hid hlen
  unfold RdN at hi
  rw [← hlen] at hi HT ⊢
  have HA := Lib.hid hi
  have hlx : n0 ≤ 1048576 := by have := szL_len shNode xs; omega
  clear H hi hlen hl hcap
  have hkn : (k : Int) < (n0 : Int) := by have := HE.out; have := HP_.out.2.2; omega
  have hk0 : (0 : Int) ≤ (k : Int) := by omega
  have htk : ((k : Int)).toNat = k := by omega
  obtain ⟨b, off, rfl, hcell⟩ := HA.out.resolve_left (by omega)
  have HC := Lib.hid hcell
  clear hcell
  obtain ⟨y, hy⟩ : ∃ y, y = nd xs k := ⟨_, rfl⟩
  have hyc := HC.out k (by omega)
  rw [← hy] at hyc
  have HY0 := Lib.hid hyc.1
  have HY1 := Lib.hid hyc.2.1
  have HY2 := Lib.hid hyc.2.2
  rw [← hy] at hf
  clear hyc hy
  obtain ⟨y0, y1, y2⟩ := y
  dsimp only at HY0 HY1 HY2 hf
  subst hf
  go_enter Try.func36, Try.ntmps36
  have al_ : (W).grownBy ((W).alloc (.cells #[] 3)) none := gby_alloc (gby_refl _ _) _
  have G1_ := Lib.hid (show (W).grownBy ((W.alloc (.cells #[] 3))) none from gby_trans (gby_refl _ _) al_)
  have rO2_ := Lib.hid (show ((W.alloc (.cells #[] 3))).heap[W.heap.size]? = some (.cells #[] 3 (0, 0)) from by first | exact heap_alloc_new _ _ | exact heap_pair _ _ _ | exact heap_trip _ _ _ _)
  clear al_
  have HST := Lib.hid (show ((W.alloc (.cells #[] 3))).ownsRow (W.heap.size) 3 1 (.slice (some ⟨W.heap.size, 0, none⟩) 0 0) ([] : List Int).length (i64s []) from own_emptyP (e := 3) (n := 1) rO2_.out (Nat.le_refl _))
  have HTQ3_ := Lib.hid (gby_refl ((W.alloc (.cells #[] 3))) none)
  have MG4_ := Lib.hid (show (W).grownBy ((W.alloc (.cells #[] 3))) none from G1_.out)
  have MR5_ := Lib.hid rO2_.out
  have y2_ := (G1_.out).cell HY2.out (by simp)
  go_wp2_with fail
  go_at_call 50
  refine (specNode_yes _ _ xs _ (HT.out.grow G1_.out) HL.out HP_.out).mono ?_
  rintro e w1 ⟨rfl, g⟩
  have szw1 := g.size
  try simp only [World.size_alloc] at szw1
  try simp only [World.size_setCell] at szw1
  clear y2_
  have rO6_ := Lib.hid (show (w1).heap[W.heap.size]? = some (.cells #[] 3 (0, 0)) from row_held g rO2_.out)
  clear rO2_
  have G7_ := Lib.hid (show (W).grownBy (w1) none from gby_trans G1_.out g)
  have HTQ8_ := Lib.hid (show ((W.alloc (.cells #[] 3))).grownBy (w1) none from gby_trans HTQ3_.out g)
  clear HTQ3_
  clear g
  have y2_ := (G7_.out).cell HY2.out (by simp)
  go_wp2_with fail
  go_at_call 16
  refine (specKids_yes _ _ xs (k : Int) (HT.out.grow G7_.out) HL.out HP_.out).mono ?_
  rintro e w2 ⟨vl, rfl, o, g⟩
  have szw2 := g.size
  try simp only [World.size_alloc] at szw2
  clear y2_
  have rO9_ := Lib.hid (show (w2).heap[W.heap.size]? = some (.cells #[] 3 (0, 0)) from row_held g rO6_.out)
  clear rO6_
  have G10_ := Lib.hid (show (W).grownBy (w2) none from gby_trans G7_.out g)
  have HTQ11_ := Lib.hid (show ((W.alloc (.cells #[] 3))).grownBy (w2) none from gby_trans HTQ8_.out g)
  clear HTQ8_
  clear g
  obtain ⟨ks, hks⟩ : ∃ ks, ks = kidsN xs (k : Int) 4 := ⟨_, rfl⟩
  rw [← hks] at o
  have HKS := Lib.hid hks
  obtain ⟨la, lb_, hla, hlb, _, ho9, _⟩ := (show OwU _ _ _ [] [own shI vl (nums ks)] from o)
  have hke : (nums ks).length = 0 := by rw [hks, HEM.out]; rfl
  obtain ⟨pl, nk, cl, hv_⟩ := RdL.form (OwL.rd ho9)
  have hnk : nk = (nums ks).length := by obtain ⟨_, _, e, _⟩ := OwL.rd ho9; rw [hv_] at e; injection e
  subst hv_
  have HNK := Lib.hid hnk
  have hnk0 : nk ≤ 0 := by omega
  clear o ho9 hke hks hnk
  have y2_ := (G10_.out).cell HY2.out (by simp)
  have HOs := Lib.hid (HST.out.grown HTQ11_.out)
  go_wp2
  go_loopw [5, 7, 8, 9] (fun v d z1 z2 wr => ∃ (D : Nat) (ys : List Int), d = .int .i64 (D : Int) ∧ D ≤ 4 ∧ (∃ q, z1 = q) ∧ (∃ q, z2 = q) ∧ SlotIs xs (k : Int) D ys ∧ wr.ownsRow (W.heap.size) 3 1 v ys.length (i64s ys) ∧ W.grownBy wr none) (fun _ d _ _ _ => 4 - (intOf d).toNat)
  case atStart => exact ⟨0, [], rfl, by omega, ⟨_, rfl⟩, ⟨_, rfl⟩, rfl, HOs.out, G10_.out⟩
  case round =>
    obtain ⟨D, ys, rfl, hD, ⟨z1, rfl⟩, ⟨z2, rfl⟩, hsl, hown, hg⟩ := hrel
    have HSL := Lib.hid hsl
    have HO := Lib.hid hown
    have HG := Lib.hid hg
    have szr_ := hg.size
    clear hsl hown hg
    have hD0 : (0 : Int) ≤ (D : Int) := by omega
    have htD : ((D : Int)).toNat = D := by omega
    obtain ⟨wo, hwo_⟩ : ∃ w_, w_ = wr := ⟨_, rfl⟩
    subst hwo_
    by_cases hlD : D < 4
    rotate_left
    · obtain rfl : D = 4 := by omega
      have hki : ¬ (4 : Int) ≤ 3 := by omega
      have hyl := slotIs_len HSL.out
      obtain rfl : ys = ys0 := slotIs_one HSL.out HYS.out
      go_wp2
      go_ret
      exact ⟨_, rfl, OwU.one (OwL.wide (owI_out (by omega) (owI_row HO.out)) (Nat.le_refl _) (Nat.le_refl _)), HG.out⟩
    have hki : (D : Int) ≤ 3 := by omega
    have hyl := slotIs_len HSL.out
    go_wp2
    go_loopw [8, 9] (fun z1 i wr => ∃ (m : Nat) (r : Bool), i = .int .i64 (m : Int) ∧ m ≤ nk ∧ z1 = .bool r ∧ (r = true ↔ ∀ j, j < m → ∀ n, ks[j]? = some n → ¬ (nd xs n).f1 = (D : Int)) ∧ wo.grownBy wr none) (fun _ i _ => nk - (intOf i).toNat)
    case atStart => exact ⟨0, true, rfl, by omega, rfl, ⟨fun _ j hj => absurd hj (Nat.not_lt_zero _), fun _ => rfl⟩, gby_refl _ _⟩
    case round =>
      obtain ⟨m, r, rfl, hm, rfl, hr, hgi⟩ := hrel
      have HR := Lib.hid hr
      have HGi := Lib.hid hgi
      have szi_ := hgi.size
      clear hr hgi
      have hm0 : (0 : Int) ≤ (m : Int) := by omega
      have htm : ((m : Int)).toNat = m := by omega
      by_cases hlt : m < nk
      rotate_left
      · obtain rfl : m = nk := by omega
        have hkj : ¬ (m : Int) < (m : Int) := by omega
        have htk2 : (∃ n ∈ ks, (nd xs n).f1 = (D : Int)) ↔ Taken xs (k : Int) (D : Int) := by rw [HKS.out]; exact (taken_kids HP_.out.1 (by omega)).symm
        have hall : (∀ j, j < m → ∀ n, ks[j]? = some n → ¬ (nd xs n).f1 = (D : Int)) ↔ ¬ Taken xs (k : Int) (D : Int) := by
          rw [← htk2]
          constructor
          · rintro h ⟨n, hn, e⟩
            obtain ⟨j, hj⟩ := List.mem_iff_getElem?.1 hn
            exact h j (by have := (List.getElem?_eq_some_iff.1 hj).1; have := HNK.out; rw [nums_len] at this; omega) n hj e
          · intro h j _ n hn e
            exact h ⟨n, List.mem_iff_getElem?.2 ⟨j, hn⟩, e⟩
        have HALL := Lib.hid (HR.out.trans hall)
        clear hall htk2
        cases r
        · have HT_ : Hid (Taken xs (k : Int) (D : Int)) := Lib.hid (Classical.byContradiction (fun q => by have := HALL.out.2 q; cases this))
          go_wp2
          refine ⟨⟨D + 1, ys, by go_num, by omega, ⟨_, rfl⟩, ⟨_, rfl⟩, ⟨ys, HSL.out, .inl ⟨HT_.out, rfl⟩⟩, HO.out.grown HGi.out, gby_trans HG.out HGi.out⟩, by simp [intOf]; omega⟩
        · have HT_ : Hid (¬ Taken xs (k : Int) (D : Int)) := Lib.hid (HALL.out.1 (by first | trivial | rfl))
          obtain ⟨m1, hm1⟩ : ∃ q, q = ys.length := ⟨_, rfl⟩
          have HO1 := Lib.hid (show wr.ownsRow (W.heap.size) 3 1 _ m1 (i64s ys) from by rw [hm1]; exact HO.out.grown HGi.out)
          have hb1 : m1 ≤ 4 := by omega
          have HM := Lib.hid hm1
          clear hm1
          go_wp2_with (at_builtin; refine wpList_append_lies _ (by rfl) _ _ _ (by rfl) (W.heap.size) 3 i1_ _ 1 8 Try.underlying24 hi1_ hz0_ hz1_ hz2_ rfl (by omega) _ m1 (i64s ys) (by rfl) (HO1.out.alloc _) ⟨wr.heap.size, 0, none⟩ 1 1 _ (by rfl) (by rfl) (World.news_of_block (t := 3) (fr := (0, 0)) (heap_alloc_new wr _)) (by simp [Value.oneCell']) (by omega) (by unfold maxLen; omega) (by omega) (by first | (simp; omega) | simp) (wr.heap.size + 1) (by simp) ?_; intro gg1 cap1 wa1 hown_ hgr_ hat_ hlt_; have HP1 := Lib.hid hown_; have HQ1 := Lib.hid hgr_; have HAT1 := Lib.hid hat_; have HLT1 := Lib.hid hlt_; clear hown_ hgr_ hat_ hlt_)
          refine ⟨⟨D + 1, ys ++ [(D : Int)], by go_num, by omega, ⟨_, rfl⟩, ⟨_, rfl⟩, ⟨ys, HSL.out, .inr ⟨HT_.out, rfl⟩⟩, ?_, gby_new (gby_alloc (gby_trans HG.out HGi.out) _) HQ1.out (fun b hb => by have := own_from HO1.out b hb; omega)⟩, by simp [intOf]; omega⟩
          · rw [List.length_append, List.length_singleton, ← HM.out, i64s_append]; exact HP1.out
      have hkj : (m : Int) < (nk : Int) := by omega
      omega

set_option maxRecDepth 8000 in
set_option maxHeartbeats 4000000 in
theorem specSlots_n (W : World) (v : Value) (xs : List DNode) (k : Nat) (H : RdL shNode W v xs) (hl : szL shNode xs ≤ 1048576) (hp : NodeP xs (k : Int)) (hf : (nd xs k).f2 = 0) (hem : ¬ kidsN xs (k : Int) 4 = []) (ys0 : List Int) (hys : SlotIs xs (k : Int) 4 ys0) : Calls Try.prog 36 #[v, .int .i64 (k : Int)] W (ResISlotsOf ys0 W) := by
  have HP_ := Lib.hid hp
  have HEM := Lib.hid hem
  have HYS := Lib.hid hys
  clear hp hem hys
  obtain ⟨i1_, hi1_, hz0_, hz1_, hz2_⟩ := info_parts infoInt
  have HT := Lib.hid H
  have HL := Lib.hid hl
  have HMX := Lib.hid H.max
  obtain ⟨a0, c0, rfl, hcap, hi⟩ := rdN_in H
  obtain ⟨n0, hlen⟩ : ∃ n, n = xs.length := ⟨_, rfl⟩
  have HE := Lib.hid hlen
  unfold RdN at hi
  rw [← hlen] at hi HT ⊢
  have HA := Lib.hid hi
  have hlx : n0 ≤ 1048576 := by have := szL_len shNode xs; omega
  clear H hi hlen hl hcap
  have hkn : (k : Int) < (n0 : Int) := by have := HE.out; have := HP_.out.2.2; omega
  have hk0 : (0 : Int) ≤ (k : Int) := by omega
  have htk : ((k : Int)).toNat = k := by omega
  obtain ⟨b, off, rfl, hcell⟩ := HA.out.resolve_left (by omega)
  have HC := Lib.hid hcell
  clear hcell
  obtain ⟨y, hy⟩ : ∃ y, y = nd xs k := ⟨_, rfl⟩
  have hyc := HC.out k (by omega)
  rw [← hy] at hyc
  have HY0 := Lib.hid hyc.1
  have HY1 := Lib.hid hyc.2.1
  have HY2 := Lib.hid hyc.2.2
  rw [← hy] at hf
  clear hyc hy
  obtain ⟨y0, y1, y2⟩ := y
  dsimp only at HY0 HY1 HY2 hf
  subst hf
  go_enter Try.func36, Try.ntmps36
  have al_ : (W).grownBy ((W).alloc (.cells #[] 3)) none := gby_alloc (gby_refl _ _) _
  have G1_ := Lib.hid (show (W).grownBy ((W.alloc (.cells #[] 3))) none from gby_trans (gby_refl _ _) al_)
  have rO2_ := Lib.hid (show ((W.alloc (.cells #[] 3))).heap[W.heap.size]? = some (.cells #[] 3 (0, 0)) from by first | exact heap_alloc_new _ _ | exact heap_pair _ _ _ | exact heap_trip _ _ _ _)
  clear al_
  have HST := Lib.hid (show ((W.alloc (.cells #[] 3))).ownsRow (W.heap.size) 3 1 (.slice (some ⟨W.heap.size, 0, none⟩) 0 0) ([] : List Int).length (i64s []) from own_emptyP (e := 3) (n := 1) rO2_.out (Nat.le_refl _))
  have HTQ3_ := Lib.hid (gby_refl ((W.alloc (.cells #[] 3))) none)
  have MG4_ := Lib.hid (show (W).grownBy ((W.alloc (.cells #[] 3))) none from G1_.out)
  have MR5_ := Lib.hid rO2_.out
  have y2_ := (G1_.out).cell HY2.out (by simp)
  go_wp2_with fail
  go_at_call 50
  refine (specNode_yes _ _ xs _ (HT.out.grow G1_.out) HL.out HP_.out).mono ?_
  rintro e w1 ⟨rfl, g⟩
  have szw1 := g.size
  try simp only [World.size_alloc] at szw1
  try simp only [World.size_setCell] at szw1
  clear y2_
  have rO6_ := Lib.hid (show (w1).heap[W.heap.size]? = some (.cells #[] 3 (0, 0)) from row_held g rO2_.out)
  clear rO2_
  have G7_ := Lib.hid (show (W).grownBy (w1) none from gby_trans G1_.out g)
  have HTQ8_ := Lib.hid (show ((W.alloc (.cells #[] 3))).grownBy (w1) none from gby_trans HTQ3_.out g)
  clear HTQ3_
  clear g
  have y2_ := (G7_.out).cell HY2.out (by simp)
  go_wp2_with fail
  go_at_call 16
  refine (specKids_yes _ _ xs (k : Int) (HT.out.grow G7_.out) HL.out HP_.out).mono ?_
  rintro e w2 ⟨vl, rfl, o, g⟩
  have szw2 := g.size
  try simp only [World.size_alloc] at szw2
  clear y2_
  have rO9_ := Lib.hid (show (w2).heap[W.heap.size]? = some (.cells #[] 3 (0, 0)) from row_held g rO6_.out)
  clear rO6_
  have G10_ := Lib.hid (show (W).grownBy (w2) none from gby_trans G7_.out g)
  have HTQ11_ := Lib.hid (show ((W.alloc (.cells #[] 3))).grownBy (w2) none from gby_trans HTQ8_.out g)
  clear HTQ8_
  clear g
  obtain ⟨ks, hks⟩ : ∃ ks, ks = kidsN xs (k : Int) 4 := ⟨_, rfl⟩
  rw [← hks] at o
  have HKS := Lib.hid hks
  obtain ⟨la, lb_, hla, hlb, _, ho9, _⟩ := (show OwU _ _ _ [] [own shI vl (nums ks)] from o)
  have hl1 : 1 ≤ (nums ks).length := by
    rw [nums_len, hks]
    rcases Nat.eq_zero_or_pos (kidsN xs (k : Int) 4).length with h | h
    · exact absurd (List.eq_nil_of_length_eq_zero h) HEM.out
    · exact h
  obtain ⟨bl, ol, cl, hv_, hb1, hb2, hlc⟩ := rdI_own2 ho9 hl1
  subst hv_
  obtain ⟨nk, hnk⟩ : ∃ nk : Nat, nk = (nums ks).length := ⟨_, rfl⟩
  rw [← hnk] at hlc ⊢
  have HNK := Lib.hid hnk
  have HLC := Lib.hid hlc
  have hnk48 : nk ≤ 48 := by rw [hnk, nums_len, hks]; have := kidsN_len xs (k : Int) 4; have := HP_.out.1.1.2; omega
  clear o ho9 hks hnk hlc hl1
  have y2_ := (G10_.out).cell HY2.out (by simp)
  have HOs := Lib.hid (HST.out.grown HTQ11_.out)
  go_wp2
  go_loopw [5, 7, 8, 9] (fun v d z1 z2 wr => ∃ (D : Nat) (ys : List Int), d = .int .i64 (D : Int) ∧ D ≤ 4 ∧ (∃ q, z1 = q) ∧ (∃ q, z2 = q) ∧ SlotIs xs (k : Int) D ys ∧ wr.ownsRow (W.heap.size) 3 1 v ys.length (i64s ys) ∧ W.grownBy wr none ∧ (∀ j, j < nk → wr.cell? ⟨bl, ol + j, none⟩ = some (.int .i64 ((nums ks).getD j 0))) ∧ bl < wr.heap.size ∧ (∀ i, v.ownBlock = some i → i ≠ bl)) (fun _ d _ _ _ => 4 - (intOf d).toNat)
  case atStart => exact ⟨0, [], rfl, by omega, ⟨_, rfl⟩, ⟨_, rfl⟩, rfl, HOs.out, G10_.out, HLC.out, by omega, fun i hi => by have h2 := Option.some.inj (show some W.heap.size = some i from hi); omega⟩
  case round =>
    obtain ⟨D, ys, rfl, hD, ⟨z1, rfl⟩, ⟨z2, rfl⟩, hsl, hown, hg, hlc, hbl, hvb⟩ := hrel
    have HSL := Lib.hid hsl
    have HO := Lib.hid hown
    have HG := Lib.hid hg
    have szr_ := hg.size
    have HLCr := Lib.hid hlc
    have HVB := Lib.hid hvb
    clear hlc hvb
    clear hsl hown hg
    have hD0 : (0 : Int) ≤ (D : Int) := by omega
    have htD : ((D : Int)).toNat = D := by omega
    obtain ⟨wo, hwo_⟩ : ∃ w_, w_ = wr := ⟨_, rfl⟩
    subst hwo_
    by_cases hlD : D < 4
    rotate_left
    · obtain rfl : D = 4 := by omega
      have hki : ¬ (4 : Int) ≤ 3 := by omega
      have hyl := slotIs_len HSL.out
      obtain rfl : ys = ys0 := slotIs_one HSL.out HYS.out
      go_wp2
      go_ret
      exact ⟨_, rfl, OwU.one (OwL.wide (owI_out (by omega) (owI_row HO.out)) (Nat.le_refl _) (Nat.le_refl _)), HG.out⟩
    have hki : (D : Int) ≤ 3 := by omega
    have hyl := slotIs_len HSL.out
    go_wp2
    go_loopw [8, 9] (fun z1 i wr => ∃ (m : Nat) (r : Bool), i = .int .i64 (m : Int) ∧ m ≤ nk ∧ z1 = .bool r ∧ (r = true ↔ ∀ j, j < m → ∀ n, ks[j]? = some n → ¬ (nd xs n).f1 = (D : Int)) ∧ wo.grownBy wr none) (fun _ i _ => nk - (intOf i).toNat)
    case atStart => exact ⟨0, true, rfl, by omega, rfl, ⟨fun _ j hj => absurd hj (Nat.not_lt_zero _), fun _ => rfl⟩, gby_refl _ _⟩
    case round =>
      obtain ⟨m, r, rfl, hm, rfl, hr, hgi⟩ := hrel
      have HR := Lib.hid hr
      have HGi := Lib.hid hgi
      have szi_ := hgi.size
      clear hr hgi
      have hm0 : (0 : Int) ≤ (m : Int) := by omega
      have htm : ((m : Int)).toNat = m := by omega
      by_cases hlt : m < nk
      rotate_left
      · obtain rfl : m = nk := by omega
        have hkj : ¬ (m : Int) < (m : Int) := by omega
        have htk2 : (∃ n ∈ ks, (nd xs n).f1 = (D : Int)) ↔ Taken xs (k : Int) (D : Int) := by rw [HKS.out]; exact (taken_kids HP_.out.1 (by omega)).symm
        have hall : (∀ j, j < m → ∀ n, ks[j]? = some n → ¬ (nd xs n).f1 = (D : Int)) ↔ ¬ Taken xs (k : Int) (D : Int) := by
          rw [← htk2]
          constructor
          · rintro h ⟨n, hn, e⟩
            obtain ⟨j, hj⟩ := List.mem_iff_getElem?.1 hn
            exact h j (by have := (List.getElem?_eq_some_iff.1 hj).1; have := HNK.out; rw [nums_len] at this; omega) n hj e
          · intro h j _ n hn e
            exact h ⟨n, List.mem_iff_getElem?.2 ⟨j, hn⟩, e⟩
        have HALL := Lib.hid (HR.out.trans hall)
        clear hall htk2
        cases r
        · have HT_ : Hid (Taken xs (k : Int) (D : Int)) := Lib.hid (Classical.byContradiction (fun q => by have := HALL.out.2 q; cases this))
          go_wp2
          refine ⟨⟨D + 1, ys, by go_num, by omega, ⟨_, rfl⟩, ⟨_, rfl⟩, ⟨ys, HSL.out, .inl ⟨HT_.out, rfl⟩⟩, HO.out.grown HGi.out, gby_trans HG.out HGi.out, fun j hj => HGi.out.cell (HLCr.out j hj) (by simp), by omega, HVB.out⟩, by simp [intOf]; omega⟩
        · have HT_ : Hid (¬ Taken xs (k : Int) (D : Int)) := Lib.hid (HALL.out.1 (by first | trivial | rfl))
          obtain ⟨m1, hm1⟩ : ∃ q, q = ys.length := ⟨_, rfl⟩
          have HO1 := Lib.hid (show wr.ownsRow (W.heap.size) 3 1 _ m1 (i64s ys) from by rw [hm1]; exact HO.out.grown HGi.out)
          have hb1 : m1 ≤ 4 := by omega
          have HM := Lib.hid hm1
          clear hm1
          go_wp2_with (at_builtin; refine wpList_append_lies _ (by rfl) _ _ _ (by rfl) (W.heap.size) 3 i1_ _ 1 8 Try.underlying24 hi1_ hz0_ hz1_ hz2_ rfl (by omega) _ m1 (i64s ys) (by rfl) (HO1.out.alloc _) ⟨wr.heap.size, 0, none⟩ 1 1 _ (by rfl) (by rfl) (World.news_of_block (t := 3) (fr := (0, 0)) (heap_alloc_new wr _)) (by simp [Value.oneCell']) (by omega) (by unfold maxLen; omega) (by omega) (by first | (simp; omega) | simp) (wr.heap.size + 1) (by simp) ?_; intro gg1 cap1 wa1 hown_ hgr_ hat_ hlt_; have HP1 := Lib.hid hown_; have HQ1 := Lib.hid hgr_; have HAT1 := Lib.hid hat_; have HLT1 := Lib.hid hlt_; clear hown_ hgr_ hat_ hlt_)
          refine ⟨⟨D + 1, ys ++ [(D : Int)], by go_num, by omega, ⟨_, rfl⟩, ⟨_, rfl⟩, ⟨ys, HSL.out, .inr ⟨HT_.out, rfl⟩⟩, ?_, gby_new (gby_alloc (gby_trans HG.out HGi.out) _) HQ1.out (fun b hb => by have := own_from HO1.out b hb; omega), ?_, ?_, ?_⟩, by simp [intOf]; omega⟩
          · rw [List.length_append, List.length_singleton, ← HM.out, i64s_append]; exact HP1.out
          · exact fun j hj => HQ1.out.cell ((gby_alloc HGi.out _).cell (HLCr.out j hj) (by simp)) (fun e => HVB.out bl e.symm rfl)
          · have := HQ1.out.size; simp only [World.size_alloc] at this; omega
          · intro i hi
            obtain rfl := Option.some.inj (show some gg1 = some i from hi)
            rcases HAT1.out with h | h
            · exact HVB.out _ h
            · omega
      have hkj : (m : Int) < (nk : Int) := by omega
      cases r
      · go_wp2
        refine ⟨⟨m + 1, false, by go_num, by omega, rfl, ⟨fun q => (by cases q), fun q => HR.out.2 (fun j hj => q j (by omega))⟩, HGi.out⟩, by simp [intOf]; omega⟩
      obtain ⟨n, hn, hnv, hnj⟩ := nums_getD ks m (by have := HNK.out; rw [nums_len] at this; omega)
      have hnk := ((kids_is HP_.out.1 (k : Int)).1 n).1 (by rw [← HKS.out]; exact hn)
      have hnn : n < n0 := by have := hnk.2.1; have := HE.out; omega
      have hni : (n : Int) < (n0 : Int) := by omega
      have hn0_ : (0 : Int) ≤ (n : Int) := by omega
      have htn : ((n : Int)).toNat = n := by omega
      have lc_ := HGi.out.cell (HLCr.out m hlt) (by simp)
      rw [hnv] at lc_
      obtain ⟨x, hx⟩ : ∃ x, x = (nd xs n).f1 := ⟨_, rfl⟩
      have nc_ := (gby_trans HG.out HGi.out).cell (HC.out n hnn).2.1 (by simp)
      rw [← hx] at nc_
      have HX := Lib.hid hx
      have HNJ := Lib.hid hnj
      clear hx hn hnv hnj hnk
      by_cases he : x = (D : Int)
      · have hb : (x == (D : Int)) = true := by simpa using he
        have hb2 : (x != (D : Int)) = false := by simpa using he
        have HE2 := Lib.hid he
        clear he
        go_wp2
        refine ⟨⟨m + 1, false, by go_num, by omega, rfl, ⟨fun q => (by cases q), fun q => absurd (HX.out.symm.trans HE2.out) (q m (by omega) n HNJ.out)⟩, HGi.out⟩, by simp [intOf]; omega⟩
      · have hb : (x == (D : Int)) = false := by simpa using he
        have hb2 : (x != (D : Int)) = true := by simpa using he
        have HE2 := Lib.hid he
        clear he
        go_wp2
        refine ⟨⟨m + 1, true, by go_num, by omega, rfl, ⟨fun _ j hj n' hn' => ?_, fun _ => rfl⟩, HGi.out⟩, by simp [intOf]; omega⟩
        by_cases e : j = m
        · subst e
          obtain rfl : n = n' := Option.some.inj (HNJ.out.symm.trans hn')
          rw [← HX.out]; exact HE2.out
        · exact HR.out.1 (by first | trivial | rfl) j (by omega) n' hn'

set_option maxRecDepth 8000 in
set_option maxHeartbeats 2000000 in
theorem implSlots_no (W : World) (v : Value) (xs : List DNode) (k : Int) (H : RdL shNode W v xs) (hl : szL shNode xs ≤ 1048576) (hp : ¬ NodeP xs k) : Calls Try.prog 37 #[v, .int .i64 k] W (ResISlotsOf [] W) := by
  have HP_ := Lib.hid hp
  clear hp
  have HT := Lib.hid H
  have HL := Lib.hid hl
  obtain ⟨a0, n0, c0, rfl⟩ := RdL.form H
  have hn0 : n0 = xs.length := by obtain ⟨_, _, e, _⟩ := H; injection e
  have HE := Lib.hid hn0
  have hlx : n0 ≤ 1048576 := by have := szL_len shNode xs; omega
  clear H hn0 hl
  go_enter Try.func37, Try.ntmps37
  have rK1_ := Lib.hid (show ((W.alloc (.cells #[.int .i64 k] 3))).heap[W.heap.size]? = some (.cells #[.int .i64 k] 3 (0, 0)) from by exact heap_alloc_new _ _)
  have G2_ := Lib.hid (show (W).grownBy ((W.alloc (.cells #[.int .i64 k] 3))) none from (gby_alloc (gby_refl _ _) _))
  have K_0_ : ((W.alloc (.cells #[.int .i64 k] 3))).cell? ⟨W.heap.size, 0, none⟩ = some (.int .i64 k) := cell_of_row _ _ 0 _ _ _ rK1_.out
  go_wp2_with fail
  go_at_call 52
  refine (implNode_no _ _ xs _ (HT.out.grow G2_.out) HL.out HP_.out).mono ?_
  rintro e w1 ⟨rfl, g⟩
  have szw1 := g.size
  try simp only [World.size_alloc] at szw1
  try simp only [World.size_setCell] at szw1
  clear K_0_
  have rK3_ := Lib.hid (show (w1).heap[W.heap.size]? = some (.cells #[.int .i64 k] 3 (0, 0)) from row_held g rK1_.out)
  clear rK1_
  have G4_ := Lib.hid (show (W).grownBy (w1) none from gby_trans G2_.out g)
  clear g
  have K_0_ : (w1).cell? ⟨W.heap.size, 0, none⟩ = some (.int .i64 k) := cell_of_row _ _ 0 _ _ _ rK3_.out
  go_wp2
  go_ret
  exact ⟨_, rfl, OwU.one owL_nil, G4_.out⟩

set_option maxRecDepth 8000 in
set_option maxHeartbeats 2000000 in
theorem implSlots_dev (W : World) (v : Value) (xs : List DNode) (k : Nat) (H : RdL shNode W v xs) (hl : szL shNode xs ≤ 1048576) (hp : NodeP xs (k : Int)) (hf : ¬ (nd xs k).f2 = 0) : Calls Try.prog 37 #[v, .int .i64 (k : Int)] W (ResISlotsOf [] W) := by
  have HP_ := Lib.hid hp
  clear hp
  have HT := Lib.hid H
  have HL := Lib.hid hl
  have HMX := Lib.hid H.max
  obtain ⟨a0, c0, rfl, hcap, hi⟩ := rdN_in H
  obtain ⟨n0, hlen⟩ : ∃ n, n = xs.length := ⟨_, rfl⟩
  have HE := Lib.hid hlen
  unfold RdN at hi
  rw [← hlen] at hi HT ⊢
  have HA := Lib.hid hi
  have hlx : n0 ≤ 1048576 := by have := szL_len shNode xs; omega
  clear H hi hlen hl hcap
  have hkn : (k : Int) < (n0 : Int) := by have := HE.out; have := HP_.out.2.2; omega
  have hk0 : (0 : Int) ≤ (k : Int) := by omega
  have htk : ((k : Int)).toNat = k := by omega
  obtain ⟨b, off, rfl, hcell⟩ := HA.out.resolve_left (by omega)
  have HC := Lib.hid hcell
  clear hcell
  obtain ⟨y, hy⟩ : ∃ y, y = nd xs k := ⟨_, rfl⟩
  have hyc := HC.out k (by omega)
  rw [← hy] at hyc
  have HY0 := Lib.hid hyc.1
  have HY1 := Lib.hid hyc.2.1
  have HY2 := Lib.hid hyc.2.2
  rw [← hy] at hf
  clear hyc hy
  obtain ⟨y0, y1, y2⟩ := y
  dsimp only at HY0 HY1 HY2 hf
  go_enter Try.func37, Try.ntmps37
  have rK1_ := Lib.hid (show ((W.alloc (.cells #[.int .i64 (k : Int)] 3))).heap[W.heap.size]? = some (.cells #[.int .i64 (k : Int)] 3 (0, 0)) from by exact heap_alloc_new _ _)
  have G2_ := Lib.hid (show (W).grownBy ((W.alloc (.cells #[.int .i64 (k : Int)] 3))) none from (gby_alloc (gby_refl _ _) _))
  have K_0_ : ((W.alloc (.cells #[.int .i64 (k : Int)] 3))).cell? ⟨W.heap.size, 0, none⟩ = some (.int .i64 (k : Int)) := cell_of_row _ _ 0 _ _ _ rK1_.out
  have y0_ := (G2_.out).cell HY0.out (by simp)
  have y1_ := (G2_.out).cell HY1.out (by simp)
  have y2_ := (G2_.out).cell HY2.out (by simp)
  go_wp2_with fail
  go_at_call 52
  refine (implNode_yes _ _ xs _ (HT.out.grow G2_.out) HL.out HP_.out).mono ?_
  rintro e w1 ⟨rfl, g⟩
  have szw1 := g.size
  try simp only [World.size_alloc] at szw1
  try simp only [World.size_setCell] at szw1
  clear K_0_ y0_ y1_ y2_
  have rK3_ := Lib.hid (show (w1).heap[W.heap.size]? = some (.cells #[.int .i64 (k : Int)] 3 (0, 0)) from row_held g rK1_.out)
  clear rK1_
  have G4_ := Lib.hid (show (W).grownBy (w1) none from gby_trans G2_.out g)
  clear g
  have K_0_ : (w1).cell? ⟨W.heap.size, 0, none⟩ = some (.int .i64 (k : Int)) := cell_of_row _ _ 0 _ _ _ rK3_.out
  have y0_ := (G4_.out).cell HY0.out (by simp)
  have y1_ := (G4_.out).cell HY1.out (by simp)
  have y2_ := (G4_.out).cell HY2.out (by simp)
  go_wp2_with fail
  go_at_call 64
  refine (bridge_no _ _ _ _ (by omega)).mono ?_
  rintro e w2 ⟨rfl, g⟩
  have szw2 := g.size
  try simp only [World.size_alloc] at szw2
  try simp only [World.size_setCell] at szw2
  clear K_0_ y0_ y1_ y2_
  have rK5_ := Lib.hid (show (w2).heap[W.heap.size]? = some (.cells #[.int .i64 (k : Int)] 3 (0, 0)) from row_held g rK3_.out)
  clear rK3_
  have G6_ := Lib.hid (show (W).grownBy (w2) none from gby_trans G4_.out g)
  clear g
  have K_0_ : (w2).cell? ⟨W.heap.size, 0, none⟩ = some (.int .i64 (k : Int)) := cell_of_row _ _ 0 _ _ _ rK5_.out
  have y0_ := (G6_.out).cell HY0.out (by simp)
  have y1_ := (G6_.out).cell HY1.out (by simp)
  have y2_ := (G6_.out).cell HY2.out (by simp)
  go_wp2
  go_ret
  exact ⟨_, rfl, OwU.one owL_nil, G6_.out⟩

set_option maxRecDepth 8000 in
set_option maxHeartbeats 4000000 in
theorem implSlots_yes (W : World) (v : Value) (xs : List DNode) (k : Nat) (H : RdL shNode W v xs) (hl : szL shNode xs ≤ 1048576) (hp : NodeP xs (k : Int)) (hf : (nd xs k).f2 = 0) (ys0 : List Int) (hys : SlotIs xs (k : Int) 4 ys0) : Calls Try.prog 37 #[v, .int .i64 (k : Int)] W (ResISlotsOf ys0 W) := by
  have HP_ := Lib.hid hp
  have HYS := Lib.hid hys
  clear hp hys
  obtain ⟨i1_, hi1_, hz0_, hz1_, hz2_⟩ := info_parts infoInt
  have HT := Lib.hid H
  have HL := Lib.hid hl
  have HMX := Lib.hid H.max
  obtain ⟨a0, c0, rfl, hcap, hi⟩ := rdN_in H
  obtain ⟨n0, hlen⟩ : ∃ n, n = xs.length := ⟨_, rfl⟩
  have HE := Lib.hid hlen
  unfold RdN at hi
  rw [← hlen] at hi HT ⊢
  have HA := Lib.hid hi
  have hlx : n0 ≤ 1048576 := by have := szL_len shNode xs; omega
  clear H hi hlen hl hcap
  have hkn : (k : Int) < (n0 : Int) := by have := HE.out; have := HP_.out.2.2; omega
  have hk0 : (0 : Int) ≤ (k : Int) := by omega
  have htk : ((k : Int)).toNat = k := by omega
  obtain ⟨b, off, rfl, hcell⟩ := HA.out.resolve_left (by omega)
  have HC := Lib.hid hcell
  clear hcell
  obtain ⟨y, hy⟩ : ∃ y, y = nd xs k := ⟨_, rfl⟩
  have hyc := HC.out k (by omega)
  rw [← hy] at hyc
  have HY0 := Lib.hid hyc.1
  have HY1 := Lib.hid hyc.2.1
  have HY2 := Lib.hid hyc.2.2
  rw [← hy] at hf
  clear hyc hy
  obtain ⟨y0, y1, y2⟩ := y
  dsimp only at HY0 HY1 HY2 hf
  have HF0 := Lib.hid hf
  clear hf
  go_enter Try.func37, Try.ntmps37
  have rK1_ := Lib.hid (show ((W.alloc (.cells #[.int .i64 (k : Int)] 3))).heap[W.heap.size]? = some (.cells #[.int .i64 (k : Int)] 3 (0, 0)) from by exact heap_alloc_new _ _)
  have G2_ := Lib.hid (show (W).grownBy ((W.alloc (.cells #[.int .i64 (k : Int)] 3))) none from (gby_alloc (gby_refl _ _) _))
  have K_0_ : ((W.alloc (.cells #[.int .i64 (k : Int)] 3))).cell? ⟨W.heap.size, 0, none⟩ = some (.int .i64 (k : Int)) := cell_of_row _ _ 0 _ _ _ rK1_.out
  have y0_ := (G2_.out).cell HY0.out (by simp)
  have y1_ := (G2_.out).cell HY1.out (by simp)
  have y2_ := (G2_.out).cell HY2.out (by simp)
  go_wp2_with fail
  go_at_call 52
  refine (implNode_yes _ _ xs _ (HT.out.grow G2_.out) HL.out HP_.out).mono ?_
  rintro e w1 ⟨rfl, g⟩
  have szw1 := g.size
  try simp only [World.size_alloc] at szw1
  try simp only [World.size_setCell] at szw1
  clear K_0_ y0_ y1_ y2_
  have rK3_ := Lib.hid (show (w1).heap[W.heap.size]? = some (.cells #[.int .i64 (k : Int)] 3 (0, 0)) from row_held g rK1_.out)
  clear rK1_
  have G4_ := Lib.hid (show (W).grownBy (w1) none from gby_trans G2_.out g)
  clear g
  have K_0_ : (w1).cell? ⟨W.heap.size, 0, none⟩ = some (.int .i64 (k : Int)) := cell_of_row _ _ 0 _ _ _ rK3_.out
  have y0_ := (G4_.out).cell HY0.out (by simp)
  have y1_ := (G4_.out).cell HY1.out (by simp)
  have y2_ := (G4_.out).cell HY2.out (by simp)
  go_wp2_with fail
  go_at_call 64
  refine (bridge_yes _ _ _ _ HF0.out).mono ?_
  rintro e w2 ⟨rfl, g⟩
  have szw2 := g.size
  try simp only [World.size_alloc] at szw2
  try simp only [World.size_setCell] at szw2
  clear K_0_ y0_ y1_ y2_
  have rK5_ := Lib.hid (show (w2).heap[W.heap.size]? = some (.cells #[.int .i64 (k : Int)] 3 (0, 0)) from row_held g rK3_.out)
  clear rK3_
  have G6_ := Lib.hid (show (W).grownBy (w2) none from gby_trans G4_.out g)
  clear g
  have K_0_ : (w2).cell? ⟨W.heap.size, 0, none⟩ = some (.int .i64 (k : Int)) := cell_of_row _ _ 0 _ _ _ rK5_.out
  have y0_ := (G6_.out).cell HY0.out (by simp)
  have y1_ := (G6_.out).cell HY1.out (by simp)
  have y2_ := (G6_.out).cell HY2.out (by simp)
  clear K_0_ y0_ y1_ y2_
  have K_0_ : (w2).cell? ⟨W.heap.size, 0, none⟩ = some (.int .i64 (k : Int)) := cell_of_row _ _ 0 _ _ _ rK5_.out
  have HTM7_ := Lib.hid (gby_refl (w2) none)
  have MG8_ := Lib.hid (show (W).grownBy (w2) none from G6_.out)
  have MR9_ := Lib.hid rK5_.out
  go_wp2
  go_loopw [5, 6, 7, 20] (fun v p t i wr => ∃ (D : Nat) (ys : List Int), i = .int .i64 (D : Int) ∧ D ≤ 4 ∧ (∃ q, p = q) ∧ (∃ q, t = q) ∧ SlotIs xs (k : Int) D ys ∧ wr.ownsRow (w2.heap.size) 3 1 v ys.length (i64s ys) ∧ (w2).grownBy wr none) (fun _ _ _ i _ => 4 - (intOf i).toNat)
  case atStart => exact ⟨0, [], rfl, by omega, ⟨_, rfl⟩, ⟨_, rfl⟩, rfl, World.ownsRow_nil _ _ _ _, HTM7_.out⟩
  case round =>
    clear K_0_
    clear rK5_
    clear HTM7_
    obtain ⟨D, ys, rfl, hD, ⟨p, rfl⟩, ⟨t, rfl⟩, hsl, hown, hg⟩ := hrel
    have szr_ := hg.size
    try simp only [World.size_alloc, World.size_setCell] at szr_
    have G10_ := Lib.hid (show (W).grownBy (wr) none from gby_trans MG8_.out hg)
    have rK11_ := Lib.hid (show (wr).heap[W.heap.size]? = some (.cells #[.int .i64 (k : Int)] 3 (0, 0)) from row_held hg MR9_.out)
    have HTM12_ := Lib.hid hg
    clear hg
    have K_0_ : (wr).cell? ⟨W.heap.size, 0, none⟩ = some (.int .i64 (k : Int)) := cell_of_row _ _ 0 _ _ _ rK11_.out
    have HSL := Lib.hid hsl
    have HO := Lib.hid hown
    clear hsl hown
    have hD0 : (0 : Int) ≤ (D : Int) := by omega
    have htD : ((D : Int)).toNat = D := by omega
    have hyl := slotIs_len HSL.out
    by_cases hlD : D < 4
    rotate_left
    · obtain rfl : D = 4 := by omega
      have hki : ¬ (4 : Int) < 4 := by omega
      obtain rfl : ys = ys0 := slotIs_one HSL.out HYS.out
      go_wp2
      go_ret
      exact ⟨_, rfl, OwU.one (OwL.wide (owI_out (by omega) (owI_row HO.out)) (by have := gby_size MG8_.out; omega) (Nat.le_refl _)), G10_.out⟩
    have hki : (D : Int) < 4 := by omega
    have HTR13_ := Lib.hid (gby_refl (wr) none)
    have MG14_ := Lib.hid (show (W).grownBy (wr) none from G10_.out)
    have MR15_ := Lib.hid rK11_.out
    clear K_0_
    have al_ : (wr).grownBy ((wr).alloc (.cells #[.int .i64 (D : Int)] 3)) none := gby_alloc (gby_refl _ _) _
    have rK16_ := Lib.hid (show ((wr.alloc (.cells #[.int .i64 (D : Int)] 3))).heap[W.heap.size]? = some (.cells #[.int .i64 (k : Int)] 3 (0, 0)) from row_held al_ rK11_.out)
    clear rK11_
    have G17_ := Lib.hid (show (W).grownBy ((wr.alloc (.cells #[.int .i64 (D : Int)] 3))) none from gby_trans G10_.out al_)
    have HTM18_ := Lib.hid (show (w2).grownBy ((wr.alloc (.cells #[.int .i64 (D : Int)] 3))) none from gby_trans HTM12_.out al_)
    clear HTM12_
    have HTR19_ := Lib.hid (show (wr).grownBy ((wr.alloc (.cells #[.int .i64 (D : Int)] 3))) none from gby_trans HTR13_.out al_)
    clear HTR13_
    have rD20_ := Lib.hid (show ((wr.alloc (.cells #[.int .i64 (D : Int)] 3))).heap[wr.heap.size]? = some (.cells #[.int .i64 (D : Int)] 3 (0, 0)) from by first | exact heap_alloc_new _ _ | exact heap_pair _ _ _ | exact heap_trip _ _ _ _)
    clear al_
    have K_0_ : ((wr.alloc (.cells #[.int .i64 (D : Int)] 3))).cell? ⟨W.heap.size, 0, none⟩ = some (.int .i64 (k : Int)) := cell_of_row _ _ 0 _ _ _ rK16_.out
    have D_0_ : ((wr.alloc (.cells #[.int .i64 (D : Int)] 3))).cell? ⟨wr.heap.size, 0, none⟩ = some (.int .i64 (D : Int)) := cell_of_row _ _ 0 _ _ _ rD20_.out
    have HM_ := Lib.hid (show RdNm ((wr.alloc (.cells #[.int .i64 (D : Int)] 3))) (some ⟨b, off, none⟩) n0 xs from .inr ⟨b, off, rfl, fun j hj => ⟨(G17_.out).cell (HC.out j hj).1 (by simp), (G17_.out).cell (HC.out j hj).2.1 (by simp), (G17_.out).cell (HC.out j hj).2.2 (by simp)⟩⟩)
    go_wp2_with fail
    go_at_call 65
    refine (contains_same2 _ _ n0 _ xs HM_.out (by omega) (k : Int) (D : Int) _ _ rK16_.out rD20_.out).mono ?_
    rintro e w3 ⟨r, rfl, hr, g⟩
    have szw3 := g.size
    try simp only [World.size_alloc] at szw3
    clear K_0_ D_0_
    have rK21_ := Lib.hid (show (w3).heap[W.heap.size]? = some (.cells #[.int .i64 (k : Int)] 3 (0, 0)) from row_held g rK16_.out)
    clear rK16_
    have rD22_ := Lib.hid (show (w3).heap[wr.heap.size]? = some (.cells #[.int .i64 (D : Int)] 3 (0, 0)) from row_held g rD20_.out)
    clear rD20_
    have G23_ := Lib.hid (show (W).grownBy (w3) none from gby_trans G17_.out g)
    have HTM24_ := Lib.hid (show (w2).grownBy (w3) none from gby_trans HTM18_.out g)
    clear HTM18_
    have HTR25_ := Lib.hid (show (wr).grownBy (w3) none from gby_trans HTR19_.out g)
    clear HTR19_
    clear g
    have K_0_ : (w3).cell? ⟨W.heap.size, 0, none⟩ = some (.int .i64 (k : Int)) := cell_of_row _ _ 0 _ _ _ rK21_.out
    have D_0_ : (w3).cell? ⟨wr.heap.size, 0, none⟩ = some (.int .i64 (D : Int)) := cell_of_row _ _ 0 _ _ _ rD22_.out
    have HR : Hid (r = true ↔ Taken xs (k : Int) (D : Int)) := Lib.hid (hr.trans (by unfold Taken; rw [HE.out]))
    clear hr
    cases r
    · have HT_ : Hid (¬ Taken xs (k : Int) (D : Int)) := Lib.hid (fun q => by have := HR.out.2 q; cases this)
      clear HR
      obtain ⟨m1, hm1⟩ : ∃ q, q = ys.length := ⟨_, rfl⟩
      have HO1 := Lib.hid (show w3.ownsRow (w2.heap.size) 3 1 _ m1 (i64s ys) from by rw [hm1]; exact HO.out.grown HTR25_.out)
      have hb1 : m1 ≤ 4 := by omega
      have HM := Lib.hid hm1
      clear hm1
      have hbs_ := gby_size HTM24_.out
      go_wp2_with (at_builtin; refine wpList_append_lies _ (by rfl) _ _ _ (by rfl) (w2.heap.size) 3 i1_ _ 1 8 Try.underlying24 hi1_ hz0_ hz1_ hz2_ rfl (by omega) _ m1 (i64s ys) (by rfl) (HO1.out.alloc _) ⟨w3.heap.size, 0, none⟩ 1 1 _ (by rfl) (by rfl) (World.news_of_block (t := 3) (fr := (0, 0)) (heap_alloc_new w3 _)) (by simp [Value.oneCell']) (by omega) (by unfold maxLen; omega) (by omega) (by first | (simp; omega) | simp) (w3.heap.size + 1) (by simp) ?_; intro gg1 cap1 wa1 hown_ hgr_ hat_ hlt_; have HP1 := Lib.hid hown_; have HQ1 := Lib.hid hgr_; have HAT1 := Lib.hid hat_; have HLT1 := Lib.hid hlt_; clear hown_ hgr_ hat_ hlt_)
      refine ⟨⟨D + 1, ys ++ [(D : Int)], by go_num, by omega, ⟨_, rfl⟩, ⟨_, rfl⟩, ⟨ys, HSL.out, .inr ⟨HT_.out, rfl⟩⟩, ?_, gby_new (gby_alloc HTM24_.out _) HQ1.out (fun b hb => own_from HO1.out b hb)⟩, by simp [intOf]; omega⟩
      rw [List.length_append, List.length_singleton, ← HM.out, i64s_append]; exact HP1.out
    · have HT_ : Hid (Taken xs (k : Int) (D : Int)) := Lib.hid (HR.out.1 (by first | trivial | rfl))
      clear HR
      go_wp2
      refine ⟨⟨D + 1, ys, by go_num, by omega, ⟨_, rfl⟩, ⟨_, rfl⟩, ⟨ys, HSL.out, .inl ⟨HT_.out, rfl⟩⟩, HO.out.grown HTR25_.out, HTM24_.out⟩, by simp [intOf]; omega⟩

/-- what SlotsOf answers with -/
def SlotL (xs : List DNode) (k : Int) (ys : List Int) : Prop := (BridgeP xs k ∧ SlotIs xs k 4 ys) ∨ (¬ BridgeP xs k ∧ ys = [])
theorem slotL_ex (xs : List DNode) (k : Int) : ∃ ys, SlotL xs k ys := by
  by_cases h : BridgeP xs k
  · obtain ⟨ys, hy⟩ := slotIs_ex xs k 4
    exact ⟨ys, .inl ⟨h, hy⟩⟩
  · exact ⟨_, .inr ⟨h, rfl⟩⟩
theorem slotL_len {xs : List DNode} {k : Int} {ys : List Int} (h : SlotL xs k ys) : ys.length ≤ 4 := by
  rcases h with ⟨_, h⟩ | ⟨_, rfl⟩
  · exact slotIs_len h
  · simp
theorem specSlots_any (W : World) (v : Value) (xs : List DNode) (k : Int) (H : RdL shNode W v xs) (hl : szL shNode xs ≤ 1048576) (ys : List Int) (h : SlotL xs k ys) : Calls Try.prog 36 #[v, .int .i64 k] W (ResISlotsOf ys W) := by
  rcases h with ⟨⟨h1, h2⟩, h3⟩ | ⟨h1, rfl⟩
  · obtain ⟨n, rfl⟩ : ∃ n : Nat, k = (n : Int) := ⟨k.toNat, by have := h1.2.1; omega⟩
    by_cases he : kidsN xs (n : Int) 4 = []
    · exact specSlots_e W v xs n H hl h1 h2 he ys h3
    · exact specSlots_n W v xs n H hl h1 h2 he ys h3
  · by_cases hn : NodeP xs k
    · obtain ⟨n, rfl⟩ : ∃ n : Nat, k = (n : Int) := ⟨k.toNat, by have := hn.2.1; omega⟩
      exact specSlots_dev W v xs n H hl hn (fun q => h1 ⟨hn, q⟩)
    · exact specSlots_no W v xs k H hl hn

theorem implSlots_any (W : World) (v : Value) (xs : List DNode) (k : Int) (H : RdL shNode W v xs) (hl : szL shNode xs ≤ 1048576) (ys : List Int) (h : SlotL xs k ys) : Calls Try.prog 37 #[v, .int .i64 k] W (ResISlotsOf ys W) := by
  rcases h with ⟨⟨h1, h2⟩, h3⟩ | ⟨h1, rfl⟩
  · obtain ⟨n, rfl⟩ : ∃ n : Nat, k = (n : Int) := ⟨k.toNat, by have := h1.2.1; omega⟩
    exact implSlots_yes W v xs n H hl h1 h2 ys h3
  · by_cases hn : NodeP xs k
    · obtain ⟨n, rfl⟩ : ∃ n : Nat, k = (n : Int) := ⟨k.toNat, by have := hn.2.1; omega⟩
      exact implSlots_dev W v xs n H hl hn (fun q => h1 ⟨hn, q⟩)
    · exact implSlots_no W v xs k H hl hn

theorem slotsOf_both (xs0 : List DNode) (i1 : Int) (h0 : szL shNode xs0 ≤ 1048576) : ∃ (xsr0 : List Int), szL shI xsr0 ≤ 1048576 ∧ (∀ (W : World), ∀ u0, RdL shNode W u0 xs0 → Calls Try.prog 36 #[u0, .int .i64 i1] W (ResSSlotsOf xsr0 W)) ∧ ∀ (W : World), ∀ u0, RdL shNode W u0 xs0 → Calls Try.prog 37 #[u0, .int .i64 i1] W (ResISlotsOf xsr0 W) := by
  obtain ⟨ys, hy⟩ := slotL_ex xs0 i1
  exact ⟨ys, by rw [szL_I]; have := slotL_len hy; omega, fun W u H => (specSlots_any W u xs0 i1 H h0 ys hy).mono (fun e w q => resS_ofSlotsOf e w q), fun W u H => implSlots_any W u xs0 i1 H h0 ys hy⟩

end Go.Proofs.Ytodfbodagjmfmab
