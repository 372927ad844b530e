/-
  The frame that is acknowledged: found by the program; the method takeAck.
-/
import Derived.Test.YtcenngekjopjpaaSndCpI
namespace Go.Proofs.Ytcenngekjopjpaa
open Go Go.RowKit
set_option linter.unusedVariables false

/-- the first frame of this number -/
def AckAt (xs : List DFrame) (seq : Int) (q : Nat) : Prop := q < xs.length ∧ (fr xs q).f0 = seq ∧ ∀ j, j < q → (fr xs j).f0 ≠ seq
def NoAck (xs : List DFrame) (seq : Int) : Prop := ∀ j, j < xs.length → (fr xs j).f0 ≠ seq
theorem ack_ex (xs : List DFrame) (seq : Int) : (∃ q, AckAt xs seq q) ∨ NoAck xs seq := by
  have key : ∀ n, (∃ q, q < n ∧ (fr xs q).f0 = seq ∧ ∀ j, j < q → (fr xs j).f0 ≠ seq) ∨ ∀ j, j < n → (fr xs j).f0 ≠ seq := by
    intro n
    induction n with
    | zero => exact .inr (fun j hj => absurd hj (Nat.not_lt_zero _))
    | succ n ih =>
      rcases ih with ⟨q, h1, h2, h3⟩ | h
      · exact .inl ⟨q, by omega, h2, h3⟩
      · by_cases e : (fr xs n).f0 = seq
        · exact .inl ⟨n, by omega, e, h⟩
        · refine .inr (fun j hj => ?_)
          by_cases ej : j = n
          · subst ej; exact e
          · exact h j (by omega)
  exact key xs.length

set_option maxHeartbeats 1000000 in
theorem ackClo_yes (W : World) (f0 : Int) (v1 : Value) (seq : Int) (gs : Nat) (hb : W.heap[gs]? = some (.cells #[.int .i64 seq] 3 (0, 0))) (h : f0 = seq) : Calls Try.prog 57 #[.agg #[.int .i64 f0, v1], .pointer (some ⟨gs, 0, none⟩)] W (AnsN (.bool true) W) := by
  have HB := Lib.hid hb
  clear hb
  subst h
  go_enter Try.func57, Try.ntmps57
  have rA1_ := Lib.hid (show ((W.alloc (.cells #[.int .i64 f0, v1] 37))).heap[W.heap.size]? = some (.cells #[.int .i64 f0, v1] 37 (0, 0)) from by exact heap_alloc_new _ _)
  have G2_ := Lib.hid (show (W).grownBy ((W.alloc (.cells #[.int .i64 f0, v1] 37))) none from (gby_alloc (gby_refl _ _) _))
  have A_0_ : ((W.alloc (.cells #[.int .i64 f0, v1] 37))).cell? ⟨W.heap.size, 0, none⟩ = some (.int .i64 f0) := cell_of_row _ _ 0 _ _ _ rA1_.out
  have A_1_ : ((W.alloc (.cells #[.int .i64 f0, v1] 37))).cell? ⟨W.heap.size, 1, none⟩ = some (v1) := cell_of_row _ _ 1 _ _ _ rA1_.out
  have hq_ := row_held G2_.out HB.out
  have q0_ := cell_of_row _ _ 0 _ _ _ hq_
  go_wp2
  go_ret
  exact ⟨rfl, G2_.out⟩

set_option maxHeartbeats 1000000 in
theorem ackClo_no (W : World) (f0 : Int) (v1 : Value) (seq : Int) (gs : Nat) (hb : W.heap[gs]? = some (.cells #[.int .i64 seq] 3 (0, 0))) (h : f0 ≠ seq) : Calls Try.prog 57 #[.agg #[.int .i64 f0, v1], .pointer (some ⟨gs, 0, none⟩)] W (AnsN (.bool false) W) := by
  have HB := Lib.hid hb
  clear hb
  have hb_ : (f0 == seq) = false := by simpa using h
  clear h
  go_enter Try.func57, Try.ntmps57
  have rA1_ := Lib.hid (show ((W.alloc (.cells #[.int .i64 f0, v1] 37))).heap[W.heap.size]? = some (.cells #[.int .i64 f0, v1] 37 (0, 0)) from by exact heap_alloc_new _ _)
  have G2_ := Lib.hid (show (W).grownBy ((W.alloc (.cells #[.int .i64 f0, v1] 37))) none from (gby_alloc (gby_refl _ _) _))
  have A_0_ : ((W.alloc (.cells #[.int .i64 f0, v1] 37))).cell? ⟨W.heap.size, 0, none⟩ = some (.int .i64 f0) := cell_of_row _ _ 0 _ _ _ rA1_.out
  have A_1_ : ((W.alloc (.cells #[.int .i64 f0, v1] 37))).cell? ⟨W.heap.size, 1, none⟩ = some (v1) := cell_of_row _ _ 1 _ _ _ rA1_.out
  have hq_ := row_held G2_.out HB.out
  have q0_ := cell_of_row _ _ 0 _ _ _ hq_
  go_wp2
  go_ret
  exact ⟨rfl, G2_.out⟩

set_option maxRecDepth 8000 in
set_option maxHeartbeats 2000000 in
theorem ackIdx_hit (W : World) (a0 : Option Addr) (n0 cap0 : Nat) (xs : List DFrame) (H : RdL shFrame W (.slice a0 n0 cap0) xs) (hl : szL shFrame xs ≤ 1048576) (seq : Int) (gs : Nat) (hb : W.heap[gs]? = some (.cells #[.int .i64 seq] 3 (0, 0))) (q : Nat) (hq : AckAt xs seq q) : Calls Try.prog 56 #[.slice a0 n0 cap0, .func (.func 57) #[] #[.pointer (some ⟨gs, 0, none⟩)]] W (AnsN (.int .i64 (q : Int)) W) := by
  have HQ := Lib.hid hq
  have hq1_ := hq.1
  clear hq
  have HS := Lib.hid hl
  have HB := Lib.hid hb
  obtain ⟨a0, cap0, e_, hcap, _, H⟩ := H
  injection e_ with e1_ e2_ e3_
  subst e1_ e3_
  have HC := Lib.hid H
  have HE := Lib.hid e2_
  have hlx : n0 ≤ 1048576 := by have := szL_len shFrame xs; omega
  rw [← HE.out] at HC
  clear H hcap hl e2_ hb
  have hqn_ : q < n0 := by have := HE.out; omega
  go_enter Try.func56, Try.ntmps56
  go_wp2
  go_loopw [5, 8] (fun z i wr => ∃ k : Nat, k ≤ q ∧ (∃ z0, z = z0) ∧ i = .int .i64 (k : Int) ∧ (W).grownBy wr none) (fun _ i _ => n0 - (intOf i).toNat)
  case atStart => exact ⟨0, by omega, ⟨_, rfl⟩, rfl, gby_refl _ _⟩
  case round =>
    obtain ⟨k, hk, ⟨z, rfl⟩, rfl, hg⟩ := hrel
    have szrwr := hg.size
    try simp only [World.size_alloc] at szrwr
    try simp only [World.size_setCell] at szrwr
    have szr_ := szrwr
    have G1_ := Lib.hid (show (W).grownBy (wr) none from gby_trans (gby_refl _ _) hg)
    have HTB_ := Lib.hid hg
    clear hg
    have hk0 : (0 : Int) ≤ (k : Int) := by omega
    have htk : ((k : Int)).toNat = k := by omega
    by_cases hlt : k < q
    · skip
      have hki : (k : Int) < (n0 : Int) := by omega
      obtain ⟨ab, ao, rfl, hcell_⟩ := HC.out.resolve_left (by omega)
      have HCE := Lib.hid hcell_
      clear hcell_
      have hq_ : k < n0 := by omega
      obtain ⟨cs_, hat_, hrd_⟩ := HCE.out k (by omega)
      obtain ⟨xk, hx_⟩ : ∃ x, x = xs.getD k default := ⟨_, rfl⟩
      rw [← hx_] at hrd_
      have hzk_ : szL shI xk.f1 ≤ 1048576 := by have q1 := szL_at shFrame xs k (by have := HE.out; omega); rw [← hx_] at q1; exact Nat.le_trans q1 HS.out
      have HXk := Lib.hid (show xk = fr xs k from hx_)
      obtain ⟨v1_, rfl, r1_⟩ := hrd_
      obtain ⟨pk, nk, ck, hv_⟩ := RdL.form r1_
      subst hv_
      have Rk := Lib.hid r1_
      have HEk0 := Lib.hid (show W.cell? ⟨ab, ao + k * 2, none⟩ = some (.int .i64 xk.f0) from at_cell (j := 0) hat_ rfl)
      have HEk1 := Lib.hid (show W.cell? ⟨ab, ao + k * 2 + 1, none⟩ = some (.slice pk nk ck) from at_cell (j := 1) hat_ rfl)
      clear hat_ r1_ hx_ hq_
      have ek0_ := (G1_.out).cell HEk0.out (by simp)
      have ek1_ := (G1_.out).cell HEk1.out (by simp)
      have HGS := Lib.hid (row_held G1_.out HB.out)
      go_wp2_with fail
      go_at_call 57
      refine (ackClo_no _ _ _ _ _ HGS.out (by rw [HXk.out]; exact HQ.out.2.2 k hlt)).mono ?_
      rintro e w1 ⟨rfl, g⟩
      have szw1 := g.size
      try simp only [World.size_alloc] at szw1
      try simp only [World.size_setCell] at szw1
      clear ek0_ ek1_
      have G2_ := Lib.hid (show (W).grownBy (w1) none from gby_trans G1_.out g)
      have HTB3_ := Lib.hid (show (W).grownBy (w1) none from gby_trans HTB_.out g)
      clear HTB_
      clear g
      have ek0_ := (G2_.out).cell HEk0.out (by simp)
      have ek1_ := (G2_.out).cell HEk1.out (by simp)
      go_wp2
      refine ⟨⟨k + 1, by omega, ⟨_, rfl⟩, by go_num, HTB3_.out⟩, by simp [intOf]; omega⟩
    · obtain rfl : k = q := by omega
      have hki : (k : Int) < (n0 : Int) := by omega
      obtain ⟨ab, ao, rfl, hcell_⟩ := HC.out.resolve_left (by omega)
      have HCE := Lib.hid hcell_
      clear hcell_
      have hq_ : k < n0 := by have := HQ.out.1; have := HE.out; omega
      obtain ⟨cs_, hat_, hrd_⟩ := HCE.out k (by omega)
      obtain ⟨xk, hx_⟩ : ∃ x, x = xs.getD k default := ⟨_, rfl⟩
      rw [← hx_] at hrd_
      have hzk_ : szL shI xk.f1 ≤ 1048576 := by have q1 := szL_at shFrame xs k (by have := HE.out; omega); rw [← hx_] at q1; exact Nat.le_trans q1 HS.out
      have HXk := Lib.hid (show xk = fr xs k from hx_)
      obtain ⟨v1_, rfl, r1_⟩ := hrd_
      obtain ⟨pk, nk, ck, hv_⟩ := RdL.form r1_
      subst hv_
      have Rk := Lib.hid r1_
      have HEk0 := Lib.hid (show W.cell? ⟨ab, ao + k * 2, none⟩ = some (.int .i64 xk.f0) from at_cell (j := 0) hat_ rfl)
      have HEk1 := Lib.hid (show W.cell? ⟨ab, ao + k * 2 + 1, none⟩ = some (.slice pk nk ck) from at_cell (j := 1) hat_ rfl)
      clear hat_ r1_ hx_ hq_
      have ek0_ := (G1_.out).cell HEk0.out (by simp)
      have ek1_ := (G1_.out).cell HEk1.out (by simp)
      have HGS := Lib.hid (row_held G1_.out HB.out)
      go_wp2_with fail
      go_at_call 57
      refine (ackClo_yes _ _ _ _ _ HGS.out (by rw [HXk.out]; exact HQ.out.2.1)).mono ?_
      rintro e w1 ⟨rfl, g⟩
      have szw1 := g.size
      try simp only [World.size_alloc] at szw1
      try simp only [World.size_setCell] at szw1
      clear ek0_ ek1_
      have G2_ := Lib.hid (show (W).grownBy (w1) none from gby_trans G1_.out g)
      have HTB3_ := Lib.hid (show (W).grownBy (w1) none from gby_trans HTB_.out g)
      clear HTB_
      clear g
      have ek0_ := (G2_.out).cell HEk0.out (by simp)
      have ek1_ := (G2_.out).cell HEk1.out (by simp)
      go_wp2
      go_ret
      exact ⟨rfl, G2_.out⟩

set_option maxRecDepth 8000 in
set_option maxHeartbeats 2000000 in
theorem ackIdx_miss (W : World) (a0 : Option Addr) (n0 cap0 : Nat) (xs : List DFrame) (H : RdL shFrame W (.slice a0 n0 cap0) xs) (hl : szL shFrame xs ≤ 1048576) (seq : Int) (gs : Nat) (hb : W.heap[gs]? = some (.cells #[.int .i64 seq] 3 (0, 0))) (hq : NoAck xs seq) : Calls Try.prog 56 #[.slice a0 n0 cap0, .func (.func 57) #[] #[.pointer (some ⟨gs, 0, none⟩)]] W (AnsN (.int .i64 (-1)) W) := by
  have HQ := Lib.hid hq
  skip
  clear hq
  have HS := Lib.hid hl
  have HB := Lib.hid hb
  obtain ⟨a0, cap0, e_, hcap, _, H⟩ := H
  injection e_ with e1_ e2_ e3_
  subst e1_ e3_
  have HC := Lib.hid H
  have HE := Lib.hid e2_
  have hlx : n0 ≤ 1048576 := by have := szL_len shFrame xs; omega
  rw [← HE.out] at HC
  clear H hcap hl e2_ hb
  skip
  go_enter Try.func56, Try.ntmps56
  go_wp2
  go_loopw [5, 8] (fun z i wr => ∃ k : Nat, k ≤ n0 ∧ (∃ z0, z = z0) ∧ i = .int .i64 (k : Int) ∧ (W).grownBy wr none) (fun _ i _ => n0 - (intOf i).toNat)
  case atStart => exact ⟨0, by omega, ⟨_, rfl⟩, rfl, gby_refl _ _⟩
  case round =>
    obtain ⟨k, hk, ⟨z, rfl⟩, rfl, hg⟩ := hrel
    have szrwr := hg.size
    try simp only [World.size_alloc] at szrwr
    try simp only [World.size_setCell] at szrwr
    have szr_ := szrwr
    have G1_ := Lib.hid (show (W).grownBy (wr) none from gby_trans (gby_refl _ _) hg)
    have HTB_ := Lib.hid hg
    clear hg
    have hk0 : (0 : Int) ≤ (k : Int) := by omega
    have htk : ((k : Int)).toNat = k := by omega
    by_cases hlt : k < n0
    · skip
      have hki : (k : Int) < (n0 : Int) := by omega
      obtain ⟨ab, ao, rfl, hcell_⟩ := HC.out.resolve_left (by omega)
      have HCE := Lib.hid hcell_
      clear hcell_
      have hq_ : k < n0 := hlt
      obtain ⟨cs_, hat_, hrd_⟩ := HCE.out k (by omega)
      obtain ⟨xk, hx_⟩ : ∃ x, x = xs.getD k default := ⟨_, rfl⟩
      rw [← hx_] at hrd_
      have hzk_ : szL shI xk.f1 ≤ 1048576 := by have q1 := szL_at shFrame xs k (by have := HE.out; omega); rw [← hx_] at q1; exact Nat.le_trans q1 HS.out
      have HXk := Lib.hid (show xk = fr xs k from hx_)
      obtain ⟨v1_, rfl, r1_⟩ := hrd_
      obtain ⟨pk, nk, ck, hv_⟩ := RdL.form r1_
      subst hv_
      have Rk := Lib.hid r1_
      have HEk0 := Lib.hid (show W.cell? ⟨ab, ao + k * 2, none⟩ = some (.int .i64 xk.f0) from at_cell (j := 0) hat_ rfl)
      have HEk1 := Lib.hid (show W.cell? ⟨ab, ao + k * 2 + 1, none⟩ = some (.slice pk nk ck) from at_cell (j := 1) hat_ rfl)
      clear hat_ r1_ hx_ hq_
      have ek0_ := (G1_.out).cell HEk0.out (by simp)
      have ek1_ := (G1_.out).cell HEk1.out (by simp)
      have HGS := Lib.hid (row_held G1_.out HB.out)
      go_wp2_with fail
      go_at_call 57
      refine (ackClo_no _ _ _ _ _ HGS.out (by rw [HXk.out]; exact HQ.out k (by have := HE.out; omega))).mono ?_
      rintro e w1 ⟨rfl, g⟩
      have szw1 := g.size
      try simp only [World.size_alloc] at szw1
      try simp only [World.size_setCell] at szw1
      clear ek0_ ek1_
      have G2_ := Lib.hid (show (W).grownBy (w1) none from gby_trans G1_.out g)
      have HTB3_ := Lib.hid (show (W).grownBy (w1) none from gby_trans HTB_.out g)
      clear HTB_
      clear g
      have ek0_ := (G2_.out).cell HEk0.out (by simp)
      have ek1_ := (G2_.out).cell HEk1.out (by simp)
      go_wp2
      refine ⟨⟨k + 1, by omega, ⟨_, rfl⟩, by go_num, HTB3_.out⟩, by simp [intOf]; omega⟩
    · obtain rfl : k = n0 := by omega
      have hki : ¬ (k : Int) < (k : Int) := by omega
      go_wp2
      go_ret
      exact ⟨rfl, G1_.out⟩

def TaPost (bA gd od n0 q : Nat) (r : Int) (W : World) (e : Ending) (w' : World) : Prop := e = .returned (.bool true) ∧ ∃ (wz : World) (of_ : Nat), W.grownBy wz none ∧ (of_ = od + (q + 1) * 2 ∨ n0 = q + 1) ∧ w' = (wz.setCell ⟨bA, 1, none⟩ (.slice (some ⟨gd, of_, none⟩) (n0 - (q + 1)) (n0 - (q + 1)))).setCell ⟨bA, 2, none⟩ (.int .i64 (max 0 (r - (q : Int) - 1)))

set_option maxRecDepth 8000 in
set_option maxHeartbeats 2000000 in
theorem takeAck_hit (W : World) (bA : Nat) (m r seq : Int) (n0 cd : Nat) (gd od : Nat) (xs : List DFrame) (hba : W.heap[bA]? = some (.cells #[.int .i64 m, .slice (some ⟨gd, od, none⟩) n0 cd, .int .i64 r] 29 (0, 0))) (H : RdL shFrame W (.slice (some ⟨gd, od, none⟩) n0 cd) xs) (hl : szL shFrame xs ≤ 1048576) (hn : n0 = xs.length) (h7 : n0 ≤ 7) (hr0 : 0 ≤ r) (hrn : r ≤ (n0 : Int)) (hcd : n0 ≤ cd) (q : Nat) (hq : AckAt xs seq q) : Calls Try.prog 48 #[.pointer (some ⟨bA, 0, none⟩), .int .i64 seq] W (TaPost bA gd od n0 q r W) := by
  have HBA := Lib.hid hba
  have HX := Lib.hid H
  have HL := Lib.hid hl
  have HQ := Lib.hid hq
  have hqn_ : q < n0 := by have := hq.1; omega
  have hbl_ := lt_of_block hba
  clear hba H hl hq hn
  go_enter Try.func48, Try.ntmps48
  have rQ1_ := Lib.hid (show ((W.alloc (.cells #[.int .i64 seq] 3))).heap[W.heap.size]? = some (.cells #[.int .i64 seq] 3 (0, 0)) from by exact heap_alloc_new _ _)
  have G2_ := Lib.hid (show (W).grownBy ((W.alloc (.cells #[.int .i64 seq] 3))) none from (gby_alloc (gby_refl _ _) _))
  have Q_0_ : ((W.alloc (.cells #[.int .i64 seq] 3))).cell? ⟨W.heap.size, 0, none⟩ = some (.int .i64 seq) := cell_of_row _ _ 0 _ _ _ rQ1_.out
  have rB3_ := Lib.hid (show ((W.alloc (.cells #[.int .i64 seq] 3))).heap[bA]? = some (.cells #[.int .i64 m, .slice (some ⟨gd, od, none⟩) n0 cd, .int .i64 r] 29 (0, 0)) from row_held G2_.out HBA.out)
  clear Q_0_
  have Q_0_ : ((W.alloc (.cells #[.int .i64 seq] 3))).cell? ⟨W.heap.size, 0, none⟩ = some (.int .i64 seq) := cell_of_row _ _ 0 _ _ _ rQ1_.out
  have B_0_ : ((W.alloc (.cells #[.int .i64 seq] 3))).cell? ⟨bA, 0, none⟩ = some (.int .i64 m) := cell_of_row _ _ 0 _ _ _ rB3_.out
  have B_1_ : ((W.alloc (.cells #[.int .i64 seq] 3))).cell? ⟨bA, 1, none⟩ = some (.slice (some ⟨gd, od, none⟩) n0 cd) := cell_of_row _ _ 1 _ _ _ rB3_.out
  have B_2_ : ((W.alloc (.cells #[.int .i64 seq] 3))).cell? ⟨bA, 2, none⟩ = some (.int .i64 r) := cell_of_row _ _ 2 _ _ _ rB3_.out
  go_wp2_with fail
  go_at_call 56
  refine (ackIdx_hit _ _ n0 cd xs (HX.out.grow G2_.out) HL.out seq _ rQ1_.out q HQ.out).mono ?_
  rintro e w1 ⟨rfl, g⟩
  have szw1 := g.size
  try simp only [World.size_alloc] at szw1
  try simp only [World.size_setCell] at szw1
  clear Q_0_ B_0_ B_1_ B_2_
  have rQ4_ := Lib.hid (show (w1).heap[W.heap.size]? = some (.cells #[.int .i64 seq] 3 (0, 0)) from row_held g rQ1_.out)
  clear rQ1_
  have rB5_ := Lib.hid (show (w1).heap[bA]? = some (.cells #[.int .i64 m, .slice (some ⟨gd, od, none⟩) n0 cd, .int .i64 r] 29 (0, 0)) from row_held g rB3_.out)
  clear rB3_
  have G6_ := Lib.hid (show (W).grownBy (w1) none from gby_trans G2_.out g)
  clear g
  have Q_0_ : (w1).cell? ⟨W.heap.size, 0, none⟩ = some (.int .i64 seq) := cell_of_row _ _ 0 _ _ _ rQ4_.out
  have B_0_ : (w1).cell? ⟨bA, 0, none⟩ = some (.int .i64 m) := cell_of_row _ _ 0 _ _ _ rB5_.out
  have B_1_ : (w1).cell? ⟨bA, 1, none⟩ = some (.slice (some ⟨gd, od, none⟩) n0 cd) := cell_of_row _ _ 1 _ _ _ rB5_.out
  have B_2_ : (w1).cell? ⟨bA, 2, none⟩ = some (.int .i64 r) := cell_of_row _ _ 2 _ _ _ rB5_.out
  clear Q_0_ B_0_ B_1_ B_2_
  have B_0_ : (w1).cell? ⟨bA, 0, none⟩ = some (.int .i64 m) := cell_of_row _ _ 0 _ _ _ rB5_.out
  have B_1_ : (w1).cell? ⟨bA, 1, none⟩ = some (.slice (some ⟨gd, od, none⟩) n0 cd) := cell_of_row _ _ 1 _ _ _ rB5_.out
  have B_2_ : (w1).cell? ⟨bA, 2, none⟩ = some (.int .i64 r) := cell_of_row _ _ 2 _ _ _ rB5_.out
  have Bf0_ : (w1).frozen? ⟨bA, 0, none⟩ = false := frozen_of_row _ _ 0 _ _ rB5_.out
  have Bf1_ : (w1).frozen? ⟨bA, 1, none⟩ = false := frozen_of_row _ _ 1 _ _ rB5_.out
  have Bf2_ : (w1).frozen? ⟨bA, 2, none⟩ = false := frozen_of_row _ _ 2 _ _ rB5_.out
  have hq0_ : (0 : Int) ≤ (q : Int) := by omega
  have hq1_ : ¬ (q : Int) < 0 := by omega
  have HW1 := Lib.hid (show IntKind.i64.wrap ((q : Int) + 1) = (q : Int) + 1 from IntWalk.i64_in _ (by omega))
  have hs1_ : (0 : Int) ≤ (q : Int) + 1 := by omega
  have hs2_ : (q : Int) + 1 ≤ (n0 : Int) := by omega
  have hs3_ : (n0 : Int) ≤ (cd : Int) := by omega
  have ht1_ : ((q : Int) + 1).toNat = q + 1 := by omega
  have HW2 := Lib.hid (show IntKind.i64.wrap (r - ((q : Int) + 1)) = r - ((q : Int) + 1) from IntWalk.i64_in _ (by omega))
  have HMX := Lib.hid (show max 0 (r - ((q : Int) + 1)) = max 0 (r - (q : Int) - 1) from by rw [show r - ((q : Int) + 1) = r - (q : Int) - 1 by omega])
  have hw1_ := HW1.out
  have hw2_ := HW2.out
  go_wp2
  all_goals
    clear hw1_ hw2_
    go_ret
    first
      | exact ⟨rfl, w1, od, G6_.out, .inr (by omega), by first | (rw [show max 0 (r - (q : Int) - 1) = 0 by omega]; simp; done) | (rw [show max 0 (r - (q : Int) - 1) = r - ((q : Int) + 1) by omega]; simp; done)⟩
      | exact ⟨rfl, w1, od + (q + 1) * 2, G6_.out, .inl rfl, by first | rw [show max 0 (r - (q : Int) - 1) = 0 by omega] | rw [show max 0 (r - (q : Int) - 1) = r - ((q : Int) + 1) by omega]⟩

set_option maxRecDepth 8000 in
set_option maxHeartbeats 2000000 in
theorem takeAck_miss (W : World) (bA : Nat) (m r seq : Int) (n0 cd : Nat) (pd : Option Addr) (xs : List DFrame) (hba : W.heap[bA]? = some (.cells #[.int .i64 m, .slice pd n0 cd, .int .i64 r] 29 (0, 0))) (H : RdL shFrame W (.slice pd n0 cd) xs) (hl : szL shFrame xs ≤ 1048576) (hq : NoAck xs seq) : Calls Try.prog 48 #[.pointer (some ⟨bA, 0, none⟩), .int .i64 seq] W (AnsN (.bool false) W) := by
  have HBA := Lib.hid hba
  have HX := Lib.hid H
  have HL := Lib.hid hl
  have HQ := Lib.hid hq
  skip
  have hbl_ := lt_of_block hba
  clear hba H hl hq
  go_enter Try.func48, Try.ntmps48
  have rQ1_ := Lib.hid (show ((W.alloc (.cells #[.int .i64 seq] 3))).heap[W.heap.size]? = some (.cells #[.int .i64 seq] 3 (0, 0)) from by exact heap_alloc_new _ _)
  have G2_ := Lib.hid (show (W).grownBy ((W.alloc (.cells #[.int .i64 seq] 3))) none from (gby_alloc (gby_refl _ _) _))
  have Q_0_ : ((W.alloc (.cells #[.int .i64 seq] 3))).cell? ⟨W.heap.size, 0, none⟩ = some (.int .i64 seq) := cell_of_row _ _ 0 _ _ _ rQ1_.out
  have rB3_ := Lib.hid (show ((W.alloc (.cells #[.int .i64 seq] 3))).heap[bA]? = some (.cells #[.int .i64 m, .slice pd n0 cd, .int .i64 r] 29 (0, 0)) from row_held G2_.out HBA.out)
  clear Q_0_
  have Q_0_ : ((W.alloc (.cells #[.int .i64 seq] 3))).cell? ⟨W.heap.size, 0, none⟩ = some (.int .i64 seq) := cell_of_row _ _ 0 _ _ _ rQ1_.out
  have B_0_ : ((W.alloc (.cells #[.int .i64 seq] 3))).cell? ⟨bA, 0, none⟩ = some (.int .i64 m) := cell_of_row _ _ 0 _ _ _ rB3_.out
  have B_1_ : ((W.alloc (.cells #[.int .i64 seq] 3))).cell? ⟨bA, 1, none⟩ = some (.slice pd n0 cd) := cell_of_row _ _ 1 _ _ _ rB3_.out
  have B_2_ : ((W.alloc (.cells #[.int .i64 seq] 3))).cell? ⟨bA, 2, none⟩ = some (.int .i64 r) := cell_of_row _ _ 2 _ _ _ rB3_.out
  go_wp2_with fail
  go_at_call 56
  refine (ackIdx_miss _ _ n0 cd xs (HX.out.grow G2_.out) HL.out seq _ rQ1_.out HQ.out).mono ?_
  rintro e w1 ⟨rfl, g⟩
  have szw1 := g.size
  try simp only [World.size_alloc] at szw1
  try simp only [World.size_setCell] at szw1
  clear Q_0_ B_0_ B_1_ B_2_
  have rQ4_ := Lib.hid (show (w1).heap[W.heap.size]? = some (.cells #[.int .i64 seq] 3 (0, 0)) from row_held g rQ1_.out)
  clear rQ1_
  have rB5_ := Lib.hid (show (w1).heap[bA]? = some (.cells #[.int .i64 m, .slice pd n0 cd, .int .i64 r] 29 (0, 0)) from row_held g rB3_.out)
  clear rB3_
  have G6_ := Lib.hid (show (W).grownBy (w1) none from gby_trans G2_.out g)
  clear g
  have Q_0_ : (w1).cell? ⟨W.heap.size, 0, none⟩ = some (.int .i64 seq) := cell_of_row _ _ 0 _ _ _ rQ4_.out
  have B_0_ : (w1).cell? ⟨bA, 0, none⟩ = some (.int .i64 m) := cell_of_row _ _ 0 _ _ _ rB5_.out
  have B_1_ : (w1).cell? ⟨bA, 1, none⟩ = some (.slice pd n0 cd) := cell_of_row _ _ 1 _ _ _ rB5_.out
  have B_2_ : (w1).cell? ⟨bA, 2, none⟩ = some (.int .i64 r) := cell_of_row _ _ 2 _ _ _ rB5_.out
  go_wp2
  go_ret
  exact ⟨rfl, G6_.out⟩

end Go.Proofs.Ytcenngekjopjpaa
