/-
  The program's TreeOk.
-/
import Derived.Test.YtdddidnibelmhaaTreeMath
namespace Go.Proofs.Ytdddidnibelmhaa
open Go Go.RowKit
set_option linter.unusedVariables false

/-- node x is in the place of a node below q0 with the device q1 -/
def Same2 (x : DNode) (q0 q1 : Int) : Prop := x.f0 = q0 ∧ x.f1 = q1

theorem bridge_yes (i0 i1 i2 : Int) (W : World) (h : i2 = 0) : Calls Try.prog 36 #[.agg #[.int .i64 i0, .int .i64 i1, .int .i64 i2]] W (AnsN (.bool true) W) := by
  have hb : (i2 == 0) = true := by simpa using h
  clear h
  go_enter Try.func36, Try.ntmps36
  have rA1_ := Lib.hid (show ((W.alloc (.cells #[.int .i64 i0, .int .i64 i1, .int .i64 i2] 48))).heap[W.heap.size]? = some (.cells #[.int .i64 i0, .int .i64 i1, .int .i64 i2] 48 (0, 0)) from by exact heap_alloc_new _ _)
  have G2_ := Lib.hid (show (W).grownBy ((W.alloc (.cells #[.int .i64 i0, .int .i64 i1, .int .i64 i2] 48))) none from (gby_alloc (gby_refl _ _) _))
  have A_0_ : ((W.alloc (.cells #[.int .i64 i0, .int .i64 i1, .int .i64 i2] 48))).cell? ⟨W.heap.size, 0, none⟩ = some (.int .i64 i0) := cell_of_row _ _ 0 _ _ _ rA1_.out
  have A_1_ : ((W.alloc (.cells #[.int .i64 i0, .int .i64 i1, .int .i64 i2] 48))).cell? ⟨W.heap.size, 1, none⟩ = some (.int .i64 i1) := cell_of_row _ _ 1 _ _ _ rA1_.out
  have A_2_ : ((W.alloc (.cells #[.int .i64 i0, .int .i64 i1, .int .i64 i2] 48))).cell? ⟨W.heap.size, 2, none⟩ = some (.int .i64 i2) := cell_of_row _ _ 2 _ _ _ rA1_.out
  go_wp2
  go_ret
  exact ⟨rfl, G2_.out⟩

theorem bridge_no (i0 i1 i2 : Int) (W : World) (h : ¬ i2 = 0) : Calls Try.prog 36 #[.agg #[.int .i64 i0, .int .i64 i1, .int .i64 i2]] W (AnsN (.bool false) W) := by
  have hb : (i2 == 0) = false := by simpa using h
  clear h
  go_enter Try.func36, Try.ntmps36
  have rA1_ := Lib.hid (show ((W.alloc (.cells #[.int .i64 i0, .int .i64 i1, .int .i64 i2] 48))).heap[W.heap.size]? = some (.cells #[.int .i64 i0, .int .i64 i1, .int .i64 i2] 48 (0, 0)) from by exact heap_alloc_new _ _)
  have G2_ := Lib.hid (show (W).grownBy ((W.alloc (.cells #[.int .i64 i0, .int .i64 i1, .int .i64 i2] 48))) none from (gby_alloc (gby_refl _ _) _))
  have A_0_ : ((W.alloc (.cells #[.int .i64 i0, .int .i64 i1, .int .i64 i2] 48))).cell? ⟨W.heap.size, 0, none⟩ = some (.int .i64 i0) := cell_of_row _ _ 0 _ _ _ rA1_.out
  have A_1_ : ((W.alloc (.cells #[.int .i64 i0, .int .i64 i1, .int .i64 i2] 48))).cell? ⟨W.heap.size, 1, none⟩ = some (.int .i64 i1) := cell_of_row _ _ 1 _ _ _ rA1_.out
  have A_2_ : ((W.alloc (.cells #[.int .i64 i0, .int .i64 i1, .int .i64 i2] 48))).cell? ⟨W.heap.size, 2, none⟩ = some (.int .i64 i2) := cell_of_row _ _ 2 _ _ _ rA1_.out
  go_wp2
  go_ret
  exact ⟨rfl, G2_.out⟩

set_option maxHeartbeats 1000000 in
theorem clo_yes (i0 i1 i2 q0 q1 q2 : Int) (b : Nat) (W : World) (hb : W.heap[b]? = some (.cells #[.int .i64 q0, .int .i64 q1, .int .i64 q2] 48 (0, 0))) (h0 : i0 = q0) (h1 : i1 = q1) : Calls Try.prog 55 #[.agg #[.int .i64 i0, .int .i64 i1, .int .i64 i2], .pointer (some ⟨b, 0, none⟩)] W (AnsN (.bool true) W) := by
  have qa : W.cell? ⟨b, 0, none⟩ = some (.int .i64 q0) := cell_of_row W b 0 _ _ _ hb
  have qb : W.cell? ⟨b, 1, none⟩ = some (.int .i64 q1) := cell_of_row W b 1 _ _ _ hb
  clear hb
  subst h0
  subst h1
  go_enter Try.func55, Try.ntmps55
  have rA1_ := Lib.hid (show ((W.alloc (.cells #[.int .i64 i0, .int .i64 i1, .int .i64 i2] 48))).heap[W.heap.size]? = some (.cells #[.int .i64 i0, .int .i64 i1, .int .i64 i2] 48 (0, 0)) from by exact heap_alloc_new _ _)
  have G2_ := Lib.hid (show (W).grownBy ((W.alloc (.cells #[.int .i64 i0, .int .i64 i1, .int .i64 i2] 48))) none from (gby_alloc (gby_refl _ _) _))
  have A_0_ : ((W.alloc (.cells #[.int .i64 i0, .int .i64 i1, .int .i64 i2] 48))).cell? ⟨W.heap.size, 0, none⟩ = some (.int .i64 i0) := cell_of_row _ _ 0 _ _ _ rA1_.out
  have A_1_ : ((W.alloc (.cells #[.int .i64 i0, .int .i64 i1, .int .i64 i2] 48))).cell? ⟨W.heap.size, 1, none⟩ = some (.int .i64 i1) := cell_of_row _ _ 1 _ _ _ rA1_.out
  have A_2_ : ((W.alloc (.cells #[.int .i64 i0, .int .i64 i1, .int .i64 i2] 48))).cell? ⟨W.heap.size, 2, none⟩ = some (.int .i64 i2) := cell_of_row _ _ 2 _ _ _ rA1_.out
  have q0_ := G2_.out.cell qa (by simp)
  have q1_ := G2_.out.cell qb (by simp)
  go_wp2
  try go_quiet (fail)
  try go_wp2
  go_ret
  exact ⟨rfl, by repeat (first | exact G2_.out | with_reducible refine gby_drewN ?_ _)⟩

set_option maxHeartbeats 1000000 in
theorem clo_no0 (i0 i1 i2 q0 q1 q2 : Int) (b : Nat) (W : World) (hb : W.heap[b]? = some (.cells #[.int .i64 q0, .int .i64 q1, .int .i64 q2] 48 (0, 0))) (h0 : ¬ i0 = q0) : Calls Try.prog 55 #[.agg #[.int .i64 i0, .int .i64 i1, .int .i64 i2], .pointer (some ⟨b, 0, none⟩)] W (AnsN (.bool false) W) := by
  have qa : W.cell? ⟨b, 0, none⟩ = some (.int .i64 q0) := cell_of_row W b 0 _ _ _ hb
  have qb : W.cell? ⟨b, 1, none⟩ = some (.int .i64 q1) := cell_of_row W b 1 _ _ _ hb
  clear hb
  have h0b : (i0 == q0) = false := by simpa using h0
  clear h0
  go_enter Try.func55, Try.ntmps55
  have rA1_ := Lib.hid (show ((W.alloc (.cells #[.int .i64 i0, .int .i64 i1, .int .i64 i2] 48))).heap[W.heap.size]? = some (.cells #[.int .i64 i0, .int .i64 i1, .int .i64 i2] 48 (0, 0)) from by exact heap_alloc_new _ _)
  have G2_ := Lib.hid (show (W).grownBy ((W.alloc (.cells #[.int .i64 i0, .int .i64 i1, .int .i64 i2] 48))) none from (gby_alloc (gby_refl _ _) _))
  have A_0_ : ((W.alloc (.cells #[.int .i64 i0, .int .i64 i1, .int .i64 i2] 48))).cell? ⟨W.heap.size, 0, none⟩ = some (.int .i64 i0) := cell_of_row _ _ 0 _ _ _ rA1_.out
  have A_1_ : ((W.alloc (.cells #[.int .i64 i0, .int .i64 i1, .int .i64 i2] 48))).cell? ⟨W.heap.size, 1, none⟩ = some (.int .i64 i1) := cell_of_row _ _ 1 _ _ _ rA1_.out
  have A_2_ : ((W.alloc (.cells #[.int .i64 i0, .int .i64 i1, .int .i64 i2] 48))).cell? ⟨W.heap.size, 2, none⟩ = some (.int .i64 i2) := cell_of_row _ _ 2 _ _ _ rA1_.out
  have q0_ := G2_.out.cell qa (by simp)
  have q1_ := G2_.out.cell qb (by simp)
  go_wp2
  try go_quiet (fail)
  try go_wp2
  go_ret
  exact ⟨rfl, by repeat (first | exact G2_.out | with_reducible refine gby_drewN ?_ _)⟩

set_option maxHeartbeats 1000000 in
theorem clo_no1 (i0 i1 i2 q0 q1 q2 : Int) (b : Nat) (W : World) (hb : W.heap[b]? = some (.cells #[.int .i64 q0, .int .i64 q1, .int .i64 q2] 48 (0, 0))) (h0 : i0 = q0) (h1 : ¬ i1 = q1) : Calls Try.prog 55 #[.agg #[.int .i64 i0, .int .i64 i1, .int .i64 i2], .pointer (some ⟨b, 0, none⟩)] W (AnsN (.bool false) W) := by
  have qa : W.cell? ⟨b, 0, none⟩ = some (.int .i64 q0) := cell_of_row W b 0 _ _ _ hb
  have qb : W.cell? ⟨b, 1, none⟩ = some (.int .i64 q1) := cell_of_row W b 1 _ _ _ hb
  clear hb
  subst h0
  have h1b : (i1 == q1) = false := by simpa using h1
  clear h1
  go_enter Try.func55, Try.ntmps55
  have rA1_ := Lib.hid (show ((W.alloc (.cells #[.int .i64 i0, .int .i64 i1, .int .i64 i2] 48))).heap[W.heap.size]? = some (.cells #[.int .i64 i0, .int .i64 i1, .int .i64 i2] 48 (0, 0)) from by exact heap_alloc_new _ _)
  have G2_ := Lib.hid (show (W).grownBy ((W.alloc (.cells #[.int .i64 i0, .int .i64 i1, .int .i64 i2] 48))) none from (gby_alloc (gby_refl _ _) _))
  have A_0_ : ((W.alloc (.cells #[.int .i64 i0, .int .i64 i1, .int .i64 i2] 48))).cell? ⟨W.heap.size, 0, none⟩ = some (.int .i64 i0) := cell_of_row _ _ 0 _ _ _ rA1_.out
  have A_1_ : ((W.alloc (.cells #[.int .i64 i0, .int .i64 i1, .int .i64 i2] 48))).cell? ⟨W.heap.size, 1, none⟩ = some (.int .i64 i1) := cell_of_row _ _ 1 _ _ _ rA1_.out
  have A_2_ : ((W.alloc (.cells #[.int .i64 i0, .int .i64 i1, .int .i64 i2] 48))).cell? ⟨W.heap.size, 2, none⟩ = some (.int .i64 i2) := cell_of_row _ _ 2 _ _ _ rA1_.out
  have q0_ := G2_.out.cell qa (by simp)
  have q1_ := G2_.out.cell qb (by simp)
  go_wp2
  try go_quiet (fail)
  try go_wp2
  go_ret
  exact ⟨rfl, by repeat (first | exact G2_.out | with_reducible refine gby_drewN ?_ _)⟩

def IxPost (xs : List DNode) (m : Nat) (q0 q1 : Int) (W : World) (e : Ending) (w' : World) : Prop := ∃ z : Int, e = .returned (.int .i64 z) ∧ ((z = -1 ∧ ∀ j, j < m → ¬ Same2 (nd xs j) q0 q1) ∨ ∃ k : Nat, k < m ∧ z = (k : Int) ∧ Same2 (nd xs k) q0 q1) ∧ W.grownBy w' none
/-- the first m nodes in cells -/
def RdNm (w : World) (a : Option Addr) (m : Nat) (xs : List DNode) : Prop :=
  m = 0 ∨ ∃ b off, a = some ⟨b, off, none⟩ ∧ ∀ k, k < m → w.cell? ⟨b, off + k * 3, none⟩ = some (.int .i64 (nd xs k).f0) ∧ w.cell? ⟨b, off + k * 3 + 1, none⟩ = some (.int .i64 (nd xs k).f1) ∧ w.cell? ⟨b, off + k * 3 + 2, none⟩ = some (.int .i64 (nd xs k).f2)
set_option maxRecDepth 8000 in
set_option maxHeartbeats 2000000 in
theorem index_same (W : World) (a : Option Addr) (m c : Nat) (xs : List DNode) (H : RdNm W a m xs) (hm : m ≤ 1048576) (q0 q1 q2 : Int) (g : Nat) (hb : W.heap[g]? = some (.cells #[.int .i64 q0, .int .i64 q1, .int .i64 q2] 48 (0, 0))) : Calls Try.prog 59 #[.slice a m c, .func (.func 55) #[] #[.pointer (some ⟨g, 0, none⟩)]] W (IxPost xs m q0 q1 W) := by
  have HA := Lib.hid H
  have HB := Lib.hid hb
  clear H hb
  unfold RdNm at HA
  go_enter Try.func59, Try.ntmps59
  go_wp2
  go_loopw [5, 8] (fun z i wr => ∃ n : Nat, n ≤ m ∧ (∃ q, z = q) ∧ i = .int .i64 (n : Int) ∧ (∀ j, j < n → ¬ Same2 (nd xs j) q0 q1) ∧ (W).grownBy wr none) (fun _ i _ => m - (intOf i).toNat)
  case atStart => exact ⟨0, by omega, ⟨_, rfl⟩, rfl, fun j hj => absurd hj (Nat.not_lt_zero _), gby_refl _ _⟩
  case round =>
    obtain ⟨n, hn, ⟨z, rfl⟩, rfl, hj, hg⟩ := hrel
    have szrwr := hg.size
    try simp only [World.size_alloc] at szrwr
    have szr_ := szrwr
    have G1_ := Lib.hid (show (W).grownBy (wr) none from gby_trans (gby_refl _ _) hg)
    have HTB_ := Lib.hid hg
    clear hg
    have HJ := Lib.hid hj
    clear hj
    have hn0 : (0 : Int) ≤ (n : Int) := by omega
    have htn : ((n : Int)).toNat = n := by omega
    by_cases hlt : n < m
    · have hki : (n : Int) < (m : Int) := by omega
      obtain ⟨b, off, rfl, hcell⟩ := HA.out.resolve_left (by omega)
      obtain ⟨y, hy⟩ : ∃ y, y = nd xs n := ⟨_, rfl⟩
      have HY := Lib.hid hy
      have hyc := hcell n hlt
      rw [← hy] at hyc
      clear hy hcell
      have y0_ := (G1_.out).cell hyc.1 (by simp)
      have y1_ := (G1_.out).cell hyc.2.1 (by simp)
      have y2_ := (G1_.out).cell hyc.2.2 (by simp)
      clear hyc
      obtain ⟨y0, y1, y2⟩ := y
      have hrow := row_held G1_.out HB.out
      have HR := Lib.hid hrow
      clear hrow
      by_cases h0 : y0 = q0
      rotate_left
      · have HE1 := Lib.hid h0
        clear h0
        go_wp2_with fail
        go_at_call 55
        refine (clo_no0 _ _ _ _ q1 q2 _ _ HR.out HE1.out).mono ?_
        rintro e w1 ⟨rfl, g⟩
        have szw1 := g.size
        try simp only [World.size_alloc] at szw1
        have G2_ := Lib.hid (show (W).grownBy (w1) none from gby_trans G1_.out g)
        have HTB3_ := Lib.hid (show (W).grownBy (w1) none from gby_trans HTB_.out g)
        clear HTB_
        clear g
        go_wp2
        refine ⟨⟨n + 1, by omega, ⟨_, rfl⟩, by go_num, fun j hj => ?_, HTB3_.out⟩, by simp [intOf]; omega⟩
        by_cases e : j = n
        · subst e
          rw [← HY.out]
          rintro ⟨q1, q2⟩
          exact HE1.out (by first | exact q1 | exact q2)
        · exact HJ.out j (by omega)
      have HE0 := Lib.hid h0
      clear h0
      by_cases h1 : y1 = q1
      rotate_left
      · have HE1 := Lib.hid h1
        clear h1
        go_wp2_with fail
        go_at_call 55
        refine (clo_no1 _ _ _ _ _ q2 _ _ HR.out HE0.out HE1.out).mono ?_
        rintro e w1 ⟨rfl, g⟩
        have szw1 := g.size
        try simp only [World.size_alloc] at szw1
        have G2_ := Lib.hid (show (W).grownBy (w1) none from gby_trans G1_.out g)
        have HTB3_ := Lib.hid (show (W).grownBy (w1) none from gby_trans HTB_.out g)
        clear HTB_
        clear g
        go_wp2
        refine ⟨⟨n + 1, by omega, ⟨_, rfl⟩, by go_num, fun j hj => ?_, HTB3_.out⟩, by simp [intOf]; omega⟩
        by_cases e : j = n
        · subst e
          rw [← HY.out]
          rintro ⟨q1, q2⟩
          exact HE1.out (by first | exact q1 | exact q2)
        · exact HJ.out j (by omega)
      have HE1 := Lib.hid h1
      clear h1
      go_wp2_with fail
      go_at_call 55
      refine (clo_yes _ _ _ _ _ q2 _ _ HR.out HE0.out HE1.out).mono ?_
      rintro e w1 ⟨rfl, g⟩
      have szw1 := g.size
      try simp only [World.size_alloc] at szw1
      have G2_ := Lib.hid (show (W).grownBy (w1) none from gby_trans G1_.out g)
      have HTB3_ := Lib.hid (show (W).grownBy (w1) none from gby_trans HTB_.out g)
      clear HTB_
      clear g
      go_wp2
      go_ret
      exact ⟨(n : Int), rfl, .inr ⟨n, hlt, rfl, by rw [← HY.out]; exact ⟨HE0.out, HE1.out⟩⟩, G2_.out⟩
    · have hki : ¬ (n : Int) < (m : Int) := by omega
      obtain rfl : n = m := by omega
      go_wp2
      go_ret
      exact ⟨-1, rfl, .inl ⟨rfl, HJ.out⟩, G1_.out⟩

def CoPost (xs : List DNode) (m : Nat) (q0 q1 : Int) (W : World) (e : Ending) (w' : World) : Prop := ∃ r : Bool, e = .returned (.bool r) ∧ (r = true ↔ ∃ k, k < m ∧ Same2 (nd xs k) q0 q1) ∧ W.grownBy w' none
set_option maxHeartbeats 2000000 in
theorem contains_same (W : World) (a : Option Addr) (m c : Nat) (xs : List DNode) (H : RdNm W a m xs) (hm : m ≤ 1048576) (q0 q1 q2 : Int) (g : Nat) (hb : W.heap[g]? = some (.cells #[.int .i64 q0, .int .i64 q1, .int .i64 q2] 48 (0, 0))) : Calls Try.prog 54 #[.slice a m c, .func (.func 55) #[] #[.pointer (some ⟨g, 0, none⟩)]] W (CoPost xs m q0 q1 W) := by
  have HA := Lib.hid H
  have HB := Lib.hid hb
  clear H hb
  go_enter Try.func54, Try.ntmps54
  go_wp2_with fail
  go_at_call 59
  refine (index_same _ a m c xs HA.out hm q0 q1 q2 g HB.out).mono ?_
  rintro e w1 ⟨z, rfl, hz, g_⟩
  have G1_ := Lib.hid (show (W).grownBy (w1) none from gby_trans (gby_refl _ _) g_)
  clear g_
  rcases hz with ⟨rfl, hz⟩ | ⟨k, hk, rfl, hz⟩
  · have HZ := Lib.hid hz
    clear hz
    go_wp2
    go_ret
    exact ⟨false, rfl, iff_no (fun ⟨j, h1, h2⟩ => HZ.out j h1 h2), G1_.out⟩
  · have HZ := Lib.hid hz
    have hk0 : 0 ≤ (k : Int) := by omega
    clear hz
    go_wp2
    go_ret
    exact ⟨true, rfl, iff_yes ⟨k, hk, HZ.out⟩, G1_.out⟩

def PlPost (xs : List DNode) (n : Nat) (W : World) (e : Ending) (w' : World) : Prop := ∃ r : Bool, e = .returned (.bool r) ∧ (r = true ↔ Placed xs n) ∧ W.grownBy w' none
set_option maxRecDepth 8000 in
set_option maxHeartbeats 4000000 in
theorem placed_any (W : World) (b off len cap : Nat) (xs : List DNode) (hlx : len = xs.length) (l2 : len ≤ 12) (hcap : len ≤ cap) (HC : Hid (∀ k, k < len → W.cell? ⟨b, off + k * 3, none⟩ = some (.int .i64 (nd xs k).f0) ∧ W.cell? ⟨b, off + k * 3 + 1, none⟩ = some (.int .i64 (nd xs k).f1) ∧ W.cell? ⟨b, off + k * 3 + 2, none⟩ = some (.int .i64 (nd xs k).f2))) (hroot : (nd xs 0).f0 = -1) (n : Nat) (h1 : 1 ≤ n) (hlt : n < len) : Calls Try.prog 49 #[.slice (some ⟨b, off, none⟩) len cap, .int .i64 (n : Int)] W (PlPost xs n W) := by
  have HROOT := Lib.hid hroot
  clear hroot hlx
  have hm1 : IntKind.i64.wrap ((n : Int) - 1) = (n : Int) - 1 := IntWalk.i64_in _ (by omega)
  have hki : (n : Int) < (len : Int) := by omega
  have hn0 : (0 : Int) ≤ (n : Int) := by omega
  have htn : ((n : Int)).toNat = n := by omega
  obtain ⟨y, hy⟩ : ∃ y, y = nd xs n := ⟨_, rfl⟩
  have HY := Lib.hid hy
  have hyc := HC.out n hlt
  rw [← hy] at hyc
  clear hy
  have y0_ := hyc.1
  have y1_ := hyc.2.1
  have y2_ := hyc.2.2
  clear hyc
  rcases inr_or y.f0 0 ((n : Int) - 1) with ⟨p1, p2⟩ | hb
  rotate_left
  · have HB := Lib.hid hb
    clear hb
    go_enter Try.func49, Try.ntmps49
    go_wp2_with fail
    have al_ : (W).grownBy ((W).alloc (.cells #[.int .i64 y.f0, .int .i64 y.f1, .int .i64 y.f2] 48)) none := gby_alloc (gby_refl _ _) _
    have G1_ := Lib.hid (show (W).grownBy ((W.alloc (.cells #[.int .i64 y.f0, .int .i64 y.f1, .int .i64 y.f2] 48))) none from gby_trans (gby_refl _ _) al_)
    have rY2_ := Lib.hid (show ((W.alloc (.cells #[.int .i64 y.f0, .int .i64 y.f1, .int .i64 y.f2] 48))).heap[W.heap.size]? = some (.cells #[.int .i64 y.f0, .int .i64 y.f1, .int .i64 y.f2] 48 (0, 0)) from by first | exact heap_alloc_new _ _ | exact heap_pair _ _ _ | exact heap_trip _ _ _ _)
    clear al_
    have Y_0_ : ((W.alloc (.cells #[.int .i64 y.f0, .int .i64 y.f1, .int .i64 y.f2] 48))).cell? ⟨W.heap.size, 0, none⟩ = some (.int .i64 y.f0) := cell_of_row _ _ 0 _ _ _ rY2_.out
    have Y_1_ : ((W.alloc (.cells #[.int .i64 y.f0, .int .i64 y.f1, .int .i64 y.f2] 48))).cell? ⟨W.heap.size, 1, none⟩ = some (.int .i64 y.f1) := cell_of_row _ _ 1 _ _ _ rY2_.out
    have Y_2_ : ((W.alloc (.cells #[.int .i64 y.f0, .int .i64 y.f1, .int .i64 y.f2] 48))).cell? ⟨W.heap.size, 2, none⟩ = some (.int .i64 y.f2) := cell_of_row _ _ 2 _ _ _ rY2_.out
    go_wp2_with fail
    go_at_call 41
    refine (rng_no _ _ _ _ HB.out).mono ?_
    rintro e w1_ ⟨rfl, rfl⟩
    go_wp2
    go_ret
    exact ⟨false, rfl, iff_no (fun q => by unfold Placed at q; rw [← HY.out] at q; have q_ := q.1; (try dsimp only at q_); have := HB.out; omega), G1_.out⟩
  obtain ⟨p, hp⟩ : ∃ p : Nat, y.f0 = (p : Int) := ⟨y.f0.toNat, by omega⟩
  have hpn : p < n := by omega
  have HPc := HC.out p (by omega)
  obtain ⟨g, hg⟩ : ∃ g, g = nd xs p := ⟨_, rfl⟩
  rw [← hg] at HPc
  have HP0 := Lib.hid HPc.1
  have HP1 := Lib.hid HPc.2.1
  have HP2 := Lib.hid HPc.2.2
  have HGp := Lib.hid (show (nd xs y.f0.toNat).f2 = g.f2 from by rw [hp, hg]; rfl)
  clear HPc hg
  obtain ⟨y0, y1, y2⟩ := y
  obtain ⟨g0, g1, g2⟩ := g
  dsimp only at *
  subst hp
  have hpi : (p : Int) < (len : Int) := by omega
  have hp0 : (0 : Int) ≤ (p : Int) := by omega
  have htp : ((p : Int)).toNat = p := by omega
  by_cases hg0 : g2 = 0
  rotate_left
  · have HB := Lib.hid hg0
    clear hg0
    go_enter Try.func49, Try.ntmps49
    go_wp2_with fail
    have al_ : (W).grownBy ((W).alloc (.cells #[.int .i64 (p : Int), .int .i64 y1, .int .i64 y2] 48)) none := gby_alloc (gby_refl _ _) _
    have G1_ := Lib.hid (show (W).grownBy ((W.alloc (.cells #[.int .i64 (p : Int), .int .i64 y1, .int .i64 y2] 48))) none from gby_trans (gby_refl _ _) al_)
    have rY2_ := Lib.hid (show ((W.alloc (.cells #[.int .i64 (p : Int), .int .i64 y1, .int .i64 y2] 48))).heap[W.heap.size]? = some (.cells #[.int .i64 (p : Int), .int .i64 y1, .int .i64 y2] 48 (0, 0)) from by first | exact heap_alloc_new _ _ | exact heap_pair _ _ _ | exact heap_trip _ _ _ _)
    clear al_
    have Y_0_ : ((W.alloc (.cells #[.int .i64 (p : Int), .int .i64 y1, .int .i64 y2] 48))).cell? ⟨W.heap.size, 0, none⟩ = some (.int .i64 (p : Int)) := cell_of_row _ _ 0 _ _ _ rY2_.out
    have Y_1_ : ((W.alloc (.cells #[.int .i64 (p : Int), .int .i64 y1, .int .i64 y2] 48))).cell? ⟨W.heap.size, 1, none⟩ = some (.int .i64 y1) := cell_of_row _ _ 1 _ _ _ rY2_.out
    have Y_2_ : ((W.alloc (.cells #[.int .i64 (p : Int), .int .i64 y1, .int .i64 y2] 48))).cell? ⟨W.heap.size, 2, none⟩ = some (.int .i64 y2) := cell_of_row _ _ 2 _ _ _ rY2_.out
    have g0n_ := (G1_.out).cell HP0.out (by simp)
    have g1n_ := (G1_.out).cell HP1.out (by simp)
    have g2n_ := (G1_.out).cell HP2.out (by simp)
    go_wp2_with fail
    go_at_call 41
    refine (rng_yes _ _ _ _ (by omega) (by omega)).mono ?_
    rintro e w1_ ⟨rfl, rfl⟩
    go_wp2_with fail
    go_at_call 36
    refine (bridge_no _ _ _ _ HB.out).mono ?_
    rintro e w2 ⟨rfl, g⟩
    have szw2 := g.size
    try simp only [World.size_alloc] at szw2
    clear Y_0_ Y_1_ Y_2_
    have rY3_ := Lib.hid (show (w2).heap[W.heap.size]? = some (.cells #[.int .i64 (p : Int), .int .i64 y1, .int .i64 y2] 48 (0, 0)) from row_held g rY2_.out)
    clear rY2_
    have G4_ := Lib.hid (show (W).grownBy (w2) none from gby_trans G1_.out g)
    clear g
    have Y_0_ : (w2).cell? ⟨W.heap.size, 0, none⟩ = some (.int .i64 (p : Int)) := cell_of_row _ _ 0 _ _ _ rY3_.out
    have Y_1_ : (w2).cell? ⟨W.heap.size, 1, none⟩ = some (.int .i64 y1) := cell_of_row _ _ 1 _ _ _ rY3_.out
    have Y_2_ : (w2).cell? ⟨W.heap.size, 2, none⟩ = some (.int .i64 y2) := cell_of_row _ _ 2 _ _ _ rY3_.out
    go_wp2
    go_ret
    exact ⟨false, rfl, iff_no (fun q => by unfold Placed at q; rw [← HY.out] at q; exact HB.out (HGp.out.symm.trans q.2.1)), G4_.out⟩
  have HG0 := Lib.hid hg0
  clear hg0
  rcases inr_or y1 0 3 with ⟨d1, d2⟩ | hb
  rotate_left
  · have HB := Lib.hid hb
    clear hb
    go_enter Try.func49, Try.ntmps49
    go_wp2_with fail
    have al_ : (W).grownBy ((W).alloc (.cells #[.int .i64 (p : Int), .int .i64 y1, .int .i64 y2] 48)) none := gby_alloc (gby_refl _ _) _
    have G1_ := Lib.hid (show (W).grownBy ((W.alloc (.cells #[.int .i64 (p : Int), .int .i64 y1, .int .i64 y2] 48))) none from gby_trans (gby_refl _ _) al_)
    have rY2_ := Lib.hid (show ((W.alloc (.cells #[.int .i64 (p : Int), .int .i64 y1, .int .i64 y2] 48))).heap[W.heap.size]? = some (.cells #[.int .i64 (p : Int), .int .i64 y1, .int .i64 y2] 48 (0, 0)) from by first | exact heap_alloc_new _ _ | exact heap_pair _ _ _ | exact heap_trip _ _ _ _)
    clear al_
    have Y_0_ : ((W.alloc (.cells #[.int .i64 (p : Int), .int .i64 y1, .int .i64 y2] 48))).cell? ⟨W.heap.size, 0, none⟩ = some (.int .i64 (p : Int)) := cell_of_row _ _ 0 _ _ _ rY2_.out
    have Y_1_ : ((W.alloc (.cells #[.int .i64 (p : Int), .int .i64 y1, .int .i64 y2] 48))).cell? ⟨W.heap.size, 1, none⟩ = some (.int .i64 y1) := cell_of_row _ _ 1 _ _ _ rY2_.out
    have Y_2_ : ((W.alloc (.cells #[.int .i64 (p : Int), .int .i64 y1, .int .i64 y2] 48))).cell? ⟨W.heap.size, 2, none⟩ = some (.int .i64 y2) := cell_of_row _ _ 2 _ _ _ rY2_.out
    have g0n_ := (G1_.out).cell HP0.out (by simp)
    have g1n_ := (G1_.out).cell HP1.out (by simp)
    have g2n_ := (G1_.out).cell HP2.out (by simp)
    go_wp2_with fail
    go_at_call 41
    refine (rng_yes _ _ _ _ (by omega) (by omega)).mono ?_
    rintro e w1_ ⟨rfl, rfl⟩
    go_wp2_with fail
    go_at_call 36
    refine (bridge_yes _ _ _ _ HG0.out).mono ?_
    rintro e w2 ⟨rfl, g⟩
    have szw2 := g.size
    try simp only [World.size_alloc] at szw2
    clear Y_0_ Y_1_ Y_2_
    have rY3_ := Lib.hid (show (w2).heap[W.heap.size]? = some (.cells #[.int .i64 (p : Int), .int .i64 y1, .int .i64 y2] 48 (0, 0)) from row_held g rY2_.out)
    clear rY2_
    have G4_ := Lib.hid (show (W).grownBy (w2) none from gby_trans G1_.out g)
    clear g
    have Y_0_ : (w2).cell? ⟨W.heap.size, 0, none⟩ = some (.int .i64 (p : Int)) := cell_of_row _ _ 0 _ _ _ rY3_.out
    have Y_1_ : (w2).cell? ⟨W.heap.size, 1, none⟩ = some (.int .i64 y1) := cell_of_row _ _ 1 _ _ _ rY3_.out
    have Y_2_ : (w2).cell? ⟨W.heap.size, 2, none⟩ = some (.int .i64 y2) := cell_of_row _ _ 2 _ _ _ rY3_.out
    go_wp2_with fail
    go_at_call 41
    refine (rng_no _ _ _ _ HB.out).mono ?_
    rintro e w3_ ⟨rfl, rfl⟩
    go_wp2
    go_ret
    exact ⟨false, rfl, iff_no (fun q => by unfold Placed at q; rw [← HY.out] at q; have q_ := q.2.2.1; (try dsimp only at q_); have := HB.out; omega), G4_.out⟩
  rcases inr_or y2 0 4 with ⟨e1, e2⟩ | hb
  rotate_left
  · have HB := Lib.hid hb
    clear hb
    go_enter Try.func49, Try.ntmps49
    go_wp2_with fail
    have al_ : (W).grownBy ((W).alloc (.cells #[.int .i64 (p : Int), .int .i64 y1, .int .i64 y2] 48)) none := gby_alloc (gby_refl _ _) _
    have G1_ := Lib.hid (show (W).grownBy ((W.alloc (.cells #[.int .i64 (p : Int), .int .i64 y1, .int .i64 y2] 48))) none from gby_trans (gby_refl _ _) al_)
    have rY2_ := Lib.hid (show ((W.alloc (.cells #[.int .i64 (p : Int), .int .i64 y1, .int .i64 y2] 48))).heap[W.heap.size]? = some (.cells #[.int .i64 (p : Int), .int .i64 y1, .int .i64 y2] 48 (0, 0)) from by first | exact heap_alloc_new _ _ | exact heap_pair _ _ _ | exact heap_trip _ _ _ _)
    clear al_
    have Y_0_ : ((W.alloc (.cells #[.int .i64 (p : Int), .int .i64 y1, .int .i64 y2] 48))).cell? ⟨W.heap.size, 0, none⟩ = some (.int .i64 (p : Int)) := cell_of_row _ _ 0 _ _ _ rY2_.out
    have Y_1_ : ((W.alloc (.cells #[.int .i64 (p : Int), .int .i64 y1, .int .i64 y2] 48))).cell? ⟨W.heap.size, 1, none⟩ = some (.int .i64 y1) := cell_of_row _ _ 1 _ _ _ rY2_.out
    have Y_2_ : ((W.alloc (.cells #[.int .i64 (p : Int), .int .i64 y1, .int .i64 y2] 48))).cell? ⟨W.heap.size, 2, none⟩ = some (.int .i64 y2) := cell_of_row _ _ 2 _ _ _ rY2_.out
    have g0n_ := (G1_.out).cell HP0.out (by simp)
    have g1n_ := (G1_.out).cell HP1.out (by simp)
    have g2n_ := (G1_.out).cell HP2.out (by simp)
    go_wp2_with fail
    go_at_call 41
    refine (rng_yes _ _ _ _ (by omega) (by omega)).mono ?_
    rintro e w1_ ⟨rfl, rfl⟩
    go_wp2_with fail
    go_at_call 36
    refine (bridge_yes _ _ _ _ HG0.out).mono ?_
    rintro e w2 ⟨rfl, g⟩
    have szw2 := g.size
    try simp only [World.size_alloc] at szw2
    clear Y_0_ Y_1_ Y_2_
    have rY3_ := Lib.hid (show (w2).heap[W.heap.size]? = some (.cells #[.int .i64 (p : Int), .int .i64 y1, .int .i64 y2] 48 (0, 0)) from row_held g rY2_.out)
    clear rY2_
    have G4_ := Lib.hid (show (W).grownBy (w2) none from gby_trans G1_.out g)
    clear g
    have Y_0_ : (w2).cell? ⟨W.heap.size, 0, none⟩ = some (.int .i64 (p : Int)) := cell_of_row _ _ 0 _ _ _ rY3_.out
    have Y_1_ : (w2).cell? ⟨W.heap.size, 1, none⟩ = some (.int .i64 y1) := cell_of_row _ _ 1 _ _ _ rY3_.out
    have Y_2_ : (w2).cell? ⟨W.heap.size, 2, none⟩ = some (.int .i64 y2) := cell_of_row _ _ 2 _ _ _ rY3_.out
    go_wp2_with fail
    go_at_call 41
    refine (rng_yes _ _ _ _ (by omega) (by omega)).mono ?_
    rintro e w3_ ⟨rfl, rfl⟩
    go_wp2_with fail
    go_at_call 41
    refine (rng_no _ _ _ _ HB.out).mono ?_
    rintro e w4_ ⟨rfl, rfl⟩
    go_wp2
    go_ret
    exact ⟨false, rfl, iff_no (fun q => by unfold Placed at q; rw [← HY.out] at q; have q_ := q.2.2.2.1; (try dsimp only at q_); have := HB.out; omega), G4_.out⟩
  have hncap : (n : Int) ≤ (cap : Int) := by omega
  have hncap2 : n ≤ cap := by omega
  go_enter Try.func49, Try.ntmps49
  go_wp2_with fail
  have al_ : (W).grownBy ((W).alloc (.cells #[.int .i64 (p : Int), .int .i64 y1, .int .i64 y2] 48)) none := gby_alloc (gby_refl _ _) _
  have G1_ := Lib.hid (show (W).grownBy ((W.alloc (.cells #[.int .i64 (p : Int), .int .i64 y1, .int .i64 y2] 48))) none from gby_trans (gby_refl _ _) al_)
  have rY2_ := Lib.hid (show ((W.alloc (.cells #[.int .i64 (p : Int), .int .i64 y1, .int .i64 y2] 48))).heap[W.heap.size]? = some (.cells #[.int .i64 (p : Int), .int .i64 y1, .int .i64 y2] 48 (0, 0)) from by first | exact heap_alloc_new _ _ | exact heap_pair _ _ _ | exact heap_trip _ _ _ _)
  clear al_
  have Y_0_ : ((W.alloc (.cells #[.int .i64 (p : Int), .int .i64 y1, .int .i64 y2] 48))).cell? ⟨W.heap.size, 0, none⟩ = some (.int .i64 (p : Int)) := cell_of_row _ _ 0 _ _ _ rY2_.out
  have Y_1_ : ((W.alloc (.cells #[.int .i64 (p : Int), .int .i64 y1, .int .i64 y2] 48))).cell? ⟨W.heap.size, 1, none⟩ = some (.int .i64 y1) := cell_of_row _ _ 1 _ _ _ rY2_.out
  have Y_2_ : ((W.alloc (.cells #[.int .i64 (p : Int), .int .i64 y1, .int .i64 y2] 48))).cell? ⟨W.heap.size, 2, none⟩ = some (.int .i64 y2) := cell_of_row _ _ 2 _ _ _ rY2_.out
  have g0n_ := (G1_.out).cell HP0.out (by simp)
  have g1n_ := (G1_.out).cell HP1.out (by simp)
  have g2n_ := (G1_.out).cell HP2.out (by simp)
  go_wp2_with fail
  go_at_call 41
  refine (rng_yes _ _ _ _ (by omega) (by omega)).mono ?_
  rintro e w1_ ⟨rfl, rfl⟩
  go_wp2_with fail
  go_at_call 36
  refine (bridge_yes _ _ _ _ HG0.out).mono ?_
  rintro e w2 ⟨rfl, g⟩
  have szw2 := g.size
  try simp only [World.size_alloc] at szw2
  clear Y_0_ Y_1_ Y_2_
  have rY3_ := Lib.hid (show (w2).heap[W.heap.size]? = some (.cells #[.int .i64 (p : Int), .int .i64 y1, .int .i64 y2] 48 (0, 0)) from row_held g rY2_.out)
  clear rY2_
  have G4_ := Lib.hid (show (W).grownBy (w2) none from gby_trans G1_.out g)
  clear g
  have Y_0_ : (w2).cell? ⟨W.heap.size, 0, none⟩ = some (.int .i64 (p : Int)) := cell_of_row _ _ 0 _ _ _ rY3_.out
  have Y_1_ : (w2).cell? ⟨W.heap.size, 1, none⟩ = some (.int .i64 y1) := cell_of_row _ _ 1 _ _ _ rY3_.out
  have Y_2_ : (w2).cell? ⟨W.heap.size, 2, none⟩ = some (.int .i64 y2) := cell_of_row _ _ 2 _ _ _ rY3_.out
  go_wp2_with fail
  go_at_call 41
  refine (rng_yes _ _ _ _ (by omega) (by omega)).mono ?_
  rintro e w3_ ⟨rfl, rfl⟩
  go_wp2_with fail
  go_at_call 41
  refine (rng_yes _ _ _ _ (by omega) (by omega)).mono ?_
  rintro e w4_ ⟨rfl, rfl⟩
  have HM_ := Lib.hid (show RdNm w2 (some ⟨b, off, none⟩) n xs from .inr ⟨b, off, rfl, fun k hk => ⟨(G4_.out).cell (HC.out k (by omega)).1 (by simp), (G4_.out).cell (HC.out k (by omega)).2.1 (by simp), (G4_.out).cell (HC.out k (by omega)).2.2 (by simp)⟩⟩)
  go_wp2_with fail
  go_at_call 54
  refine (contains_same _ _ n _ xs HM_.out (by omega) (p : Int) y1 y2 _ rY3_.out).mono ?_
  rintro e w5 ⟨r, rfl, hr, g_⟩
  clear Y_0_ Y_1_ Y_2_
  have rY5_ := Lib.hid (show (w5).heap[W.heap.size]? = some (.cells #[.int .i64 (p : Int), .int .i64 y1, .int .i64 y2] 48 (0, 0)) from row_held g_ rY3_.out)
  clear rY3_
  have G6_ := Lib.hid (show (W).grownBy (w5) none from gby_trans G4_.out g_)
  clear g_
  have HR := Lib.hid hr
  clear hr
  cases r
  · skip
    go_wp2
    go_ret
    exact ⟨true, rfl, iff_yes (by unfold Placed; rw [← HY.out]; exact ⟨⟨p1, p2⟩, HGp.out.trans HG0.out, ⟨d1, d2⟩, ⟨e1, e2⟩, fun i h1 h2 h3 => by have q := HR.out.2 ⟨i, h2, h3⟩; cases q⟩), G6_.out⟩
  · skip
    go_wp2
    go_ret
    exact ⟨false, rfl, iff_no (fun q => by
        obtain ⟨k, hk, h3⟩ := HR.out.1 (by first | trivial | rfl)
        unfold Placed at q
        rw [← HY.out] at q
        by_cases k0 : k = 0
        · subst k0
          have e1 := HROOT.out
          have e2 := h3.1
          omega
        · exact q.2.2.2.2 k (by omega) hk h3), G6_.out⟩

set_option maxRecDepth 8000 in
set_option maxHeartbeats 4000000 in
theorem implTree (W : World) (v : Value) (xs : List DNode) (H : RdL shNode W v xs) (hl : szL shNode xs ≤ 1048576) : Calls Try.prog 43 #[v] W (TPost xs W) := by
  rw [szL_size0 (fun _ => rfl)] at hl
  obtain ⟨a0, cap, rfl, hcap, hi⟩ := rdN_in H
  obtain ⟨len, hlen⟩ : ∃ len, len = xs.length := ⟨_, rfl⟩
  have HE := Lib.hid hlen
  have HCAP := Lib.hid (show len ≤ cap from by rw [hlen]; exact hcap.2)
  unfold RdN at hi
  rw [← hlen] at hl hi ⊢
  have HA := Lib.hid hi
  clear H hi hlen hcap
  rcases inr_or (len : Int) 1 12 with ⟨l1, l2⟩ | hn
  rotate_left
  · have HN := Lib.hid hn
    clear hn
    go_enter Try.func43, Try.ntmps43
    go_wp2_with fail
    go_at_call 41
    refine (rng_no _ _ _ _ HN.out).mono ?_
    rintro e w1_ ⟨rfl, rfl⟩
    go_wp2
    go_ret
    exact ⟨false, rfl, iff_no (fun q => absurd q.1 (by have := HN.out; have := HE.out; omega)), (gby_refl _ _)⟩
  obtain ⟨b, off, rfl, hcell⟩ := HA.out.resolve_left (by omega)
  have HC := Lib.hid hcell
  clear hcell
  have hz0 := HC.out 0 (by omega)
  have hlen0 : (0 : Int) < (len : Int) := by omega
  obtain ⟨x, hx⟩ : ∃ x, x = nd xs 0 := ⟨_, rfl⟩
  rw [← hx] at hz0
  have HX := Lib.hid hx
  clear hx
  have a0_ : W.cell? ⟨b, off, none⟩ = some (.int .i64 x.f0) := by have := hz0.1; simpa using this
  have a1_ : W.cell? ⟨b, off + 1, none⟩ = some (.int .i64 x.f1) := by have := hz0.2.1; simpa using this
  have a2_ : W.cell? ⟨b, off + 2, none⟩ = some (.int .i64 x.f2) := by have := hz0.2.2; simpa using this
  clear hz0
  by_cases hf0 : x.f0 = -1
  rotate_left
  · have hbf0 : (x.f0 == -1) = false := by simpa using hf0
    have HN := Lib.hid hf0
    clear hf0
    go_enter Try.func43, Try.ntmps43
    go_wp2_with fail
    go_at_call 41
    refine (rng_yes _ _ _ _ (by omega) (by omega)).mono ?_
    rintro e w1_ ⟨rfl, rfl⟩
    go_wp2
    go_ret
    exact ⟨false, rfl, iff_no (fun q => HN.out (by have := q.2.1.1; rw [HX.out]; exact this)), (gby_refl _ _)⟩
  have hbf0 : (x.f0 == -1) = true := by simpa using hf0
  have HXf0 := Lib.hid hf0
  clear hf0
  by_cases hf1 : x.f1 = 0
  rotate_left
  · have hbf1 : (x.f1 == 0) = false := by simpa using hf1
    have HN := Lib.hid hf1
    clear hf1
    go_enter Try.func43, Try.ntmps43
    go_wp2_with fail
    go_at_call 41
    refine (rng_yes _ _ _ _ (by omega) (by omega)).mono ?_
    rintro e w1_ ⟨rfl, rfl⟩
    go_wp2
    go_ret
    exact ⟨false, rfl, iff_no (fun q => HN.out (by have := q.2.1.2.1; rw [HX.out]; exact this)), (gby_refl _ _)⟩
  have hbf1 : (x.f1 == 0) = true := by simpa using hf1
  have HXf1 := Lib.hid hf1
  clear hf1
  by_cases hf2 : x.f2 = 0
  rotate_left
  · have hbf2 : (x.f2 == 0) = false := by simpa using hf2
    have HN := Lib.hid hf2
    clear hf2
    go_enter Try.func43, Try.ntmps43
    go_wp2_with fail
    go_at_call 41
    refine (rng_yes _ _ _ _ (by omega) (by omega)).mono ?_
    rintro e w1_ ⟨rfl, rfl⟩
    go_wp2
    go_ret
    exact ⟨false, rfl, iff_no (fun q => HN.out (by have := q.2.1.2.2; rw [HX.out]; exact this)), (gby_refl _ _)⟩
  have hbf2 : (x.f2 == 0) = true := by simpa using hf2
  have HXf2 := Lib.hid hf2
  clear hf2
  go_enter Try.func43, Try.ntmps43
  go_wp2_with fail
  go_at_call 41
  refine (rng_yes _ _ _ _ (by omega) (by omega)).mono ?_
  rintro e w1_ ⟨rfl, rfl⟩
  go_wp2
  go_loopw [3] (fun i wr => ∃ n : Nat, 1 ≤ n ∧ n ≤ len ∧ i = .int .i64 (n : Int) ∧ (∀ j, 1 ≤ j → j < n → Placed xs j) ∧ (W).grownBy wr none) (fun i _ => len - (intOf i).toNat)
  case atStart => exact ⟨1, by omega, by omega, rfl, fun j h1 h2 => by omega, gby_refl _ _⟩
  case round =>
    obtain ⟨n, hn1, hn, rfl, hj, hg⟩ := hrel
    have szrwr := hg.size
    try simp only [World.size_alloc] at szrwr
    have szr_ := szrwr
    have G1_ := Lib.hid (show (W).grownBy (wr) none from gby_trans (gby_refl _ _) hg)
    have HTB_ := Lib.hid hg
    clear hg
    have HJ := Lib.hid hj
    clear hj a0_ a1_ a2_ hbf0 hbf1 hbf2
    by_cases hlt : n < len
    · have hki : (n : Int) < (len : Int) := by omega
      have hnx : n < xs.length := by have := HE.out; omega
      have HC2 := Lib.hid (fun k (hk : k < len) => (⟨(G1_.out).cell (HC.out k hk).1 (by simp), (G1_.out).cell (HC.out k hk).2.1 (by simp), (G1_.out).cell (HC.out k hk).2.2 (by simp)⟩ : wr.cell? ⟨b, off + k * 3, none⟩ = some (.int .i64 (nd xs k).f0) ∧ wr.cell? ⟨b, off + k * 3 + 1, none⟩ = some (.int .i64 (nd xs k).f1) ∧ wr.cell? ⟨b, off + k * 3 + 2, none⟩ = some (.int .i64 (nd xs k).f2)))
      go_wp2_with fail
      go_at_call 49
      refine (placed_any _ b off len cap xs HE.out (by omega) HCAP.out HC2 (by rw [← HX.out]; exact HXf0.out) n hn1 hlt).mono ?_
      rintro e w2 ⟨r, rfl, hr, g_⟩
      have G2_ := Lib.hid (show (W).grownBy (w2) none from gby_trans G1_.out g_)
      have HTB3_ := Lib.hid (show (W).grownBy (w2) none from gby_trans HTB_.out g_)
      clear HTB_
      clear g_
      have HR := Lib.hid hr
      clear hr
      cases r
      · skip
        go_wp2
        go_ret
        exact ⟨false, rfl, iff_no (tok_no hn1 hnx (fun q => by have := HR.out.2 q; cases this)), G2_.out⟩
      · skip
        go_wp2
        refine ⟨⟨n + 1, by omega, by omega, by go_num, fun j h1 h2 => ?_, HTB3_.out⟩, by simp [intOf]; omega⟩
        by_cases e : j = n
        · subst e; exact HR.out.1 (by first | trivial | rfl)
        · exact HJ.out j h1 (by omega)
    · obtain rfl : n = len := by omega
      have hki : ¬ (n : Int) < (n : Int) := by omega
      go_wp2
      go_ret
      exact ⟨true, rfl, iff_yes ⟨by have := HE.out; omega, ⟨by rw [← HX.out]; exact HXf0.out, by rw [← HX.out]; exact HXf1.out, by rw [← HX.out]; exact HXf2.out⟩, fun k h1 h2 => HJ.out k h1 (by have := HE.out; omega)⟩, G1_.out⟩

end Go.Proofs.Ytdddidnibelmhaa
