/-
  Senders: as data; SenderOk.
-/
import Derived.Test.YtnighnkkeiegnabSeq
import Derived.Test.YtnighnkkeiegnabAreB
import Derived.Test.YtnighnkkeiegnabWireNum
import Derived.Test.YtnighnkkeiegnabQSFrame
import Derived.Test.YtnighnkkeiegnabBPost0
import Derived.Test.YtnighnkkeiegnabRSenderOk
import Derived.Deep.RegionHeld3
namespace Go.Proofs.Ytnighnkkeiegnab
open Go Go.RowKit
set_option linter.unusedVariables false

def fr (xs : List DFrame) (k : Nat) : DFrame := xs.getD k default
def FrP (m : Int) (xs : List DFrame) (k : Nat) : Prop := distQ (fr xs k).f0 m = (xs.length : Int) - (k : Int) ∧ AreB (fr xs k).f1
/-- a valid sender -/
def SndP (m r : Int) (xs : List DFrame) : Prop := IsQ m ∧ xs.length ≤ 7 ∧ (0 ≤ r ∧ r ≤ (xs.length : Int)) ∧ ∀ k, k < xs.length → FrP m xs k
theorem inr_orS (x a b : Int) : (a ≤ x ∧ x ≤ b) ∨ (x < a ∨ b < x) := by omega
theorem iff_noS {p : Prop} (h : ¬ p) : false = true ↔ p := ⟨fun q => (by cases q), fun q => absurd q h⟩
theorem iff_yesS {p : Prop} (h : p) : true = true ↔ p := ⟨fun _ => h, fun _ => rfl⟩
theorem ansN_ofS {v : Value} {W : World} (e : Ending) (w : World) (h : Ans v W e w) : AnsN v W e w := ⟨h.1, h.2.gby none⟩
theorem ansN_eq {v : Value} {W : World} (e : Ending) (w : World) (h : e = .returned v ∧ W = w) : AnsN v W e w := ⟨h.1, by rw [h.2]; exact gby_refl _ _⟩

theorem specByD (W : World) (v : Value) (xs : List Int) (H : RdL shI W v xs) (hl : szL shI xs ≤ 1048576) (b : Bool) (hb : b = decide (AreB xs)) : Calls Try.prog 64 #[v] W (AnsN (.bool b) W) := by
  rw [szL_I] at hl
  obtain ⟨a, cap, rfl, hi, _⟩ := rdI_in H
  rw [hb]
  exact (specBytes_any W a _ cap xs hi (by omega)).mono ansN_eq

theorem implByD (W : World) (v : Value) (xs : List Int) (H : RdL shI W v xs) (hl : szL shI xs ≤ 1048576) (b : Bool) (hb : b = decide (AreB xs)) : Calls Try.prog 75 #[v] W (AnsN (.bool b) W) := by
  rw [szL_I] at hl
  obtain ⟨a, cap, rfl, hi, _⟩ := rdI_in H
  rw [hb]
  exact (implBytes_any W a _ cap xs hi (by omega)).mono ansN_eq

set_option maxRecDepth 8000 in
set_option maxHeartbeats 2000000 in
theorem specSnd (W : World) (m r : Int) (v : Value) (xs : List DFrame) (H : RdL shFrame W v xs) (hl : szL shFrame xs ≤ 1048576) : Calls Try.prog 62 #[.agg #[.int .i64 m, v, .int .i64 r]] W (BPost (SndP m r xs) W) := by
  have HS := Lib.hid hl
  obtain ⟨a0, cap0, rfl, hcap, _, H⟩ := H
  have HC := Lib.hid H
  obtain ⟨n0, hn0⟩ : ∃ n, n = xs.length := ⟨_, rfl⟩
  have HE := Lib.hid hn0
  have hlx : n0 ≤ 1048576 := by have := szL_len shFrame xs; omega
  rw [← hn0]
  rw [← hn0] at HC
  clear H hcap hl hn0
  by_cases hq : IsQ m
  rotate_left
  · have d1_ : decide (IsQ m) = false := decide_eq_false hq
    have HQ := Lib.hid hq
    clear hq
    go_enter Try.func62, Try.ntmps62
    have rA1_ := Lib.hid (show ((W.alloc (.cells #[.int .i64 m, .slice a0 n0 cap0, .int .i64 r] 51))).heap[W.heap.size]? = some (.cells #[.int .i64 m, .slice a0 n0 cap0, .int .i64 r] 51 (0, 0)) from by exact heap_alloc_new _ _)
    have G2_ := Lib.hid (show (W).grownBy ((W.alloc (.cells #[.int .i64 m, .slice a0 n0 cap0, .int .i64 r] 51))) none from (gby_alloc (gby_refl _ _) _))
    have A_0_ : ((W.alloc (.cells #[.int .i64 m, .slice a0 n0 cap0, .int .i64 r] 51))).cell? ⟨W.heap.size, 0, none⟩ = some (.int .i64 m) := cell_of_row _ _ 0 _ _ _ rA1_.out
    have A_1_ : ((W.alloc (.cells #[.int .i64 m, .slice a0 n0 cap0, .int .i64 r] 51))).cell? ⟨W.heap.size, 1, none⟩ = some (.slice a0 n0 cap0) := cell_of_row _ _ 1 _ _ _ rA1_.out
    have A_2_ : ((W.alloc (.cells #[.int .i64 m, .slice a0 n0 cap0, .int .i64 r] 51))).cell? ⟨W.heap.size, 2, none⟩ = some (.int .i64 r) := cell_of_row _ _ 2 _ _ _ rA1_.out
    go_wp2_with fail
    go_at_call 65
    refine (specSeq_any _ _).mono ?_
    rintro e w1 ⟨rfl, hd⟩
    have g := hd.gby none
    clear hd
    have szw1 := g.size
    try simp only [World.size_alloc] at szw1
    try simp only [World.size_setCell] at szw1
    clear A_0_ A_1_ A_2_
    have rA3_ := Lib.hid (show (w1).heap[W.heap.size]? = some (.cells #[.int .i64 m, .slice a0 n0 cap0, .int .i64 r] 51 (0, 0)) from row_held g rA1_.out)
    clear rA1_
    have G4_ := Lib.hid (show (W).grownBy (w1) none from gby_trans G2_.out g)
    clear g
    have A_0_ : (w1).cell? ⟨W.heap.size, 0, none⟩ = some (.int .i64 m) := cell_of_row _ _ 0 _ _ _ rA3_.out
    have A_1_ : (w1).cell? ⟨W.heap.size, 1, none⟩ = some (.slice a0 n0 cap0) := cell_of_row _ _ 1 _ _ _ rA3_.out
    have A_2_ : (w1).cell? ⟨W.heap.size, 2, none⟩ = some (.int .i64 r) := cell_of_row _ _ 2 _ _ _ rA3_.out
    go_wp2
    go_ret
    exact ⟨false, rfl, iff_noS (fun q => HQ.out q.1), G4_.out⟩
  have d1_ : decide (IsQ m) = true := decide_eq_true hq
  have HQ := Lib.hid hq
  clear hq
  by_cases h7 : n0 ≤ 7
  rotate_left
  · have g7_ : (7 : Int) < (n0 : Int) := by omega
    have g8_ : decide ((7 : Int) < (n0 : Int)) = true := decide_eq_true g7_
    have g9_ : (n0 : Int) > 7 := g7_
    go_enter Try.func62, Try.ntmps62
    have rA1_ := Lib.hid (show ((W.alloc (.cells #[.int .i64 m, .slice a0 n0 cap0, .int .i64 r] 51))).heap[W.heap.size]? = some (.cells #[.int .i64 m, .slice a0 n0 cap0, .int .i64 r] 51 (0, 0)) from by exact heap_alloc_new _ _)
    have G2_ := Lib.hid (show (W).grownBy ((W.alloc (.cells #[.int .i64 m, .slice a0 n0 cap0, .int .i64 r] 51))) none from (gby_alloc (gby_refl _ _) _))
    have A_0_ : ((W.alloc (.cells #[.int .i64 m, .slice a0 n0 cap0, .int .i64 r] 51))).cell? ⟨W.heap.size, 0, none⟩ = some (.int .i64 m) := cell_of_row _ _ 0 _ _ _ rA1_.out
    have A_1_ : ((W.alloc (.cells #[.int .i64 m, .slice a0 n0 cap0, .int .i64 r] 51))).cell? ⟨W.heap.size, 1, none⟩ = some (.slice a0 n0 cap0) := cell_of_row _ _ 1 _ _ _ rA1_.out
    have A_2_ : ((W.alloc (.cells #[.int .i64 m, .slice a0 n0 cap0, .int .i64 r] 51))).cell? ⟨W.heap.size, 2, none⟩ = some (.int .i64 r) := cell_of_row _ _ 2 _ _ _ rA1_.out
    go_wp2_with fail
    go_at_call 65
    refine (specSeq_any _ _).mono ?_
    rintro e w1 ⟨rfl, hd⟩
    have g := hd.gby none
    clear hd
    have szw1 := g.size
    try simp only [World.size_alloc] at szw1
    try simp only [World.size_setCell] at szw1
    clear A_0_ A_1_ A_2_
    have rA3_ := Lib.hid (show (w1).heap[W.heap.size]? = some (.cells #[.int .i64 m, .slice a0 n0 cap0, .int .i64 r] 51 (0, 0)) from row_held g rA1_.out)
    clear rA1_
    have G4_ := Lib.hid (show (W).grownBy (w1) none from gby_trans G2_.out g)
    clear g
    have A_0_ : (w1).cell? ⟨W.heap.size, 0, none⟩ = some (.int .i64 m) := cell_of_row _ _ 0 _ _ _ rA3_.out
    have A_1_ : (w1).cell? ⟨W.heap.size, 1, none⟩ = some (.slice a0 n0 cap0) := cell_of_row _ _ 1 _ _ _ rA3_.out
    have A_2_ : (w1).cell? ⟨W.heap.size, 2, none⟩ = some (.int .i64 r) := cell_of_row _ _ 2 _ _ _ rA3_.out
    go_wp2
    go_ret
    exact ⟨false, rfl, iff_noS (fun q => by have := q.2.1; have := HE.out; omega), G4_.out⟩
  have g7_ : ¬ (7 : Int) < (n0 : Int) := by omega
  have g8_ : decide ((7 : Int) < (n0 : Int)) = false := decide_eq_false g7_
  rcases inr_orS r 0 (n0 : Int) with ⟨hr1, hr2⟩ | hr
  rotate_left
  · have HR := Lib.hid hr
    clear hr
    go_enter Try.func62, Try.ntmps62
    have rA1_ := Lib.hid (show ((W.alloc (.cells #[.int .i64 m, .slice a0 n0 cap0, .int .i64 r] 51))).heap[W.heap.size]? = some (.cells #[.int .i64 m, .slice a0 n0 cap0, .int .i64 r] 51 (0, 0)) from by exact heap_alloc_new _ _)
    have G2_ := Lib.hid (show (W).grownBy ((W.alloc (.cells #[.int .i64 m, .slice a0 n0 cap0, .int .i64 r] 51))) none from (gby_alloc (gby_refl _ _) _))
    have A_0_ : ((W.alloc (.cells #[.int .i64 m, .slice a0 n0 cap0, .int .i64 r] 51))).cell? ⟨W.heap.size, 0, none⟩ = some (.int .i64 m) := cell_of_row _ _ 0 _ _ _ rA1_.out
    have A_1_ : ((W.alloc (.cells #[.int .i64 m, .slice a0 n0 cap0, .int .i64 r] 51))).cell? ⟨W.heap.size, 1, none⟩ = some (.slice a0 n0 cap0) := cell_of_row _ _ 1 _ _ _ rA1_.out
    have A_2_ : ((W.alloc (.cells #[.int .i64 m, .slice a0 n0 cap0, .int .i64 r] 51))).cell? ⟨W.heap.size, 2, none⟩ = some (.int .i64 r) := cell_of_row _ _ 2 _ _ _ rA1_.out
    go_wp2_with fail
    go_at_call 65
    refine (specSeq_any _ _).mono ?_
    rintro e w1 ⟨rfl, hd⟩
    have g := hd.gby none
    clear hd
    have szw1 := g.size
    try simp only [World.size_alloc] at szw1
    try simp only [World.size_setCell] at szw1
    clear A_0_ A_1_ A_2_
    have rA3_ := Lib.hid (show (w1).heap[W.heap.size]? = some (.cells #[.int .i64 m, .slice a0 n0 cap0, .int .i64 r] 51 (0, 0)) from row_held g rA1_.out)
    clear rA1_
    have G4_ := Lib.hid (show (W).grownBy (w1) none from gby_trans G2_.out g)
    clear g
    have A_0_ : (w1).cell? ⟨W.heap.size, 0, none⟩ = some (.int .i64 m) := cell_of_row _ _ 0 _ _ _ rA3_.out
    have A_1_ : (w1).cell? ⟨W.heap.size, 1, none⟩ = some (.slice a0 n0 cap0) := cell_of_row _ _ 1 _ _ _ rA3_.out
    have A_2_ : (w1).cell? ⟨W.heap.size, 2, none⟩ = some (.int .i64 r) := cell_of_row _ _ 2 _ _ _ rA3_.out
    go_wp2_with fail
    go_at_call 81
    refine (in_no _ _ _ _ HR.out).mono ?_
    rintro e w2_ ⟨rfl, rfl⟩
    go_wp2
    go_ret
    exact ⟨false, rfl, iff_noS (fun q => by have := HR.out; have := q.2.2.1; have := HE.out; omega), G4_.out⟩
  go_enter Try.func62, Try.ntmps62
  have rA1_ := Lib.hid (show ((W.alloc (.cells #[.int .i64 m, .slice a0 n0 cap0, .int .i64 r] 51))).heap[W.heap.size]? = some (.cells #[.int .i64 m, .slice a0 n0 cap0, .int .i64 r] 51 (0, 0)) from by exact heap_alloc_new _ _)
  have G2_ := Lib.hid (show (W).grownBy ((W.alloc (.cells #[.int .i64 m, .slice a0 n0 cap0, .int .i64 r] 51))) none from (gby_alloc (gby_refl _ _) _))
  have A_0_ : ((W.alloc (.cells #[.int .i64 m, .slice a0 n0 cap0, .int .i64 r] 51))).cell? ⟨W.heap.size, 0, none⟩ = some (.int .i64 m) := cell_of_row _ _ 0 _ _ _ rA1_.out
  have A_1_ : ((W.alloc (.cells #[.int .i64 m, .slice a0 n0 cap0, .int .i64 r] 51))).cell? ⟨W.heap.size, 1, none⟩ = some (.slice a0 n0 cap0) := cell_of_row _ _ 1 _ _ _ rA1_.out
  have A_2_ : ((W.alloc (.cells #[.int .i64 m, .slice a0 n0 cap0, .int .i64 r] 51))).cell? ⟨W.heap.size, 2, none⟩ = some (.int .i64 r) := cell_of_row _ _ 2 _ _ _ rA1_.out
  go_wp2_with fail
  go_at_call 65
  refine (specSeq_any _ _).mono ?_
  rintro e w1 ⟨rfl, hd⟩
  have g := hd.gby none
  clear hd
  have szw1 := g.size
  try simp only [World.size_alloc] at szw1
  try simp only [World.size_setCell] at szw1
  clear A_0_ A_1_ A_2_
  have rA3_ := Lib.hid (show (w1).heap[W.heap.size]? = some (.cells #[.int .i64 m, .slice a0 n0 cap0, .int .i64 r] 51 (0, 0)) from row_held g rA1_.out)
  clear rA1_
  have G4_ := Lib.hid (show (W).grownBy (w1) none from gby_trans G2_.out g)
  clear g
  have A_0_ : (w1).cell? ⟨W.heap.size, 0, none⟩ = some (.int .i64 m) := cell_of_row _ _ 0 _ _ _ rA3_.out
  have A_1_ : (w1).cell? ⟨W.heap.size, 1, none⟩ = some (.slice a0 n0 cap0) := cell_of_row _ _ 1 _ _ _ rA3_.out
  have A_2_ : (w1).cell? ⟨W.heap.size, 2, none⟩ = some (.int .i64 r) := cell_of_row _ _ 2 _ _ _ rA3_.out
  go_wp2_with fail
  go_at_call 81
  refine (in_yes _ _ _ _ (by omega) (by omega)).mono ?_
  rintro e w2_ ⟨rfl, rfl⟩
  go_wp2
  go_loopw [4] (fun i wr => ∃ k : Nat, i = .int .i64 (k : Int) ∧ k ≤ n0 ∧ (∀ j, j < k → FrP m xs j) ∧ (w1).grownBy wr none) (fun i _ => n0 - (intOf i).toNat)
  case atStart => exact ⟨0, rfl, by omega, (fun j hj => absurd hj (Nat.not_lt_zero _)), gby_refl _ _⟩
  case round =>
    clear A_0_ A_1_ A_2_
    obtain ⟨k, rfl, hk, hall_, hg⟩ := hrel
    have szrwr := hg.size
    try simp only [World.size_alloc] at szrwr
    try simp only [World.size_setCell] at szrwr
    have szr_ := szrwr
    have rA5_ := Lib.hid (show (wr).heap[W.heap.size]? = some (.cells #[.int .i64 m, .slice a0 n0 cap0, .int .i64 r] 51 (0, 0)) from row_held hg rA3_.out)
    clear rA3_
    have G6_ := Lib.hid (show (W).grownBy (wr) none from gby_trans G4_.out hg)
    have HTB_ := Lib.hid hg
    clear hg
    have A_0_ : (wr).cell? ⟨W.heap.size, 0, none⟩ = some (.int .i64 m) := cell_of_row _ _ 0 _ _ _ rA5_.out
    have A_1_ : (wr).cell? ⟨W.heap.size, 1, none⟩ = some (.slice a0 n0 cap0) := cell_of_row _ _ 1 _ _ _ rA5_.out
    have A_2_ : (wr).cell? ⟨W.heap.size, 2, none⟩ = some (.int .i64 r) := cell_of_row _ _ 2 _ _ _ rA5_.out
    have HALL := Lib.hid hall_
    clear hall_
    have hk0 : (0 : Int) ≤ (k : Int) := by omega
    have htk : ((k : Int)).toNat = k := by omega
    by_cases hlt : k < n0
    rotate_left
    · obtain rfl : k = n0 := by omega
      have hki : ¬ (k : Int) < (k : Int) := by omega
      go_wp2
      go_ret
      exact ⟨true, rfl, iff_yesS ⟨HQ.out, by have := HE.out; omega, by have := HE.out; omega, fun j hj => HALL.out j (by have := HE.out; omega)⟩, G6_.out⟩
    have hki : (k : Int) < (n0 : Int) := by omega
    have hw_ : IntKind.i64.wrap ((n0 : Int) - (k : Int)) = (n0 : Int) - (k : Int) := IntWalk.i64_in _ (by omega)
    obtain ⟨ab, ao, rfl, hcell_⟩ := HC.out.resolve_left (by omega)
    have HCE := Lib.hid hcell_
    clear hcell_
    have hq_ : k < n0 := hlt
    obtain ⟨cs_, hat_, hrd_⟩ := HCE.out k (by omega)
    obtain ⟨xk, hx_⟩ : ∃ x, x = xs.getD k default := ⟨_, rfl⟩
    rw [← hx_] at hrd_
    have hzk_ : szL shI xk.f1 ≤ 1048576 := by have q1 := szL_at shFrame xs k (by have := HE.out; omega); rw [← hx_] at q1; exact Nat.le_trans q1 HS.out
    have HXk := Lib.hid (show xk = fr xs k from hx_)
    obtain ⟨v1_, rfl, r1_⟩ := hrd_
    obtain ⟨pk, nk, ck, hv_⟩ := RdL.form r1_
    subst hv_
    have Rk := Lib.hid r1_
    have HEk0 := Lib.hid (show W.cell? ⟨ab, ao + k * 2, none⟩ = some (.int .i64 xk.f0) from at_cell (j := 0) hat_ rfl)
    have HEk1 := Lib.hid (show W.cell? ⟨ab, ao + k * 2 + 1, none⟩ = some (.slice pk nk ck) from at_cell (j := 1) hat_ rfl)
    clear hat_ r1_ hx_ hq_
    have ek0_ := (G6_.out).cell HEk0.out (by simp)
    have ek1_ := (G6_.out).cell HEk1.out (by simp)
    obtain ⟨d, hd_⟩ : ∃ d, d = distQ xk.f0 m := ⟨_, rfl⟩
    have HDD := Lib.hid hd_
    clear hd_
    by_cases hdq : d = (n0 : Int) - (k : Int)
    rotate_left
    · have n1_ : (d != (n0 : Int) - (k : Int)) = true := bne_iff_ne.2 hdq
      have HDQ := Lib.hid hdq
      clear hdq
      have HDIST := Lib.hid (show ∀ w : World, Calls Try.prog 97 #[.int .i64 xk.f0, .int .i64 m] w (AnsN (.int .i64 d) w) from by rw [HDD.out]; exact fun w => (specDist_any _ _ w).mono ansN_ofS)
      go_wp2_with fail
      refine wp_region_held_drew (S := fun w' => w'.cell? ⟨W.heap.size, 0, none⟩ = some (.int .i64 m) ∧ w'.cell? ⟨W.heap.size, 1, none⟩ = some (.slice (some ⟨ab, ao, none⟩) n0 cap0) ∧ w'.cell? ⟨ab, ao + k * 2, none⟩ = some (.int .i64 xk.f0) ∧ w'.cell? ⟨ab, ao + k * 2 + 1, none⟩ = some (.slice pk nk ck)) (by kernel_rfl) (by (try dsimp only); exact ⟨A_0_, A_1_, ek0_, ek1_⟩) (fun hHeld => ?_)
      refine wpAnyH_take (i := 0) (oi := { dst := some 28, op := Op.fieldAddr 51 (Operand.tmp 1) 1, type := 0, pos := "l08_sender.go:13", after := #[], guard := none }) (v := ?v0_r1_1) rfl (by kernel_rfl) (by kernel_rfl) (by kernel_rfl) (fun _ _ _ h => h) (Or.inl ⟨by rfl, ?y0_r1_1⟩) (by assumption) ?r0_r1_1
      case y0_r1_1 => (intro w hSw; (try dsimp only at hSw); go_simp; all_goals (with_reducible rfl))
      try simp only [Act.put, List.setIfInBounds_toArray, List.set_cons_zero, List.set_cons_succ]
      refine wpAnyH_take (i := 1) (oi := { dst := some 29, op := Op.load 49 (Operand.tmp 28), type := 49, pos := "l08_sender.go:13", after := #[{ on := 0, ground := Ground.data }], guard := none }) (v := ?v1_r1_2) rfl (by kernel_rfl) (by kernel_rfl) (by kernel_rfl) (fun _ _ _ h => h) (Or.inl ⟨by rfl, ?y1_r1_2⟩) (by assumption) ?r1_r1_2
      case y1_r1_2 => (intro w hSw; (try dsimp only at hSw); go_simp; all_goals (with_reducible rfl))
      try simp only [Act.put, List.setIfInBounds_toArray, List.set_cons_zero, List.set_cons_succ]
      refine wpAnyH_take (i := 2) (oi := { dst := some 30, op := Op.move (Operand.tmp 4), type := 3, pos := "l08_sender.go:13", after := #[], guard := none }) (v := ?v2_r1_3) rfl (by kernel_rfl) (by kernel_rfl) (by kernel_rfl) (fun _ _ _ h => h) (Or.inl ⟨by rfl, ?y2_r1_3⟩) (by assumption) ?r2_r1_3
      case y2_r1_3 => (intro w hSw; (try dsimp only at hSw); go_simp; all_goals (with_reducible rfl))
      try simp only [Act.put, List.setIfInBounds_toArray, List.set_cons_zero, List.set_cons_succ]
      refine wpAnyH_take (i := 3) (oi := { dst := some 31, op := Op.indexAddr 49 (Operand.tmp 29) (Operand.tmp 30), type := 0, pos := "l08_sender.go:13", after := #[{ on := 1, ground := Ground.data }, { on := 2, ground := Ground.data }], guard := none }) (v := ?v3_r1_4) rfl (by kernel_rfl) (by kernel_rfl) (by kernel_rfl) (fun _ _ _ h => h) (Or.inl ⟨by rfl, ?y3_r1_4⟩) (by assumption) ?r3_r1_4
      case y3_r1_4 => (intro w hSw; (try dsimp only at hSw); go_simp; all_goals (with_reducible rfl))
      try simp only [Act.put, List.setIfInBounds_toArray, List.set_cons_zero, List.set_cons_succ]
      refine wpAnyH_take (i := 4) (oi := { dst := some 32, op := Op.fieldAddr 104 (Operand.tmp 31) 0, type := 0, pos := "l08_sender.go:13", after := #[{ on := 3, ground := Ground.data }], guard := none }) (v := ?v4_r1_5) rfl (by kernel_rfl) (by kernel_rfl) (by kernel_rfl) (fun _ _ _ h => h) (Or.inl ⟨by rfl, ?y4_r1_5⟩) (by assumption) ?r4_r1_5
      case y4_r1_5 => (intro w hSw; (try dsimp only at hSw); go_simp; all_goals (with_reducible rfl))
      try simp only [Act.put, List.setIfInBounds_toArray, List.set_cons_zero, List.set_cons_succ]
      refine wpAnyH_take (i := 5) (oi := { dst := some 33, op := Op.load 3 (Operand.tmp 32), type := 3, pos := "l08_sender.go:13", after := #[{ on := 4, ground := Ground.data }], guard := none }) (v := ?v5_r1_6) rfl (by kernel_rfl) (by kernel_rfl) (by kernel_rfl) (fun _ _ _ h => h) (Or.inl ⟨by rfl, ?y5_r1_6⟩) (by assumption) ?r5_r1_6
      case y5_r1_6 => (intro w hSw; (try dsimp only at hSw); go_simp; all_goals (with_reducible rfl))
      try simp only [Act.put, List.setIfInBounds_toArray, List.set_cons_zero, List.set_cons_succ]
      refine wpAnyH_take (i := 6) (oi := { dst := some 34, op := Op.fieldAddr 51 (Operand.tmp 1) 0, type := 0, pos := "l08_sender.go:13", after := #[], guard := none }) (v := ?v6_r1_7) rfl (by kernel_rfl) (by kernel_rfl) (by kernel_rfl) (fun _ _ _ h => h) (Or.inl ⟨by rfl, ?y6_r1_7⟩) (by assumption) ?r6_r1_7
      case y6_r1_7 => (intro w hSw; (try dsimp only at hSw); go_simp; all_goals (with_reducible rfl))
      try simp only [Act.put, List.setIfInBounds_toArray, List.set_cons_zero, List.set_cons_succ]
      refine wpAnyH_take (i := 7) (oi := { dst := some 35, op := Op.load 3 (Operand.tmp 34), type := 3, pos := "l08_sender.go:13", after := #[{ on := 6, ground := Ground.data }], guard := none }) (v := ?v7_r1_8) rfl (by kernel_rfl) (by kernel_rfl) (by kernel_rfl) (fun _ _ _ h => h) (Or.inl ⟨by rfl, ?y7_r1_8⟩) (by assumption) ?r7_r1_8
      case y7_r1_8 => (intro w hSw; (try dsimp only at hSw); go_simp; all_goals (with_reducible rfl))
      try simp only [Act.put, List.setIfInBounds_toArray, List.set_cons_zero, List.set_cons_succ]
      refine wpAnyH_take (i := 9) (oi := { dst := some 37, op := Op.move (Operand.tmp 3), type := 3, pos := "l08_sender.go:13", after := #[], guard := none }) (v := ?v9_r1_9) rfl (by kernel_rfl) (by kernel_rfl) (by kernel_rfl) (fun _ _ _ h => h) (Or.inl ⟨by rfl, ?y9_r1_9⟩) (by assumption) ?r9_r1_9
      case y9_r1_9 => (intro w hSw; (try dsimp only at hSw); go_simp; all_goals (with_reducible rfl))
      try simp only [Act.put, List.setIfInBounds_toArray, List.set_cons_zero, List.set_cons_succ]
      refine wpAnyH_take (i := 10) (oi := { dst := some 38, op := Op.move (Operand.tmp 4), type := 3, pos := "l08_sender.go:13", after := #[], guard := none }) (v := ?v10_r1_10) rfl (by kernel_rfl) (by kernel_rfl) (by kernel_rfl) (fun _ _ _ h => h) (Or.inl ⟨by rfl, ?y10_r1_10⟩) (by assumption) ?r10_r1_10
      case y10_r1_10 => (intro w hSw; (try dsimp only at hSw); go_simp; all_goals (with_reducible rfl))
      try simp only [Act.put, List.setIfInBounds_toArray, List.set_cons_zero, List.set_cons_succ]
      refine wpAnyH_take (i := 11) (oi := { dst := some 39, op := Op.binOp BinOp.sub 3 (Operand.tmp 37) (Operand.tmp 38) 3, type := 3, pos := "l08_sender.go:13", after := #[{ on := 9, ground := Ground.data }, { on := 10, ground := Ground.data }], guard := none }) (v := ?v11_r1_11) rfl (by kernel_rfl) (by kernel_rfl) (by kernel_rfl) (fun _ _ _ h => h) (Or.inl ⟨by rfl, ?y11_r1_11⟩) (by assumption) ?r11_r1_11
      case y11_r1_11 => (intro w hSw; (try dsimp only at hSw); go_simp; all_goals (with_reducible rfl))
      try simp only [Act.put, List.setIfInBounds_toArray, List.set_cons_zero, List.set_cons_succ]
      refine wpAnyH_ready (rs := [8]) (by kernel_rfl) (by simp) ?_
      refine AllReadyH.cons (o := { dst := some 36, op := Op.call { callee := Callee.value (Operand.func 97), args := #[Operand.tmp 33, Operand.tmp 35], argTypes := #[3, 3] }, type := 3, pos := "l08_sender.go:13", after := #[{ on := 5, ground := Ground.data }, { on := 7, ground := Ground.data }], guard := none }) rfl (fun K hK => ?_) AllReadyH.nil
      go_simp
      go_at_call 97
      refine (HDIST.out _).mono ?_
      rintro e wH12_r1 ⟨rfl, gH12_r1⟩
      have m12_A_0_ : wH12_r1.cell? _ = some _ := gH12_r1.cell A_0_ (by simp); have m12_A_1_ : wH12_r1.cell? _ = some _ := gH12_r1.cell A_1_ (by simp); have m12_ek0_ : wH12_r1.cell? _ = some _ := gH12_r1.cell ek0_ (by simp); have m12_ek1_ : wH12_r1.cell? _ = some _ := gH12_r1.cell ek1_ (by simp)
      go_wp2_with fail
      clear hHeld
      refine hK.out _ _ ?s8_r1_12 (fun hHeld => ?_)
      case s8_r1_12 => exact ⟨m12_A_0_, m12_A_1_, m12_ek0_, m12_ek1_⟩
      clear hK K
      try simp only [Act.put, List.setIfInBounds_toArray, List.set_cons_zero, List.set_cons_succ]
      refine wpAnyH_take (i := 12) (oi := { dst := some 40, op := Op.binOp BinOp.neq 3 (Operand.tmp 36) (Operand.tmp 39) 3, type := 4, pos := "l08_sender.go:13", after := #[{ on := 8, ground := Ground.data }, { on := 11, ground := Ground.data }], guard := none }) (v := ?v12_r1_13) rfl (by kernel_rfl) (by kernel_rfl) (by kernel_rfl) (fun _ _ _ h => h) (Or.inl ⟨by rfl, ?y12_r1_13⟩) (by assumption) ?r12_r1_13
      case y12_r1_13 => (intro w hSw; (try dsimp only at hSw); go_simp; all_goals (with_reducible rfl))
      try simp only [Act.put, List.setIfInBounds_toArray, List.set_cons_zero, List.set_cons_succ]
      refine wpAnyH_take (i := 13) (oi := { dst := some 41, op := Op.move (Operand.tmp 40), type := 4, pos := "l08_sender.go:13", after := #[{ on := 12, ground := Ground.data }, { on := 8, ground := Ground.chain }], guard := none }) (v := ?v13_r1_14) rfl (by kernel_rfl) (by kernel_rfl) (by kernel_rfl) (fun _ _ _ h => h) (Or.inl ⟨by rfl, ?y13_r1_14⟩) (by assumption) ?r13_r1_14
      case y13_r1_14 => (intro w hSw; (try dsimp only at hSw); go_simp; all_goals (with_reducible rfl))
      try simp only [Act.put, List.setIfInBounds_toArray, List.set_cons_zero, List.set_cons_succ]
      refine wpAnyH_take (i := 14) (oi := { dst := some 42, op := Op.fieldAddr 51 (Operand.tmp 1) 1, type := 0, pos := "l08_sender.go:13", after := #[{ on := 13, ground := Ground.guard }], guard := some (13, false) }) (v := undef) rfl (by kernel_rfl) (by kernel_rfl) (by kernel_rfl) (fun _ _ _ h => h) (Or.inr ⟨by rfl, rfl⟩) (by assumption) ?r14_r1_15
      try simp only [Act.put, List.setIfInBounds_toArray, List.set_cons_zero, List.set_cons_succ]
      refine wpAnyH_take (i := 15) (oi := { dst := some 43, op := Op.load 49 (Operand.tmp 42), type := 49, pos := "l08_sender.go:13", after := #[{ on := 14, ground := Ground.data }, { on := 13, ground := Ground.guard }], guard := some (13, false) }) (v := undef) rfl (by kernel_rfl) (by kernel_rfl) (by kernel_rfl) (fun _ _ _ h => h) (Or.inr ⟨by rfl, rfl⟩) (by assumption) ?r15_r1_16
      try simp only [Act.put, List.setIfInBounds_toArray, List.set_cons_zero, List.set_cons_succ]
      refine wpAnyH_take (i := 16) (oi := { dst := some 44, op := Op.move (Operand.tmp 4), type := 3, pos := "l08_sender.go:13", after := #[{ on := 13, ground := Ground.guard }], guard := some (13, false) }) (v := undef) rfl (by kernel_rfl) (by kernel_rfl) (by kernel_rfl) (fun _ _ _ h => h) (Or.inr ⟨by rfl, rfl⟩) (by assumption) ?r16_r1_17
      try simp only [Act.put, List.setIfInBounds_toArray, List.set_cons_zero, List.set_cons_succ]
      refine wpAnyH_take (i := 17) (oi := { dst := some 45, op := Op.indexAddr 49 (Operand.tmp 43) (Operand.tmp 44), type := 0, pos := "l08_sender.go:13", after := #[{ on := 15, ground := Ground.data }, { on := 16, ground := Ground.data }, { on := 13, ground := Ground.guard }], guard := some (13, false) }) (v := undef) rfl (by kernel_rfl) (by kernel_rfl) (by kernel_rfl) (fun _ _ _ h => h) (Or.inr ⟨by rfl, rfl⟩) (by assumption) ?r17_r1_18
      try simp only [Act.put, List.setIfInBounds_toArray, List.set_cons_zero, List.set_cons_succ]
      refine wpAnyH_take (i := 18) (oi := { dst := some 46, op := Op.fieldAddr 104 (Operand.tmp 45) 1, type := 0, pos := "l08_sender.go:13", after := #[{ on := 17, ground := Ground.data }, { on := 13, ground := Ground.guard }], guard := some (13, false) }) (v := undef) rfl (by kernel_rfl) (by kernel_rfl) (by kernel_rfl) (fun _ _ _ h => h) (Or.inr ⟨by rfl, rfl⟩) (by assumption) ?r18_r1_19
      try simp only [Act.put, List.setIfInBounds_toArray, List.set_cons_zero, List.set_cons_succ]
      refine wpAnyH_take (i := 19) (oi := { dst := some 47, op := Op.load 23 (Operand.tmp 46), type := 23, pos := "l08_sender.go:13", after := #[{ on := 18, ground := Ground.data }, { on := 13, ground := Ground.guard }], guard := some (13, false) }) (v := undef) rfl (by kernel_rfl) (by kernel_rfl) (by kernel_rfl) (fun _ _ _ h => h) (Or.inr ⟨by rfl, rfl⟩) (by assumption) ?r19_r1_20
      try simp only [Act.put, List.setIfInBounds_toArray, List.set_cons_zero, List.set_cons_succ]
      refine wpAnyH_take (i := 20) (oi := { dst := some 48, op := Op.call { callee := Callee.value (Operand.func 64), args := #[Operand.tmp 47], argTypes := #[23] }, type := 4, pos := "l08_sender.go:13", after := #[{ on := 19, ground := Ground.data }, { on := 13, ground := Ground.chain }, { on := 13, ground := Ground.guard }], guard := some (13, false) }) (v := undef) rfl (by kernel_rfl) (by kernel_rfl) (by kernel_rfl) (fun _ _ _ h => h) (Or.inr ⟨by rfl, rfl⟩) (by assumption) ?r20_r1_21
      try simp only [Act.put, List.setIfInBounds_toArray, List.set_cons_zero, List.set_cons_succ]
      refine wpAnyH_take (i := 21) (oi := { dst := some 49, op := Op.unOp UnOp.not 4 (Operand.tmp 48), type := 4, pos := "l08_sender.go:13", after := #[{ on := 20, ground := Ground.data }, { on := 13, ground := Ground.guard }], guard := some (13, false) }) (v := undef) rfl (by kernel_rfl) (by kernel_rfl) (by kernel_rfl) (fun _ _ _ h => h) (Or.inr ⟨by rfl, rfl⟩) (by assumption) ?r21_r1_22
      try simp only [Act.put, List.setIfInBounds_toArray, List.set_cons_zero, List.set_cons_succ]
      refine wpAnyH_take (i := 22) (oi := { dst := some 50, op := Op.pick (Operand.tmp 41) (Operand.const (Value.bool true)) (Operand.tmp 49), type := 4, pos := "l08_sender.go:13", after := #[{ on := 13, ground := Ground.data }, { on := 21, ground := Ground.data }], guard := none }) (v := ?v22_r1_23) rfl (by kernel_rfl) (by kernel_rfl) (by kernel_rfl) (fun _ _ _ h => h) (Or.inl ⟨by rfl, ?y22_r1_23⟩) (by assumption) ?r22_r1_23
      case y22_r1_23 => (intro w hSw; (try dsimp only at hSw); go_simp; all_goals (with_reducible rfl))
      try simp only [Act.put, List.setIfInBounds_toArray, List.set_cons_zero, List.set_cons_succ]
      refine wpAnyH_done (by kernel_rfl) ?_ _
      have gR_ : (wr).grownBy (wH12_r1) none := (gby_trans (gby_drew (gby_refl _ none)) gH12_r1)
      have szwH12_r1 := gR_.size
      try simp only [World.size_alloc] at szwH12_r1
      clear A_0_ A_1_ A_2_ ek0_ ek1_
      have rA7_ := Lib.hid (show (wH12_r1).heap[W.heap.size]? = some (.cells #[.int .i64 m, .slice (some ⟨ab, ao, none⟩) n0 cap0, .int .i64 r] 51 (0, 0)) from row_held gR_ rA5_.out)
      clear rA5_
      have G8_ := Lib.hid (show (W).grownBy (wH12_r1) none from gby_trans G6_.out gR_)
      have HTB9_ := Lib.hid (show (w1).grownBy (wH12_r1) none from gby_trans HTB_.out gR_)
      clear HTB_
      clear gR_
      go_wp2
      go_ret
      exact ⟨false, rfl, iff_noS (fun q => HDQ.out (by have := (q.2.2.2 k (by have := HE.out; omega)).1; rw [← HXk.out, ← HDD.out, ← HE.out] at this; exact this)), G8_.out⟩
    · have n1_ : (d != (n0 : Int) - (k : Int)) = false := by rw [hdq]; simp
      have HDIST := Lib.hid (show ∀ w : World, Calls Try.prog 97 #[.int .i64 xk.f0, .int .i64 m] w (AnsN (.int .i64 d) w) from by rw [HDD.out]; exact fun w => (specDist_any _ _ w).mono ansN_ofS)
      by_cases hab : AreB xk.f1
      · have HAB := Lib.hid hab
        clear hab
        go_wp2_with fail
        refine wp_region_held_drew (S := fun w' => w'.cell? ⟨W.heap.size, 0, none⟩ = some (.int .i64 m) ∧ w'.cell? ⟨W.heap.size, 1, none⟩ = some (.slice (some ⟨ab, ao, none⟩) n0 cap0) ∧ w'.cell? ⟨ab, ao + k * 2, none⟩ = some (.int .i64 xk.f0) ∧ w'.cell? ⟨ab, ao + k * 2 + 1, none⟩ = some (.slice pk nk ck)) (by kernel_rfl) (by (try dsimp only); exact ⟨A_0_, A_1_, ek0_, ek1_⟩) (fun hHeld => ?_)
        refine wpAnyH_take (i := 0) (oi := { dst := some 28, op := Op.fieldAddr 51 (Operand.tmp 1) 1, type := 0, pos := "l08_sender.go:13", after := #[], guard := none }) (v := ?v0_r2_1) rfl (by kernel_rfl) (by kernel_rfl) (by kernel_rfl) (fun _ _ _ h => h) (Or.inl ⟨by rfl, ?y0_r2_1⟩) (by assumption) ?r0_r2_1
        case y0_r2_1 => (intro w hSw; (try dsimp only at hSw); go_simp; all_goals (with_reducible rfl))
        try simp only [Act.put, List.setIfInBounds_toArray, List.set_cons_zero, List.set_cons_succ]
        refine wpAnyH_take (i := 1) (oi := { dst := some 29, op := Op.load 49 (Operand.tmp 28), type := 49, pos := "l08_sender.go:13", after := #[{ on := 0, ground := Ground.data }], guard := none }) (v := ?v1_r2_2) rfl (by kernel_rfl) (by kernel_rfl) (by kernel_rfl) (fun _ _ _ h => h) (Or.inl ⟨by rfl, ?y1_r2_2⟩) (by assumption) ?r1_r2_2
        case y1_r2_2 => (intro w hSw; (try dsimp only at hSw); go_simp; all_goals (with_reducible rfl))
        try simp only [Act.put, List.setIfInBounds_toArray, List.set_cons_zero, List.set_cons_succ]
        refine wpAnyH_take (i := 2) (oi := { dst := some 30, op := Op.move (Operand.tmp 4), type := 3, pos := "l08_sender.go:13", after := #[], guard := none }) (v := ?v2_r2_3) rfl (by kernel_rfl) (by kernel_rfl) (by kernel_rfl) (fun _ _ _ h => h) (Or.inl ⟨by rfl, ?y2_r2_3⟩) (by assumption) ?r2_r2_3
        case y2_r2_3 => (intro w hSw; (try dsimp only at hSw); go_simp; all_goals (with_reducible rfl))
        try simp only [Act.put, List.setIfInBounds_toArray, List.set_cons_zero, List.set_cons_succ]
        refine wpAnyH_take (i := 3) (oi := { dst := some 31, op := Op.indexAddr 49 (Operand.tmp 29) (Operand.tmp 30), type := 0, pos := "l08_sender.go:13", after := #[{ on := 1, ground := Ground.data }, { on := 2, ground := Ground.data }], guard := none }) (v := ?v3_r2_4) rfl (by kernel_rfl) (by kernel_rfl) (by kernel_rfl) (fun _ _ _ h => h) (Or.inl ⟨by rfl, ?y3_r2_4⟩) (by assumption) ?r3_r2_4
        case y3_r2_4 => (intro w hSw; (try dsimp only at hSw); go_simp; all_goals (with_reducible rfl))
        try simp only [Act.put, List.setIfInBounds_toArray, List.set_cons_zero, List.set_cons_succ]
        refine wpAnyH_take (i := 4) (oi := { dst := some 32, op := Op.fieldAddr 104 (Operand.tmp 31) 0, type := 0, pos := "l08_sender.go:13", after := #[{ on := 3, ground := Ground.data }], guard := none }) (v := ?v4_r2_5) rfl (by kernel_rfl) (by kernel_rfl) (by kernel_rfl) (fun _ _ _ h => h) (Or.inl ⟨by rfl, ?y4_r2_5⟩) (by assumption) ?r4_r2_5
        case y4_r2_5 => (intro w hSw; (try dsimp only at hSw); go_simp; all_goals (with_reducible rfl))
        try simp only [Act.put, List.setIfInBounds_toArray, List.set_cons_zero, List.set_cons_succ]
        refine wpAnyH_take (i := 5) (oi := { dst := some 33, op := Op.load 3 (Operand.tmp 32), type := 3, pos := "l08_sender.go:13", after := #[{ on := 4, ground := Ground.data }], guard := none }) (v := ?v5_r2_6) rfl (by kernel_rfl) (by kernel_rfl) (by kernel_rfl) (fun _ _ _ h => h) (Or.inl ⟨by rfl, ?y5_r2_6⟩) (by assumption) ?r5_r2_6
        case y5_r2_6 => (intro w hSw; (try dsimp only at hSw); go_simp; all_goals (with_reducible rfl))
        try simp only [Act.put, List.setIfInBounds_toArray, List.set_cons_zero, List.set_cons_succ]
        refine wpAnyH_take (i := 6) (oi := { dst := some 34, op := Op.fieldAddr 51 (Operand.tmp 1) 0, type := 0, pos := "l08_sender.go:13", after := #[], guard := none }) (v := ?v6_r2_7) rfl (by kernel_rfl) (by kernel_rfl) (by kernel_rfl) (fun _ _ _ h => h) (Or.inl ⟨by rfl, ?y6_r2_7⟩) (by assumption) ?r6_r2_7
        case y6_r2_7 => (intro w hSw; (try dsimp only at hSw); go_simp; all_goals (with_reducible rfl))
        try simp only [Act.put, List.setIfInBounds_toArray, List.set_cons_zero, List.set_cons_succ]
        refine wpAnyH_take (i := 7) (oi := { dst := some 35, op := Op.load 3 (Operand.tmp 34), type := 3, pos := "l08_sender.go:13", after := #[{ on := 6, ground := Ground.data }], guard := none }) (v := ?v7_r2_8) rfl (by kernel_rfl) (by kernel_rfl) (by kernel_rfl) (fun _ _ _ h => h) (Or.inl ⟨by rfl, ?y7_r2_8⟩) (by assumption) ?r7_r2_8
        case y7_r2_8 => (intro w hSw; (try dsimp only at hSw); go_simp; all_goals (with_reducible rfl))
        try simp only [Act.put, List.setIfInBounds_toArray, List.set_cons_zero, List.set_cons_succ]
        refine wpAnyH_take (i := 9) (oi := { dst := some 37, op := Op.move (Operand.tmp 3), type := 3, pos := "l08_sender.go:13", after := #[], guard := none }) (v := ?v9_r2_9) rfl (by kernel_rfl) (by kernel_rfl) (by kernel_rfl) (fun _ _ _ h => h) (Or.inl ⟨by rfl, ?y9_r2_9⟩) (by assumption) ?r9_r2_9
        case y9_r2_9 => (intro w hSw; (try dsimp only at hSw); go_simp; all_goals (with_reducible rfl))
        try simp only [Act.put, List.setIfInBounds_toArray, List.set_cons_zero, List.set_cons_succ]
        refine wpAnyH_take (i := 10) (oi := { dst := some 38, op := Op.move (Operand.tmp 4), type := 3, pos := "l08_sender.go:13", after := #[], guard := none }) (v := ?v10_r2_10) rfl (by kernel_rfl) (by kernel_rfl) (by kernel_rfl) (fun _ _ _ h => h) (Or.inl ⟨by rfl, ?y10_r2_10⟩) (by assumption) ?r10_r2_10
        case y10_r2_10 => (intro w hSw; (try dsimp only at hSw); go_simp; all_goals (with_reducible rfl))
        try simp only [Act.put, List.setIfInBounds_toArray, List.set_cons_zero, List.set_cons_succ]
        refine wpAnyH_take (i := 11) (oi := { dst := some 39, op := Op.binOp BinOp.sub 3 (Operand.tmp 37) (Operand.tmp 38) 3, type := 3, pos := "l08_sender.go:13", after := #[{ on := 9, ground := Ground.data }, { on := 10, ground := Ground.data }], guard := none }) (v := ?v11_r2_11) rfl (by kernel_rfl) (by kernel_rfl) (by kernel_rfl) (fun _ _ _ h => h) (Or.inl ⟨by rfl, ?y11_r2_11⟩) (by assumption) ?r11_r2_11
        case y11_r2_11 => (intro w hSw; (try dsimp only at hSw); go_simp; all_goals (with_reducible rfl))
        try simp only [Act.put, List.setIfInBounds_toArray, List.set_cons_zero, List.set_cons_succ]
        refine wpAnyH_ready (rs := [8]) (by kernel_rfl) (by simp) ?_
        refine AllReadyH.cons (o := { dst := some 36, op := Op.call { callee := Callee.value (Operand.func 97), args := #[Operand.tmp 33, Operand.tmp 35], argTypes := #[3, 3] }, type := 3, pos := "l08_sender.go:13", after := #[{ on := 5, ground := Ground.data }, { on := 7, ground := Ground.data }], guard := none }) rfl (fun K hK => ?_) AllReadyH.nil
        go_simp
        go_at_call 97
        refine (HDIST.out _).mono ?_
        rintro e wH12_r2 ⟨rfl, gH12_r2⟩
        have m12_A_0_ : wH12_r2.cell? _ = some _ := gH12_r2.cell A_0_ (by simp); have m12_A_1_ : wH12_r2.cell? _ = some _ := gH12_r2.cell A_1_ (by simp); have m12_ek0_ : wH12_r2.cell? _ = some _ := gH12_r2.cell ek0_ (by simp); have m12_ek1_ : wH12_r2.cell? _ = some _ := gH12_r2.cell ek1_ (by simp)
        go_wp2_with fail
        clear hHeld
        refine hK.out _ _ ?s8_r2_12 (fun hHeld => ?_)
        case s8_r2_12 => exact ⟨m12_A_0_, m12_A_1_, m12_ek0_, m12_ek1_⟩
        clear hK K
        try simp only [Act.put, List.setIfInBounds_toArray, List.set_cons_zero, List.set_cons_succ]
        refine wpAnyH_take (i := 12) (oi := { dst := some 40, op := Op.binOp BinOp.neq 3 (Operand.tmp 36) (Operand.tmp 39) 3, type := 4, pos := "l08_sender.go:13", after := #[{ on := 8, ground := Ground.data }, { on := 11, ground := Ground.data }], guard := none }) (v := ?v12_r2_13) rfl (by kernel_rfl) (by kernel_rfl) (by kernel_rfl) (fun _ _ _ h => h) (Or.inl ⟨by rfl, ?y12_r2_13⟩) (by assumption) ?r12_r2_13
        case y12_r2_13 => (intro w hSw; (try dsimp only at hSw); go_simp; all_goals (with_reducible rfl))
        try simp only [Act.put, List.setIfInBounds_toArray, List.set_cons_zero, List.set_cons_succ]
        refine wpAnyH_take (i := 13) (oi := { dst := some 41, op := Op.move (Operand.tmp 40), type := 4, pos := "l08_sender.go:13", after := #[{ on := 12, ground := Ground.data }, { on := 8, ground := Ground.chain }], guard := none }) (v := ?v13_r2_14) rfl (by kernel_rfl) (by kernel_rfl) (by kernel_rfl) (fun _ _ _ h => h) (Or.inl ⟨by rfl, ?y13_r2_14⟩) (by assumption) ?r13_r2_14
        case y13_r2_14 => (intro w hSw; (try dsimp only at hSw); go_simp; all_goals (with_reducible rfl))
        try simp only [Act.put, List.setIfInBounds_toArray, List.set_cons_zero, List.set_cons_succ]
        refine wpAnyH_take (i := 14) (oi := { dst := some 42, op := Op.fieldAddr 51 (Operand.tmp 1) 1, type := 0, pos := "l08_sender.go:13", after := #[{ on := 13, ground := Ground.guard }], guard := some (13, false) }) (v := ?v14_r2_15) rfl (by kernel_rfl) (by kernel_rfl) (by kernel_rfl) (fun _ _ _ h => h) (Or.inl ⟨by rfl, ?y14_r2_15⟩) (by assumption) ?r14_r2_15
        case y14_r2_15 => (intro w hSw; (try dsimp only at hSw); go_simp; all_goals (with_reducible rfl))
        try simp only [Act.put, List.setIfInBounds_toArray, List.set_cons_zero, List.set_cons_succ]
        refine wpAnyH_take (i := 15) (oi := { dst := some 43, op := Op.load 49 (Operand.tmp 42), type := 49, pos := "l08_sender.go:13", after := #[{ on := 14, ground := Ground.data }, { on := 13, ground := Ground.guard }], guard := some (13, false) }) (v := ?v15_r2_16) rfl (by kernel_rfl) (by kernel_rfl) (by kernel_rfl) (fun _ _ _ h => h) (Or.inl ⟨by rfl, ?y15_r2_16⟩) (by assumption) ?r15_r2_16
        case y15_r2_16 => (intro w hSw; (try dsimp only at hSw); go_simp; all_goals (with_reducible rfl))
        try simp only [Act.put, List.setIfInBounds_toArray, List.set_cons_zero, List.set_cons_succ]
        refine wpAnyH_take (i := 16) (oi := { dst := some 44, op := Op.move (Operand.tmp 4), type := 3, pos := "l08_sender.go:13", after := #[{ on := 13, ground := Ground.guard }], guard := some (13, false) }) (v := ?v16_r2_17) rfl (by kernel_rfl) (by kernel_rfl) (by kernel_rfl) (fun _ _ _ h => h) (Or.inl ⟨by rfl, ?y16_r2_17⟩) (by assumption) ?r16_r2_17
        case y16_r2_17 => (intro w hSw; (try dsimp only at hSw); go_simp; all_goals (with_reducible rfl))
        try simp only [Act.put, List.setIfInBounds_toArray, List.set_cons_zero, List.set_cons_succ]
        refine wpAnyH_take (i := 17) (oi := { dst := some 45, op := Op.indexAddr 49 (Operand.tmp 43) (Operand.tmp 44), type := 0, pos := "l08_sender.go:13", after := #[{ on := 15, ground := Ground.data }, { on := 16, ground := Ground.data }, { on := 13, ground := Ground.guard }], guard := some (13, false) }) (v := ?v17_r2_18) rfl (by kernel_rfl) (by kernel_rfl) (by kernel_rfl) (fun _ _ _ h => h) (Or.inl ⟨by rfl, ?y17_r2_18⟩) (by assumption) ?r17_r2_18
        case y17_r2_18 => (intro w hSw; (try dsimp only at hSw); go_simp; all_goals (with_reducible rfl))
        try simp only [Act.put, List.setIfInBounds_toArray, List.set_cons_zero, List.set_cons_succ]
        refine wpAnyH_take (i := 18) (oi := { dst := some 46, op := Op.fieldAddr 104 (Operand.tmp 45) 1, type := 0, pos := "l08_sender.go:13", after := #[{ on := 17, ground := Ground.data }, { on := 13, ground := Ground.guard }], guard := some (13, false) }) (v := ?v18_r2_19) rfl (by kernel_rfl) (by kernel_rfl) (by kernel_rfl) (fun _ _ _ h => h) (Or.inl ⟨by rfl, ?y18_r2_19⟩) (by assumption) ?r18_r2_19
        case y18_r2_19 => (intro w hSw; (try dsimp only at hSw); go_simp; all_goals (with_reducible rfl))
        try simp only [Act.put, List.setIfInBounds_toArray, List.set_cons_zero, List.set_cons_succ]
        refine wpAnyH_take (i := 19) (oi := { dst := some 47, op := Op.load 23 (Operand.tmp 46), type := 23, pos := "l08_sender.go:13", after := #[{ on := 18, ground := Ground.data }, { on := 13, ground := Ground.guard }], guard := some (13, false) }) (v := ?v19_r2_20) rfl (by kernel_rfl) (by kernel_rfl) (by kernel_rfl) (fun _ _ _ h => h) (Or.inl ⟨by rfl, ?y19_r2_20⟩) (by assumption) ?r19_r2_20
        case y19_r2_20 => (intro w hSw; (try dsimp only at hSw); go_simp; all_goals (with_reducible rfl))
        try simp only [Act.put, List.setIfInBounds_toArray, List.set_cons_zero, List.set_cons_succ]
        refine wpAnyH_ready (rs := [20]) (by kernel_rfl) (by simp) ?_
        refine AllReadyH.cons (o := { dst := some 48, op := Op.call { callee := Callee.value (Operand.func 64), args := #[Operand.tmp 47], argTypes := #[23] }, type := 4, pos := "l08_sender.go:13", after := #[{ on := 19, ground := Ground.data }, { on := 13, ground := Ground.chain }, { on := 13, ground := Ground.guard }], guard := some (13, false) }) rfl (fun K hK => ?_) AllReadyH.nil
        go_simp
        go_at_call 64
        refine (specByD _ _ _ (Rk.out.grow (gby_trans G6_.out (gby_trans (gby_drew (gby_refl _ none)) gH12_r2))) hzk_ true (by first | exact (decide_eq_true HAB.out).symm | exact (decide_eq_false HAB.out).symm)).mono ?_
        rintro e wH21_r2 ⟨rfl, gH21_r2⟩
        have m21_A_0_ : wH21_r2.cell? _ = some _ := gH21_r2.cell m12_A_0_ (by simp); have m21_A_1_ : wH21_r2.cell? _ = some _ := gH21_r2.cell m12_A_1_ (by simp); have m21_ek0_ : wH21_r2.cell? _ = some _ := gH21_r2.cell m12_ek0_ (by simp); have m21_ek1_ : wH21_r2.cell? _ = some _ := gH21_r2.cell m12_ek1_ (by simp)
        go_wp2_with fail
        clear hHeld
        refine hK.out _ _ ?s20_r2_21 (fun hHeld => ?_)
        case s20_r2_21 => exact ⟨m21_A_0_, m21_A_1_, m21_ek0_, m21_ek1_⟩
        clear hK K
        try simp only [Act.put, List.setIfInBounds_toArray, List.set_cons_zero, List.set_cons_succ]
        refine wpAnyH_take (i := 21) (oi := { dst := some 49, op := Op.unOp UnOp.not 4 (Operand.tmp 48), type := 4, pos := "l08_sender.go:13", after := #[{ on := 20, ground := Ground.data }, { on := 13, ground := Ground.guard }], guard := some (13, false) }) (v := ?v21_r2_22) rfl (by kernel_rfl) (by kernel_rfl) (by kernel_rfl) (fun _ _ _ h => h) (Or.inl ⟨by rfl, ?y21_r2_22⟩) (by assumption) ?r21_r2_22
        case y21_r2_22 => (intro w hSw; (try dsimp only at hSw); go_simp; all_goals (with_reducible rfl))
        try simp only [Act.put, List.setIfInBounds_toArray, List.set_cons_zero, List.set_cons_succ]
        refine wpAnyH_take (i := 22) (oi := { dst := some 50, op := Op.pick (Operand.tmp 41) (Operand.const (Value.bool true)) (Operand.tmp 49), type := 4, pos := "l08_sender.go:13", after := #[{ on := 13, ground := Ground.data }, { on := 21, ground := Ground.data }], guard := none }) (v := ?v22_r2_23) rfl (by kernel_rfl) (by kernel_rfl) (by kernel_rfl) (fun _ _ _ h => h) (Or.inl ⟨by rfl, ?y22_r2_23⟩) (by assumption) ?r22_r2_23
        case y22_r2_23 => (intro w hSw; (try dsimp only at hSw); go_simp; all_goals (with_reducible rfl))
        try simp only [Act.put, List.setIfInBounds_toArray, List.set_cons_zero, List.set_cons_succ]
        refine wpAnyH_done (by kernel_rfl) ?_ _
        have gR_ : (wr).grownBy (wH21_r2) none := (gby_trans (gby_trans (gby_drew (gby_refl _ none)) gH12_r2) gH21_r2)
        have szwH21_r2 := gR_.size
        try simp only [World.size_alloc] at szwH21_r2
        clear A_0_ A_1_ A_2_ ek0_ ek1_
        have rA7_ := Lib.hid (show (wH21_r2).heap[W.heap.size]? = some (.cells #[.int .i64 m, .slice (some ⟨ab, ao, none⟩) n0 cap0, .int .i64 r] 51 (0, 0)) from row_held gR_ rA5_.out)
        clear rA5_
        have G8_ := Lib.hid (show (W).grownBy (wH21_r2) none from gby_trans G6_.out gR_)
        have HTB9_ := Lib.hid (show (w1).grownBy (wH21_r2) none from gby_trans HTB_.out gR_)
        clear HTB_
        clear gR_
        go_wp2
        refine ⟨⟨k + 1, by go_num, by omega, fun j hj => ?_, HTB9_.out⟩, by simp [intOf]; omega⟩
        by_cases e : j = k
        · subst e; exact ⟨by rw [← HXk.out, ← HDD.out, ← HE.out]; exact hdq, by rw [← HXk.out]; exact HAB.out⟩
        · exact HALL.out j (by omega)
      · have HAB := Lib.hid hab
        clear hab
        go_wp2_with fail
        refine wp_region_held_drew (S := fun w' => w'.cell? ⟨W.heap.size, 0, none⟩ = some (.int .i64 m) ∧ w'.cell? ⟨W.heap.size, 1, none⟩ = some (.slice (some ⟨ab, ao, none⟩) n0 cap0) ∧ w'.cell? ⟨ab, ao + k * 2, none⟩ = some (.int .i64 xk.f0) ∧ w'.cell? ⟨ab, ao + k * 2 + 1, none⟩ = some (.slice pk nk ck)) (by kernel_rfl) (by (try dsimp only); exact ⟨A_0_, A_1_, ek0_, ek1_⟩) (fun hHeld => ?_)
        refine wpAnyH_take (i := 0) (oi := { dst := some 28, op := Op.fieldAddr 51 (Operand.tmp 1) 1, type := 0, pos := "l08_sender.go:13", after := #[], guard := none }) (v := ?v0_r3_1) rfl (by kernel_rfl) (by kernel_rfl) (by kernel_rfl) (fun _ _ _ h => h) (Or.inl ⟨by rfl, ?y0_r3_1⟩) (by assumption) ?r0_r3_1
        case y0_r3_1 => (intro w hSw; (try dsimp only at hSw); go_simp; all_goals (with_reducible rfl))
        try simp only [Act.put, List.setIfInBounds_toArray, List.set_cons_zero, List.set_cons_succ]
        refine wpAnyH_take (i := 1) (oi := { dst := some 29, op := Op.load 49 (Operand.tmp 28), type := 49, pos := "l08_sender.go:13", after := #[{ on := 0, ground := Ground.data }], guard := none }) (v := ?v1_r3_2) rfl (by kernel_rfl) (by kernel_rfl) (by kernel_rfl) (fun _ _ _ h => h) (Or.inl ⟨by rfl, ?y1_r3_2⟩) (by assumption) ?r1_r3_2
        case y1_r3_2 => (intro w hSw; (try dsimp only at hSw); go_simp; all_goals (with_reducible rfl))
        try simp only [Act.put, List.setIfInBounds_toArray, List.set_cons_zero, List.set_cons_succ]
        refine wpAnyH_take (i := 2) (oi := { dst := some 30, op := Op.move (Operand.tmp 4), type := 3, pos := "l08_sender.go:13", after := #[], guard := none }) (v := ?v2_r3_3) rfl (by kernel_rfl) (by kernel_rfl) (by kernel_rfl) (fun _ _ _ h => h) (Or.inl ⟨by rfl, ?y2_r3_3⟩) (by assumption) ?r2_r3_3
        case y2_r3_3 => (intro w hSw; (try dsimp only at hSw); go_simp; all_goals (with_reducible rfl))
        try simp only [Act.put, List.setIfInBounds_toArray, List.set_cons_zero, List.set_cons_succ]
        refine wpAnyH_take (i := 3) (oi := { dst := some 31, op := Op.indexAddr 49 (Operand.tmp 29) (Operand.tmp 30), type := 0, pos := "l08_sender.go:13", after := #[{ on := 1, ground := Ground.data }, { on := 2, ground := Ground.data }], guard := none }) (v := ?v3_r3_4) rfl (by kernel_rfl) (by kernel_rfl) (by kernel_rfl) (fun _ _ _ h => h) (Or.inl ⟨by rfl, ?y3_r3_4⟩) (by assumption) ?r3_r3_4
        case y3_r3_4 => (intro w hSw; (try dsimp only at hSw); go_simp; all_goals (with_reducible rfl))
        try simp only [Act.put, List.setIfInBounds_toArray, List.set_cons_zero, List.set_cons_succ]
        refine wpAnyH_take (i := 4) (oi := { dst := some 32, op := Op.fieldAddr 104 (Operand.tmp 31) 0, type := 0, pos := "l08_sender.go:13", after := #[{ on := 3, ground := Ground.data }], guard := none }) (v := ?v4_r3_5) rfl (by kernel_rfl) (by kernel_rfl) (by kernel_rfl) (fun _ _ _ h => h) (Or.inl ⟨by rfl, ?y4_r3_5⟩) (by assumption) ?r4_r3_5
        case y4_r3_5 => (intro w hSw; (try dsimp only at hSw); go_simp; all_goals (with_reducible rfl))
        try simp only [Act.put, List.setIfInBounds_toArray, List.set_cons_zero, List.set_cons_succ]
        refine wpAnyH_take (i := 5) (oi := { dst := some 33, op := Op.load 3 (Operand.tmp 32), type := 3, pos := "l08_sender.go:13", after := #[{ on := 4, ground := Ground.data }], guard := none }) (v := ?v5_r3_6) rfl (by kernel_rfl) (by kernel_rfl) (by kernel_rfl) (fun _ _ _ h => h) (Or.inl ⟨by rfl, ?y5_r3_6⟩) (by assumption) ?r5_r3_6
        case y5_r3_6 => (intro w hSw; (try dsimp only at hSw); go_simp; all_goals (with_reducible rfl))
        try simp only [Act.put, List.setIfInBounds_toArray, List.set_cons_zero, List.set_cons_succ]
        refine wpAnyH_take (i := 6) (oi := { dst := some 34, op := Op.fieldAddr 51 (Operand.tmp 1) 0, type := 0, pos := "l08_sender.go:13", after := #[], guard := none }) (v := ?v6_r3_7) rfl (by kernel_rfl) (by kernel_rfl) (by kernel_rfl) (fun _ _ _ h => h) (Or.inl ⟨by rfl, ?y6_r3_7⟩) (by assumption) ?r6_r3_7
        case y6_r3_7 => (intro w hSw; (try dsimp only at hSw); go_simp; all_goals (with_reducible rfl))
        try simp only [Act.put, List.setIfInBounds_toArray, List.set_cons_zero, List.set_cons_succ]
        refine wpAnyH_take (i := 7) (oi := { dst := some 35, op := Op.load 3 (Operand.tmp 34), type := 3, pos := "l08_sender.go:13", after := #[{ on := 6, ground := Ground.data }], guard := none }) (v := ?v7_r3_8) rfl (by kernel_rfl) (by kernel_rfl) (by kernel_rfl) (fun _ _ _ h => h) (Or.inl ⟨by rfl, ?y7_r3_8⟩) (by assumption) ?r7_r3_8
        case y7_r3_8 => (intro w hSw; (try dsimp only at hSw); go_simp; all_goals (with_reducible rfl))
        try simp only [Act.put, List.setIfInBounds_toArray, List.set_cons_zero, List.set_cons_succ]
        refine wpAnyH_take (i := 9) (oi := { dst := some 37, op := Op.move (Operand.tmp 3), type := 3, pos := "l08_sender.go:13", after := #[], guard := none }) (v := ?v9_r3_9) rfl (by kernel_rfl) (by kernel_rfl) (by kernel_rfl) (fun _ _ _ h => h) (Or.inl ⟨by rfl, ?y9_r3_9⟩) (by assumption) ?r9_r3_9
        case y9_r3_9 => (intro w hSw; (try dsimp only at hSw); go_simp; all_goals (with_reducible rfl))
        try simp only [Act.put, List.setIfInBounds_toArray, List.set_cons_zero, List.set_cons_succ]
        refine wpAnyH_take (i := 10) (oi := { dst := some 38, op := Op.move (Operand.tmp 4), type := 3, pos := "l08_sender.go:13", after := #[], guard := none }) (v := ?v10_r3_10) rfl (by kernel_rfl) (by kernel_rfl) (by kernel_rfl) (fun _ _ _ h => h) (Or.inl ⟨by rfl, ?y10_r3_10⟩) (by assumption) ?r10_r3_10
        case y10_r3_10 => (intro w hSw; (try dsimp only at hSw); go_simp; all_goals (with_reducible rfl))
        try simp only [Act.put, List.setIfInBounds_toArray, List.set_cons_zero, List.set_cons_succ]
        refine wpAnyH_take (i := 11) (oi := { dst := some 39, op := Op.binOp BinOp.sub 3 (Operand.tmp 37) (Operand.tmp 38) 3, type := 3, pos := "l08_sender.go:13", after := #[{ on := 9, ground := Ground.data }, { on := 10, ground := Ground.data }], guard := none }) (v := ?v11_r3_11) rfl (by kernel_rfl) (by kernel_rfl) (by kernel_rfl) (fun _ _ _ h => h) (Or.inl ⟨by rfl, ?y11_r3_11⟩) (by assumption) ?r11_r3_11
        case y11_r3_11 => (intro w hSw; (try dsimp only at hSw); go_simp; all_goals (with_reducible rfl))
        try simp only [Act.put, List.setIfInBounds_toArray, List.set_cons_zero, List.set_cons_succ]
        refine wpAnyH_ready (rs := [8]) (by kernel_rfl) (by simp) ?_
        refine AllReadyH.cons (o := { dst := some 36, op := Op.call { callee := Callee.value (Operand.func 97), args := #[Operand.tmp 33, Operand.tmp 35], argTypes := #[3, 3] }, type := 3, pos := "l08_sender.go:13", after := #[{ on := 5, ground := Ground.data }, { on := 7, ground := Ground.data }], guard := none }) rfl (fun K hK => ?_) AllReadyH.nil
        go_simp
        go_at_call 97
        refine (HDIST.out _).mono ?_
        rintro e wH12_r3 ⟨rfl, gH12_r3⟩
        have m12_A_0_ : wH12_r3.cell? _ = some _ := gH12_r3.cell A_0_ (by simp); have m12_A_1_ : wH12_r3.cell? _ = some _ := gH12_r3.cell A_1_ (by simp); have m12_ek0_ : wH12_r3.cell? _ = some _ := gH12_r3.cell ek0_ (by simp); have m12_ek1_ : wH12_r3.cell? _ = some _ := gH12_r3.cell ek1_ (by simp)
        go_wp2_with fail
        clear hHeld
        refine hK.out _ _ ?s8_r3_12 (fun hHeld => ?_)
        case s8_r3_12 => exact ⟨m12_A_0_, m12_A_1_, m12_ek0_, m12_ek1_⟩
        clear hK K
        try simp only [Act.put, List.setIfInBounds_toArray, List.set_cons_zero, List.set_cons_succ]
        refine wpAnyH_take (i := 12) (oi := { dst := some 40, op := Op.binOp BinOp.neq 3 (Operand.tmp 36) (Operand.tmp 39) 3, type := 4, pos := "l08_sender.go:13", after := #[{ on := 8, ground := Ground.data }, { on := 11, ground := Ground.data }], guard := none }) (v := ?v12_r3_13) rfl (by kernel_rfl) (by kernel_rfl) (by kernel_rfl) (fun _ _ _ h => h) (Or.inl ⟨by rfl, ?y12_r3_13⟩) (by assumption) ?r12_r3_13
        case y12_r3_13 => (intro w hSw; (try dsimp only at hSw); go_simp; all_goals (with_reducible rfl))
        try simp only [Act.put, List.setIfInBounds_toArray, List.set_cons_zero, List.set_cons_succ]
        refine wpAnyH_take (i := 13) (oi := { dst := some 41, op := Op.move (Operand.tmp 40), type := 4, pos := "l08_sender.go:13", after := #[{ on := 12, ground := Ground.data }, { on := 8, ground := Ground.chain }], guard := none }) (v := ?v13_r3_14) rfl (by kernel_rfl) (by kernel_rfl) (by kernel_rfl) (fun _ _ _ h => h) (Or.inl ⟨by rfl, ?y13_r3_14⟩) (by assumption) ?r13_r3_14
        case y13_r3_14 => (intro w hSw; (try dsimp only at hSw); go_simp; all_goals (with_reducible rfl))
        try simp only [Act.put, List.setIfInBounds_toArray, List.set_cons_zero, List.set_cons_succ]
        refine wpAnyH_take (i := 14) (oi := { dst := some 42, op := Op.fieldAddr 51 (Operand.tmp 1) 1, type := 0, pos := "l08_sender.go:13", after := #[{ on := 13, ground := Ground.guard }], guard := some (13, false) }) (v := ?v14_r3_15) rfl (by kernel_rfl) (by kernel_rfl) (by kernel_rfl) (fun _ _ _ h => h) (Or.inl ⟨by rfl, ?y14_r3_15⟩) (by assumption) ?r14_r3_15
        case y14_r3_15 => (intro w hSw; (try dsimp only at hSw); go_simp; all_goals (with_reducible rfl))
        try simp only [Act.put, List.setIfInBounds_toArray, List.set_cons_zero, List.set_cons_succ]
        refine wpAnyH_take (i := 15) (oi := { dst := some 43, op := Op.load 49 (Operand.tmp 42), type := 49, pos := "l08_sender.go:13", after := #[{ on := 14, ground := Ground.data }, { on := 13, ground := Ground.guard }], guard := some (13, false) }) (v := ?v15_r3_16) rfl (by kernel_rfl) (by kernel_rfl) (by kernel_rfl) (fun _ _ _ h => h) (Or.inl ⟨by rfl, ?y15_r3_16⟩) (by assumption) ?r15_r3_16
        case y15_r3_16 => (intro w hSw; (try dsimp only at hSw); go_simp; all_goals (with_reducible rfl))
        try simp only [Act.put, List.setIfInBounds_toArray, List.set_cons_zero, List.set_cons_succ]
        refine wpAnyH_take (i := 16) (oi := { dst := some 44, op := Op.move (Operand.tmp 4), type := 3, pos := "l08_sender.go:13", after := #[{ on := 13, ground := Ground.guard }], guard := some (13, false) }) (v := ?v16_r3_17) rfl (by kernel_rfl) (by kernel_rfl) (by kernel_rfl) (fun _ _ _ h => h) (Or.inl ⟨by rfl, ?y16_r3_17⟩) (by assumption) ?r16_r3_17
        case y16_r3_17 => (intro w hSw; (try dsimp only at hSw); go_simp; all_goals (with_reducible rfl))
        try simp only [Act.put, List.setIfInBounds_toArray, List.set_cons_zero, List.set_cons_succ]
        refine wpAnyH_take (i := 17) (oi := { dst := some 45, op := Op.indexAddr 49 (Operand.tmp 43) (Operand.tmp 44), type := 0, pos := "l08_sender.go:13", after := #[{ on := 15, ground := Ground.data }, { on := 16, ground := Ground.data }, { on := 13, ground := Ground.guard }], guard := some (13, false) }) (v := ?v17_r3_18) rfl (by kernel_rfl) (by kernel_rfl) (by kernel_rfl) (fun _ _ _ h => h) (Or.inl ⟨by rfl, ?y17_r3_18⟩) (by assumption) ?r17_r3_18
        case y17_r3_18 => (intro w hSw; (try dsimp only at hSw); go_simp; all_goals (with_reducible rfl))
        try simp only [Act.put, List.setIfInBounds_toArray, List.set_cons_zero, List.set_cons_succ]
        refine wpAnyH_take (i := 18) (oi := { dst := some 46, op := Op.fieldAddr 104 (Operand.tmp 45) 1, type := 0, pos := "l08_sender.go:13", after := #[{ on := 17, ground := Ground.data }, { on := 13, ground := Ground.guard }], guard := some (13, false) }) (v := ?v18_r3_19) rfl (by kernel_rfl) (by kernel_rfl) (by kernel_rfl) (fun _ _ _ h => h) (Or.inl ⟨by rfl, ?y18_r3_19⟩) (by assumption) ?r18_r3_19
        case y18_r3_19 => (intro w hSw; (try dsimp only at hSw); go_simp; all_goals (with_reducible rfl))
        try simp only [Act.put, List.setIfInBounds_toArray, List.set_cons_zero, List.set_cons_succ]
        refine wpAnyH_take (i := 19) (oi := { dst := some 47, op := Op.load 23 (Operand.tmp 46), type := 23, pos := "l08_sender.go:13", after := #[{ on := 18, ground := Ground.data }, { on := 13, ground := Ground.guard }], guard := some (13, false) }) (v := ?v19_r3_20) rfl (by kernel_rfl) (by kernel_rfl) (by kernel_rfl) (fun _ _ _ h => h) (Or.inl ⟨by rfl, ?y19_r3_20⟩) (by assumption) ?r19_r3_20
        case y19_r3_20 => (intro w hSw; (try dsimp only at hSw); go_simp; all_goals (with_reducible rfl))
        try simp only [Act.put, List.setIfInBounds_toArray, List.set_cons_zero, List.set_cons_succ]
        refine wpAnyH_ready (rs := [20]) (by kernel_rfl) (by simp) ?_
        refine AllReadyH.cons (o := { dst := some 48, op := Op.call { callee := Callee.value (Operand.func 64), args := #[Operand.tmp 47], argTypes := #[23] }, type := 4, pos := "l08_sender.go:13", after := #[{ on := 19, ground := Ground.data }, { on := 13, ground := Ground.chain }, { on := 13, ground := Ground.guard }], guard := some (13, false) }) rfl (fun K hK => ?_) AllReadyH.nil
        go_simp
        go_at_call 64
        refine (specByD _ _ _ (Rk.out.grow (gby_trans G6_.out (gby_trans (gby_drew (gby_refl _ none)) gH12_r3))) hzk_ false (by first | exact (decide_eq_true HAB.out).symm | exact (decide_eq_false HAB.out).symm)).mono ?_
        rintro e wH21_r3 ⟨rfl, gH21_r3⟩
        have m21_A_0_ : wH21_r3.cell? _ = some _ := gH21_r3.cell m12_A_0_ (by simp); have m21_A_1_ : wH21_r3.cell? _ = some _ := gH21_r3.cell m12_A_1_ (by simp); have m21_ek0_ : wH21_r3.cell? _ = some _ := gH21_r3.cell m12_ek0_ (by simp); have m21_ek1_ : wH21_r3.cell? _ = some _ := gH21_r3.cell m12_ek1_ (by simp)
        go_wp2_with fail
        clear hHeld
        refine hK.out _ _ ?s20_r3_21 (fun hHeld => ?_)
        case s20_r3_21 => exact ⟨m21_A_0_, m21_A_1_, m21_ek0_, m21_ek1_⟩
        clear hK K
        try simp only [Act.put, List.setIfInBounds_toArray, List.set_cons_zero, List.set_cons_succ]
        refine wpAnyH_take (i := 21) (oi := { dst := some 49, op := Op.unOp UnOp.not 4 (Operand.tmp 48), type := 4, pos := "l08_sender.go:13", after := #[{ on := 20, ground := Ground.data }, { on := 13, ground := Ground.guard }], guard := some (13, false) }) (v := ?v21_r3_22) rfl (by kernel_rfl) (by kernel_rfl) (by kernel_rfl) (fun _ _ _ h => h) (Or.inl ⟨by rfl, ?y21_r3_22⟩) (by assumption) ?r21_r3_22
        case y21_r3_22 => (intro w hSw; (try dsimp only at hSw); go_simp; all_goals (with_reducible rfl))
        try simp only [Act.put, List.setIfInBounds_toArray, List.set_cons_zero, List.set_cons_succ]
        refine wpAnyH_take (i := 22) (oi := { dst := some 50, op := Op.pick (Operand.tmp 41) (Operand.const (Value.bool true)) (Operand.tmp 49), type := 4, pos := "l08_sender.go:13", after := #[{ on := 13, ground := Ground.data }, { on := 21, ground := Ground.data }], guard := none }) (v := ?v22_r3_23) rfl (by kernel_rfl) (by kernel_rfl) (by kernel_rfl) (fun _ _ _ h => h) (Or.inl ⟨by rfl, ?y22_r3_23⟩) (by assumption) ?r22_r3_23
        case y22_r3_23 => (intro w hSw; (try dsimp only at hSw); go_simp; all_goals (with_reducible rfl))
        try simp only [Act.put, List.setIfInBounds_toArray, List.set_cons_zero, List.set_cons_succ]
        refine wpAnyH_done (by kernel_rfl) ?_ _
        have gR_ : (wr).grownBy (wH21_r3) none := (gby_trans (gby_trans (gby_drew (gby_refl _ none)) gH12_r3) gH21_r3)
        have szwH21_r3 := gR_.size
        try simp only [World.size_alloc] at szwH21_r3
        clear A_0_ A_1_ A_2_ ek0_ ek1_
        have rA7_ := Lib.hid (show (wH21_r3).heap[W.heap.size]? = some (.cells #[.int .i64 m, .slice (some ⟨ab, ao, none⟩) n0 cap0, .int .i64 r] 51 (0, 0)) from row_held gR_ rA5_.out)
        clear rA5_
        have G8_ := Lib.hid (show (W).grownBy (wH21_r3) none from gby_trans G6_.out gR_)
        have HTB9_ := Lib.hid (show (w1).grownBy (wH21_r3) none from gby_trans HTB_.out gR_)
        clear HTB_
        clear gR_
        go_wp2
        go_ret
        exact ⟨false, rfl, iff_noS (fun q => HAB.out (by have := (q.2.2.2 k (by have := HE.out; omega)).2; rw [← HXk.out] at this; exact this)), G8_.out⟩

set_option maxRecDepth 8000 in
set_option maxHeartbeats 2000000 in
theorem implSnd (W : World) (m r : Int) (v : Value) (xs : List DFrame) (H : RdL shFrame W v xs) (hl : szL shFrame xs ≤ 1048576) : Calls Try.prog 67 #[.agg #[.int .i64 m, v, .int .i64 r]] W (BPost (SndP m r xs) W) := by
  have HS := Lib.hid hl
  obtain ⟨a0, cap0, rfl, hcap, _, H⟩ := H
  have HC := Lib.hid H
  obtain ⟨n0, hn0⟩ : ∃ n, n = xs.length := ⟨_, rfl⟩
  have HE := Lib.hid hn0
  have hlx : n0 ≤ 1048576 := by have := szL_len shFrame xs; omega
  rw [← hn0]
  rw [← hn0] at HC
  clear H hcap hl hn0
  by_cases hq : IsQ m
  rotate_left
  · have d1_ : decide (IsQ m) = false := decide_eq_false hq
    have HQ := Lib.hid hq
    clear hq
    go_enter Try.func67, Try.ntmps67
    have rA1_ := Lib.hid (show ((W.alloc (.cells #[.int .i64 m, .slice a0 n0 cap0, .int .i64 r] 51))).heap[W.heap.size]? = some (.cells #[.int .i64 m, .slice a0 n0 cap0, .int .i64 r] 51 (0, 0)) from by exact heap_alloc_new _ _)
    have G2_ := Lib.hid (show (W).grownBy ((W.alloc (.cells #[.int .i64 m, .slice a0 n0 cap0, .int .i64 r] 51))) none from (gby_alloc (gby_refl _ _) _))
    have A_0_ : ((W.alloc (.cells #[.int .i64 m, .slice a0 n0 cap0, .int .i64 r] 51))).cell? ⟨W.heap.size, 0, none⟩ = some (.int .i64 m) := cell_of_row _ _ 0 _ _ _ rA1_.out
    have A_1_ : ((W.alloc (.cells #[.int .i64 m, .slice a0 n0 cap0, .int .i64 r] 51))).cell? ⟨W.heap.size, 1, none⟩ = some (.slice a0 n0 cap0) := cell_of_row _ _ 1 _ _ _ rA1_.out
    have A_2_ : ((W.alloc (.cells #[.int .i64 m, .slice a0 n0 cap0, .int .i64 r] 51))).cell? ⟨W.heap.size, 2, none⟩ = some (.int .i64 r) := cell_of_row _ _ 2 _ _ _ rA1_.out
    go_wp2_with fail
    go_at_call 99
    refine (implSeq_any _ _).mono ?_
    rintro e w1 ⟨rfl, hd⟩
    have g := hd.gby none
    clear hd
    have szw1 := g.size
    try simp only [World.size_alloc] at szw1
    try simp only [World.size_setCell] at szw1
    clear A_0_ A_1_ A_2_
    have rA3_ := Lib.hid (show (w1).heap[W.heap.size]? = some (.cells #[.int .i64 m, .slice a0 n0 cap0, .int .i64 r] 51 (0, 0)) from row_held g rA1_.out)
    clear rA1_
    have G4_ := Lib.hid (show (W).grownBy (w1) none from gby_trans G2_.out g)
    clear g
    have A_0_ : (w1).cell? ⟨W.heap.size, 0, none⟩ = some (.int .i64 m) := cell_of_row _ _ 0 _ _ _ rA3_.out
    have A_1_ : (w1).cell? ⟨W.heap.size, 1, none⟩ = some (.slice a0 n0 cap0) := cell_of_row _ _ 1 _ _ _ rA3_.out
    have A_2_ : (w1).cell? ⟨W.heap.size, 2, none⟩ = some (.int .i64 r) := cell_of_row _ _ 2 _ _ _ rA3_.out
    go_wp2
    go_ret
    exact ⟨false, rfl, iff_noS (fun q => HQ.out q.1), G4_.out⟩
  have d1_ : decide (IsQ m) = true := decide_eq_true hq
  have HQ := Lib.hid hq
  clear hq
  by_cases h7 : n0 ≤ 7
  rotate_left
  · have g7_ : (7 : Int) < (n0 : Int) := by omega
    have g8_ : decide ((7 : Int) < (n0 : Int)) = true := decide_eq_true g7_
    have g9_ : (n0 : Int) > 7 := g7_
    go_enter Try.func67, Try.ntmps67
    have rA1_ := Lib.hid (show ((W.alloc (.cells #[.int .i64 m, .slice a0 n0 cap0, .int .i64 r] 51))).heap[W.heap.size]? = some (.cells #[.int .i64 m, .slice a0 n0 cap0, .int .i64 r] 51 (0, 0)) from by exact heap_alloc_new _ _)
    have G2_ := Lib.hid (show (W).grownBy ((W.alloc (.cells #[.int .i64 m, .slice a0 n0 cap0, .int .i64 r] 51))) none from (gby_alloc (gby_refl _ _) _))
    have A_0_ : ((W.alloc (.cells #[.int .i64 m, .slice a0 n0 cap0, .int .i64 r] 51))).cell? ⟨W.heap.size, 0, none⟩ = some (.int .i64 m) := cell_of_row _ _ 0 _ _ _ rA1_.out
    have A_1_ : ((W.alloc (.cells #[.int .i64 m, .slice a0 n0 cap0, .int .i64 r] 51))).cell? ⟨W.heap.size, 1, none⟩ = some (.slice a0 n0 cap0) := cell_of_row _ _ 1 _ _ _ rA1_.out
    have A_2_ : ((W.alloc (.cells #[.int .i64 m, .slice a0 n0 cap0, .int .i64 r] 51))).cell? ⟨W.heap.size, 2, none⟩ = some (.int .i64 r) := cell_of_row _ _ 2 _ _ _ rA1_.out
    go_wp2_with fail
    go_at_call 99
    refine (implSeq_any _ _).mono ?_
    rintro e w1 ⟨rfl, hd⟩
    have g := hd.gby none
    clear hd
    have szw1 := g.size
    try simp only [World.size_alloc] at szw1
    try simp only [World.size_setCell] at szw1
    clear A_0_ A_1_ A_2_
    have rA3_ := Lib.hid (show (w1).heap[W.heap.size]? = some (.cells #[.int .i64 m, .slice a0 n0 cap0, .int .i64 r] 51 (0, 0)) from row_held g rA1_.out)
    clear rA1_
    have G4_ := Lib.hid (show (W).grownBy (w1) none from gby_trans G2_.out g)
    clear g
    have A_0_ : (w1).cell? ⟨W.heap.size, 0, none⟩ = some (.int .i64 m) := cell_of_row _ _ 0 _ _ _ rA3_.out
    have A_1_ : (w1).cell? ⟨W.heap.size, 1, none⟩ = some (.slice a0 n0 cap0) := cell_of_row _ _ 1 _ _ _ rA3_.out
    have A_2_ : (w1).cell? ⟨W.heap.size, 2, none⟩ = some (.int .i64 r) := cell_of_row _ _ 2 _ _ _ rA3_.out
    go_wp2
    go_ret
    exact ⟨false, rfl, iff_noS (fun q => by have := q.2.1; have := HE.out; omega), G4_.out⟩
  have g7_ : ¬ (7 : Int) < (n0 : Int) := by omega
  have g8_ : decide ((7 : Int) < (n0 : Int)) = false := decide_eq_false g7_
  go_enter Try.func67, Try.ntmps67
  have rA1_ := Lib.hid (show ((W.alloc (.cells #[.int .i64 m, .slice a0 n0 cap0, .int .i64 r] 51))).heap[W.heap.size]? = some (.cells #[.int .i64 m, .slice a0 n0 cap0, .int .i64 r] 51 (0, 0)) from by exact heap_alloc_new _ _)
  have G2_ := Lib.hid (show (W).grownBy ((W.alloc (.cells #[.int .i64 m, .slice a0 n0 cap0, .int .i64 r] 51))) none from (gby_alloc (gby_refl _ _) _))
  have A_0_ : ((W.alloc (.cells #[.int .i64 m, .slice a0 n0 cap0, .int .i64 r] 51))).cell? ⟨W.heap.size, 0, none⟩ = some (.int .i64 m) := cell_of_row _ _ 0 _ _ _ rA1_.out
  have A_1_ : ((W.alloc (.cells #[.int .i64 m, .slice a0 n0 cap0, .int .i64 r] 51))).cell? ⟨W.heap.size, 1, none⟩ = some (.slice a0 n0 cap0) := cell_of_row _ _ 1 _ _ _ rA1_.out
  have A_2_ : ((W.alloc (.cells #[.int .i64 m, .slice a0 n0 cap0, .int .i64 r] 51))).cell? ⟨W.heap.size, 2, none⟩ = some (.int .i64 r) := cell_of_row _ _ 2 _ _ _ rA1_.out
  go_wp2_with fail
  go_at_call 99
  refine (implSeq_any _ _).mono ?_
  rintro e w1 ⟨rfl, hd⟩
  have g := hd.gby none
  clear hd
  have szw1 := g.size
  try simp only [World.size_alloc] at szw1
  try simp only [World.size_setCell] at szw1
  clear A_0_ A_1_ A_2_
  have rA3_ := Lib.hid (show (w1).heap[W.heap.size]? = some (.cells #[.int .i64 m, .slice a0 n0 cap0, .int .i64 r] 51 (0, 0)) from row_held g rA1_.out)
  clear rA1_
  have G4_ := Lib.hid (show (W).grownBy (w1) none from gby_trans G2_.out g)
  clear g
  have A_0_ : (w1).cell? ⟨W.heap.size, 0, none⟩ = some (.int .i64 m) := cell_of_row _ _ 0 _ _ _ rA3_.out
  have A_1_ : (w1).cell? ⟨W.heap.size, 1, none⟩ = some (.slice a0 n0 cap0) := cell_of_row _ _ 1 _ _ _ rA3_.out
  have A_2_ : (w1).cell? ⟨W.heap.size, 2, none⟩ = some (.int .i64 r) := cell_of_row _ _ 2 _ _ _ rA3_.out
  go_wp2
  go_loopw [4, 5, 20] (fun y4 y5 i wr => ∃ k : Nat, i = .int .i64 (k : Int) ∧ k ≤ n0 ∧ (∃ q, y4 = q) ∧ (∃ q, y5 = q) ∧ (∀ j, j < k → FrP m xs j) ∧ (w1).grownBy wr none) (fun _ _ i _ => n0 - (intOf i).toNat)
  case atStart => exact ⟨0, rfl, by omega, ⟨_, rfl⟩, ⟨_, rfl⟩, (fun j hj => absurd hj (Nat.not_lt_zero _)), gby_refl _ _⟩
  case round =>
    clear A_0_ A_1_ A_2_
    obtain ⟨k, rfl, hk, ⟨y4, rfl⟩, ⟨y5, rfl⟩, hall_, hg⟩ := hrel
    have szrwr := hg.size
    try simp only [World.size_alloc] at szrwr
    try simp only [World.size_setCell] at szrwr
    have szr_ := szrwr
    have rA5_ := Lib.hid (show (wr).heap[W.heap.size]? = some (.cells #[.int .i64 m, .slice a0 n0 cap0, .int .i64 r] 51 (0, 0)) from row_held hg rA3_.out)
    clear rA3_
    have G6_ := Lib.hid (show (W).grownBy (wr) none from gby_trans G4_.out hg)
    have HTB_ := Lib.hid hg
    clear hg
    have A_0_ : (wr).cell? ⟨W.heap.size, 0, none⟩ = some (.int .i64 m) := cell_of_row _ _ 0 _ _ _ rA5_.out
    have A_1_ : (wr).cell? ⟨W.heap.size, 1, none⟩ = some (.slice a0 n0 cap0) := cell_of_row _ _ 1 _ _ _ rA5_.out
    have A_2_ : (wr).cell? ⟨W.heap.size, 2, none⟩ = some (.int .i64 r) := cell_of_row _ _ 2 _ _ _ rA5_.out
    have HALL := Lib.hid hall_
    clear hall_
    have hk0 : (0 : Int) ≤ (k : Int) := by omega
    have htk : ((k : Int)).toNat = k := by omega
    by_cases hlt : k < n0
    rotate_left
    · obtain rfl : k = n0 := by omega
      have hki : ¬ (k : Int) < (k : Int) := by omega
      rcases inr_orS r 0 (k : Int) with ⟨hr1, hr2⟩ | hr
      · skip
        go_wp2_with fail
        go_at_call 79
        refine (rng_yes _ _ _ _ (by omega) (by omega)).mono ?_
        rintro e w2_ ⟨rfl, rfl⟩
        go_wp2
        go_ret
        exact ⟨true, rfl, iff_yesS ⟨HQ.out, by have := HE.out; omega, by have := HE.out; omega, fun j hj => HALL.out j (by have := HE.out; omega)⟩, G6_.out⟩
      · have HR := Lib.hid hr
        clear hr
        go_wp2_with fail
        go_at_call 79
        refine (rng_no _ _ _ _ HR.out).mono ?_
        rintro e w2_ ⟨rfl, rfl⟩
        go_wp2
        go_ret
        exact ⟨false, rfl, iff_noS (fun q => by have := HR.out; have := q.2.2.1; have := HE.out; omega), G6_.out⟩
    have hki : (k : Int) < (n0 : Int) := by omega
    have hw_ : IntKind.i64.wrap ((n0 : Int) - (k : Int)) = (n0 : Int) - (k : Int) := IntWalk.i64_in _ (by omega)
    obtain ⟨ab, ao, rfl, hcell_⟩ := HC.out.resolve_left (by omega)
    have HCE := Lib.hid hcell_
    clear hcell_
    have hq_ : k < n0 := hlt
    obtain ⟨cs_, hat_, hrd_⟩ := HCE.out k (by omega)
    obtain ⟨xk, hx_⟩ : ∃ x, x = xs.getD k default := ⟨_, rfl⟩
    rw [← hx_] at hrd_
    have hzk_ : szL shI xk.f1 ≤ 1048576 := by have q1 := szL_at shFrame xs k (by have := HE.out; omega); rw [← hx_] at q1; exact Nat.le_trans q1 HS.out
    have HXk := Lib.hid (show xk = fr xs k from hx_)
    obtain ⟨v1_, rfl, r1_⟩ := hrd_
    obtain ⟨pk, nk, ck, hv_⟩ := RdL.form r1_
    subst hv_
    have Rk := Lib.hid r1_
    have HEk0 := Lib.hid (show W.cell? ⟨ab, ao + k * 2, none⟩ = some (.int .i64 xk.f0) from at_cell (j := 0) hat_ rfl)
    have HEk1 := Lib.hid (show W.cell? ⟨ab, ao + k * 2 + 1, none⟩ = some (.slice pk nk ck) from at_cell (j := 1) hat_ rfl)
    clear hat_ r1_ hx_ hq_
    have ek0_ := (G6_.out).cell HEk0.out (by simp)
    have ek1_ := (G6_.out).cell HEk1.out (by simp)
    have al_ : (wr).grownBy ((wr).alloc (.cells #[.int .i64 xk.f0, .slice pk nk ck] 104)) none := gby_alloc (gby_refl _ _) _
    have rA7_ := Lib.hid (show ((wr.alloc (.cells #[.int .i64 xk.f0, .slice pk nk ck] 104))).heap[W.heap.size]? = some (.cells #[.int .i64 m, .slice (some ⟨ab, ao, none⟩) n0 cap0, .int .i64 r] 51 (0, 0)) from row_held al_ rA5_.out)
    clear rA5_
    have G8_ := Lib.hid (show (W).grownBy ((wr.alloc (.cells #[.int .i64 xk.f0, .slice pk nk ck] 104))) none from gby_trans G6_.out al_)
    have HTB9_ := Lib.hid (show (w1).grownBy ((wr.alloc (.cells #[.int .i64 xk.f0, .slice pk nk ck] 104))) none from gby_trans HTB_.out al_)
    clear HTB_
    have rQ10_ := Lib.hid (show ((wr.alloc (.cells #[.int .i64 xk.f0, .slice pk nk ck] 104))).heap[wr.heap.size]? = some (.cells #[.int .i64 xk.f0, .slice pk nk ck] 104 (0, 0)) from by first | exact heap_alloc_new _ _ | exact heap_pair _ _ _ | exact heap_trip _ _ _ _)
    clear al_
    have A_0_ : ((wr.alloc (.cells #[.int .i64 xk.f0, .slice pk nk ck] 104))).cell? ⟨W.heap.size, 0, none⟩ = some (.int .i64 m) := cell_of_row _ _ 0 _ _ _ rA7_.out
    have A_1_ : ((wr.alloc (.cells #[.int .i64 xk.f0, .slice pk nk ck] 104))).cell? ⟨W.heap.size, 1, none⟩ = some (.slice (some ⟨ab, ao, none⟩) n0 cap0) := cell_of_row _ _ 1 _ _ _ rA7_.out
    have A_2_ : ((wr.alloc (.cells #[.int .i64 xk.f0, .slice pk nk ck] 104))).cell? ⟨W.heap.size, 2, none⟩ = some (.int .i64 r) := cell_of_row _ _ 2 _ _ _ rA7_.out
    have Q_0_ : ((wr.alloc (.cells #[.int .i64 xk.f0, .slice pk nk ck] 104))).cell? ⟨wr.heap.size, 0, none⟩ = some (.int .i64 xk.f0) := cell_of_row _ _ 0 _ _ _ rQ10_.out
    have Q_1_ : ((wr.alloc (.cells #[.int .i64 xk.f0, .slice pk nk ck] 104))).cell? ⟨wr.heap.size, 1, none⟩ = some (.slice pk nk ck) := cell_of_row _ _ 1 _ _ _ rQ10_.out
    have ek0_ := (G8_.out).cell HEk0.out (by simp)
    have ek1_ := (G8_.out).cell HEk1.out (by simp)
    obtain ⟨d, hd_⟩ : ∃ d, d = distQ xk.f0 m := ⟨_, rfl⟩
    have HDD := Lib.hid hd_
    clear hd_
    by_cases hdq : d = (n0 : Int) - (k : Int)
    rotate_left
    · have n1_ : (d != (n0 : Int) - (k : Int)) = true := bne_iff_ne.2 hdq
      have HDQ := Lib.hid hdq
      clear hdq
      have HDIST := Lib.hid (show ∀ w : World, Calls Try.prog 100 #[.int .i64 xk.f0, .int .i64 m] w (AnsN (.int .i64 d) w) from by rw [HDD.out]; exact fun w => implDist_any _ _ w)
      go_wp2_with fail
      go_at_call 100
      refine (HDIST.out _).mono ?_
      rintro e w2 ⟨rfl, g⟩
      have szw2 := g.size
      try simp only [World.size_alloc] at szw2
      try simp only [World.size_setCell] at szw2
      clear A_0_ A_1_ A_2_ Q_0_ Q_1_ ek0_ ek1_
      have rA11_ := Lib.hid (show (w2).heap[W.heap.size]? = some (.cells #[.int .i64 m, .slice (some ⟨ab, ao, none⟩) n0 cap0, .int .i64 r] 51 (0, 0)) from row_held g rA7_.out)
      clear rA7_
      have rQ12_ := Lib.hid (show (w2).heap[wr.heap.size]? = some (.cells #[.int .i64 xk.f0, .slice pk nk ck] 104 (0, 0)) from row_held g rQ10_.out)
      clear rQ10_
      have G13_ := Lib.hid (show (W).grownBy (w2) none from gby_trans G8_.out g)
      have HTB14_ := Lib.hid (show (w1).grownBy (w2) none from gby_trans HTB9_.out g)
      clear HTB9_
      clear g
      have A_0_ : (w2).cell? ⟨W.heap.size, 0, none⟩ = some (.int .i64 m) := cell_of_row _ _ 0 _ _ _ rA11_.out
      have A_1_ : (w2).cell? ⟨W.heap.size, 1, none⟩ = some (.slice (some ⟨ab, ao, none⟩) n0 cap0) := cell_of_row _ _ 1 _ _ _ rA11_.out
      have A_2_ : (w2).cell? ⟨W.heap.size, 2, none⟩ = some (.int .i64 r) := cell_of_row _ _ 2 _ _ _ rA11_.out
      have Q_0_ : (w2).cell? ⟨wr.heap.size, 0, none⟩ = some (.int .i64 xk.f0) := cell_of_row _ _ 0 _ _ _ rQ12_.out
      have Q_1_ : (w2).cell? ⟨wr.heap.size, 1, none⟩ = some (.slice pk nk ck) := cell_of_row _ _ 1 _ _ _ rQ12_.out
      have ek0_ := (G13_.out).cell HEk0.out (by simp)
      have ek1_ := (G13_.out).cell HEk1.out (by simp)
      go_wp2
      go_ret
      exact ⟨false, rfl, iff_noS (fun q => HDQ.out (by have := (q.2.2.2 k (by have := HE.out; omega)).1; rw [← HXk.out, ← HDD.out, ← HE.out] at this; exact this)), G13_.out⟩
    · have n1_ : (d != (n0 : Int) - (k : Int)) = false := by rw [hdq]; simp
      have HDIST := Lib.hid (show ∀ w : World, Calls Try.prog 100 #[.int .i64 xk.f0, .int .i64 m] w (AnsN (.int .i64 d) w) from by rw [HDD.out]; exact fun w => implDist_any _ _ w)
      by_cases hab : AreB xk.f1
      · have HAB := Lib.hid hab
        clear hab
        go_wp2_with fail
        go_at_call 100
        refine (HDIST.out _).mono ?_
        rintro e w2 ⟨rfl, g⟩
        have szw2 := g.size
        try simp only [World.size_alloc] at szw2
        try simp only [World.size_setCell] at szw2
        clear A_0_ A_1_ A_2_ Q_0_ Q_1_ ek0_ ek1_
        have rA11_ := Lib.hid (show (w2).heap[W.heap.size]? = some (.cells #[.int .i64 m, .slice (some ⟨ab, ao, none⟩) n0 cap0, .int .i64 r] 51 (0, 0)) from row_held g rA7_.out)
        clear rA7_
        have rQ12_ := Lib.hid (show (w2).heap[wr.heap.size]? = some (.cells #[.int .i64 xk.f0, .slice pk nk ck] 104 (0, 0)) from row_held g rQ10_.out)
        clear rQ10_
        have G13_ := Lib.hid (show (W).grownBy (w2) none from gby_trans G8_.out g)
        have HTB14_ := Lib.hid (show (w1).grownBy (w2) none from gby_trans HTB9_.out g)
        clear HTB9_
        clear g
        have A_0_ : (w2).cell? ⟨W.heap.size, 0, none⟩ = some (.int .i64 m) := cell_of_row _ _ 0 _ _ _ rA11_.out
        have A_1_ : (w2).cell? ⟨W.heap.size, 1, none⟩ = some (.slice (some ⟨ab, ao, none⟩) n0 cap0) := cell_of_row _ _ 1 _ _ _ rA11_.out
        have A_2_ : (w2).cell? ⟨W.heap.size, 2, none⟩ = some (.int .i64 r) := cell_of_row _ _ 2 _ _ _ rA11_.out
        have Q_0_ : (w2).cell? ⟨wr.heap.size, 0, none⟩ = some (.int .i64 xk.f0) := cell_of_row _ _ 0 _ _ _ rQ12_.out
        have Q_1_ : (w2).cell? ⟨wr.heap.size, 1, none⟩ = some (.slice pk nk ck) := cell_of_row _ _ 1 _ _ _ rQ12_.out
        have ek0_ := (G13_.out).cell HEk0.out (by simp)
        have ek1_ := (G13_.out).cell HEk1.out (by simp)
        go_wp2_with fail
        go_at_call 75
        refine (implByD _ _ _ (Rk.out.grow G13_.out) hzk_ true (by first | exact (decide_eq_true HAB.out).symm | exact (decide_eq_false HAB.out).symm)).mono ?_
        rintro e w3 ⟨rfl, g⟩
        have szw3 := g.size
        try simp only [World.size_alloc] at szw3
        try simp only [World.size_setCell] at szw3
        clear A_0_ A_1_ A_2_ Q_0_ Q_1_ ek0_ ek1_
        have rA15_ := Lib.hid (show (w3).heap[W.heap.size]? = some (.cells #[.int .i64 m, .slice (some ⟨ab, ao, none⟩) n0 cap0, .int .i64 r] 51 (0, 0)) from row_held g rA11_.out)
        clear rA11_
        have rQ16_ := Lib.hid (show (w3).heap[wr.heap.size]? = some (.cells #[.int .i64 xk.f0, .slice pk nk ck] 104 (0, 0)) from row_held g rQ12_.out)
        clear rQ12_
        have G17_ := Lib.hid (show (W).grownBy (w3) none from gby_trans G13_.out g)
        have HTB18_ := Lib.hid (show (w1).grownBy (w3) none from gby_trans HTB14_.out g)
        clear HTB14_
        clear g
        have A_0_ : (w3).cell? ⟨W.heap.size, 0, none⟩ = some (.int .i64 m) := cell_of_row _ _ 0 _ _ _ rA15_.out
        have A_1_ : (w3).cell? ⟨W.heap.size, 1, none⟩ = some (.slice (some ⟨ab, ao, none⟩) n0 cap0) := cell_of_row _ _ 1 _ _ _ rA15_.out
        have A_2_ : (w3).cell? ⟨W.heap.size, 2, none⟩ = some (.int .i64 r) := cell_of_row _ _ 2 _ _ _ rA15_.out
        have Q_0_ : (w3).cell? ⟨wr.heap.size, 0, none⟩ = some (.int .i64 xk.f0) := cell_of_row _ _ 0 _ _ _ rQ16_.out
        have Q_1_ : (w3).cell? ⟨wr.heap.size, 1, none⟩ = some (.slice pk nk ck) := cell_of_row _ _ 1 _ _ _ rQ16_.out
        have ek0_ := (G17_.out).cell HEk0.out (by simp)
        have ek1_ := (G17_.out).cell HEk1.out (by simp)
        go_wp2
        refine ⟨⟨k + 1, by go_num, by omega, ⟨_, rfl⟩, ⟨_, rfl⟩, fun j hj => ?_, HTB18_.out⟩, by simp [intOf]; omega⟩
        by_cases e : j = k
        · subst e; exact ⟨by rw [← HXk.out, ← HDD.out, ← HE.out]; exact hdq, by rw [← HXk.out]; exact HAB.out⟩
        · exact HALL.out j (by omega)
      · have HAB := Lib.hid hab
        clear hab
        go_wp2_with fail
        go_at_call 100
        refine (HDIST.out _).mono ?_
        rintro e w2 ⟨rfl, g⟩
        have szw2 := g.size
        try simp only [World.size_alloc] at szw2
        try simp only [World.size_setCell] at szw2
        clear A_0_ A_1_ A_2_ Q_0_ Q_1_ ek0_ ek1_
        have rA11_ := Lib.hid (show (w2).heap[W.heap.size]? = some (.cells #[.int .i64 m, .slice (some ⟨ab, ao, none⟩) n0 cap0, .int .i64 r] 51 (0, 0)) from row_held g rA7_.out)
        clear rA7_
        have rQ12_ := Lib.hid (show (w2).heap[wr.heap.size]? = some (.cells #[.int .i64 xk.f0, .slice pk nk ck] 104 (0, 0)) from row_held g rQ10_.out)
        clear rQ10_
        have G13_ := Lib.hid (show (W).grownBy (w2) none from gby_trans G8_.out g)
        have HTB14_ := Lib.hid (show (w1).grownBy (w2) none from gby_trans HTB9_.out g)
        clear HTB9_
        clear g
        have A_0_ : (w2).cell? ⟨W.heap.size, 0, none⟩ = some (.int .i64 m) := cell_of_row _ _ 0 _ _ _ rA11_.out
        have A_1_ : (w2).cell? ⟨W.heap.size, 1, none⟩ = some (.slice (some ⟨ab, ao, none⟩) n0 cap0) := cell_of_row _ _ 1 _ _ _ rA11_.out
        have A_2_ : (w2).cell? ⟨W.heap.size, 2, none⟩ = some (.int .i64 r) := cell_of_row _ _ 2 _ _ _ rA11_.out
        have Q_0_ : (w2).cell? ⟨wr.heap.size, 0, none⟩ = some (.int .i64 xk.f0) := cell_of_row _ _ 0 _ _ _ rQ12_.out
        have Q_1_ : (w2).cell? ⟨wr.heap.size, 1, none⟩ = some (.slice pk nk ck) := cell_of_row _ _ 1 _ _ _ rQ12_.out
        have ek0_ := (G13_.out).cell HEk0.out (by simp)
        have ek1_ := (G13_.out).cell HEk1.out (by simp)
        go_wp2_with fail
        go_at_call 75
        refine (implByD _ _ _ (Rk.out.grow G13_.out) hzk_ false (by first | exact (decide_eq_true HAB.out).symm | exact (decide_eq_false HAB.out).symm)).mono ?_
        rintro e w3 ⟨rfl, g⟩
        have szw3 := g.size
        try simp only [World.size_alloc] at szw3
        try simp only [World.size_setCell] at szw3
        clear A_0_ A_1_ A_2_ Q_0_ Q_1_ ek0_ ek1_
        have rA15_ := Lib.hid (show (w3).heap[W.heap.size]? = some (.cells #[.int .i64 m, .slice (some ⟨ab, ao, none⟩) n0 cap0, .int .i64 r] 51 (0, 0)) from row_held g rA11_.out)
        clear rA11_
        have rQ16_ := Lib.hid (show (w3).heap[wr.heap.size]? = some (.cells #[.int .i64 xk.f0, .slice pk nk ck] 104 (0, 0)) from row_held g rQ12_.out)
        clear rQ12_
        have G17_ := Lib.hid (show (W).grownBy (w3) none from gby_trans G13_.out g)
        have HTB18_ := Lib.hid (show (w1).grownBy (w3) none from gby_trans HTB14_.out g)
        clear HTB14_
        clear g
        have A_0_ : (w3).cell? ⟨W.heap.size, 0, none⟩ = some (.int .i64 m) := cell_of_row _ _ 0 _ _ _ rA15_.out
        have A_1_ : (w3).cell? ⟨W.heap.size, 1, none⟩ = some (.slice (some ⟨ab, ao, none⟩) n0 cap0) := cell_of_row _ _ 1 _ _ _ rA15_.out
        have A_2_ : (w3).cell? ⟨W.heap.size, 2, none⟩ = some (.int .i64 r) := cell_of_row _ _ 2 _ _ _ rA15_.out
        have Q_0_ : (w3).cell? ⟨wr.heap.size, 0, none⟩ = some (.int .i64 xk.f0) := cell_of_row _ _ 0 _ _ _ rQ16_.out
        have Q_1_ : (w3).cell? ⟨wr.heap.size, 1, none⟩ = some (.slice pk nk ck) := cell_of_row _ _ 1 _ _ _ rQ16_.out
        have ek0_ := (G17_.out).cell HEk0.out (by simp)
        have ek1_ := (G17_.out).cell HEk1.out (by simp)
        go_wp2
        go_ret
        exact ⟨false, rfl, iff_noS (fun q => HAB.out (by have := (q.2.2.2 k (by have := HE.out; omega)).2; rw [← HXk.out] at this; exact this)), G17_.out⟩

theorem senderOk_both (i0_0 : Int) (xs0_1 : List DFrame) (i0_2 : Int) (h1 : szL shFrame xs0_1 ≤ 1048576) : ∃ br0 : Bool, (∀ (W : World), ∀ u0_1, RdL shFrame W u0_1 xs0_1 → Calls Try.prog 62 #[.agg #[.int .i64 i0_0, u0_1, .int .i64 i0_2]] W (ResSSenderOk br0 W)) ∧ ∀ (W : World), ∀ u0_1, RdL shFrame W u0_1 xs0_1 → Calls Try.prog 67 #[.agg #[.int .i64 i0_0, u0_1, .int .i64 i0_2]] W (ResISenderOk br0 W) := by
  by_cases h : SndP i0_0 i0_2 xs0_1
  · exact ⟨true, fun W u H => (specSnd W _ _ u _ H h1).mono (bpost_yes h), fun W u H => (implSnd W _ _ u _ H h1).mono (bpost_yes h)⟩
  · exact ⟨false, fun W u H => (specSnd W _ _ u _ H h1).mono (bpost_no h), fun W u H => (implSnd W _ _ u _ H h1).mono (bpost_no h)⟩

end Go.Proofs.Ytnighnkkeiegnab
