/-
  TakeReady, the program.
-/
import Derived.Test.YtcenngekjopjpaaSndCpI
import Derived.Test.YtcenngekjopjpaaRTakeReady
import Derived.Deep.RegionLaw
import Derived.Deep.RegionHeld3
namespace Go.Proofs.Ytcenngekjopjpaa
open Go Go.RowKit
set_option linter.unusedVariables false

theorem gby_someQ {w a : World} (g : w.grownBy a none) (r : Option Nat) : w.grownBy a r := ⟨g.os, g.tape, g.output, g.size, fun k hk _ => g.block k hk (by simp)⟩
theorem row_drewQ {w : World} {b : Nat} {o : Obj} (h : w.heap[b]? = some o) : w.drew.heap[b]? = some o := h
theorem rd_elQ {w : World} {pd : Option Addr} {nd cd : Nat} {xs : List DFrame} (h : RdL shFrame w (.slice pd nd cd) xs) (h0 : 0 < xs.length) : ∃ g o, pd = some ⟨g, o, none⟩ ∧ ∀ k, k < xs.length → ∃ cs, At w g (o + k * 2) cs ∧ shFrame.rd w cs (xs.getD k default) := by
  obtain ⟨a, c, e, h1, _, h3⟩ := h
  injection e with e1 e2 e3
  subst e1 e2 e3
  rcases h3 with h3 | ⟨b, off, ha, h4⟩
  · omega
  · exact ⟨b, off, ha, h4⟩

/-- what the method takeReady does where there is a frame -/
def TrPost (bA : Nat) (m : Int) (sl : Value) (k : Nat) (f0 : Int) (ys : List Int) (W : World) (e : Ending) (w' : World) : Prop := ∃ vf, e = .returned (.tuple #[.agg #[.int .i64 f0, vf], .bool true]) ∧ OwU w' W.heap.size w'.heap.size [] [own shI vf ys] ∧ w'.heap[bA]? = some (.cells #[.int .i64 m, sl, .int .i64 ((k : Int) + 1)] 29 (0, 0)) ∧ W.grownBy w' (some bA)

set_option maxRecDepth 8000 in
set_option maxHeartbeats 4000000 in
theorem takeRd_none (W : World) (bA : Nat) (m : Int) (pd : Option Addr) (n0 cd : Nat) (hba : W.heap[bA]? = some (.cells #[.int .i64 m, .slice pd n0 cd, .int .i64 (n0 : Int)] 29 (0, 0))) : Calls Try.prog 46 #[.pointer (some ⟨bA, 0, none⟩)] W (fun e w' => e = .returned (.tuple #[.agg #[.int .i64 0, .slice none 0 0], .bool false]) ∧ W.grownBy w' none) := by
  have HBA := Lib.hid hba
  have hbl_ := lt_of_block hba
  clear hba
  go_enter Try.func46, Try.ntmps46
  have rF1_ := Lib.hid (show ((W.alloc (.cells #[.int .i64 0, .slice none 0 0] 37))).heap[W.heap.size]? = some (.cells #[.int .i64 0, .slice none 0 0] 37 (0, 0)) from by exact heap_alloc_new _ _)
  have G2_ := Lib.hid (show (W).grownBy ((W.alloc (.cells #[.int .i64 0, .slice none 0 0] 37))) none from (gby_alloc (gby_refl _ _) _))
  have F_0_ : ((W.alloc (.cells #[.int .i64 0, .slice none 0 0] 37))).cell? ⟨W.heap.size, 0, none⟩ = some (.int .i64 0) := cell_of_row _ _ 0 _ _ _ rF1_.out
  have F_1_ : ((W.alloc (.cells #[.int .i64 0, .slice none 0 0] 37))).cell? ⟨W.heap.size, 1, none⟩ = some (.slice none 0 0) := cell_of_row _ _ 1 _ _ _ rF1_.out
  have rB3_ := Lib.hid (show ((W.alloc (.cells #[.int .i64 0, .slice none 0 0] 37))).heap[bA]? = some (.cells #[.int .i64 m, .slice pd n0 cd, .int .i64 (n0 : Int)] 29 (0, 0)) from row_held G2_.out HBA.out)
  clear F_0_ F_1_
  have F_0_ : ((W.alloc (.cells #[.int .i64 0, .slice none 0 0] 37))).cell? ⟨W.heap.size, 0, none⟩ = some (.int .i64 0) := cell_of_row _ _ 0 _ _ _ rF1_.out
  have F_1_ : ((W.alloc (.cells #[.int .i64 0, .slice none 0 0] 37))).cell? ⟨W.heap.size, 1, none⟩ = some (.slice none 0 0) := cell_of_row _ _ 1 _ _ _ rF1_.out
  have B_0_ : ((W.alloc (.cells #[.int .i64 0, .slice none 0 0] 37))).cell? ⟨bA, 0, none⟩ = some (.int .i64 m) := cell_of_row _ _ 0 _ _ _ rB3_.out
  have B_1_ : ((W.alloc (.cells #[.int .i64 0, .slice none 0 0] 37))).cell? ⟨bA, 1, none⟩ = some (.slice pd n0 cd) := cell_of_row _ _ 1 _ _ _ rB3_.out
  have B_2_ : ((W.alloc (.cells #[.int .i64 0, .slice none 0 0] 37))).cell? ⟨bA, 2, none⟩ = some (.int .i64 (n0 : Int)) := cell_of_row _ _ 2 _ _ _ rB3_.out
  go_wp2_with fail
  refine wp_region_held_drew (S := fun w' => w'.cell? ⟨bA, 1, none⟩ = some (.slice pd n0 cd) ∧ w'.cell? ⟨bA, 2, none⟩ = some (.int .i64 (n0 : Int))) (by kernel_rfl) (by (try dsimp only); exact ⟨B_1_, B_2_⟩) (fun hHeld => ?_)
  refine wpAnyH_take (i := 0) (oi := { dst := some 5, op := Op.move (Operand.tmp 0), type := 70, pos := "l08_sender.go:89", after := #[], guard := none }) (v := ?v0_r1_1) rfl (by kernel_rfl) (by kernel_rfl) (by kernel_rfl) (fun _ _ _ h => h) (Or.inl ⟨by rfl, ?y0_r1_1⟩) (by assumption) ?r0_r1_1
  case y0_r1_1 => (intro w hSw; (try dsimp only at hSw); go_simp; all_goals (with_reducible rfl))
  try simp only [Act.put, List.setIfInBounds_toArray, List.set_cons_zero, List.set_cons_succ]
  refine wpAnyH_take (i := 1) (oi := { dst := some 6, op := Op.nilCheck (Operand.tmp 5), type := 0, pos := "l08_sender.go:89", after := #[{ on := 0, ground := Ground.data }], guard := none }) (v := ?v1_r1_2) rfl (by kernel_rfl) (by kernel_rfl) (by kernel_rfl) (fun _ _ _ h => h) (Or.inl ⟨by rfl, ?y1_r1_2⟩) (by assumption) ?r1_r1_2
  case y1_r1_2 => (intro w hSw; (try dsimp only at hSw); go_simp; all_goals (with_reducible rfl))
  try simp only [Act.put, List.setIfInBounds_toArray, List.set_cons_zero, List.set_cons_succ]
  refine wpAnyH_take (i := 2) (oi := { dst := some 7, op := Op.fieldAddr 29 (Operand.tmp 6) 2, type := 0, pos := "l08_sender.go:89", after := #[{ on := 1, ground := Ground.data }], guard := none }) (v := ?v2_r1_3) rfl (by kernel_rfl) (by kernel_rfl) (by kernel_rfl) (fun _ _ _ h => h) (Or.inl ⟨by rfl, ?y2_r1_3⟩) (by assumption) ?r2_r1_3
  case y2_r1_3 => (intro w hSw; (try dsimp only at hSw); go_simp; all_goals (with_reducible rfl))
  try simp only [Act.put, List.setIfInBounds_toArray, List.set_cons_zero, List.set_cons_succ]
  refine wpAnyH_take (i := 3) (oi := { dst := some 8, op := Op.load 3 (Operand.tmp 7), type := 3, pos := "l08_sender.go:89", after := #[{ on := 2, ground := Ground.data }], guard := none }) (v := ?v3_r1_4) rfl (by kernel_rfl) (by kernel_rfl) (by kernel_rfl) (fun _ _ _ h => h) (Or.inl ⟨by rfl, ?y3_r1_4⟩) (by assumption) ?r3_r1_4
  case y3_r1_4 => (intro w hSw; (try dsimp only at hSw); go_simp; all_goals (with_reducible rfl))
  try simp only [Act.put, List.setIfInBounds_toArray, List.set_cons_zero, List.set_cons_succ]
  refine wpAnyH_take (i := 4) (oi := { dst := some 9, op := Op.move (Operand.tmp 0), type := 70, pos := "l08_sender.go:89", after := #[], guard := none }) (v := ?v4_r1_5) rfl (by kernel_rfl) (by kernel_rfl) (by kernel_rfl) (fun _ _ _ h => h) (Or.inl ⟨by rfl, ?y4_r1_5⟩) (by assumption) ?r4_r1_5
  case y4_r1_5 => (intro w hSw; (try dsimp only at hSw); go_simp; all_goals (with_reducible rfl))
  try simp only [Act.put, List.setIfInBounds_toArray, List.set_cons_zero, List.set_cons_succ]
  refine wpAnyH_take (i := 5) (oi := { dst := some 10, op := Op.nilCheck (Operand.tmp 9), type := 0, pos := "l08_sender.go:89", after := #[{ on := 4, ground := Ground.data }], guard := none }) (v := ?v5_r1_6) rfl (by kernel_rfl) (by kernel_rfl) (by kernel_rfl) (fun _ _ _ h => h) (Or.inl ⟨by rfl, ?y5_r1_6⟩) (by assumption) ?r5_r1_6
  case y5_r1_6 => (intro w hSw; (try dsimp only at hSw); go_simp; all_goals (with_reducible rfl))
  try simp only [Act.put, List.setIfInBounds_toArray, List.set_cons_zero, List.set_cons_succ]
  refine wpAnyH_take (i := 6) (oi := { dst := some 11, op := Op.fieldAddr 29 (Operand.tmp 10) 1, type := 0, pos := "l08_sender.go:89", after := #[{ on := 5, ground := Ground.data }], guard := none }) (v := ?v6_r1_7) rfl (by kernel_rfl) (by kernel_rfl) (by kernel_rfl) (fun _ _ _ h => h) (Or.inl ⟨by rfl, ?y6_r1_7⟩) (by assumption) ?r6_r1_7
  case y6_r1_7 => (intro w hSw; (try dsimp only at hSw); go_simp; all_goals (with_reducible rfl))
  try simp only [Act.put, List.setIfInBounds_toArray, List.set_cons_zero, List.set_cons_succ]
  refine wpAnyH_take (i := 7) (oi := { dst := some 12, op := Op.load 27 (Operand.tmp 11), type := 27, pos := "l08_sender.go:89", after := #[{ on := 6, ground := Ground.data }], guard := none }) (v := ?v7_r1_8) rfl (by kernel_rfl) (by kernel_rfl) (by kernel_rfl) (fun _ _ _ h => h) (Or.inl ⟨by rfl, ?y7_r1_8⟩) (by assumption) ?r7_r1_8
  case y7_r1_8 => (intro w hSw; (try dsimp only at hSw); go_simp; all_goals (with_reducible rfl))
  try simp only [Act.put, List.setIfInBounds_toArray, List.set_cons_zero, List.set_cons_succ]
  refine wpAnyH_take (i := 8) (oi := { dst := some 13, op := Op.call { callee := Callee.builtin Builtin.len, args := #[Operand.tmp 12], argTypes := #[27] }, type := 3, pos := "l08_sender.go:89", after := #[{ on := 7, ground := Ground.data }], guard := none }) (v := ?v8_r1_9) rfl (by kernel_rfl) (by kernel_rfl) (by kernel_rfl) (fun _ _ _ h => h) (Or.inl ⟨by rfl, ?y8_r1_9⟩) (by assumption) ?r8_r1_9
  case y8_r1_9 => (intro w hSw; (try dsimp only at hSw); go_simp; all_goals (with_reducible rfl))
  try simp only [Act.put, List.setIfInBounds_toArray, List.set_cons_zero, List.set_cons_succ]
  refine wpAnyH_take (i := 9) (oi := { dst := some 14, op := Op.binOp BinOp.eql 3 (Operand.tmp 8) (Operand.tmp 13) 3, type := 4, pos := "l08_sender.go:89", after := #[{ on := 3, ground := Ground.data }, { on := 8, ground := Ground.data }], guard := none }) (v := ?v9_r1_10) rfl (by kernel_rfl) (by kernel_rfl) (by kernel_rfl) (fun _ _ _ h => h) (Or.inl ⟨by rfl, ?y9_r1_10⟩) (by assumption) ?r9_r1_10
  case y9_r1_10 => (intro w hSw; (try dsimp only at hSw); go_simp; all_goals (with_reducible rfl))
  try simp only [Act.put, List.setIfInBounds_toArray, List.set_cons_zero, List.set_cons_succ]
  refine wpAnyH_done (by kernel_rfl) ?_ _
  have gR_ : ((W.alloc (.cells #[.int .i64 0, .slice none 0 0] 37))).grownBy (((W.alloc (.cells #[.int .i64 0, .slice none 0 0] 37))).drew) none := (gby_drew (gby_refl _ none))
  clear F_0_ F_1_ B_0_ B_1_ B_2_
  have rF4_ := Lib.hid (show (((W.alloc (.cells #[.int .i64 0, .slice none 0 0] 37))).drew).heap[W.heap.size]? = some (.cells #[.int .i64 0, .slice none 0 0] 37 (0, 0)) from row_held gR_ rF1_.out)
  clear rF1_
  have rB5_ := Lib.hid (show (((W.alloc (.cells #[.int .i64 0, .slice none 0 0] 37))).drew).heap[bA]? = some (.cells #[.int .i64 m, .slice pd n0 cd, .int .i64 (n0 : Int)] 29 (0, 0)) from row_held gR_ rB3_.out)
  clear rB3_
  have G6_ := Lib.hid (show (W).grownBy (((W.alloc (.cells #[.int .i64 0, .slice none 0 0] 37))).drew) none from gby_trans G2_.out gR_)
  clear gR_
  have szd_ : (((W.alloc (.cells #[.int .i64 0, .slice none 0 0] 37))).drew).heap.size = ((W.alloc (.cells #[.int .i64 0, .slice none 0 0] 37))).heap.size := rfl
  have rF7_ := Lib.hid (show (((W.alloc (.cells #[.int .i64 0, .slice none 0 0] 37))).drew).heap[W.heap.size]? = some (.cells #[.int .i64 0, .slice none 0 0] 37 (0, 0)) from rF4_.out)
  have rB8_ := Lib.hid (show (((W.alloc (.cells #[.int .i64 0, .slice none 0 0] 37))).drew).heap[bA]? = some (.cells #[.int .i64 m, .slice pd n0 cd, .int .i64 (n0 : Int)] 29 (0, 0)) from rB5_.out)
  have G9_ := Lib.hid (show (W).grownBy (((W.alloc (.cells #[.int .i64 0, .slice none 0 0] 37))).drew) none from G6_.out)
  have hszwd_ : (((W.alloc (.cells #[.int .i64 0, .slice none 0 0] 37))).drew).heap.size = (((W.alloc (.cells #[.int .i64 0, .slice none 0 0] 37))).drew).heap.size := by first | rfl | simp only [World.size_setCell]
  generalize ((W.alloc (.cells #[.int .i64 0, .slice none 0 0] 37))).drew = wd at rF7_ rB8_ G9_ hszwd_ ⊢
  try simp only [World.size_alloc] at hszwd_
  clear rF4_
  clear rB5_
  have hwd_ := lt_of_block rF7_.out
  have F_0_ : (wd).cell? ⟨W.heap.size, 0, none⟩ = some (.int .i64 0) := cell_of_row _ _ 0 _ _ _ rF7_.out
  have F_1_ : (wd).cell? ⟨W.heap.size, 1, none⟩ = some (.slice none 0 0) := cell_of_row _ _ 1 _ _ _ rF7_.out
  have Ff0_ : (wd).frozen? ⟨W.heap.size, 0, none⟩ = false := frozen_of_row _ _ 0 _ _ rF7_.out
  have Ff1_ : (wd).frozen? ⟨W.heap.size, 1, none⟩ = false := frozen_of_row _ _ 1 _ _ rF7_.out
  have B_0_ : (wd).cell? ⟨bA, 0, none⟩ = some (.int .i64 m) := cell_of_row _ _ 0 _ _ _ rB8_.out
  have B_1_ : (wd).cell? ⟨bA, 1, none⟩ = some (.slice pd n0 cd) := cell_of_row _ _ 1 _ _ _ rB8_.out
  have B_2_ : (wd).cell? ⟨bA, 2, none⟩ = some (.int .i64 (n0 : Int)) := cell_of_row _ _ 2 _ _ _ rB8_.out
  have Bf0_ : (wd).frozen? ⟨bA, 0, none⟩ = false := frozen_of_row _ _ 0 _ _ rB8_.out
  have Bf1_ : (wd).frozen? ⟨bA, 1, none⟩ = false := frozen_of_row _ _ 1 _ _ rB8_.out
  have Bf2_ : (wd).frozen? ⟨bA, 2, none⟩ = false := frozen_of_row _ _ 2 _ _ rB8_.out
  go_wp2
  refine bodyPost_ret (v := .tuple #[.agg #[.int .i64 0, .slice none 0 0], .bool false]) (by simp [results, go_sem, F_0_, F_1_]; done) rfl ⟨rfl, ?_⟩
  iterate 2 (with_reducible refine gby_setnew ?_ _ (by first | omega | (dsimp only; omega)) _)
  exact G9_.out

set_option maxRecDepth 8000 in
set_option maxHeartbeats 4000000 in
theorem takeRd_yes (W : World) (bA : Nat) (m : Int) (pd : Option Addr) (n0 cd : Nat) (xs : List DFrame) (k : Nat) (hba : W.heap[bA]? = some (.cells #[.int .i64 m, .slice pd n0 cd, .int .i64 (k : Int)] 29 (0, 0))) (H : RdL shFrame W (.slice pd n0 cd) xs) (hl : szL shFrame xs ≤ 1048576) (hkx_ : k < xs.length) (h7 : xs.length ≤ 7) : Calls Try.prog 46 #[.pointer (some ⟨bA, 0, none⟩)] W (TrPost bA m (.slice pd n0 cd) k (fr xs k).f0 (fr xs k).f1 W) := by
  have HL := Lib.hid hl
  have hn0 : n0 = xs.length := by obtain ⟨_, _, e, _⟩ := H; injection e
  have hkn_ : k < n0 := by omega
  have h70_ : n0 ≤ 7 := by omega
  obtain ⟨ab, ao, ha_, hce_⟩ := rd_elQ H (by omega)
  subst ha_
  clear hn0 H hl
  have HBA := Lib.hid hba
  have hbl_ := lt_of_block hba
  clear hba
  obtain ⟨xk, hxk_⟩ : ∃ x, x = xs.getD k default := ⟨_, rfl⟩
  have HXk := Lib.hid (show xk = fr xs k from hxk_)
  have hzk_ : szL shI xk.f1 ≤ 1048576 := by have q1 := szL_at shFrame xs k hkx_; rw [← hxk_] at q1; exact Nat.le_trans q1 HL.out
  obtain ⟨cs_, hat_, hrd_⟩ := hce_ k hkx_
  rw [← hxk_] at hrd_
  obtain ⟨v1_, rfl, r1_⟩ := hrd_
  obtain ⟨pk, nk, ck, hv_⟩ := RdL.form r1_
  subst hv_
  have Rk := Lib.hid r1_
  have HEk0 := Lib.hid (show (W).cell? ⟨ab, ao + k * 2, none⟩ = some (.int .i64 xk.f0) from at_cell (j := 0) hat_ rfl)
  have HEk1 := Lib.hid (show (W).cell? ⟨ab, ao + k * 2 + 1, none⟩ = some (.slice pk nk ck) from at_cell (j := 1) hat_ rfl)
  clear hat_ r1_ hxk_ hce_
  rw [← HXk.out]
  have eq_ : ((k : Int) == (n0 : Int)) = false := beq_eq_false_iff_ne.2 (by omega)
  have hk0 : (0 : Int) ≤ (k : Int) := by omega
  have htk : ((k : Int)).toNat = k := by omega
  have hki : (k : Int) < (n0 : Int) := by omega
  have HWK := Lib.hid (show IntKind.i64.wrap ((k : Int) + 1) = (k : Int) + 1 from IntWalk.i64_in _ (by omega))
  go_enter Try.func46, Try.ntmps46
  have rF1_ := Lib.hid (show ((W.alloc (.cells #[.int .i64 0, .slice none 0 0] 37))).heap[W.heap.size]? = some (.cells #[.int .i64 0, .slice none 0 0] 37 (0, 0)) from by exact heap_alloc_new _ _)
  have G2_ := Lib.hid (show (W).grownBy ((W.alloc (.cells #[.int .i64 0, .slice none 0 0] 37))) none from (gby_alloc (gby_refl _ _) _))
  have F_0_ : ((W.alloc (.cells #[.int .i64 0, .slice none 0 0] 37))).cell? ⟨W.heap.size, 0, none⟩ = some (.int .i64 0) := cell_of_row _ _ 0 _ _ _ rF1_.out
  have F_1_ : ((W.alloc (.cells #[.int .i64 0, .slice none 0 0] 37))).cell? ⟨W.heap.size, 1, none⟩ = some (.slice none 0 0) := cell_of_row _ _ 1 _ _ _ rF1_.out
  have rB3_ := Lib.hid (show ((W.alloc (.cells #[.int .i64 0, .slice none 0 0] 37))).heap[bA]? = some (.cells #[.int .i64 m, .slice (some ⟨ab, ao, none⟩) n0 cd, .int .i64 (k : Int)] 29 (0, 0)) from row_held G2_.out HBA.out)
  clear F_0_ F_1_
  have F_0_ : ((W.alloc (.cells #[.int .i64 0, .slice none 0 0] 37))).cell? ⟨W.heap.size, 0, none⟩ = some (.int .i64 0) := cell_of_row _ _ 0 _ _ _ rF1_.out
  have F_1_ : ((W.alloc (.cells #[.int .i64 0, .slice none 0 0] 37))).cell? ⟨W.heap.size, 1, none⟩ = some (.slice none 0 0) := cell_of_row _ _ 1 _ _ _ rF1_.out
  have B_0_ : ((W.alloc (.cells #[.int .i64 0, .slice none 0 0] 37))).cell? ⟨bA, 0, none⟩ = some (.int .i64 m) := cell_of_row _ _ 0 _ _ _ rB3_.out
  have B_1_ : ((W.alloc (.cells #[.int .i64 0, .slice none 0 0] 37))).cell? ⟨bA, 1, none⟩ = some (.slice (some ⟨ab, ao, none⟩) n0 cd) := cell_of_row _ _ 1 _ _ _ rB3_.out
  have B_2_ : ((W.alloc (.cells #[.int .i64 0, .slice none 0 0] 37))).cell? ⟨bA, 2, none⟩ = some (.int .i64 (k : Int)) := cell_of_row _ _ 2 _ _ _ rB3_.out
  go_wp2_with fail
  refine wp_region_held_drew (S := fun w' => w'.cell? ⟨bA, 1, none⟩ = some (.slice (some ⟨ab, ao, none⟩) n0 cd) ∧ w'.cell? ⟨bA, 2, none⟩ = some (.int .i64 (k : Int))) (by kernel_rfl) (by (try dsimp only); exact ⟨B_1_, B_2_⟩) (fun hHeld => ?_)
  refine wpAnyH_take (i := 0) (oi := { dst := some 5, op := Op.move (Operand.tmp 0), type := 70, pos := "l08_sender.go:89", after := #[], guard := none }) (v := ?v0_r2_1) rfl (by kernel_rfl) (by kernel_rfl) (by kernel_rfl) (fun _ _ _ h => h) (Or.inl ⟨by rfl, ?y0_r2_1⟩) (by assumption) ?r0_r2_1
  case y0_r2_1 => (intro w hSw; (try dsimp only at hSw); go_simp; all_goals (with_reducible rfl))
  try simp only [Act.put, List.setIfInBounds_toArray, List.set_cons_zero, List.set_cons_succ]
  refine wpAnyH_take (i := 1) (oi := { dst := some 6, op := Op.nilCheck (Operand.tmp 5), type := 0, pos := "l08_sender.go:89", after := #[{ on := 0, ground := Ground.data }], guard := none }) (v := ?v1_r2_2) rfl (by kernel_rfl) (by kernel_rfl) (by kernel_rfl) (fun _ _ _ h => h) (Or.inl ⟨by rfl, ?y1_r2_2⟩) (by assumption) ?r1_r2_2
  case y1_r2_2 => (intro w hSw; (try dsimp only at hSw); go_simp; all_goals (with_reducible rfl))
  try simp only [Act.put, List.setIfInBounds_toArray, List.set_cons_zero, List.set_cons_succ]
  refine wpAnyH_take (i := 2) (oi := { dst := some 7, op := Op.fieldAddr 29 (Operand.tmp 6) 2, type := 0, pos := "l08_sender.go:89", after := #[{ on := 1, ground := Ground.data }], guard := none }) (v := ?v2_r2_3) rfl (by kernel_rfl) (by kernel_rfl) (by kernel_rfl) (fun _ _ _ h => h) (Or.inl ⟨by rfl, ?y2_r2_3⟩) (by assumption) ?r2_r2_3
  case y2_r2_3 => (intro w hSw; (try dsimp only at hSw); go_simp; all_goals (with_reducible rfl))
  try simp only [Act.put, List.setIfInBounds_toArray, List.set_cons_zero, List.set_cons_succ]
  refine wpAnyH_take (i := 3) (oi := { dst := some 8, op := Op.load 3 (Operand.tmp 7), type := 3, pos := "l08_sender.go:89", after := #[{ on := 2, ground := Ground.data }], guard := none }) (v := ?v3_r2_4) rfl (by kernel_rfl) (by kernel_rfl) (by kernel_rfl) (fun _ _ _ h => h) (Or.inl ⟨by rfl, ?y3_r2_4⟩) (by assumption) ?r3_r2_4
  case y3_r2_4 => (intro w hSw; (try dsimp only at hSw); go_simp; all_goals (with_reducible rfl))
  try simp only [Act.put, List.setIfInBounds_toArray, List.set_cons_zero, List.set_cons_succ]
  refine wpAnyH_take (i := 4) (oi := { dst := some 9, op := Op.move (Operand.tmp 0), type := 70, pos := "l08_sender.go:89", after := #[], guard := none }) (v := ?v4_r2_5) rfl (by kernel_rfl) (by kernel_rfl) (by kernel_rfl) (fun _ _ _ h => h) (Or.inl ⟨by rfl, ?y4_r2_5⟩) (by assumption) ?r4_r2_5
  case y4_r2_5 => (intro w hSw; (try dsimp only at hSw); go_simp; all_goals (with_reducible rfl))
  try simp only [Act.put, List.setIfInBounds_toArray, List.set_cons_zero, List.set_cons_succ]
  refine wpAnyH_take (i := 5) (oi := { dst := some 10, op := Op.nilCheck (Operand.tmp 9), type := 0, pos := "l08_sender.go:89", after := #[{ on := 4, ground := Ground.data }], guard := none }) (v := ?v5_r2_6) rfl (by kernel_rfl) (by kernel_rfl) (by kernel_rfl) (fun _ _ _ h => h) (Or.inl ⟨by rfl, ?y5_r2_6⟩) (by assumption) ?r5_r2_6
  case y5_r2_6 => (intro w hSw; (try dsimp only at hSw); go_simp; all_goals (with_reducible rfl))
  try simp only [Act.put, List.setIfInBounds_toArray, List.set_cons_zero, List.set_cons_succ]
  refine wpAnyH_take (i := 6) (oi := { dst := some 11, op := Op.fieldAddr 29 (Operand.tmp 10) 1, type := 0, pos := "l08_sender.go:89", after := #[{ on := 5, ground := Ground.data }], guard := none }) (v := ?v6_r2_7) rfl (by kernel_rfl) (by kernel_rfl) (by kernel_rfl) (fun _ _ _ h => h) (Or.inl ⟨by rfl, ?y6_r2_7⟩) (by assumption) ?r6_r2_7
  case y6_r2_7 => (intro w hSw; (try dsimp only at hSw); go_simp; all_goals (with_reducible rfl))
  try simp only [Act.put, List.setIfInBounds_toArray, List.set_cons_zero, List.set_cons_succ]
  refine wpAnyH_take (i := 7) (oi := { dst := some 12, op := Op.load 27 (Operand.tmp 11), type := 27, pos := "l08_sender.go:89", after := #[{ on := 6, ground := Ground.data }], guard := none }) (v := ?v7_r2_8) rfl (by kernel_rfl) (by kernel_rfl) (by kernel_rfl) (fun _ _ _ h => h) (Or.inl ⟨by rfl, ?y7_r2_8⟩) (by assumption) ?r7_r2_8
  case y7_r2_8 => (intro w hSw; (try dsimp only at hSw); go_simp; all_goals (with_reducible rfl))
  try simp only [Act.put, List.setIfInBounds_toArray, List.set_cons_zero, List.set_cons_succ]
  refine wpAnyH_take (i := 8) (oi := { dst := some 13, op := Op.call { callee := Callee.builtin Builtin.len, args := #[Operand.tmp 12], argTypes := #[27] }, type := 3, pos := "l08_sender.go:89", after := #[{ on := 7, ground := Ground.data }], guard := none }) (v := ?v8_r2_9) rfl (by kernel_rfl) (by kernel_rfl) (by kernel_rfl) (fun _ _ _ h => h) (Or.inl ⟨by rfl, ?y8_r2_9⟩) (by assumption) ?r8_r2_9
  case y8_r2_9 => (intro w hSw; (try dsimp only at hSw); go_simp; all_goals (with_reducible rfl))
  try simp only [Act.put, List.setIfInBounds_toArray, List.set_cons_zero, List.set_cons_succ]
  refine wpAnyH_take (i := 9) (oi := { dst := some 14, op := Op.binOp BinOp.eql 3 (Operand.tmp 8) (Operand.tmp 13) 3, type := 4, pos := "l08_sender.go:89", after := #[{ on := 3, ground := Ground.data }, { on := 8, ground := Ground.data }], guard := none }) (v := ?v9_r2_10) rfl (by kernel_rfl) (by kernel_rfl) (by kernel_rfl) (fun _ _ _ h => h) (Or.inl ⟨by rfl, ?y9_r2_10⟩) (by assumption) ?r9_r2_10
  case y9_r2_10 => (intro w hSw; (try dsimp only at hSw); go_simp; all_goals (with_reducible rfl))
  try simp only [Act.put, List.setIfInBounds_toArray, List.set_cons_zero, List.set_cons_succ]
  refine wpAnyH_done (by kernel_rfl) ?_ _
  have gR_ : ((W.alloc (.cells #[.int .i64 0, .slice none 0 0] 37))).grownBy (((W.alloc (.cells #[.int .i64 0, .slice none 0 0] 37))).drew) none := (gby_drew (gby_refl _ none))
  clear F_0_ F_1_ B_0_ B_1_ B_2_
  have rF4_ := Lib.hid (show (((W.alloc (.cells #[.int .i64 0, .slice none 0 0] 37))).drew).heap[W.heap.size]? = some (.cells #[.int .i64 0, .slice none 0 0] 37 (0, 0)) from row_held gR_ rF1_.out)
  clear rF1_
  have rB5_ := Lib.hid (show (((W.alloc (.cells #[.int .i64 0, .slice none 0 0] 37))).drew).heap[bA]? = some (.cells #[.int .i64 m, .slice (some ⟨ab, ao, none⟩) n0 cd, .int .i64 (k : Int)] 29 (0, 0)) from row_held gR_ rB3_.out)
  clear rB3_
  have G6_ := Lib.hid (show (W).grownBy (((W.alloc (.cells #[.int .i64 0, .slice none 0 0] 37))).drew) none from gby_trans G2_.out gR_)
  clear gR_
  have szd_ : (((W.alloc (.cells #[.int .i64 0, .slice none 0 0] 37))).drew).heap.size = ((W.alloc (.cells #[.int .i64 0, .slice none 0 0] 37))).heap.size := rfl
  have rF7_ := Lib.hid (show (((W.alloc (.cells #[.int .i64 0, .slice none 0 0] 37))).drew).heap[W.heap.size]? = some (.cells #[.int .i64 0, .slice none 0 0] 37 (0, 0)) from rF4_.out)
  have rB8_ := Lib.hid (show (((W.alloc (.cells #[.int .i64 0, .slice none 0 0] 37))).drew).heap[bA]? = some (.cells #[.int .i64 m, .slice (some ⟨ab, ao, none⟩) n0 cd, .int .i64 (k : Int)] 29 (0, 0)) from rB5_.out)
  have G9_ := Lib.hid (show (W).grownBy (((W.alloc (.cells #[.int .i64 0, .slice none 0 0] 37))).drew) none from G6_.out)
  have hszwd_ : (((W.alloc (.cells #[.int .i64 0, .slice none 0 0] 37))).drew).heap.size = (((W.alloc (.cells #[.int .i64 0, .slice none 0 0] 37))).drew).heap.size := by first | rfl | simp only [World.size_setCell]
  generalize ((W.alloc (.cells #[.int .i64 0, .slice none 0 0] 37))).drew = wd at rF7_ rB8_ G9_ hszwd_ ⊢
  try simp only [World.size_alloc] at hszwd_
  clear rF4_
  clear rB5_
  have hwd_ := lt_of_block rF7_.out
  have F_0_ : (wd).cell? ⟨W.heap.size, 0, none⟩ = some (.int .i64 0) := cell_of_row _ _ 0 _ _ _ rF7_.out
  have F_1_ : (wd).cell? ⟨W.heap.size, 1, none⟩ = some (.slice none 0 0) := cell_of_row _ _ 1 _ _ _ rF7_.out
  have Ff0_ : (wd).frozen? ⟨W.heap.size, 0, none⟩ = false := frozen_of_row _ _ 0 _ _ rF7_.out
  have Ff1_ : (wd).frozen? ⟨W.heap.size, 1, none⟩ = false := frozen_of_row _ _ 1 _ _ rF7_.out
  have B_0_ : (wd).cell? ⟨bA, 0, none⟩ = some (.int .i64 m) := cell_of_row _ _ 0 _ _ _ rB8_.out
  have B_1_ : (wd).cell? ⟨bA, 1, none⟩ = some (.slice (some ⟨ab, ao, none⟩) n0 cd) := cell_of_row _ _ 1 _ _ _ rB8_.out
  have B_2_ : (wd).cell? ⟨bA, 2, none⟩ = some (.int .i64 (k : Int)) := cell_of_row _ _ 2 _ _ _ rB8_.out
  have Bf0_ : (wd).frozen? ⟨bA, 0, none⟩ = false := frozen_of_row _ _ 0 _ _ rB8_.out
  have Bf1_ : (wd).frozen? ⟨bA, 1, none⟩ = false := frozen_of_row _ _ 1 _ _ rB8_.out
  have Bf2_ : (wd).frozen? ⟨bA, 2, none⟩ = false := frozen_of_row _ _ 2 _ _ rB8_.out
  have ek0_ := (G9_.out).cell HEk0.out (by simp)
  have ek1_ := (G9_.out).cell HEk1.out (by simp)
  have HRd0 := Lib.hid (show RdL shI (wd.drew) (.slice pk nk ck) xk.f1 from Rk.out.grow (gby_drew G9_.out))
  have HG0 := Lib.hid (show W.grownBy (wd.drew) none from gby_drew G9_.out)
  have HB0 := Lib.hid (row_held (gby_drew (gby_refl wd none)) rB8_.out)
  have HF0 := Lib.hid (row_held (gby_drew (gby_refl wd none)) rF7_.out)
  have HRd1 := Lib.hid (show RdL shI ((wd.alloc (.cells #[.int .i64 0, .slice none 0 0] 37)).drew) (.slice pk nk ck) xk.f1 from Rk.out.grow (gby_drew (gby_alloc G9_.out _)))
  have HG1 := Lib.hid (show W.grownBy ((wd.alloc (.cells #[.int .i64 0, .slice none 0 0] 37)).drew) none from gby_drew (gby_alloc G9_.out _))
  have HB1 := Lib.hid (row_held (gby_drew (gby_alloc (gby_refl wd none) (.cells #[.int .i64 0, .slice none 0 0] 37))) rB8_.out)
  have HF1 := Lib.hid (row_held (gby_drew (gby_alloc (gby_refl wd none) (.cells #[.int .i64 0, .slice none 0 0] 37))) rF7_.out)
  have HX1 := Lib.hid (row_drewQ (heap_alloc_new wd (.cells #[.int .i64 0, .slice none 0 0] 37)))
  have kx10_ := (HG1.out).cell HEk0.out (by simp)
  have kx11_ := (HG1.out).cell HEk1.out (by simp)
  have kb11_ := cell_of_row _ _ 1 _ _ _ HB1.out
  have kb12_ := cell_of_row _ _ 2 _ _ _ HB1.out
  have HRd2 := Lib.hid (show RdL shI ((wd.drew.alloc (.cells #[.int .i64 0, .slice none 0 0] 37))) (.slice pk nk ck) xk.f1 from Rk.out.grow (gby_alloc (gby_drew G9_.out) _))
  have HG2 := Lib.hid (show W.grownBy ((wd.drew.alloc (.cells #[.int .i64 0, .slice none 0 0] 37))) none from gby_alloc (gby_drew G9_.out) _)
  have HB2 := Lib.hid (row_held (gby_alloc (gby_drew (gby_refl wd none)) (.cells #[.int .i64 0, .slice none 0 0] 37)) rB8_.out)
  have HF2 := Lib.hid (row_held (gby_alloc (gby_drew (gby_refl wd none)) (.cells #[.int .i64 0, .slice none 0 0] 37)) rF7_.out)
  have HX2 := Lib.hid (heap_alloc_new wd.drew (.cells #[.int .i64 0, .slice none 0 0] 37))
  have kx20_ := (HG2.out).cell HEk0.out (by simp)
  have kx21_ := (HG2.out).cell HEk1.out (by simp)
  have kb21_ := cell_of_row _ _ 1 _ _ _ HB2.out
  have kb22_ := cell_of_row _ _ 2 _ _ _ HB2.out
  go_wp2_with fail
  go_region_law (first
    | (go_simp; go_at_call 55; refine (copiedFr_d _ xk.f0 _ xk.f1 HRd0.out hzk_).mono ?_; rintro e wA ⟨vf, rfl, oA, gA⟩; unfold vFrame; obtain ⟨pf, nf, cf, hv_⟩ := RdL.form (OwU.rd oA); subst hv_; have sA := gA.size; (try simp only [World.size_drew] at sA oA); (try simp only [World.size_alloc] at sA oA); have RB := Lib.hid (row_held gA HB0.out); have RF := Lib.hid (row_held gA HF0.out); have b0_ := cell_of_row wA _ 0 _ _ _ RB.out; have b1_ := cell_of_row wA _ 1 _ _ _ RB.out; have b2_ := cell_of_row wA _ 2 _ _ _ RB.out; have c2_ := frozen_of_row wA _ 2 _ _ RB.out; have f0_ := cell_of_row wA _ 0 _ _ _ RF.out; have f1_ := cell_of_row wA _ 1 _ _ _ RF.out; have g0_ := frozen_of_row wA _ 0 _ _ RF.out; have g1_ := frozen_of_row wA _ 1 _ _ RF.out; have GA := Lib.hid (gby_trans HG0.out gA); have OA := Lib.hid oA)
    | (go_simp; go_at_call 55; refine (copiedFr_d _ xk.f0 _ xk.f1 HRd1.out hzk_).mono ?_; rintro e wA ⟨vf, rfl, oA, gA⟩; unfold vFrame; obtain ⟨pf, nf, cf, hv_⟩ := RdL.form (OwU.rd oA); subst hv_; have sA := gA.size; (try simp only [World.size_drew] at sA oA); (try simp only [World.size_alloc] at sA oA); have RB := Lib.hid (row_held gA HB1.out); have RF := Lib.hid (row_held gA HF1.out); have b0_ := cell_of_row wA _ 0 _ _ _ RB.out; have b1_ := cell_of_row wA _ 1 _ _ _ RB.out; have b2_ := cell_of_row wA _ 2 _ _ _ RB.out; have c2_ := frozen_of_row wA _ 2 _ _ RB.out; have f0_ := cell_of_row wA _ 0 _ _ _ RF.out; have f1_ := cell_of_row wA _ 1 _ _ _ RF.out; have g0_ := frozen_of_row wA _ 0 _ _ RF.out; have g1_ := frozen_of_row wA _ 1 _ _ RF.out; have RX := Lib.hid (row_held gA HX1.out); have x0_ := cell_of_row wA _ 0 _ _ _ RX.out; have x1_ := cell_of_row wA _ 1 _ _ _ RX.out; have y0_ := frozen_of_row wA _ 0 _ _ RX.out; have y1_ := frozen_of_row wA _ 1 _ _ RX.out; have GA := Lib.hid (gby_trans HG1.out gA); have OA := Lib.hid oA)
    | (go_simp; go_at_call 55; refine (copiedFr_d _ xk.f0 _ xk.f1 HRd2.out hzk_).mono ?_; rintro e wA ⟨vf, rfl, oA, gA⟩; unfold vFrame; obtain ⟨pf, nf, cf, hv_⟩ := RdL.form (OwU.rd oA); subst hv_; have sA := gA.size; (try simp only [World.size_drew] at sA oA); (try simp only [World.size_alloc] at sA oA); have RB := Lib.hid (row_held gA HB2.out); have RF := Lib.hid (row_held gA HF2.out); have b0_ := cell_of_row wA _ 0 _ _ _ RB.out; have b1_ := cell_of_row wA _ 1 _ _ _ RB.out; have b2_ := cell_of_row wA _ 2 _ _ _ RB.out; have c2_ := frozen_of_row wA _ 2 _ _ RB.out; have f0_ := cell_of_row wA _ 0 _ _ _ RF.out; have f1_ := cell_of_row wA _ 1 _ _ _ RF.out; have g0_ := frozen_of_row wA _ 0 _ _ RF.out; have g1_ := frozen_of_row wA _ 1 _ _ RF.out; have RX := Lib.hid (row_held gA HX2.out); have x0_ := cell_of_row wA _ 0 _ _ _ RX.out; have x1_ := cell_of_row wA _ 1 _ _ _ RX.out; have y0_ := frozen_of_row wA _ 0 _ _ RX.out; have y1_ := frozen_of_row wA _ 1 _ _ RX.out; have GA := Lib.hid (gby_trans HG2.out gA); have OA := Lib.hid oA)
    | fail)
  all_goals
    first
      | (have X1 := Lib.hid (heap_setCell_same _ _ 1 _ _ (.slice pf nf cf) (heap_setCell_same wA _ 0 _ _ (.int .i64 xk.f0) RX.out)); have B1 := Lib.hid (set_far (p := ⟨wd.heap.size, 1, none⟩) (v := .slice pf nf cf) (set_far (p := ⟨wd.heap.size, 0, none⟩) (v := .int .i64 xk.f0) RB.out (by dsimp only; omega)) (by dsimp only; omega)); have F1 := Lib.hid (set_far (p := ⟨wd.heap.size, 1, none⟩) (v := .slice pf nf cf) (set_far (p := ⟨wd.heap.size, 0, none⟩) (v := .int .i64 xk.f0) RF.out (by dsimp only; omega)) (by dsimp only; omega)); have O1 := Lib.hid (show OwU ((wA.setCell ⟨wd.heap.size, 0, none⟩ (.int .i64 xk.f0)).setCell ⟨wd.heap.size, 1, none⟩ (.slice pf nf cf)) (W.heap.size + 1) (((wA.setCell ⟨wd.heap.size, 0, none⟩ (.int .i64 xk.f0)).setCell ⟨wd.heap.size, 1, none⟩ (.slice pf nf cf))).heap.size [] [own shI (.slice pf nf cf) xk.f1] from OwU.wide (by omega) (by simp only [World.size_setCell]; omega) (OwU.keep (chg_one _ wd.heap.size 1 _) (.inr (by omega)) (OwU.keep (chg_one _ wd.heap.size 0 _) (.inr (by omega)) OA.out))); have G1 := Lib.hid (gby_setnew (gby_setnew GA.out ⟨wd.heap.size, 0, none⟩ (by dsimp only; omega) (.int .i64 xk.f0)) ⟨wd.heap.size, 1, none⟩ (by dsimp only; omega) (.slice pf nf cf)); have s1 : W.heap.size + 1 ≤ wd.heap.size := by omega
         clear b0_ b1_ b2_ c2_ f0_ f1_ g0_ g1_; (try clear x0_ x1_ y0_ y1_)
         clear RB RF OA GA RX
         generalize ((wA.setCell ⟨wd.heap.size, 0, none⟩ (.int .i64 xk.f0)).setCell ⟨wd.heap.size, 1, none⟩ (.slice pf nf cf)) = wf at X1 B1 F1 O1 G1 ⊢
         generalize wd.heap.size = xb at X1 s1 ⊢)
      | (have X1 := Lib.hid (heap_alloc_new wA (.cells #[.int .i64 xk.f0, .slice pf nf cf] 37)); have B1 := Lib.hid (row_held (gby_alloc (gby_refl wA none) (.cells #[.int .i64 xk.f0, .slice pf nf cf] 37)) RB.out); have F1 := Lib.hid (row_held (gby_alloc (gby_refl wA none) (.cells #[.int .i64 xk.f0, .slice pf nf cf] 37)) RF.out); have O1 := Lib.hid (show OwU (wA.alloc (.cells #[.int .i64 xk.f0, .slice pf nf cf] 37)) (W.heap.size + 1) (wA.alloc (.cells #[.int .i64 xk.f0, .slice pf nf cf] 37)).heap.size [] [own shI (.slice pf nf cf) xk.f1] from OwU.wide (by omega) (by simp only [World.size_alloc]; omega) (OwU.grow OA.out (gby_alloc (gby_refl wA none) (.cells #[.int .i64 xk.f0, .slice pf nf cf] 37)))); have G1 := Lib.hid (gby_alloc GA.out (.cells #[.int .i64 xk.f0, .slice pf nf cf] 37)); have s1 : W.heap.size + 1 ≤ wA.heap.size := by omega
         clear b0_ b1_ b2_ c2_ f0_ f1_ g0_ g1_; (try clear x0_ x1_ y0_ y1_)
         clear RB RF OA GA
         generalize wA.alloc (.cells #[.int .i64 xk.f0, .slice pf nf cf] 37) = wf at X1 B1 F1 O1 G1 ⊢
         generalize wA.heap.size = xb at X1 s1 ⊢)
  all_goals
    have hxl_ := lt_of_block X1.out
    have x0_ : wf.cell? ⟨xb, 0, none⟩ = some (.int .i64 xk.f0) := cell_of_row _ _ 0 _ _ _ X1.out
    have x1_ : wf.cell? ⟨xb, 1, none⟩ = some (.slice pf nf cf) := cell_of_row _ _ 1 _ _ _ X1.out
    have b2_ : wf.cell? ⟨bA, 2, none⟩ = some (.int .i64 (k : Int)) := cell_of_row _ _ 2 _ _ _ B1.out
    have c2_ : wf.frozen? ⟨bA, 2, none⟩ = false := frozen_of_row _ _ 2 _ _ B1.out
    have f0_ : wf.cell? ⟨W.heap.size, 0, none⟩ = some (.int .i64 0) := cell_of_row _ _ 0 _ _ _ F1.out
    have f1_ : wf.cell? ⟨W.heap.size, 1, none⟩ = some (.slice none 0 0) := cell_of_row _ _ 1 _ _ _ F1.out
    have g0_ : wf.frozen? ⟨W.heap.size, 0, none⟩ = false := frozen_of_row _ _ 0 _ _ F1.out
    have g1_ : wf.frozen? ⟨W.heap.size, 1, none⟩ = false := frozen_of_row _ _ 1 _ _ F1.out
    have n1_ : ¬ bA = W.heap.size := by omega
    have n2_ : ¬ W.heap.size = bA := by omega
    have n3_ : ¬ bA = xb := by omega
    have n4_ : ¬ xb = bA := by omega
    have n5_ : ¬ xb = W.heap.size := by omega
    have hlo_ : W.heap.size ≤ W.heap.size + 1 := by omega
    have hw_ := HWK.out
    go_wp2
    clear hw_
    refine bodyPost_ret (v := .tuple #[.agg #[.int .i64 xk.f0, .slice pf nf cf], .bool true]) (by simp [results, go_sem, f0_, f1_, n2_, n1_]; done) rfl ⟨_, rfl, ?_, ?_, ?_⟩
    · refine OwU.wide (lo := W.heap.size + 1) (hi := wf.heap.size) hlo_ (by simp only [World.size_setCell]; omega) ?_
      iterate 3 (with_reducible refine OwU.keep (chg_one _ _ _ _) (by omega) ?_)
      exact O1.out
    · exact set_far (set_far (heap_setCell_same _ _ 2 _ _ _ B1.out) (by dsimp only; omega)) (by dsimp only; omega)
    · exact gby_setnew (gby_setnew (gby_set (gby_someQ G1.out (some bA)) 2 (.int .i64 ((k : Int) + 1))) _ (by dsimp only; omega) _) _ (by dsimp only; omega) _


set_option maxRecDepth 8000 in
set_option maxHeartbeats 4000000 in
theorem implRd_bad (W : World) (m r : Int) (v : Value) (xs : List DFrame) (H : RdL shFrame W v xs) (hl : szL shFrame xs ≤ 1048576) (hv : ¬ SndP m r xs) : Calls Try.prog 18 #[.agg #[.int .i64 m, v, .int .i64 r]] W (ResITakeReady m xs r 0 [] false W) := by
  have HV := Lib.hid hv
  clear hv
  have HX := Lib.hid H
  have HL := Lib.hid hl
  obtain ⟨a0, n0, cap0, rfl⟩ := RdL.form H
  have hn0 : n0 = xs.length := by obtain ⟨_, _, e, _⟩ := H; injection e
  have HE := Lib.hid hn0
  have hlx : n0 ≤ 1048576 := by have := szL_len shFrame xs; omega
  clear H hl hn0
  go_enter Try.func18, Try.ntmps18
  have rA1_ := Lib.hid (show ((((W.alloc (.cells #[.int .i64 m, .slice a0 n0 cap0, .int .i64 r] 29)).alloc (.cells #[.int .i64 0, .slice none 0 0, .int .i64 0] 29)).alloc (.cells #[.int .i64 0, .slice none 0 0] 37))).heap[W.heap.size]? = some (.cells #[.int .i64 m, .slice a0 n0 cap0, .int .i64 r] 29 (0, 0)) from by rw [heap_alloc_old _ _ (by simp only [World.size_alloc]; omega)]; rw [heap_alloc_old _ _ (by simp only [World.size_alloc]; omega)]; exact heap_alloc_new _ _)
  have rR2_ := Lib.hid (show ((((W.alloc (.cells #[.int .i64 m, .slice a0 n0 cap0, .int .i64 r] 29)).alloc (.cells #[.int .i64 0, .slice none 0 0, .int .i64 0] 29)).alloc (.cells #[.int .i64 0, .slice none 0 0] 37))).heap[W.heap.size + 1]? = some (.cells #[.int .i64 0, .slice none 0 0, .int .i64 0] 29 (0, 0)) from by rw [heap_alloc_old _ _ (by simp only [World.size_alloc]; omega)]; exact heap_pair _ _ _)
  have rF3_ := Lib.hid (show ((((W.alloc (.cells #[.int .i64 m, .slice a0 n0 cap0, .int .i64 r] 29)).alloc (.cells #[.int .i64 0, .slice none 0 0, .int .i64 0] 29)).alloc (.cells #[.int .i64 0, .slice none 0 0] 37))).heap[W.heap.size + 1 + 1]? = some (.cells #[.int .i64 0, .slice none 0 0] 37 (0, 0)) from by exact heap_trip _ _ _ _)
  have G4_ := Lib.hid (show (W).grownBy ((((W.alloc (.cells #[.int .i64 m, .slice a0 n0 cap0, .int .i64 r] 29)).alloc (.cells #[.int .i64 0, .slice none 0 0, .int .i64 0] 29)).alloc (.cells #[.int .i64 0, .slice none 0 0] 37))) none from (gby_alloc (gby_alloc (gby_alloc (gby_refl _ _) _) _) _))
  have A_0_ : ((((W.alloc (.cells #[.int .i64 m, .slice a0 n0 cap0, .int .i64 r] 29)).alloc (.cells #[.int .i64 0, .slice none 0 0, .int .i64 0] 29)).alloc (.cells #[.int .i64 0, .slice none 0 0] 37))).cell? ⟨W.heap.size, 0, none⟩ = some (.int .i64 m) := cell_of_row _ _ 0 _ _ _ rA1_.out
  have A_1_ : ((((W.alloc (.cells #[.int .i64 m, .slice a0 n0 cap0, .int .i64 r] 29)).alloc (.cells #[.int .i64 0, .slice none 0 0, .int .i64 0] 29)).alloc (.cells #[.int .i64 0, .slice none 0 0] 37))).cell? ⟨W.heap.size, 1, none⟩ = some (.slice a0 n0 cap0) := cell_of_row _ _ 1 _ _ _ rA1_.out
  have A_2_ : ((((W.alloc (.cells #[.int .i64 m, .slice a0 n0 cap0, .int .i64 r] 29)).alloc (.cells #[.int .i64 0, .slice none 0 0, .int .i64 0] 29)).alloc (.cells #[.int .i64 0, .slice none 0 0] 37))).cell? ⟨W.heap.size, 2, none⟩ = some (.int .i64 r) := cell_of_row _ _ 2 _ _ _ rA1_.out
  have R_0_ : ((((W.alloc (.cells #[.int .i64 m, .slice a0 n0 cap0, .int .i64 r] 29)).alloc (.cells #[.int .i64 0, .slice none 0 0, .int .i64 0] 29)).alloc (.cells #[.int .i64 0, .slice none 0 0] 37))).cell? ⟨W.heap.size + 1, 0, none⟩ = some (.int .i64 0) := cell_of_row _ _ 0 _ _ _ rR2_.out
  have R_1_ : ((((W.alloc (.cells #[.int .i64 m, .slice a0 n0 cap0, .int .i64 r] 29)).alloc (.cells #[.int .i64 0, .slice none 0 0, .int .i64 0] 29)).alloc (.cells #[.int .i64 0, .slice none 0 0] 37))).cell? ⟨W.heap.size + 1, 1, none⟩ = some (.slice none 0 0) := cell_of_row _ _ 1 _ _ _ rR2_.out
  have R_2_ : ((((W.alloc (.cells #[.int .i64 m, .slice a0 n0 cap0, .int .i64 r] 29)).alloc (.cells #[.int .i64 0, .slice none 0 0, .int .i64 0] 29)).alloc (.cells #[.int .i64 0, .slice none 0 0] 37))).cell? ⟨W.heap.size + 1, 2, none⟩ = some (.int .i64 0) := cell_of_row _ _ 2 _ _ _ rR2_.out
  have F_0_ : ((((W.alloc (.cells #[.int .i64 m, .slice a0 n0 cap0, .int .i64 r] 29)).alloc (.cells #[.int .i64 0, .slice none 0 0, .int .i64 0] 29)).alloc (.cells #[.int .i64 0, .slice none 0 0] 37))).cell? ⟨W.heap.size + 1 + 1, 0, none⟩ = some (.int .i64 0) := cell_of_row _ _ 0 _ _ _ rF3_.out
  have F_1_ : ((((W.alloc (.cells #[.int .i64 m, .slice a0 n0 cap0, .int .i64 r] 29)).alloc (.cells #[.int .i64 0, .slice none 0 0, .int .i64 0] 29)).alloc (.cells #[.int .i64 0, .slice none 0 0] 37))).cell? ⟨W.heap.size + 1 + 1, 1, none⟩ = some (.slice none 0 0) := cell_of_row _ _ 1 _ _ _ rF3_.out
  go_wp2_with fail
  go_at_call 41
  refine (copiedSnd_d _ m r _ xs (HX.out.grow G4_.out) HL.out).mono ?_
  rintro e w1 ⟨d_, rfl, o, g⟩
  have szw1 := g.size
  try simp only [World.size_alloc] at szw1 o
  try unfold vSender
  clear A_0_ A_1_ A_2_ R_0_ R_1_ R_2_ F_0_ F_1_
  have rA5_ := Lib.hid (show (w1).heap[W.heap.size]? = some (.cells #[.int .i64 m, .slice a0 n0 cap0, .int .i64 r] 29 (0, 0)) from row_held g rA1_.out)
  clear rA1_
  have rR6_ := Lib.hid (show (w1).heap[W.heap.size + 1]? = some (.cells #[.int .i64 0, .slice none 0 0, .int .i64 0] 29 (0, 0)) from row_held g rR2_.out)
  clear rR2_
  have rF7_ := Lib.hid (show (w1).heap[W.heap.size + 1 + 1]? = some (.cells #[.int .i64 0, .slice none 0 0] 37 (0, 0)) from row_held g rF3_.out)
  clear rF3_
  have G8_ := Lib.hid (show (W).grownBy (w1) none from gby_trans G4_.out g)
  obtain ⟨pd, nd, cd, hv_⟩ := RdL.form (OwU.rd o)
  subst hv_
  clear g
  have oC9_ := Lib.hid (show OwU (w1) (W.heap.size + 1 + 1 + 1) (w1.heap.size) [] [own shFrame (.slice pd nd cd) xs] from o)
  clear o
  have A_0_ : (w1).cell? ⟨W.heap.size, 0, none⟩ = some (.int .i64 m) := cell_of_row _ _ 0 _ _ _ rA5_.out
  have A_1_ : (w1).cell? ⟨W.heap.size, 1, none⟩ = some (.slice a0 n0 cap0) := cell_of_row _ _ 1 _ _ _ rA5_.out
  have A_2_ : (w1).cell? ⟨W.heap.size, 2, none⟩ = some (.int .i64 r) := cell_of_row _ _ 2 _ _ _ rA5_.out
  have Af0_ : (w1).frozen? ⟨W.heap.size, 0, none⟩ = false := frozen_of_row _ _ 0 _ _ rA5_.out
  have Af1_ : (w1).frozen? ⟨W.heap.size, 1, none⟩ = false := frozen_of_row _ _ 1 _ _ rA5_.out
  have Af2_ : (w1).frozen? ⟨W.heap.size, 2, none⟩ = false := frozen_of_row _ _ 2 _ _ rA5_.out
  have R_0_ : (w1).cell? ⟨W.heap.size + 1, 0, none⟩ = some (.int .i64 0) := cell_of_row _ _ 0 _ _ _ rR6_.out
  have R_1_ : (w1).cell? ⟨W.heap.size + 1, 1, none⟩ = some (.slice none 0 0) := cell_of_row _ _ 1 _ _ _ rR6_.out
  have R_2_ : (w1).cell? ⟨W.heap.size + 1, 2, none⟩ = some (.int .i64 0) := cell_of_row _ _ 2 _ _ _ rR6_.out
  have zA_ := Lib.hid (show ((((w1.setCell ⟨W.heap.size, 0, none⟩ (.int .i64 m)).setCell ⟨W.heap.size, 1, none⟩ (.slice pd nd cd)).setCell ⟨W.heap.size, 2, none⟩ (.int .i64 r))).heap[W.heap.size]? = some (.cells #[.int .i64 m, .slice pd nd cd, .int .i64 r] 29 (0, 0)) from (heap_setCell_same _ _ 2 _ _ _ (heap_setCell_same _ _ 1 _ _ _ (heap_setCell_same _ _ 0 _ _ _ rA5_.out))))
  have z0_ : ((((w1.setCell ⟨W.heap.size, 0, none⟩ (.int .i64 m)).setCell ⟨W.heap.size, 1, none⟩ (.slice pd nd cd)).setCell ⟨W.heap.size, 2, none⟩ (.int .i64 r))).cell? ⟨W.heap.size, 0, none⟩ = some (.int .i64 m) := cell_of_row _ _ 0 _ _ _ zA_.out
  have z1_ : ((((w1.setCell ⟨W.heap.size, 0, none⟩ (.int .i64 m)).setCell ⟨W.heap.size, 1, none⟩ (.slice pd nd cd)).setCell ⟨W.heap.size, 2, none⟩ (.int .i64 r))).cell? ⟨W.heap.size, 1, none⟩ = some (.slice pd nd cd) := cell_of_row _ _ 1 _ _ _ zA_.out
  have z2_ : ((((w1.setCell ⟨W.heap.size, 0, none⟩ (.int .i64 m)).setCell ⟨W.heap.size, 1, none⟩ (.slice pd nd cd)).setCell ⟨W.heap.size, 2, none⟩ (.int .i64 r))).cell? ⟨W.heap.size, 2, none⟩ = some (.int .i64 r) := cell_of_row _ _ 2 _ _ _ zA_.out
  go_wp2_with fail
  go_at_call 11
  clear zA_ z0_ z1_ z2_
  clear A_0_ A_1_ A_2_ Af0_ Af1_ Af2_ R_0_ R_1_ R_2_
  have rA10_ := Lib.hid (show ((((w1.setCell ⟨W.heap.size, 0, none⟩ (.int .i64 m)).setCell ⟨W.heap.size, 1, none⟩ (.slice pd nd cd)).setCell ⟨W.heap.size, 2, none⟩ (.int .i64 r))).heap[W.heap.size]? = some (.cells #[.int .i64 m, .slice pd nd cd, .int .i64 r] 29 (0, 0)) from (heap_setCell_same _ _ 2 _ _ _ (heap_setCell_same _ _ 1 _ _ _ (heap_setCell_same _ _ 0 _ _ _ rA5_.out))))
  have rR11_ := Lib.hid (show ((((w1.setCell ⟨W.heap.size, 0, none⟩ (.int .i64 m)).setCell ⟨W.heap.size, 1, none⟩ (.slice pd nd cd)).setCell ⟨W.heap.size, 2, none⟩ (.int .i64 r))).heap[W.heap.size + 1]? = some (.cells #[.int .i64 0, .slice none 0 0, .int .i64 0] 29 (0, 0)) from (set_far (set_far (set_far rR6_.out (by dsimp only; omega)) (by dsimp only; omega)) (by dsimp only; omega)))
  have rF12_ := Lib.hid (show ((((w1.setCell ⟨W.heap.size, 0, none⟩ (.int .i64 m)).setCell ⟨W.heap.size, 1, none⟩ (.slice pd nd cd)).setCell ⟨W.heap.size, 2, none⟩ (.int .i64 r))).heap[W.heap.size + 1 + 1]? = some (.cells #[.int .i64 0, .slice none 0 0] 37 (0, 0)) from (set_far (set_far (set_far rF7_.out (by dsimp only; omega)) (by dsimp only; omega)) (by dsimp only; omega)))
  have oC13_ := Lib.hid (show OwU ((((w1.setCell ⟨W.heap.size, 0, none⟩ (.int .i64 m)).setCell ⟨W.heap.size, 1, none⟩ (.slice pd nd cd)).setCell ⟨W.heap.size, 2, none⟩ (.int .i64 r))) (W.heap.size + 1 + 1 + 1) (w1.heap.size) [] [own shFrame (.slice pd nd cd) xs] from (OwU.keep (chg_one _ (W.heap.size) 2 (.int .i64 r)) (by omega) (OwU.keep (chg_one _ (W.heap.size) 1 (.slice pd nd cd)) (by omega) (OwU.keep (chg_one _ (W.heap.size) 0 (.int .i64 m)) (by omega) oC9_.out))))
  have G14_ := Lib.hid (show (W).grownBy ((((w1.setCell ⟨W.heap.size, 0, none⟩ (.int .i64 m)).setCell ⟨W.heap.size, 1, none⟩ (.slice pd nd cd)).setCell ⟨W.heap.size, 2, none⟩ (.int .i64 r))) none from (gby_setnew (gby_setnew (gby_setnew G8_.out _ (by dsimp only; omega) _) _ (by dsimp only; omega) _) _ (by dsimp only; omega) _))
  have hszwc_ : ((((w1.setCell ⟨W.heap.size, 0, none⟩ (.int .i64 m)).setCell ⟨W.heap.size, 1, none⟩ (.slice pd nd cd)).setCell ⟨W.heap.size, 2, none⟩ (.int .i64 r))).heap.size = (w1).heap.size := by first | rfl | simp only [World.size_setCell]
  generalize (((w1.setCell ⟨W.heap.size, 0, none⟩ (.int .i64 m)).setCell ⟨W.heap.size, 1, none⟩ (.slice pd nd cd)).setCell ⟨W.heap.size, 2, none⟩ (.int .i64 r)) = wc at rA10_ rR11_ rF12_ oC13_ G14_ hszwc_ ⊢
  try simp only [World.size_alloc] at hszwc_
  clear rA5_
  clear rR6_
  clear rF7_
  clear oC9_
  refine ((implSnd _ m r _ xs (OwU.rd oC13_.out) HL.out).mono (bpost_no HV.out)).mono ?_
  rintro e w2 ⟨rfl, g⟩
  have szw2 := g.size
  have rA15_ := Lib.hid (show (w2).heap[W.heap.size]? = some (.cells #[.int .i64 m, .slice pd nd cd, .int .i64 r] 29 (0, 0)) from row_held g rA10_.out)
  clear rA10_
  have rR16_ := Lib.hid (show (w2).heap[W.heap.size + 1]? = some (.cells #[.int .i64 0, .slice none 0 0, .int .i64 0] 29 (0, 0)) from row_held g rR11_.out)
  clear rR11_
  have rF17_ := Lib.hid (show (w2).heap[W.heap.size + 1 + 1]? = some (.cells #[.int .i64 0, .slice none 0 0] 37 (0, 0)) from row_held g rF12_.out)
  clear rF12_
  have oC18_ := Lib.hid (show OwU (w2) (W.heap.size + 1 + 1 + 1) (w1.heap.size) [] [own shFrame (.slice pd nd cd) xs] from OwU.grow oC13_.out g)
  clear oC13_
  have G19_ := Lib.hid (show (W).grownBy (w2) none from gby_trans G14_.out g)
  clear g
  have A_0_ : (w2).cell? ⟨W.heap.size, 0, none⟩ = some (.int .i64 m) := cell_of_row _ _ 0 _ _ _ rA15_.out
  have A_1_ : (w2).cell? ⟨W.heap.size, 1, none⟩ = some (.slice pd nd cd) := cell_of_row _ _ 1 _ _ _ rA15_.out
  have A_2_ : (w2).cell? ⟨W.heap.size, 2, none⟩ = some (.int .i64 r) := cell_of_row _ _ 2 _ _ _ rA15_.out
  have R_0_ : (w2).cell? ⟨W.heap.size + 1, 0, none⟩ = some (.int .i64 0) := cell_of_row _ _ 0 _ _ _ rR16_.out
  have R_1_ : (w2).cell? ⟨W.heap.size + 1, 1, none⟩ = some (.slice none 0 0) := cell_of_row _ _ 1 _ _ _ rR16_.out
  have R_2_ : (w2).cell? ⟨W.heap.size + 1, 2, none⟩ = some (.int .i64 0) := cell_of_row _ _ 2 _ _ _ rR16_.out
  have F_0_ : (w2).cell? ⟨W.heap.size + 1 + 1, 0, none⟩ = some (.int .i64 0) := cell_of_row _ _ 0 _ _ _ rF17_.out
  have F_1_ : (w2).cell? ⟨W.heap.size + 1 + 1, 1, none⟩ = some (.slice none 0 0) := cell_of_row _ _ 1 _ _ _ rF17_.out
  clear A_0_ A_1_ A_2_ R_0_ R_1_ R_2_ F_0_ F_1_
  have A_0_ : (w2).cell? ⟨W.heap.size, 0, none⟩ = some (.int .i64 m) := cell_of_row _ _ 0 _ _ _ rA15_.out
  have A_1_ : (w2).cell? ⟨W.heap.size, 1, none⟩ = some (.slice pd nd cd) := cell_of_row _ _ 1 _ _ _ rA15_.out
  have A_2_ : (w2).cell? ⟨W.heap.size, 2, none⟩ = some (.int .i64 r) := cell_of_row _ _ 2 _ _ _ rA15_.out
  have R_0_ : (w2).cell? ⟨W.heap.size + 1, 0, none⟩ = some (.int .i64 0) := cell_of_row _ _ 0 _ _ _ rR16_.out
  have R_1_ : (w2).cell? ⟨W.heap.size + 1, 1, none⟩ = some (.slice none 0 0) := cell_of_row _ _ 1 _ _ _ rR16_.out
  have R_2_ : (w2).cell? ⟨W.heap.size + 1, 2, none⟩ = some (.int .i64 0) := cell_of_row _ _ 2 _ _ _ rR16_.out
  have Rf0_ : (w2).frozen? ⟨W.heap.size + 1, 0, none⟩ = false := frozen_of_row _ _ 0 _ _ rR16_.out
  have Rf1_ : (w2).frozen? ⟨W.heap.size + 1, 1, none⟩ = false := frozen_of_row _ _ 1 _ _ rR16_.out
  have Rf2_ : (w2).frozen? ⟨W.heap.size + 1, 2, none⟩ = false := frozen_of_row _ _ 2 _ _ rR16_.out
  have F_0_ : (w2).cell? ⟨W.heap.size + 1 + 1, 0, none⟩ = some (.int .i64 0) := cell_of_row _ _ 0 _ _ _ rF17_.out
  have F_1_ : (w2).cell? ⟨W.heap.size + 1 + 1, 1, none⟩ = some (.slice none 0 0) := cell_of_row _ _ 1 _ _ _ rF17_.out
  have Ff0_ : (w2).frozen? ⟨W.heap.size + 1 + 1, 0, none⟩ = false := frozen_of_row _ _ 0 _ _ rF17_.out
  have Ff1_ : (w2).frozen? ⟨W.heap.size + 1 + 1, 1, none⟩ = false := frozen_of_row _ _ 1 _ _ rF17_.out
  have hlo_ : W.heap.size ≤ W.heap.size + 1 + 1 + 1 := by omega
  have HD_ := Lib.hid (OwU.app (ps := [own shFrame (.slice pd nd cd) xs]) (qs := [own shI (.slice none 0 0) ([] : List Int)]) (m := w1.heap.size) (hi := w1.heap.size) (by omega) (Nat.le_refl _) oC18_.out (OwU.one owL_nil))
  go_wp2
  refine bodyPost_ret (v := .tuple #[.agg #[.int .i64 m, .slice pd nd cd, .int .i64 r], .agg #[.int .i64 0, .slice none 0 0], .bool false]) (by simp [results, go_sem, R_0_, R_1_, R_2_, F_0_, F_1_]; done) rfl ⟨_, _, rfl, ?_, ?_⟩
  · refine OwU.wide (lo := W.heap.size + 1 + 1 + 1) (hi := w1.heap.size) hlo_ (by simp only [World.size_setCell]; omega) ?_
    iterate 5 (with_reducible refine OwU.keep (chg_one _ _ _ _) (by omega) ?_)
    exact HD_.out
  · iterate 5 (with_reducible refine gby_setnew ?_ _ (by first | omega | (dsimp only; omega)) _)
    exact G19_.out

set_option maxRecDepth 8000 in
set_option maxHeartbeats 4000000 in
theorem implRd_none (W : World) (m r : Int) (v : Value) (xs : List DFrame) (H : RdL shFrame W v xs) (hl : szL shFrame xs ≤ 1048576) (hv : SndP m r xs) (hr : r = (xs.length : Int)) : Calls Try.prog 18 #[.agg #[.int .i64 m, v, .int .i64 r]] W (ResITakeReady m xs r 0 [] false W) := by
  have HV := Lib.hid hv
  have HR := Lib.hid hr
  clear hv hr
  have HX := Lib.hid H
  have HL := Lib.hid hl
  obtain ⟨a0, n0, cap0, rfl⟩ := RdL.form H
  have hn0 : n0 = xs.length := by obtain ⟨_, _, e, _⟩ := H; injection e
  have HE := Lib.hid hn0
  have hlx : n0 ≤ 1048576 := by have := szL_len shFrame xs; omega
  clear H hl hn0
  go_enter Try.func18, Try.ntmps18
  have rA1_ := Lib.hid (show ((((W.alloc (.cells #[.int .i64 m, .slice a0 n0 cap0, .int .i64 r] 29)).alloc (.cells #[.int .i64 0, .slice none 0 0, .int .i64 0] 29)).alloc (.cells #[.int .i64 0, .slice none 0 0] 37))).heap[W.heap.size]? = some (.cells #[.int .i64 m, .slice a0 n0 cap0, .int .i64 r] 29 (0, 0)) from by rw [heap_alloc_old _ _ (by simp only [World.size_alloc]; omega)]; rw [heap_alloc_old _ _ (by simp only [World.size_alloc]; omega)]; exact heap_alloc_new _ _)
  have rR2_ := Lib.hid (show ((((W.alloc (.cells #[.int .i64 m, .slice a0 n0 cap0, .int .i64 r] 29)).alloc (.cells #[.int .i64 0, .slice none 0 0, .int .i64 0] 29)).alloc (.cells #[.int .i64 0, .slice none 0 0] 37))).heap[W.heap.size + 1]? = some (.cells #[.int .i64 0, .slice none 0 0, .int .i64 0] 29 (0, 0)) from by rw [heap_alloc_old _ _ (by simp only [World.size_alloc]; omega)]; exact heap_pair _ _ _)
  have rF3_ := Lib.hid (show ((((W.alloc (.cells #[.int .i64 m, .slice a0 n0 cap0, .int .i64 r] 29)).alloc (.cells #[.int .i64 0, .slice none 0 0, .int .i64 0] 29)).alloc (.cells #[.int .i64 0, .slice none 0 0] 37))).heap[W.heap.size + 1 + 1]? = some (.cells #[.int .i64 0, .slice none 0 0] 37 (0, 0)) from by exact heap_trip _ _ _ _)
  have G4_ := Lib.hid (show (W).grownBy ((((W.alloc (.cells #[.int .i64 m, .slice a0 n0 cap0, .int .i64 r] 29)).alloc (.cells #[.int .i64 0, .slice none 0 0, .int .i64 0] 29)).alloc (.cells #[.int .i64 0, .slice none 0 0] 37))) none from (gby_alloc (gby_alloc (gby_alloc (gby_refl _ _) _) _) _))
  have A_0_ : ((((W.alloc (.cells #[.int .i64 m, .slice a0 n0 cap0, .int .i64 r] 29)).alloc (.cells #[.int .i64 0, .slice none 0 0, .int .i64 0] 29)).alloc (.cells #[.int .i64 0, .slice none 0 0] 37))).cell? ⟨W.heap.size, 0, none⟩ = some (.int .i64 m) := cell_of_row _ _ 0 _ _ _ rA1_.out
  have A_1_ : ((((W.alloc (.cells #[.int .i64 m, .slice a0 n0 cap0, .int .i64 r] 29)).alloc (.cells #[.int .i64 0, .slice none 0 0, .int .i64 0] 29)).alloc (.cells #[.int .i64 0, .slice none 0 0] 37))).cell? ⟨W.heap.size, 1, none⟩ = some (.slice a0 n0 cap0) := cell_of_row _ _ 1 _ _ _ rA1_.out
  have A_2_ : ((((W.alloc (.cells #[.int .i64 m, .slice a0 n0 cap0, .int .i64 r] 29)).alloc (.cells #[.int .i64 0, .slice none 0 0, .int .i64 0] 29)).alloc (.cells #[.int .i64 0, .slice none 0 0] 37))).cell? ⟨W.heap.size, 2, none⟩ = some (.int .i64 r) := cell_of_row _ _ 2 _ _ _ rA1_.out
  have R_0_ : ((((W.alloc (.cells #[.int .i64 m, .slice a0 n0 cap0, .int .i64 r] 29)).alloc (.cells #[.int .i64 0, .slice none 0 0, .int .i64 0] 29)).alloc (.cells #[.int .i64 0, .slice none 0 0] 37))).cell? ⟨W.heap.size + 1, 0, none⟩ = some (.int .i64 0) := cell_of_row _ _ 0 _ _ _ rR2_.out
  have R_1_ : ((((W.alloc (.cells #[.int .i64 m, .slice a0 n0 cap0, .int .i64 r] 29)).alloc (.cells #[.int .i64 0, .slice none 0 0, .int .i64 0] 29)).alloc (.cells #[.int .i64 0, .slice none 0 0] 37))).cell? ⟨W.heap.size + 1, 1, none⟩ = some (.slice none 0 0) := cell_of_row _ _ 1 _ _ _ rR2_.out
  have R_2_ : ((((W.alloc (.cells #[.int .i64 m, .slice a0 n0 cap0, .int .i64 r] 29)).alloc (.cells #[.int .i64 0, .slice none 0 0, .int .i64 0] 29)).alloc (.cells #[.int .i64 0, .slice none 0 0] 37))).cell? ⟨W.heap.size + 1, 2, none⟩ = some (.int .i64 0) := cell_of_row _ _ 2 _ _ _ rR2_.out
  have F_0_ : ((((W.alloc (.cells #[.int .i64 m, .slice a0 n0 cap0, .int .i64 r] 29)).alloc (.cells #[.int .i64 0, .slice none 0 0, .int .i64 0] 29)).alloc (.cells #[.int .i64 0, .slice none 0 0] 37))).cell? ⟨W.heap.size + 1 + 1, 0, none⟩ = some (.int .i64 0) := cell_of_row _ _ 0 _ _ _ rF3_.out
  have F_1_ : ((((W.alloc (.cells #[.int .i64 m, .slice a0 n0 cap0, .int .i64 r] 29)).alloc (.cells #[.int .i64 0, .slice none 0 0, .int .i64 0] 29)).alloc (.cells #[.int .i64 0, .slice none 0 0] 37))).cell? ⟨W.heap.size + 1 + 1, 1, none⟩ = some (.slice none 0 0) := cell_of_row _ _ 1 _ _ _ rF3_.out
  go_wp2_with fail
  go_at_call 41
  refine (copiedSnd_d _ m r _ xs (HX.out.grow G4_.out) HL.out).mono ?_
  rintro e w1 ⟨d_, rfl, o, g⟩
  have szw1 := g.size
  try simp only [World.size_alloc] at szw1 o
  try unfold vSender
  clear A_0_ A_1_ A_2_ R_0_ R_1_ R_2_ F_0_ F_1_
  have rA5_ := Lib.hid (show (w1).heap[W.heap.size]? = some (.cells #[.int .i64 m, .slice a0 n0 cap0, .int .i64 r] 29 (0, 0)) from row_held g rA1_.out)
  clear rA1_
  have rR6_ := Lib.hid (show (w1).heap[W.heap.size + 1]? = some (.cells #[.int .i64 0, .slice none 0 0, .int .i64 0] 29 (0, 0)) from row_held g rR2_.out)
  clear rR2_
  have rF7_ := Lib.hid (show (w1).heap[W.heap.size + 1 + 1]? = some (.cells #[.int .i64 0, .slice none 0 0] 37 (0, 0)) from row_held g rF3_.out)
  clear rF3_
  have G8_ := Lib.hid (show (W).grownBy (w1) none from gby_trans G4_.out g)
  obtain ⟨pd, nd, cd, hv_⟩ := RdL.form (OwU.rd o)
  subst hv_
  clear g
  have oC9_ := Lib.hid (show OwU (w1) (W.heap.size + 1 + 1 + 1) (w1.heap.size) [] [own shFrame (.slice pd nd cd) xs] from o)
  clear o
  have A_0_ : (w1).cell? ⟨W.heap.size, 0, none⟩ = some (.int .i64 m) := cell_of_row _ _ 0 _ _ _ rA5_.out
  have A_1_ : (w1).cell? ⟨W.heap.size, 1, none⟩ = some (.slice a0 n0 cap0) := cell_of_row _ _ 1 _ _ _ rA5_.out
  have A_2_ : (w1).cell? ⟨W.heap.size, 2, none⟩ = some (.int .i64 r) := cell_of_row _ _ 2 _ _ _ rA5_.out
  have Af0_ : (w1).frozen? ⟨W.heap.size, 0, none⟩ = false := frozen_of_row _ _ 0 _ _ rA5_.out
  have Af1_ : (w1).frozen? ⟨W.heap.size, 1, none⟩ = false := frozen_of_row _ _ 1 _ _ rA5_.out
  have Af2_ : (w1).frozen? ⟨W.heap.size, 2, none⟩ = false := frozen_of_row _ _ 2 _ _ rA5_.out
  have R_0_ : (w1).cell? ⟨W.heap.size + 1, 0, none⟩ = some (.int .i64 0) := cell_of_row _ _ 0 _ _ _ rR6_.out
  have R_1_ : (w1).cell? ⟨W.heap.size + 1, 1, none⟩ = some (.slice none 0 0) := cell_of_row _ _ 1 _ _ _ rR6_.out
  have R_2_ : (w1).cell? ⟨W.heap.size + 1, 2, none⟩ = some (.int .i64 0) := cell_of_row _ _ 2 _ _ _ rR6_.out
  have zA_ := Lib.hid (show ((((w1.setCell ⟨W.heap.size, 0, none⟩ (.int .i64 m)).setCell ⟨W.heap.size, 1, none⟩ (.slice pd nd cd)).setCell ⟨W.heap.size, 2, none⟩ (.int .i64 r))).heap[W.heap.size]? = some (.cells #[.int .i64 m, .slice pd nd cd, .int .i64 r] 29 (0, 0)) from (heap_setCell_same _ _ 2 _ _ _ (heap_setCell_same _ _ 1 _ _ _ (heap_setCell_same _ _ 0 _ _ _ rA5_.out))))
  have z0_ : ((((w1.setCell ⟨W.heap.size, 0, none⟩ (.int .i64 m)).setCell ⟨W.heap.size, 1, none⟩ (.slice pd nd cd)).setCell ⟨W.heap.size, 2, none⟩ (.int .i64 r))).cell? ⟨W.heap.size, 0, none⟩ = some (.int .i64 m) := cell_of_row _ _ 0 _ _ _ zA_.out
  have z1_ : ((((w1.setCell ⟨W.heap.size, 0, none⟩ (.int .i64 m)).setCell ⟨W.heap.size, 1, none⟩ (.slice pd nd cd)).setCell ⟨W.heap.size, 2, none⟩ (.int .i64 r))).cell? ⟨W.heap.size, 1, none⟩ = some (.slice pd nd cd) := cell_of_row _ _ 1 _ _ _ zA_.out
  have z2_ : ((((w1.setCell ⟨W.heap.size, 0, none⟩ (.int .i64 m)).setCell ⟨W.heap.size, 1, none⟩ (.slice pd nd cd)).setCell ⟨W.heap.size, 2, none⟩ (.int .i64 r))).cell? ⟨W.heap.size, 2, none⟩ = some (.int .i64 r) := cell_of_row _ _ 2 _ _ _ zA_.out
  go_wp2_with fail
  go_at_call 11
  clear zA_ z0_ z1_ z2_
  clear A_0_ A_1_ A_2_ Af0_ Af1_ Af2_ R_0_ R_1_ R_2_
  have rA10_ := Lib.hid (show ((((w1.setCell ⟨W.heap.size, 0, none⟩ (.int .i64 m)).setCell ⟨W.heap.size, 1, none⟩ (.slice pd nd cd)).setCell ⟨W.heap.size, 2, none⟩ (.int .i64 r))).heap[W.heap.size]? = some (.cells #[.int .i64 m, .slice pd nd cd, .int .i64 r] 29 (0, 0)) from (heap_setCell_same _ _ 2 _ _ _ (heap_setCell_same _ _ 1 _ _ _ (heap_setCell_same _ _ 0 _ _ _ rA5_.out))))
  have rR11_ := Lib.hid (show ((((w1.setCell ⟨W.heap.size, 0, none⟩ (.int .i64 m)).setCell ⟨W.heap.size, 1, none⟩ (.slice pd nd cd)).setCell ⟨W.heap.size, 2, none⟩ (.int .i64 r))).heap[W.heap.size + 1]? = some (.cells #[.int .i64 0, .slice none 0 0, .int .i64 0] 29 (0, 0)) from (set_far (set_far (set_far rR6_.out (by dsimp only; omega)) (by dsimp only; omega)) (by dsimp only; omega)))
  have rF12_ := Lib.hid (show ((((w1.setCell ⟨W.heap.size, 0, none⟩ (.int .i64 m)).setCell ⟨W.heap.size, 1, none⟩ (.slice pd nd cd)).setCell ⟨W.heap.size, 2, none⟩ (.int .i64 r))).heap[W.heap.size + 1 + 1]? = some (.cells #[.int .i64 0, .slice none 0 0] 37 (0, 0)) from (set_far (set_far (set_far rF7_.out (by dsimp only; omega)) (by dsimp only; omega)) (by dsimp only; omega)))
  have oC13_ := Lib.hid (show OwU ((((w1.setCell ⟨W.heap.size, 0, none⟩ (.int .i64 m)).setCell ⟨W.heap.size, 1, none⟩ (.slice pd nd cd)).setCell ⟨W.heap.size, 2, none⟩ (.int .i64 r))) (W.heap.size + 1 + 1 + 1) (w1.heap.size) [] [own shFrame (.slice pd nd cd) xs] from (OwU.keep (chg_one _ (W.heap.size) 2 (.int .i64 r)) (by omega) (OwU.keep (chg_one _ (W.heap.size) 1 (.slice pd nd cd)) (by omega) (OwU.keep (chg_one _ (W.heap.size) 0 (.int .i64 m)) (by omega) oC9_.out))))
  have G14_ := Lib.hid (show (W).grownBy ((((w1.setCell ⟨W.heap.size, 0, none⟩ (.int .i64 m)).setCell ⟨W.heap.size, 1, none⟩ (.slice pd nd cd)).setCell ⟨W.heap.size, 2, none⟩ (.int .i64 r))) none from (gby_setnew (gby_setnew (gby_setnew G8_.out _ (by dsimp only; omega) _) _ (by dsimp only; omega) _) _ (by dsimp only; omega) _))
  have hszwc_ : ((((w1.setCell ⟨W.heap.size, 0, none⟩ (.int .i64 m)).setCell ⟨W.heap.size, 1, none⟩ (.slice pd nd cd)).setCell ⟨W.heap.size, 2, none⟩ (.int .i64 r))).heap.size = (w1).heap.size := by first | rfl | simp only [World.size_setCell]
  generalize (((w1.setCell ⟨W.heap.size, 0, none⟩ (.int .i64 m)).setCell ⟨W.heap.size, 1, none⟩ (.slice pd nd cd)).setCell ⟨W.heap.size, 2, none⟩ (.int .i64 r)) = wc at rA10_ rR11_ rF12_ oC13_ G14_ hszwc_ ⊢
  try simp only [World.size_alloc] at hszwc_
  clear rA5_
  clear rR6_
  clear rF7_
  clear oC9_
  refine ((implSnd _ m r _ xs (OwU.rd oC13_.out) HL.out).mono (bpost_yes HV.out)).mono ?_
  rintro e w2 ⟨rfl, g⟩
  have szw2 := g.size
  have rA15_ := Lib.hid (show (w2).heap[W.heap.size]? = some (.cells #[.int .i64 m, .slice pd nd cd, .int .i64 r] 29 (0, 0)) from row_held g rA10_.out)
  clear rA10_
  have rR16_ := Lib.hid (show (w2).heap[W.heap.size + 1]? = some (.cells #[.int .i64 0, .slice none 0 0, .int .i64 0] 29 (0, 0)) from row_held g rR11_.out)
  clear rR11_
  have rF17_ := Lib.hid (show (w2).heap[W.heap.size + 1 + 1]? = some (.cells #[.int .i64 0, .slice none 0 0] 37 (0, 0)) from row_held g rF12_.out)
  clear rF12_
  have oC18_ := Lib.hid (show OwU (w2) (W.heap.size + 1 + 1 + 1) (w1.heap.size) [] [own shFrame (.slice pd nd cd) xs] from OwU.grow oC13_.out g)
  clear oC13_
  have G19_ := Lib.hid (show (W).grownBy (w2) none from gby_trans G14_.out g)
  clear g
  have A_0_ : (w2).cell? ⟨W.heap.size, 0, none⟩ = some (.int .i64 m) := cell_of_row _ _ 0 _ _ _ rA15_.out
  have A_1_ : (w2).cell? ⟨W.heap.size, 1, none⟩ = some (.slice pd nd cd) := cell_of_row _ _ 1 _ _ _ rA15_.out
  have A_2_ : (w2).cell? ⟨W.heap.size, 2, none⟩ = some (.int .i64 r) := cell_of_row _ _ 2 _ _ _ rA15_.out
  have R_0_ : (w2).cell? ⟨W.heap.size + 1, 0, none⟩ = some (.int .i64 0) := cell_of_row _ _ 0 _ _ _ rR16_.out
  have R_1_ : (w2).cell? ⟨W.heap.size + 1, 1, none⟩ = some (.slice none 0 0) := cell_of_row _ _ 1 _ _ _ rR16_.out
  have R_2_ : (w2).cell? ⟨W.heap.size + 1, 2, none⟩ = some (.int .i64 0) := cell_of_row _ _ 2 _ _ _ rR16_.out
  have F_0_ : (w2).cell? ⟨W.heap.size + 1 + 1, 0, none⟩ = some (.int .i64 0) := cell_of_row _ _ 0 _ _ _ rF17_.out
  have F_1_ : (w2).cell? ⟨W.heap.size + 1 + 1, 1, none⟩ = some (.slice none 0 0) := cell_of_row _ _ 1 _ _ _ rF17_.out
  have hnd_ : nd = xs.length := by obtain ⟨_, _, e, _⟩ := OwU.rd oC18_.out; injection e
  have hr_ : r = (nd : Int) := by rw [HR.out, hnd_]
  clear HR hnd_
  subst hr_
  go_wp2_with fail
  go_at_call 46
  refine (takeRd_none _ _ m pd nd cd rA15_.out).mono ?_
  rintro e w3 ⟨rfl, g⟩
  have szw3 := g.size
  try simp only [World.size_alloc] at szw3
  try simp only [World.size_setCell] at szw3
  clear A_0_ A_1_ A_2_ R_0_ R_1_ R_2_ F_0_ F_1_
  have rA20_ := Lib.hid (show (w3).heap[W.heap.size]? = some (.cells #[.int .i64 m, .slice pd nd cd, .int .i64 (nd : Int)] 29 (0, 0)) from row_held g rA15_.out)
  clear rA15_
  have rR21_ := Lib.hid (show (w3).heap[W.heap.size + 1]? = some (.cells #[.int .i64 0, .slice none 0 0, .int .i64 0] 29 (0, 0)) from row_held g rR16_.out)
  clear rR16_
  have rF22_ := Lib.hid (show (w3).heap[W.heap.size + 1 + 1]? = some (.cells #[.int .i64 0, .slice none 0 0] 37 (0, 0)) from row_held g rF17_.out)
  clear rF17_
  have oC23_ := Lib.hid (show OwU (w3) (W.heap.size + 1 + 1 + 1) (w1.heap.size) [] [own shFrame (.slice pd nd cd) xs] from OwU.grow oC18_.out g)
  clear oC18_
  have G24_ := Lib.hid (show (W).grownBy (w3) none from gby_trans G19_.out g)
  clear g
  have A_0_ : (w3).cell? ⟨W.heap.size, 0, none⟩ = some (.int .i64 m) := cell_of_row _ _ 0 _ _ _ rA20_.out
  have A_1_ : (w3).cell? ⟨W.heap.size, 1, none⟩ = some (.slice pd nd cd) := cell_of_row _ _ 1 _ _ _ rA20_.out
  have A_2_ : (w3).cell? ⟨W.heap.size, 2, none⟩ = some (.int .i64 (nd : Int)) := cell_of_row _ _ 2 _ _ _ rA20_.out
  have R_0_ : (w3).cell? ⟨W.heap.size + 1, 0, none⟩ = some (.int .i64 0) := cell_of_row _ _ 0 _ _ _ rR21_.out
  have R_1_ : (w3).cell? ⟨W.heap.size + 1, 1, none⟩ = some (.slice none 0 0) := cell_of_row _ _ 1 _ _ _ rR21_.out
  have R_2_ : (w3).cell? ⟨W.heap.size + 1, 2, none⟩ = some (.int .i64 0) := cell_of_row _ _ 2 _ _ _ rR21_.out
  have F_0_ : (w3).cell? ⟨W.heap.size + 1 + 1, 0, none⟩ = some (.int .i64 0) := cell_of_row _ _ 0 _ _ _ rF22_.out
  have F_1_ : (w3).cell? ⟨W.heap.size + 1 + 1, 1, none⟩ = some (.slice none 0 0) := cell_of_row _ _ 1 _ _ _ rF22_.out
  clear A_0_ A_1_ A_2_ R_0_ R_1_ R_2_ F_0_ F_1_
  have al_ : (w3).grownBy ((w3).alloc (.cells #[.int .i64 0, .slice none 0 0] 37)) none := gby_alloc (gby_refl _ _) _
  have rA25_ := Lib.hid (show ((w3.alloc (.cells #[.int .i64 0, .slice none 0 0] 37))).heap[W.heap.size]? = some (.cells #[.int .i64 m, .slice pd nd cd, .int .i64 (nd : Int)] 29 (0, 0)) from row_held al_ rA20_.out)
  clear rA20_
  have rR26_ := Lib.hid (show ((w3.alloc (.cells #[.int .i64 0, .slice none 0 0] 37))).heap[W.heap.size + 1]? = some (.cells #[.int .i64 0, .slice none 0 0, .int .i64 0] 29 (0, 0)) from row_held al_ rR21_.out)
  clear rR21_
  have rF27_ := Lib.hid (show ((w3.alloc (.cells #[.int .i64 0, .slice none 0 0] 37))).heap[W.heap.size + 1 + 1]? = some (.cells #[.int .i64 0, .slice none 0 0] 37 (0, 0)) from row_held al_ rF22_.out)
  clear rF22_
  have oC28_ := Lib.hid (show OwU ((w3.alloc (.cells #[.int .i64 0, .slice none 0 0] 37))) (W.heap.size + 1 + 1 + 1) (w1.heap.size) [] [own shFrame (.slice pd nd cd) xs] from OwU.grow oC23_.out al_)
  clear oC23_
  have G29_ := Lib.hid (show (W).grownBy ((w3.alloc (.cells #[.int .i64 0, .slice none 0 0] 37))) none from gby_trans G24_.out al_)
  have rG30_ := Lib.hid (show ((w3.alloc (.cells #[.int .i64 0, .slice none 0 0] 37))).heap[w3.heap.size]? = some (.cells #[.int .i64 0, .slice none 0 0] 37 (0, 0)) from by first | exact heap_alloc_new _ _ | exact heap_pair _ _ _ | exact heap_trip _ _ _ _)
  clear al_
  have A_0_ : ((w3.alloc (.cells #[.int .i64 0, .slice none 0 0] 37))).cell? ⟨W.heap.size, 0, none⟩ = some (.int .i64 m) := cell_of_row _ _ 0 _ _ _ rA25_.out
  have A_1_ : ((w3.alloc (.cells #[.int .i64 0, .slice none 0 0] 37))).cell? ⟨W.heap.size, 1, none⟩ = some (.slice pd nd cd) := cell_of_row _ _ 1 _ _ _ rA25_.out
  have A_2_ : ((w3.alloc (.cells #[.int .i64 0, .slice none 0 0] 37))).cell? ⟨W.heap.size, 2, none⟩ = some (.int .i64 (nd : Int)) := cell_of_row _ _ 2 _ _ _ rA25_.out
  have R_0_ : ((w3.alloc (.cells #[.int .i64 0, .slice none 0 0] 37))).cell? ⟨W.heap.size + 1, 0, none⟩ = some (.int .i64 0) := cell_of_row _ _ 0 _ _ _ rR26_.out
  have R_1_ : ((w3.alloc (.cells #[.int .i64 0, .slice none 0 0] 37))).cell? ⟨W.heap.size + 1, 1, none⟩ = some (.slice none 0 0) := cell_of_row _ _ 1 _ _ _ rR26_.out
  have R_2_ : ((w3.alloc (.cells #[.int .i64 0, .slice none 0 0] 37))).cell? ⟨W.heap.size + 1, 2, none⟩ = some (.int .i64 0) := cell_of_row _ _ 2 _ _ _ rR26_.out
  have F_0_ : ((w3.alloc (.cells #[.int .i64 0, .slice none 0 0] 37))).cell? ⟨W.heap.size + 1 + 1, 0, none⟩ = some (.int .i64 0) := cell_of_row _ _ 0 _ _ _ rF27_.out
  have F_1_ : ((w3.alloc (.cells #[.int .i64 0, .slice none 0 0] 37))).cell? ⟨W.heap.size + 1 + 1, 1, none⟩ = some (.slice none 0 0) := cell_of_row _ _ 1 _ _ _ rF27_.out
  have G_0_ : ((w3.alloc (.cells #[.int .i64 0, .slice none 0 0] 37))).cell? ⟨w3.heap.size, 0, none⟩ = some (.int .i64 0) := cell_of_row _ _ 0 _ _ _ rG30_.out
  have G_1_ : ((w3.alloc (.cells #[.int .i64 0, .slice none 0 0] 37))).cell? ⟨w3.heap.size, 1, none⟩ = some (.slice none 0 0) := cell_of_row _ _ 1 _ _ _ rG30_.out
  clear A_0_ A_1_ A_2_ R_0_ R_1_ R_2_ F_0_ F_1_ G_0_ G_1_
  have A_0_ : ((w3.alloc (.cells #[.int .i64 0, .slice none 0 0] 37))).cell? ⟨W.heap.size, 0, none⟩ = some (.int .i64 m) := cell_of_row _ _ 0 _ _ _ rA25_.out
  have A_1_ : ((w3.alloc (.cells #[.int .i64 0, .slice none 0 0] 37))).cell? ⟨W.heap.size, 1, none⟩ = some (.slice pd nd cd) := cell_of_row _ _ 1 _ _ _ rA25_.out
  have A_2_ : ((w3.alloc (.cells #[.int .i64 0, .slice none 0 0] 37))).cell? ⟨W.heap.size, 2, none⟩ = some (.int .i64 (nd : Int)) := cell_of_row _ _ 2 _ _ _ rA25_.out
  have R_0_ : ((w3.alloc (.cells #[.int .i64 0, .slice none 0 0] 37))).cell? ⟨W.heap.size + 1, 0, none⟩ = some (.int .i64 0) := cell_of_row _ _ 0 _ _ _ rR26_.out
  have R_1_ : ((w3.alloc (.cells #[.int .i64 0, .slice none 0 0] 37))).cell? ⟨W.heap.size + 1, 1, none⟩ = some (.slice none 0 0) := cell_of_row _ _ 1 _ _ _ rR26_.out
  have R_2_ : ((w3.alloc (.cells #[.int .i64 0, .slice none 0 0] 37))).cell? ⟨W.heap.size + 1, 2, none⟩ = some (.int .i64 0) := cell_of_row _ _ 2 _ _ _ rR26_.out
  have Rf0_ : ((w3.alloc (.cells #[.int .i64 0, .slice none 0 0] 37))).frozen? ⟨W.heap.size + 1, 0, none⟩ = false := frozen_of_row _ _ 0 _ _ rR26_.out
  have Rf1_ : ((w3.alloc (.cells #[.int .i64 0, .slice none 0 0] 37))).frozen? ⟨W.heap.size + 1, 1, none⟩ = false := frozen_of_row _ _ 1 _ _ rR26_.out
  have Rf2_ : ((w3.alloc (.cells #[.int .i64 0, .slice none 0 0] 37))).frozen? ⟨W.heap.size + 1, 2, none⟩ = false := frozen_of_row _ _ 2 _ _ rR26_.out
  have F_0_ : ((w3.alloc (.cells #[.int .i64 0, .slice none 0 0] 37))).cell? ⟨W.heap.size + 1 + 1, 0, none⟩ = some (.int .i64 0) := cell_of_row _ _ 0 _ _ _ rF27_.out
  have F_1_ : ((w3.alloc (.cells #[.int .i64 0, .slice none 0 0] 37))).cell? ⟨W.heap.size + 1 + 1, 1, none⟩ = some (.slice none 0 0) := cell_of_row _ _ 1 _ _ _ rF27_.out
  have Ff0_ : ((w3.alloc (.cells #[.int .i64 0, .slice none 0 0] 37))).frozen? ⟨W.heap.size + 1 + 1, 0, none⟩ = false := frozen_of_row _ _ 0 _ _ rF27_.out
  have Ff1_ : ((w3.alloc (.cells #[.int .i64 0, .slice none 0 0] 37))).frozen? ⟨W.heap.size + 1 + 1, 1, none⟩ = false := frozen_of_row _ _ 1 _ _ rF27_.out
  have G_0_ : ((w3.alloc (.cells #[.int .i64 0, .slice none 0 0] 37))).cell? ⟨w3.heap.size, 0, none⟩ = some (.int .i64 0) := cell_of_row _ _ 0 _ _ _ rG30_.out
  have G_1_ : ((w3.alloc (.cells #[.int .i64 0, .slice none 0 0] 37))).cell? ⟨w3.heap.size, 1, none⟩ = some (.slice none 0 0) := cell_of_row _ _ 1 _ _ _ rG30_.out
  have hlo_ : W.heap.size ≤ W.heap.size + 1 + 1 + 1 := by omega
  have HD_ := Lib.hid (OwU.wide (lo := W.heap.size + 1 + 1 + 1) (hi := w1.heap.size) (hi' := ((w3.alloc (.cells #[.int .i64 0, .slice none 0 0] 37))).heap.size) (Nat.le_refl _) (by (try simp only [World.size_alloc]); omega) (OwU.app (ps := [own shFrame (.slice pd nd cd) xs]) (qs := [own shI (.slice none 0 0) ([] : List Int)]) (m := w1.heap.size) (hi := w1.heap.size) (by omega) (Nat.le_refl _) oC28_.out (OwU.one owL_nil)))
  go_wp2_with fail
  go_region_law (fail)
  all_goals
    go_wp2
    refine bodyPost_ret (v := .tuple #[.agg #[.int .i64 m, .slice pd nd cd, .int .i64 (nd : Int)], .agg #[.int .i64 0, .slice none 0 0], .bool false]) (by simp [results, go_sem, R_0_, R_1_, R_2_, F_0_, F_1_]; done) rfl ⟨_, _, rfl, ?_, ?_⟩
    · refine OwU.wide (lo := W.heap.size + 1 + 1 + 1) (hi := (w3.alloc (.cells #[.int .i64 0, .slice none 0 0] 37)).heap.size) hlo_ (by simp only [World.size_setCell, World.size_drew]; omega) ?_
      refine OwU.grow ?_ (gby_drew (gby_refl _ none))
      iterate 5 (with_reducible refine OwU.keep (chg_one _ _ _ _) (by omega) ?_)
      exact HD_.out
    · refine gby_drew ?_
      iterate 5 (with_reducible refine gby_setnew ?_ _ (by first | omega | (dsimp only; omega)) _)
      exact G29_.out

set_option maxRecDepth 8000 in
set_option maxHeartbeats 4000000 in
theorem implRd_yes (W : World) (m r : Int) (v : Value) (xs : List DFrame) (H : RdL shFrame W v xs) (hl : szL shFrame xs ≤ 1048576) (hv : SndP m r xs) (k : Nat) (hrk : r = (k : Int)) (hkx_ : k < xs.length) : Calls Try.prog 18 #[.agg #[.int .i64 m, v, .int .i64 r]] W (ResITakeReady m xs ((k : Int) + 1) (fr xs k).f0 (fr xs k).f1 true W) := by
  have HV := Lib.hid hv
  have HRK := Lib.hid hrk
  have h7x_ := hv.2.1
  clear hv hrk
  have HX := Lib.hid H
  have HL := Lib.hid hl
  obtain ⟨a0, n0, cap0, rfl⟩ := RdL.form H
  have hn0 : n0 = xs.length := by obtain ⟨_, _, e, _⟩ := H; injection e
  have HE := Lib.hid hn0
  have hlx : n0 ≤ 1048576 := by have := szL_len shFrame xs; omega
  clear H hl hn0
  go_enter Try.func18, Try.ntmps18
  have rA1_ := Lib.hid (show ((((W.alloc (.cells #[.int .i64 m, .slice a0 n0 cap0, .int .i64 r] 29)).alloc (.cells #[.int .i64 0, .slice none 0 0, .int .i64 0] 29)).alloc (.cells #[.int .i64 0, .slice none 0 0] 37))).heap[W.heap.size]? = some (.cells #[.int .i64 m, .slice a0 n0 cap0, .int .i64 r] 29 (0, 0)) from by rw [heap_alloc_old _ _ (by simp only [World.size_alloc]; omega)]; rw [heap_alloc_old _ _ (by simp only [World.size_alloc]; omega)]; exact heap_alloc_new _ _)
  have rR2_ := Lib.hid (show ((((W.alloc (.cells #[.int .i64 m, .slice a0 n0 cap0, .int .i64 r] 29)).alloc (.cells #[.int .i64 0, .slice none 0 0, .int .i64 0] 29)).alloc (.cells #[.int .i64 0, .slice none 0 0] 37))).heap[W.heap.size + 1]? = some (.cells #[.int .i64 0, .slice none 0 0, .int .i64 0] 29 (0, 0)) from by rw [heap_alloc_old _ _ (by simp only [World.size_alloc]; omega)]; exact heap_pair _ _ _)
  have rF3_ := Lib.hid (show ((((W.alloc (.cells #[.int .i64 m, .slice a0 n0 cap0, .int .i64 r] 29)).alloc (.cells #[.int .i64 0, .slice none 0 0, .int .i64 0] 29)).alloc (.cells #[.int .i64 0, .slice none 0 0] 37))).heap[W.heap.size + 1 + 1]? = some (.cells #[.int .i64 0, .slice none 0 0] 37 (0, 0)) from by exact heap_trip _ _ _ _)
  have G4_ := Lib.hid (show (W).grownBy ((((W.alloc (.cells #[.int .i64 m, .slice a0 n0 cap0, .int .i64 r] 29)).alloc (.cells #[.int .i64 0, .slice none 0 0, .int .i64 0] 29)).alloc (.cells #[.int .i64 0, .slice none 0 0] 37))) none from (gby_alloc (gby_alloc (gby_alloc (gby_refl _ _) _) _) _))
  have A_0_ : ((((W.alloc (.cells #[.int .i64 m, .slice a0 n0 cap0, .int .i64 r] 29)).alloc (.cells #[.int .i64 0, .slice none 0 0, .int .i64 0] 29)).alloc (.cells #[.int .i64 0, .slice none 0 0] 37))).cell? ⟨W.heap.size, 0, none⟩ = some (.int .i64 m) := cell_of_row _ _ 0 _ _ _ rA1_.out
  have A_1_ : ((((W.alloc (.cells #[.int .i64 m, .slice a0 n0 cap0, .int .i64 r] 29)).alloc (.cells #[.int .i64 0, .slice none 0 0, .int .i64 0] 29)).alloc (.cells #[.int .i64 0, .slice none 0 0] 37))).cell? ⟨W.heap.size, 1, none⟩ = some (.slice a0 n0 cap0) := cell_of_row _ _ 1 _ _ _ rA1_.out
  have A_2_ : ((((W.alloc (.cells #[.int .i64 m, .slice a0 n0 cap0, .int .i64 r] 29)).alloc (.cells #[.int .i64 0, .slice none 0 0, .int .i64 0] 29)).alloc (.cells #[.int .i64 0, .slice none 0 0] 37))).cell? ⟨W.heap.size, 2, none⟩ = some (.int .i64 r) := cell_of_row _ _ 2 _ _ _ rA1_.out
  have R_0_ : ((((W.alloc (.cells #[.int .i64 m, .slice a0 n0 cap0, .int .i64 r] 29)).alloc (.cells #[.int .i64 0, .slice none 0 0, .int .i64 0] 29)).alloc (.cells #[.int .i64 0, .slice none 0 0] 37))).cell? ⟨W.heap.size + 1, 0, none⟩ = some (.int .i64 0) := cell_of_row _ _ 0 _ _ _ rR2_.out
  have R_1_ : ((((W.alloc (.cells #[.int .i64 m, .slice a0 n0 cap0, .int .i64 r] 29)).alloc (.cells #[.int .i64 0, .slice none 0 0, .int .i64 0] 29)).alloc (.cells #[.int .i64 0, .slice none 0 0] 37))).cell? ⟨W.heap.size + 1, 1, none⟩ = some (.slice none 0 0) := cell_of_row _ _ 1 _ _ _ rR2_.out
  have R_2_ : ((((W.alloc (.cells #[.int .i64 m, .slice a0 n0 cap0, .int .i64 r] 29)).alloc (.cells #[.int .i64 0, .slice none 0 0, .int .i64 0] 29)).alloc (.cells #[.int .i64 0, .slice none 0 0] 37))).cell? ⟨W.heap.size + 1, 2, none⟩ = some (.int .i64 0) := cell_of_row _ _ 2 _ _ _ rR2_.out
  have F_0_ : ((((W.alloc (.cells #[.int .i64 m, .slice a0 n0 cap0, .int .i64 r] 29)).alloc (.cells #[.int .i64 0, .slice none 0 0, .int .i64 0] 29)).alloc (.cells #[.int .i64 0, .slice none 0 0] 37))).cell? ⟨W.heap.size + 1 + 1, 0, none⟩ = some (.int .i64 0) := cell_of_row _ _ 0 _ _ _ rF3_.out
  have F_1_ : ((((W.alloc (.cells #[.int .i64 m, .slice a0 n0 cap0, .int .i64 r] 29)).alloc (.cells #[.int .i64 0, .slice none 0 0, .int .i64 0] 29)).alloc (.cells #[.int .i64 0, .slice none 0 0] 37))).cell? ⟨W.heap.size + 1 + 1, 1, none⟩ = some (.slice none 0 0) := cell_of_row _ _ 1 _ _ _ rF3_.out
  go_wp2_with fail
  go_at_call 41
  refine (copiedSnd_d _ m r _ xs (HX.out.grow G4_.out) HL.out).mono ?_
  rintro e w1 ⟨d_, rfl, o, g⟩
  have szw1 := g.size
  try simp only [World.size_alloc] at szw1 o
  try unfold vSender
  clear A_0_ A_1_ A_2_ R_0_ R_1_ R_2_ F_0_ F_1_
  have rA5_ := Lib.hid (show (w1).heap[W.heap.size]? = some (.cells #[.int .i64 m, .slice a0 n0 cap0, .int .i64 r] 29 (0, 0)) from row_held g rA1_.out)
  clear rA1_
  have rR6_ := Lib.hid (show (w1).heap[W.heap.size + 1]? = some (.cells #[.int .i64 0, .slice none 0 0, .int .i64 0] 29 (0, 0)) from row_held g rR2_.out)
  clear rR2_
  have rF7_ := Lib.hid (show (w1).heap[W.heap.size + 1 + 1]? = some (.cells #[.int .i64 0, .slice none 0 0] 37 (0, 0)) from row_held g rF3_.out)
  clear rF3_
  have G8_ := Lib.hid (show (W).grownBy (w1) none from gby_trans G4_.out g)
  obtain ⟨pd, nd, cd, hv_⟩ := RdL.form (OwU.rd o)
  subst hv_
  clear g
  have oC9_ := Lib.hid (show OwU (w1) (W.heap.size + 1 + 1 + 1) (w1.heap.size) [] [own shFrame (.slice pd nd cd) xs] from o)
  clear o
  have A_0_ : (w1).cell? ⟨W.heap.size, 0, none⟩ = some (.int .i64 m) := cell_of_row _ _ 0 _ _ _ rA5_.out
  have A_1_ : (w1).cell? ⟨W.heap.size, 1, none⟩ = some (.slice a0 n0 cap0) := cell_of_row _ _ 1 _ _ _ rA5_.out
  have A_2_ : (w1).cell? ⟨W.heap.size, 2, none⟩ = some (.int .i64 r) := cell_of_row _ _ 2 _ _ _ rA5_.out
  have Af0_ : (w1).frozen? ⟨W.heap.size, 0, none⟩ = false := frozen_of_row _ _ 0 _ _ rA5_.out
  have Af1_ : (w1).frozen? ⟨W.heap.size, 1, none⟩ = false := frozen_of_row _ _ 1 _ _ rA5_.out
  have Af2_ : (w1).frozen? ⟨W.heap.size, 2, none⟩ = false := frozen_of_row _ _ 2 _ _ rA5_.out
  have R_0_ : (w1).cell? ⟨W.heap.size + 1, 0, none⟩ = some (.int .i64 0) := cell_of_row _ _ 0 _ _ _ rR6_.out
  have R_1_ : (w1).cell? ⟨W.heap.size + 1, 1, none⟩ = some (.slice none 0 0) := cell_of_row _ _ 1 _ _ _ rR6_.out
  have R_2_ : (w1).cell? ⟨W.heap.size + 1, 2, none⟩ = some (.int .i64 0) := cell_of_row _ _ 2 _ _ _ rR6_.out
  have zA_ := Lib.hid (show ((((w1.setCell ⟨W.heap.size, 0, none⟩ (.int .i64 m)).setCell ⟨W.heap.size, 1, none⟩ (.slice pd nd cd)).setCell ⟨W.heap.size, 2, none⟩ (.int .i64 r))).heap[W.heap.size]? = some (.cells #[.int .i64 m, .slice pd nd cd, .int .i64 r] 29 (0, 0)) from (heap_setCell_same _ _ 2 _ _ _ (heap_setCell_same _ _ 1 _ _ _ (heap_setCell_same _ _ 0 _ _ _ rA5_.out))))
  have z0_ : ((((w1.setCell ⟨W.heap.size, 0, none⟩ (.int .i64 m)).setCell ⟨W.heap.size, 1, none⟩ (.slice pd nd cd)).setCell ⟨W.heap.size, 2, none⟩ (.int .i64 r))).cell? ⟨W.heap.size, 0, none⟩ = some (.int .i64 m) := cell_of_row _ _ 0 _ _ _ zA_.out
  have z1_ : ((((w1.setCell ⟨W.heap.size, 0, none⟩ (.int .i64 m)).setCell ⟨W.heap.size, 1, none⟩ (.slice pd nd cd)).setCell ⟨W.heap.size, 2, none⟩ (.int .i64 r))).cell? ⟨W.heap.size, 1, none⟩ = some (.slice pd nd cd) := cell_of_row _ _ 1 _ _ _ zA_.out
  have z2_ : ((((w1.setCell ⟨W.heap.size, 0, none⟩ (.int .i64 m)).setCell ⟨W.heap.size, 1, none⟩ (.slice pd nd cd)).setCell ⟨W.heap.size, 2, none⟩ (.int .i64 r))).cell? ⟨W.heap.size, 2, none⟩ = some (.int .i64 r) := cell_of_row _ _ 2 _ _ _ zA_.out
  go_wp2_with fail
  go_at_call 11
  clear zA_ z0_ z1_ z2_
  clear A_0_ A_1_ A_2_ Af0_ Af1_ Af2_ R_0_ R_1_ R_2_
  have rA10_ := Lib.hid (show ((((w1.setCell ⟨W.heap.size, 0, none⟩ (.int .i64 m)).setCell ⟨W.heap.size, 1, none⟩ (.slice pd nd cd)).setCell ⟨W.heap.size, 2, none⟩ (.int .i64 r))).heap[W.heap.size]? = some (.cells #[.int .i64 m, .slice pd nd cd, .int .i64 r] 29 (0, 0)) from (heap_setCell_same _ _ 2 _ _ _ (heap_setCell_same _ _ 1 _ _ _ (heap_setCell_same _ _ 0 _ _ _ rA5_.out))))
  have rR11_ := Lib.hid (show ((((w1.setCell ⟨W.heap.size, 0, none⟩ (.int .i64 m)).setCell ⟨W.heap.size, 1, none⟩ (.slice pd nd cd)).setCell ⟨W.heap.size, 2, none⟩ (.int .i64 r))).heap[W.heap.size + 1]? = some (.cells #[.int .i64 0, .slice none 0 0, .int .i64 0] 29 (0, 0)) from (set_far (set_far (set_far rR6_.out (by dsimp only; omega)) (by dsimp only; omega)) (by dsimp only; omega)))
  have rF12_ := Lib.hid (show ((((w1.setCell ⟨W.heap.size, 0, none⟩ (.int .i64 m)).setCell ⟨W.heap.size, 1, none⟩ (.slice pd nd cd)).setCell ⟨W.heap.size, 2, none⟩ (.int .i64 r))).heap[W.heap.size + 1 + 1]? = some (.cells #[.int .i64 0, .slice none 0 0] 37 (0, 0)) from (set_far (set_far (set_far rF7_.out (by dsimp only; omega)) (by dsimp only; omega)) (by dsimp only; omega)))
  have oC13_ := Lib.hid (show OwU ((((w1.setCell ⟨W.heap.size, 0, none⟩ (.int .i64 m)).setCell ⟨W.heap.size, 1, none⟩ (.slice pd nd cd)).setCell ⟨W.heap.size, 2, none⟩ (.int .i64 r))) (W.heap.size + 1 + 1 + 1) (w1.heap.size) [] [own shFrame (.slice pd nd cd) xs] from (OwU.keep (chg_one _ (W.heap.size) 2 (.int .i64 r)) (by omega) (OwU.keep (chg_one _ (W.heap.size) 1 (.slice pd nd cd)) (by omega) (OwU.keep (chg_one _ (W.heap.size) 0 (.int .i64 m)) (by omega) oC9_.out))))
  have G14_ := Lib.hid (show (W).grownBy ((((w1.setCell ⟨W.heap.size, 0, none⟩ (.int .i64 m)).setCell ⟨W.heap.size, 1, none⟩ (.slice pd nd cd)).setCell ⟨W.heap.size, 2, none⟩ (.int .i64 r))) none from (gby_setnew (gby_setnew (gby_setnew G8_.out _ (by dsimp only; omega) _) _ (by dsimp only; omega) _) _ (by dsimp only; omega) _))
  have hszwc_ : ((((w1.setCell ⟨W.heap.size, 0, none⟩ (.int .i64 m)).setCell ⟨W.heap.size, 1, none⟩ (.slice pd nd cd)).setCell ⟨W.heap.size, 2, none⟩ (.int .i64 r))).heap.size = (w1).heap.size := by first | rfl | simp only [World.size_setCell]
  generalize (((w1.setCell ⟨W.heap.size, 0, none⟩ (.int .i64 m)).setCell ⟨W.heap.size, 1, none⟩ (.slice pd nd cd)).setCell ⟨W.heap.size, 2, none⟩ (.int .i64 r)) = wc at rA10_ rR11_ rF12_ oC13_ G14_ hszwc_ ⊢
  try simp only [World.size_alloc] at hszwc_
  clear rA5_
  clear rR6_
  clear rF7_
  clear oC9_
  refine ((implSnd _ m r _ xs (OwU.rd oC13_.out) HL.out).mono (bpost_yes HV.out)).mono ?_
  rintro e w2 ⟨rfl, g⟩
  have szw2 := g.size
  have rA15_ := Lib.hid (show (w2).heap[W.heap.size]? = some (.cells #[.int .i64 m, .slice pd nd cd, .int .i64 r] 29 (0, 0)) from row_held g rA10_.out)
  clear rA10_
  have rR16_ := Lib.hid (show (w2).heap[W.heap.size + 1]? = some (.cells #[.int .i64 0, .slice none 0 0, .int .i64 0] 29 (0, 0)) from row_held g rR11_.out)
  clear rR11_
  have rF17_ := Lib.hid (show (w2).heap[W.heap.size + 1 + 1]? = some (.cells #[.int .i64 0, .slice none 0 0] 37 (0, 0)) from row_held g rF12_.out)
  clear rF12_
  have oC18_ := Lib.hid (show OwU (w2) (W.heap.size + 1 + 1 + 1) (w1.heap.size) [] [own shFrame (.slice pd nd cd) xs] from OwU.grow oC13_.out g)
  clear oC13_
  have G19_ := Lib.hid (show (W).grownBy (w2) none from gby_trans G14_.out g)
  clear g
  have A_0_ : (w2).cell? ⟨W.heap.size, 0, none⟩ = some (.int .i64 m) := cell_of_row _ _ 0 _ _ _ rA15_.out
  have A_1_ : (w2).cell? ⟨W.heap.size, 1, none⟩ = some (.slice pd nd cd) := cell_of_row _ _ 1 _ _ _ rA15_.out
  have A_2_ : (w2).cell? ⟨W.heap.size, 2, none⟩ = some (.int .i64 r) := cell_of_row _ _ 2 _ _ _ rA15_.out
  have R_0_ : (w2).cell? ⟨W.heap.size + 1, 0, none⟩ = some (.int .i64 0) := cell_of_row _ _ 0 _ _ _ rR16_.out
  have R_1_ : (w2).cell? ⟨W.heap.size + 1, 1, none⟩ = some (.slice none 0 0) := cell_of_row _ _ 1 _ _ _ rR16_.out
  have R_2_ : (w2).cell? ⟨W.heap.size + 1, 2, none⟩ = some (.int .i64 0) := cell_of_row _ _ 2 _ _ _ rR16_.out
  have F_0_ : (w2).cell? ⟨W.heap.size + 1 + 1, 0, none⟩ = some (.int .i64 0) := cell_of_row _ _ 0 _ _ _ rF17_.out
  have F_1_ : (w2).cell? ⟨W.heap.size + 1 + 1, 1, none⟩ = some (.slice none 0 0) := cell_of_row _ _ 1 _ _ _ rF17_.out
  have hrk_ := HRK.out
  subst hrk_
  clear A_0_ A_1_ A_2_ R_0_ R_1_ R_2_ F_0_ F_1_
  have A_0_ : (w2).cell? ⟨W.heap.size, 0, none⟩ = some (.int .i64 m) := cell_of_row _ _ 0 _ _ _ rA15_.out
  have A_1_ : (w2).cell? ⟨W.heap.size, 1, none⟩ = some (.slice pd nd cd) := cell_of_row _ _ 1 _ _ _ rA15_.out
  have A_2_ : (w2).cell? ⟨W.heap.size, 2, none⟩ = some (.int .i64 (k : Int)) := cell_of_row _ _ 2 _ _ _ rA15_.out
  go_wp2_with fail
  go_at_call 46
  refine (takeRd_yes _ _ m pd nd cd xs k rA15_.out (OwU.rd oC18_.out) HL.out hkx_ h7x_).mono ?_
  rintro e w3 ⟨vf, rfl, oA, hbA_, gA⟩
  clear A_0_ A_1_ A_2_
  have szw3 := gA.size
  obtain ⟨pf, nf, cf, hv_⟩ := RdL.form (OwU.rd oA)
  subst hv_
  have HCH := Lib.hid (show Chg (w2) (w3) W.heap.size (W.heap.size + 1) from chg_row gA (fun i hi => by have := Option.some.inj hi; omega))
  have OA := Lib.hid oA
  clear oA gA
  have rR20_ := Lib.hid (show (w3).heap[W.heap.size + 1]? = some (.cells #[.int .i64 0, .slice none 0 0, .int .i64 0] 29 (0, 0)) from Chg.keep HCH.out rR16_.out (by omega))
  clear rR16_
  have rF21_ := Lib.hid (show (w3).heap[W.heap.size + 1 + 1]? = some (.cells #[.int .i64 0, .slice none 0 0] 37 (0, 0)) from Chg.keep HCH.out rF17_.out (by omega))
  clear rF17_
  have oC22_ := Lib.hid (show OwU (w3) (W.heap.size + 1 + 1 + 1) (w1.heap.size) [] [own shFrame (.slice pd nd cd) xs] from OwU.keep HCH.out (by omega) oC18_.out)
  clear oC18_
  have G23_ := Lib.hid (show (W).grownBy (w3) none from gby_chg G19_.out HCH.out (by omega))
  have rA24_ := Lib.hid (show (w3).heap[W.heap.size]? = some (.cells #[.int .i64 m, .slice pd nd cd, .int .i64 ((k : Int) + 1)] 29 (0, 0)) from hbA_)
  clear hbA_
  have OA2 := Lib.hid (OwU.grow OA.out (gby_alloc (gby_refl w3 none) (.cells #[.int .i64 (fr xs k).f0, .slice pf nf cf] 37)))
  have al_ : (w3).grownBy ((w3).alloc (.cells #[.int .i64 (fr xs k).f0, .slice pf nf cf] 37)) none := gby_alloc (gby_refl _ _) _
  have rR25_ := Lib.hid (show ((w3.alloc (.cells #[.int .i64 (fr xs k).f0, .slice pf nf cf] 37))).heap[W.heap.size + 1]? = some (.cells #[.int .i64 0, .slice none 0 0, .int .i64 0] 29 (0, 0)) from row_held al_ rR20_.out)
  clear rR20_
  have rF26_ := Lib.hid (show ((w3.alloc (.cells #[.int .i64 (fr xs k).f0, .slice pf nf cf] 37))).heap[W.heap.size + 1 + 1]? = some (.cells #[.int .i64 0, .slice none 0 0] 37 (0, 0)) from row_held al_ rF21_.out)
  clear rF21_
  have rA27_ := Lib.hid (show ((w3.alloc (.cells #[.int .i64 (fr xs k).f0, .slice pf nf cf] 37))).heap[W.heap.size]? = some (.cells #[.int .i64 m, .slice pd nd cd, .int .i64 ((k : Int) + 1)] 29 (0, 0)) from row_held al_ rA24_.out)
  clear rA24_
  have oC28_ := Lib.hid (show OwU ((w3.alloc (.cells #[.int .i64 (fr xs k).f0, .slice pf nf cf] 37))) (W.heap.size + 1 + 1 + 1) (w1.heap.size) [] [own shFrame (.slice pd nd cd) xs] from OwU.grow oC22_.out al_)
  clear oC22_
  have G29_ := Lib.hid (show (W).grownBy ((w3.alloc (.cells #[.int .i64 (fr xs k).f0, .slice pf nf cf] 37))) none from gby_trans G23_.out al_)
  have rG30_ := Lib.hid (show ((w3.alloc (.cells #[.int .i64 (fr xs k).f0, .slice pf nf cf] 37))).heap[w3.heap.size]? = some (.cells #[.int .i64 (fr xs k).f0, .slice pf nf cf] 37 (0, 0)) from by first | exact heap_alloc_new _ _ | exact heap_pair _ _ _ | exact heap_trip _ _ _ _)
  clear al_
  have R_0_ : ((w3.alloc (.cells #[.int .i64 (fr xs k).f0, .slice pf nf cf] 37))).cell? ⟨W.heap.size + 1, 0, none⟩ = some (.int .i64 0) := cell_of_row _ _ 0 _ _ _ rR25_.out
  have R_1_ : ((w3.alloc (.cells #[.int .i64 (fr xs k).f0, .slice pf nf cf] 37))).cell? ⟨W.heap.size + 1, 1, none⟩ = some (.slice none 0 0) := cell_of_row _ _ 1 _ _ _ rR25_.out
  have R_2_ : ((w3.alloc (.cells #[.int .i64 (fr xs k).f0, .slice pf nf cf] 37))).cell? ⟨W.heap.size + 1, 2, none⟩ = some (.int .i64 0) := cell_of_row _ _ 2 _ _ _ rR25_.out
  have F_0_ : ((w3.alloc (.cells #[.int .i64 (fr xs k).f0, .slice pf nf cf] 37))).cell? ⟨W.heap.size + 1 + 1, 0, none⟩ = some (.int .i64 0) := cell_of_row _ _ 0 _ _ _ rF26_.out
  have F_1_ : ((w3.alloc (.cells #[.int .i64 (fr xs k).f0, .slice pf nf cf] 37))).cell? ⟨W.heap.size + 1 + 1, 1, none⟩ = some (.slice none 0 0) := cell_of_row _ _ 1 _ _ _ rF26_.out
  have A_0_ : ((w3.alloc (.cells #[.int .i64 (fr xs k).f0, .slice pf nf cf] 37))).cell? ⟨W.heap.size, 0, none⟩ = some (.int .i64 m) := cell_of_row _ _ 0 _ _ _ rA27_.out
  have A_1_ : ((w3.alloc (.cells #[.int .i64 (fr xs k).f0, .slice pf nf cf] 37))).cell? ⟨W.heap.size, 1, none⟩ = some (.slice pd nd cd) := cell_of_row _ _ 1 _ _ _ rA27_.out
  have A_2_ : ((w3.alloc (.cells #[.int .i64 (fr xs k).f0, .slice pf nf cf] 37))).cell? ⟨W.heap.size, 2, none⟩ = some (.int .i64 ((k : Int) + 1)) := cell_of_row _ _ 2 _ _ _ rA27_.out
  have G_0_ : ((w3.alloc (.cells #[.int .i64 (fr xs k).f0, .slice pf nf cf] 37))).cell? ⟨w3.heap.size, 0, none⟩ = some (.int .i64 (fr xs k).f0) := cell_of_row _ _ 0 _ _ _ rG30_.out
  have G_1_ : ((w3.alloc (.cells #[.int .i64 (fr xs k).f0, .slice pf nf cf] 37))).cell? ⟨w3.heap.size, 1, none⟩ = some (.slice pf nf cf) := cell_of_row _ _ 1 _ _ _ rG30_.out
  clear R_0_ R_1_ R_2_ F_0_ F_1_ A_0_ A_1_ A_2_ G_0_ G_1_
  have R_0_ : ((w3.alloc (.cells #[.int .i64 (fr xs k).f0, .slice pf nf cf] 37))).cell? ⟨W.heap.size + 1, 0, none⟩ = some (.int .i64 0) := cell_of_row _ _ 0 _ _ _ rR25_.out
  have R_1_ : ((w3.alloc (.cells #[.int .i64 (fr xs k).f0, .slice pf nf cf] 37))).cell? ⟨W.heap.size + 1, 1, none⟩ = some (.slice none 0 0) := cell_of_row _ _ 1 _ _ _ rR25_.out
  have R_2_ : ((w3.alloc (.cells #[.int .i64 (fr xs k).f0, .slice pf nf cf] 37))).cell? ⟨W.heap.size + 1, 2, none⟩ = some (.int .i64 0) := cell_of_row _ _ 2 _ _ _ rR25_.out
  have Rf0_ : ((w3.alloc (.cells #[.int .i64 (fr xs k).f0, .slice pf nf cf] 37))).frozen? ⟨W.heap.size + 1, 0, none⟩ = false := frozen_of_row _ _ 0 _ _ rR25_.out
  have Rf1_ : ((w3.alloc (.cells #[.int .i64 (fr xs k).f0, .slice pf nf cf] 37))).frozen? ⟨W.heap.size + 1, 1, none⟩ = false := frozen_of_row _ _ 1 _ _ rR25_.out
  have Rf2_ : ((w3.alloc (.cells #[.int .i64 (fr xs k).f0, .slice pf nf cf] 37))).frozen? ⟨W.heap.size + 1, 2, none⟩ = false := frozen_of_row _ _ 2 _ _ rR25_.out
  have F_0_ : ((w3.alloc (.cells #[.int .i64 (fr xs k).f0, .slice pf nf cf] 37))).cell? ⟨W.heap.size + 1 + 1, 0, none⟩ = some (.int .i64 0) := cell_of_row _ _ 0 _ _ _ rF26_.out
  have F_1_ : ((w3.alloc (.cells #[.int .i64 (fr xs k).f0, .slice pf nf cf] 37))).cell? ⟨W.heap.size + 1 + 1, 1, none⟩ = some (.slice none 0 0) := cell_of_row _ _ 1 _ _ _ rF26_.out
  have Ff0_ : ((w3.alloc (.cells #[.int .i64 (fr xs k).f0, .slice pf nf cf] 37))).frozen? ⟨W.heap.size + 1 + 1, 0, none⟩ = false := frozen_of_row _ _ 0 _ _ rF26_.out
  have Ff1_ : ((w3.alloc (.cells #[.int .i64 (fr xs k).f0, .slice pf nf cf] 37))).frozen? ⟨W.heap.size + 1 + 1, 1, none⟩ = false := frozen_of_row _ _ 1 _ _ rF26_.out
  have A_0_ : ((w3.alloc (.cells #[.int .i64 (fr xs k).f0, .slice pf nf cf] 37))).cell? ⟨W.heap.size, 0, none⟩ = some (.int .i64 m) := cell_of_row _ _ 0 _ _ _ rA27_.out
  have A_1_ : ((w3.alloc (.cells #[.int .i64 (fr xs k).f0, .slice pf nf cf] 37))).cell? ⟨W.heap.size, 1, none⟩ = some (.slice pd nd cd) := cell_of_row _ _ 1 _ _ _ rA27_.out
  have A_2_ : ((w3.alloc (.cells #[.int .i64 (fr xs k).f0, .slice pf nf cf] 37))).cell? ⟨W.heap.size, 2, none⟩ = some (.int .i64 ((k : Int) + 1)) := cell_of_row _ _ 2 _ _ _ rA27_.out
  have G_0_ : ((w3.alloc (.cells #[.int .i64 (fr xs k).f0, .slice pf nf cf] 37))).cell? ⟨w3.heap.size, 0, none⟩ = some (.int .i64 (fr xs k).f0) := cell_of_row _ _ 0 _ _ _ rG30_.out
  have G_1_ : ((w3.alloc (.cells #[.int .i64 (fr xs k).f0, .slice pf nf cf] 37))).cell? ⟨w3.heap.size, 1, none⟩ = some (.slice pf nf cf) := cell_of_row _ _ 1 _ _ _ rG30_.out
  have hlo_ : W.heap.size ≤ W.heap.size + 1 + 1 + 1 := by omega
  have HD_ := Lib.hid (OwU.app (ps := [own shFrame (.slice pd nd cd) xs]) (qs := [own shI (.slice pf nf cf) (fr xs k).f1]) (m := w2.heap.size) (hi := ((w3.alloc (.cells #[.int .i64 (fr xs k).f0, .slice pf nf cf] 37))).heap.size) (by omega) (by (try simp only [World.size_alloc]); omega) (OwU.wide (lo := W.heap.size + 1 + 1 + 1) (hi := w1.heap.size) (Nat.le_refl _) (by omega) oC28_.out) (OwU.wide (Nat.le_refl _) (by (try simp only [World.size_alloc]); omega) OA2.out))
  go_wp2_with fail
  go_region_law (fail)
  all_goals
    go_wp2
    refine bodyPost_ret (v := .tuple #[.agg #[.int .i64 m, .slice pd nd cd, .int .i64 ((k : Int) + 1)], .agg #[.int .i64 (fr xs k).f0, .slice pf nf cf], .bool true]) (by simp [results, go_sem, R_0_, R_1_, R_2_, F_0_, F_1_]; done) rfl ⟨_, _, rfl, ?_, ?_⟩
    · refine OwU.wide (lo := W.heap.size + 1 + 1 + 1) (hi := (w3.alloc (.cells #[.int .i64 (fr xs k).f0, .slice pf nf cf] 37)).heap.size) hlo_ (by simp only [World.size_setCell, World.size_drew]; omega) ?_
      refine OwU.grow ?_ (gby_drew (gby_refl _ none))
      iterate 5 (with_reducible refine OwU.keep (chg_one _ _ _ _) (by omega) ?_)
      exact HD_.out
    · refine gby_drew ?_
      iterate 5 (with_reducible refine gby_setnew ?_ _ (by first | omega | (dsimp only; omega)) _)
      exact G29_.out

end Go.Proofs.Ytcenngekjopjpaa
