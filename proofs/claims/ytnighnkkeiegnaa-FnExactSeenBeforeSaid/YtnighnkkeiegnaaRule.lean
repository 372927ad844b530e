/-
  Contracts of the table of rules.
-/
import Derived.Test.YtnighnkkeiegnaaBits2Impl
import Derived.Laws.EntriesVeiled
import Derived.Laws.Tables
import Derived.Deep.WholeRow
import Derived.Deep.Cut
namespace Go.Proofs.Ytnighnkkeiegnaa
open Go Go.RowKit

/-- the name, the class and the check of a kind -/
def ruleName : Nat → ByteArray
  | 1 => ⟨#[119, 114, 105, 116, 101]⟩
  | 2 => ⟨#[109, 101, 115, 115, 97, 103, 101]⟩
  | 3 => ⟨#[114, 101, 97, 100]⟩
  | 4 => ⟨#[99, 111, 110, 102, 105, 103, 114, 101, 97, 100]⟩
  | 5 => ⟨#[99, 111, 110, 102, 105, 103, 119, 114, 105, 116, 101]⟩
  | 6 => ⟨#[99, 111, 109, 112, 108, 101, 116, 105, 111, 110]⟩
  | _ => ⟨#[]⟩
def ruleClass : Nat → Int
  | 3 => 1
  | 4 => 1
  | 5 => 1
  | 6 => 2
  | _ => 0
def ruleCheck : Nat → Value
  | 1 => .func (.func 131) #[] #[]
  | 2 => .func (.func 132) #[] #[]
  | 3 => .func (.func 133) #[] #[]
  | 4 => .func (.func 134) #[] #[]
  | 5 => .func (.func 135) #[] #[]
  | 6 => .func (.func 136) #[] #[]
  | _ => .nilFunc
def ruleRow (k : Nat) : List Value := [.string (ruleName k), .int .i64 (ruleClass k), ruleCheck k]
def ruleCells : Array Value := (ruleRow 0 ++ ruleRow 1 ++ ruleRow 2 ++ ruleRow 3 ++ ruleRow 4 ++ ruleRow 5 ++ ruleRow 6).toArray

/-- two blocks that were made one after the other -/
structure Two (W w2 : World) (C : Array Value) (t : TypeId) : Prop where
  gby : W.grownBy w2 none
  size : w2.heap.size = W.heap.size + 2
  res : w2.heap[W.heap.size]? = some (.cells #[.string ⟨#[]⟩, .int .i64 0, .nilFunc] t (0, 0))
  row : ∃ u, w2.heap[W.heap.size + 1]? = some (.cells C u (0, 0))

theorem two_made (W : World) (old C : Array Value) (t u : TypeId) : Two W (((W.alloc (.cells #[.string ⟨#[]⟩, .int .i64 0, .nilFunc] t)).alloc (.cells old u)).setRow (W.heap.size + 1) C) C t := by
  have e : (W.alloc (.cells #[.string ⟨#[]⟩, .int .i64 0, .nilFunc] t)).heap.size = W.heap.size + 1 := by simp
  rw [← e, World.setRow_alloc_new]
  refine ⟨gby_alloc (gby_alloc (gby_refl _ _) _) _, by simp, ?_, ⟨u, ?_⟩⟩
  · rw [heap_alloc_old _ _ (by simp)]; exact heap_alloc_new _ _
  · rw [← e]; exact heap_alloc_new _ _

theorem Two.at {W w2 : World} {C : Array Value} {t : TypeId} (h : Two W w2 C t) (j : Nat) (v : Value) (hv : C[j]? = some v) : w2.cell? ⟨W.heap.size + 1, j, none⟩ = some v := by
  obtain ⟨u, hu⟩ := h.row
  rw [cell_of_row _ _ j C u (0, 0) hu]; exact hv

/-- the table as it is laid at first -/
def zeroCells : Array Value := #[.string ⟨#[]⟩, .int .i64 0, .nilFunc, .string ⟨#[]⟩, .int .i64 0, .nilFunc, .string ⟨#[]⟩, .int .i64 0, .nilFunc, .string ⟨#[]⟩, .int .i64 0, .nilFunc, .string ⟨#[]⟩, .int .i64 0, .nilFunc, .string ⟨#[]⟩, .int .i64 0, .nilFunc, .string ⟨#[]⟩, .int .i64 0, .nilFunc]

theorem heap_two (W : World) (a b : Obj) : ((W.alloc a).alloc b).heap[W.heap.size + 1]? = some b := by
  have e : (W.alloc a).heap.size = W.heap.size + 1 := by simp
  rw [← e]; exact heap_alloc_new _ _

/-- the store of the whole table -/
theorem store_rules {ops : Array Oper} {rest : List Oper} {o : Oper} {a : Act} {Q : Exit → Act → World → Prop} (W : World) (hgd : o.guard = none) (x y : Operand) (ho : o.op = .store 128 x y)
    (hx : a.eval x = .pointer (some ⟨W.heap.size + 1, 0, none⟩)) (hy : a.eval y = .agg ruleCells)
    (h : ∀ w2, Two W w2 ruleCells 123 → wpList Try.prog ops Q rest (a.put o.dst undef) w2) :
    wpList Try.prog ops Q (o :: rest) a ((W.alloc (.cells #[.string ⟨#[]⟩, .int .i64 0, .nilFunc] 123)).alloc (.cells zeroCells 128)) :=
  wpList_store_row hgd 128 x y ho (W.heap.size + 1) ruleCells hx hy 128 zeroCells (heap_two W _ _) (by kernel_rfl) rfl (by kernel_rfl) (h _ (two_made W zeroCells ruleCells 123 128))

set_option maxHeartbeats 2000000 in
theorem rule1 (W : World) : Calls Try.prog 128 #[.int .i64 1] W fun e w' => e = .returned (.tuple #[.agg #[.string (ruleName 1), .int .i64 (ruleClass 1), .func (.func 131) #[] #[]], .bool true]) ∧ W.grownBy w' none := by
  go_enter Try.func128, Try.ntmps128
  go_upto_region 3 with go_in
  apply wp_region_lit
  repeat ((fail_if_success (with_reducible show wpList _ _ _ [_] _ _)); (first | go_skip | go_guarded | go_step | go_upon))
  refine store_rules W rfl (.tmp 4) (.tmp 15) rfl rfl rfl ?_
  intro w2 h2
  have c0 := h2.at 3 (.string (ruleName 1)) rfl
  have c1 := h2.at 4 (.int .i64 (ruleClass 1)) rfl
  have c2 := h2.at 5 (.func (.func 131) #[] #[]) rfl
  have r0 := cell_of_row w2 W.heap.size 0 _ _ _ h2.res
  have r1 := cell_of_row w2 W.heap.size 1 _ _ _ h2.res
  have r2 := cell_of_row w2 W.heap.size 2 _ _ _ h2.res
  have f0 := frozen_of_row w2 W.heap.size 0 _ _ h2.res
  have f1 := frozen_of_row w2 W.heap.size 1 _ _ h2.res
  have f2 := frozen_of_row w2 W.heap.size 2 _ _ h2.res
  have hs := h2.size
  have HG := Lib.hid h2.gby
  clear h2
  go_wp2
  refine bodyPost_ret (v := .tuple #[.agg #[.string (ruleName 1), .int .i64 (ruleClass 1), .func (.func 131) #[] #[]], .bool true]) (by simp [results, go_sem, r0, r1, r2]) rfl ⟨rfl, ?_⟩
  exact gby_setnew (gby_setnew (gby_setnew HG.out _ (by simp) _) _ (by simp) _) _ (by simp) _

set_option maxHeartbeats 2000000 in
theorem rule2 (W : World) : Calls Try.prog 128 #[.int .i64 2] W fun e w' => e = .returned (.tuple #[.agg #[.string (ruleName 2), .int .i64 (ruleClass 2), .func (.func 132) #[] #[]], .bool true]) ∧ W.grownBy w' none := by
  go_enter Try.func128, Try.ntmps128
  go_upto_region 3 with go_in
  apply wp_region_lit
  repeat ((fail_if_success (with_reducible show wpList _ _ _ [_] _ _)); (first | go_skip | go_guarded | go_step | go_upon))
  refine store_rules W rfl (.tmp 4) (.tmp 15) rfl rfl rfl ?_
  intro w2 h2
  have c0 := h2.at 6 (.string (ruleName 2)) rfl
  have c1 := h2.at 7 (.int .i64 (ruleClass 2)) rfl
  have c2 := h2.at 8 (.func (.func 132) #[] #[]) rfl
  have r0 := cell_of_row w2 W.heap.size 0 _ _ _ h2.res
  have r1 := cell_of_row w2 W.heap.size 1 _ _ _ h2.res
  have r2 := cell_of_row w2 W.heap.size 2 _ _ _ h2.res
  have f0 := frozen_of_row w2 W.heap.size 0 _ _ h2.res
  have f1 := frozen_of_row w2 W.heap.size 1 _ _ h2.res
  have f2 := frozen_of_row w2 W.heap.size 2 _ _ h2.res
  have hs := h2.size
  have HG := Lib.hid h2.gby
  clear h2
  go_wp2
  refine bodyPost_ret (v := .tuple #[.agg #[.string (ruleName 2), .int .i64 (ruleClass 2), .func (.func 132) #[] #[]], .bool true]) (by simp [results, go_sem, r0, r1, r2]) rfl ⟨rfl, ?_⟩
  exact gby_setnew (gby_setnew (gby_setnew HG.out _ (by simp) _) _ (by simp) _) _ (by simp) _

set_option maxHeartbeats 2000000 in
theorem rule3 (W : World) : Calls Try.prog 128 #[.int .i64 3] W fun e w' => e = .returned (.tuple #[.agg #[.string (ruleName 3), .int .i64 (ruleClass 3), .func (.func 133) #[] #[]], .bool true]) ∧ W.grownBy w' none := by
  go_enter Try.func128, Try.ntmps128
  go_upto_region 3 with go_in
  apply wp_region_lit
  repeat ((fail_if_success (with_reducible show wpList _ _ _ [_] _ _)); (first | go_skip | go_guarded | go_step | go_upon))
  refine store_rules W rfl (.tmp 4) (.tmp 15) rfl rfl rfl ?_
  intro w2 h2
  have c0 := h2.at 9 (.string (ruleName 3)) rfl
  have c1 := h2.at 10 (.int .i64 (ruleClass 3)) rfl
  have c2 := h2.at 11 (.func (.func 133) #[] #[]) rfl
  have r0 := cell_of_row w2 W.heap.size 0 _ _ _ h2.res
  have r1 := cell_of_row w2 W.heap.size 1 _ _ _ h2.res
  have r2 := cell_of_row w2 W.heap.size 2 _ _ _ h2.res
  have f0 := frozen_of_row w2 W.heap.size 0 _ _ h2.res
  have f1 := frozen_of_row w2 W.heap.size 1 _ _ h2.res
  have f2 := frozen_of_row w2 W.heap.size 2 _ _ h2.res
  have hs := h2.size
  have HG := Lib.hid h2.gby
  clear h2
  go_wp2
  refine bodyPost_ret (v := .tuple #[.agg #[.string (ruleName 3), .int .i64 (ruleClass 3), .func (.func 133) #[] #[]], .bool true]) (by simp [results, go_sem, r0, r1, r2]) rfl ⟨rfl, ?_⟩
  exact gby_setnew (gby_setnew (gby_setnew HG.out _ (by simp) _) _ (by simp) _) _ (by simp) _

set_option maxHeartbeats 2000000 in
theorem rule4 (W : World) : Calls Try.prog 128 #[.int .i64 4] W fun e w' => e = .returned (.tuple #[.agg #[.string (ruleName 4), .int .i64 (ruleClass 4), .func (.func 134) #[] #[]], .bool true]) ∧ W.grownBy w' none := by
  go_enter Try.func128, Try.ntmps128
  go_upto_region 3 with go_in
  apply wp_region_lit
  repeat ((fail_if_success (with_reducible show wpList _ _ _ [_] _ _)); (first | go_skip | go_guarded | go_step | go_upon))
  refine store_rules W rfl (.tmp 4) (.tmp 15) rfl rfl rfl ?_
  intro w2 h2
  have c0 := h2.at 12 (.string (ruleName 4)) rfl
  have c1 := h2.at 13 (.int .i64 (ruleClass 4)) rfl
  have c2 := h2.at 14 (.func (.func 134) #[] #[]) rfl
  have r0 := cell_of_row w2 W.heap.size 0 _ _ _ h2.res
  have r1 := cell_of_row w2 W.heap.size 1 _ _ _ h2.res
  have r2 := cell_of_row w2 W.heap.size 2 _ _ _ h2.res
  have f0 := frozen_of_row w2 W.heap.size 0 _ _ h2.res
  have f1 := frozen_of_row w2 W.heap.size 1 _ _ h2.res
  have f2 := frozen_of_row w2 W.heap.size 2 _ _ h2.res
  have hs := h2.size
  have HG := Lib.hid h2.gby
  clear h2
  go_wp2
  refine bodyPost_ret (v := .tuple #[.agg #[.string (ruleName 4), .int .i64 (ruleClass 4), .func (.func 134) #[] #[]], .bool true]) (by simp [results, go_sem, r0, r1, r2]) rfl ⟨rfl, ?_⟩
  exact gby_setnew (gby_setnew (gby_setnew HG.out _ (by simp) _) _ (by simp) _) _ (by simp) _

set_option maxHeartbeats 2000000 in
theorem rule5 (W : World) : Calls Try.prog 128 #[.int .i64 5] W fun e w' => e = .returned (.tuple #[.agg #[.string (ruleName 5), .int .i64 (ruleClass 5), .func (.func 135) #[] #[]], .bool true]) ∧ W.grownBy w' none := by
  go_enter Try.func128, Try.ntmps128
  go_upto_region 3 with go_in
  apply wp_region_lit
  repeat ((fail_if_success (with_reducible show wpList _ _ _ [_] _ _)); (first | go_skip | go_guarded | go_step | go_upon))
  refine store_rules W rfl (.tmp 4) (.tmp 15) rfl rfl rfl ?_
  intro w2 h2
  have c0 := h2.at 15 (.string (ruleName 5)) rfl
  have c1 := h2.at 16 (.int .i64 (ruleClass 5)) rfl
  have c2 := h2.at 17 (.func (.func 135) #[] #[]) rfl
  have r0 := cell_of_row w2 W.heap.size 0 _ _ _ h2.res
  have r1 := cell_of_row w2 W.heap.size 1 _ _ _ h2.res
  have r2 := cell_of_row w2 W.heap.size 2 _ _ _ h2.res
  have f0 := frozen_of_row w2 W.heap.size 0 _ _ h2.res
  have f1 := frozen_of_row w2 W.heap.size 1 _ _ h2.res
  have f2 := frozen_of_row w2 W.heap.size 2 _ _ h2.res
  have hs := h2.size
  have HG := Lib.hid h2.gby
  clear h2
  go_wp2
  refine bodyPost_ret (v := .tuple #[.agg #[.string (ruleName 5), .int .i64 (ruleClass 5), .func (.func 135) #[] #[]], .bool true]) (by simp [results, go_sem, r0, r1, r2]) rfl ⟨rfl, ?_⟩
  exact gby_setnew (gby_setnew (gby_setnew HG.out _ (by simp) _) _ (by simp) _) _ (by simp) _

set_option maxHeartbeats 2000000 in
theorem rule6 (W : World) : Calls Try.prog 128 #[.int .i64 6] W fun e w' => e = .returned (.tuple #[.agg #[.string (ruleName 6), .int .i64 (ruleClass 6), .func (.func 136) #[] #[]], .bool true]) ∧ W.grownBy w' none := by
  go_enter Try.func128, Try.ntmps128
  go_upto_region 3 with go_in
  apply wp_region_lit
  repeat ((fail_if_success (with_reducible show wpList _ _ _ [_] _ _)); (first | go_skip | go_guarded | go_step | go_upon))
  refine store_rules W rfl (.tmp 4) (.tmp 15) rfl rfl rfl ?_
  intro w2 h2
  have c0 := h2.at 18 (.string (ruleName 6)) rfl
  have c1 := h2.at 19 (.int .i64 (ruleClass 6)) rfl
  have c2 := h2.at 20 (.func (.func 136) #[] #[]) rfl
  have r0 := cell_of_row w2 W.heap.size 0 _ _ _ h2.res
  have r1 := cell_of_row w2 W.heap.size 1 _ _ _ h2.res
  have r2 := cell_of_row w2 W.heap.size 2 _ _ _ h2.res
  have f0 := frozen_of_row w2 W.heap.size 0 _ _ h2.res
  have f1 := frozen_of_row w2 W.heap.size 1 _ _ h2.res
  have f2 := frozen_of_row w2 W.heap.size 2 _ _ h2.res
  have hs := h2.size
  have HG := Lib.hid h2.gby
  clear h2
  go_wp2
  refine bodyPost_ret (v := .tuple #[.agg #[.string (ruleName 6), .int .i64 (ruleClass 6), .func (.func 136) #[] #[]], .bool true]) (by simp [results, go_sem, r0, r1, r2]) rfl ⟨rfl, ?_⟩
  exact gby_setnew (gby_setnew (gby_setnew HG.out _ (by simp) _) _ (by simp) _) _ (by simp) _

end Go.Proofs.Ytnighnkkeiegnaa
