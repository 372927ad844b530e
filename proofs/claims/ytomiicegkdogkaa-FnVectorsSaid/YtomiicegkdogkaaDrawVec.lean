/-
  Vectors drawn by the model.
-/
import Derived.Test.YtomiicegkdogkaaDrawNumber
import Derived.Test.YtomiicegkdogkaaShpI
import Derived.Test.YtomiicegkdogkaaOwS
import Derived.Test.YtomiicegkdogkaaVecOk
import Derived.Deep.AppendLies
import Derived.Deep.RegionHeld3
import Derived.Deep.RegionLaw
namespace Go.Proofs.Ytomiicegkdogkaa
open Go Go.RowKit
set_option linter.unusedVariables false

theorem gby_some {w a : World} (g : w.grownBy a none) (r : Option Nat) : w.grownBy a r := ⟨g.os, g.tape, g.output, g.size, fun k hk _ => g.block k hk (by simp)⟩
theorem chg_cur {w w' : World} {c : Nat} (g : w.grownBy w' (some c)) : Chg w w' c (c + 1) := chg_row g (fun i h => by obtain rfl := Option.some.inj h; omega)
theorem bytes_grow {w w' : World} {a : Option Addr} {len : Nat} {zs : List Int} (h : Bytes w a len zs) (g : w.grownBy w' none) : Bytes w' a len zs := by
  rcases h with h0 | ⟨b, off, ha, hk⟩
  · exact .inl h0
  · exact .inr ⟨b, off, ha, fun k hlt => ⟨g.cell (hk k hlt).1 (by simp), (hk k hlt).2⟩⟩
/-- the drawn numbers, one by one -/
theorem OwI.twelve {w : World} {lo hi : Nat} {v : Value} {xs : List Int} (h : OwI w lo hi v xs) (hl : xs.length = 12) : ∃ b off cap, v = .slice (some ⟨b, off, none⟩) 12 cap ∧ ∀ k, k < 12 → w.cell? ⟨b, off + k, none⟩ = some (.int .i64 (xs.getD k 0)) := by
  obtain ⟨a, cap, rfl, h, _⟩ := h
  obtain ⟨b, off, rfl, hc⟩ := h.isl.2.resolve_left (by omega)
  exact ⟨b, off, cap, by rw [hl], fun k hk => hc k (by omega)⟩

end Go.Proofs.Ytomiicegkdogkaa

namespace Go.Proofs.Ytomiicegkdogkaa
open Go Go.RowKit
set_option linter.unusedVariables false

theorem own_shapeV {w : World} {base : Nat} {e : TypeId} {size : Nat} {v : Value} {n : Nat} {xs : List Value} (h : w.ownsRow base e size v n xs) : ∃ a c, v = .slice a n c := by
  obtain ⟨_, h2⟩ := h
  rcases h2 with ⟨rfl, h0⟩ | ⟨g, cap, cur, rfl, _⟩
  · exact ⟨none, 0, by rw [h0]⟩
  · exact ⟨_, cap, rfl⟩
theorem own_keptV {w w' : World} {base c n size : Nat} {e : TypeId} {v : Value} {xs : List Value} (h : w.ownsRow base e size v n xs) (g : w.grownBy w' (some c)) (hc : c < base) : w'.ownsRow base e size v n xs :=
  h.kept g (.inr (fun e => by have := own_from h c e; omega))
/-- two rows of the call's own lie in different blocks -/
def Apart (a b : Value) : Prop := ∀ i, a.ownBlock = some i → ¬ b.ownBlock = some i
theorem Apart.symm {a b : Value} (h : Apart a b) : Apart b a := fun i h1 h2 => h i h2 h1
theorem own_aside {w w' : World} {base n size : Nat} {e : TypeId} {v u : Value} {xs : List Value} (h : w.ownsRow base e size v n xs) (g : w.grownBy w' u.ownBlock) (ha : Apart u v) : w'.ownsRow base e size v n xs := by
  refine h.kept g ?_
  cases hv : v.ownBlock with
  | none => exact .inl rfl
  | some i => exact .inr (fun e => ha i e.symm hv)
theorem apart_new {w : World} {base n size gg H : Nat} {e : TypeId} {v u : Value} {xs : List Value} {m c : Nat} (h : w.ownsRow base e size v n xs) (ha : Apart u v) (hat : u.ownBlock = some gg ∨ gg = H) (hH : w.heap.size ≤ H) : Apart (.slice (some ⟨gg, 0, none⟩) m c) v := by
  intro i h1 h2
  obtain rfl : gg = i := Option.some.inj h1
  rcases hat with q | q
  · exact ha _ q h2
  · have := (World.ownsRow.lt h _ h2).2; omega
theorem row_drewV {w : World} {b : Nat} {o : Obj} (h : w.heap[b]? = some o) : w.drew.heap[b]? = some o := h
def blv (xs : List Bool) : List Value := xs.flatMap (fun x => [Value.bool x])
theorem blv_append (xs ys : List Bool) : blv (xs ++ ys) = blv xs ++ blv ys := by simp [blv]
/-- an owned row in an interval of its own block -/
theorem own_one_row {w : World} {base n : Nat} {v : Value} {xs : List Bool} (h : w.ownsRow base 4 1 v n (blv xs)) (hl : xs.length = n) (h0 : 0 < n) (hm : n ≤ 1000000) : ∃ g c, v = .slice (some ⟨g, 0, none⟩) n c ∧ base ≤ g ∧ g < w.heap.size ∧ OwL shB w g (g + 1) v xs := by
  subst hl
  obtain ⟨h1, h2⟩ := h
  rcases h2 with ⟨_, q⟩ | ⟨g, cap, cur, rfl, hb, hg, r⟩
  · omega
  · have q := owP_row (s := shB) (w := w) (base := g) _ plainB.len plainB.ow (xs := xs) (by omega) (show w.ownsRow g 4 1 (.slice (some ⟨g, 0, none⟩) xs.length cap) xs.length (xs.flatMap (fun x => [Value.bool x])) from ⟨h1, .inr ⟨g, cap, cur, rfl, Nat.le_refl _, hg, r⟩⟩)
    refine ⟨g, cap, rfl, hb, block_in hg, ?_⟩
    obtain ⟨a, c2, e, hc, hm2, hp, hr⟩ := q
    injection e with e1 e2 e3
    subst e1 e3
    refine ⟨_, cap, rfl, hc, hm2, (fun p hp2 => by obtain rfl := Option.some.inj hp2; exact ⟨Nat.le_refl _, Nat.lt_succ_self _⟩), ?_⟩
    rcases hr with hr | ⟨b, off, P, Q, C, t, e4, hb4, hk4, hx4⟩
    · exact .inl hr
    · refine .inr ⟨b, off, fun _ => g, fun _ => g, C, t, e4, hb4, fun k hk => ?_, fun i k _ _ => .inl (Nat.le_refl _)⟩
      obtain ⟨_, _, _, cs, hcs, ho⟩ := hk4 k hk
      have e9 : g = b := by injection e4 with e5; injection e5
      exact ⟨Nat.le_refl g, Nat.le_succ g, .inr (Nat.le_of_eq e9), cs, hcs, ho⟩

/-- drawn valid vectors -/
def DrawnVec (r : Option Nat) (W : World) (e : Ending) (w' : World) : Prop := ∃ (i0 : Int) (v1 v2 : Value) (xs ys : List Bool), e = .returned (.agg #[.int .i64 i0, v1, v2]) ∧ VOk i0 xs ys ∧ OwU w' W.heap.size w'.heap.size [] [own shB v1 xs, own shB v2 ys] ∧ W.grownBy w' r

theorem imp_app {xs ys : List Bool} {j : Nat} {a b : Bool} (hx : xs.length = j) (hy : ys.length = j) (h : ∀ i, i < j → ys.getD i false = true → xs.getD i false = true) (hab : b = true → a = true) : ∀ i, i < j + 1 → (ys ++ [b]).getD i false = true → (xs ++ [a]).getD i false = true := by
  intro i hi
  rw [List.getD_eq_getElem?_getD, List.getD_eq_getElem?_getD]
  by_cases e : i < j
  · rw [List.getElem?_append_left (by omega), List.getElem?_append_left (by omega), ← List.getD_eq_getElem?_getD, ← List.getD_eq_getElem?_getD]
    exact h i e
  · obtain rfl : i = j := by omega
    rw [List.getElem?_append_right (by omega), List.getElem?_append_right (by omega), hx, hy]
    simpa using hab

set_option maxRecDepth 8000 in
set_option maxHeartbeats 4000000 in
theorem vectors30_any (W : World) (c : Nat) (H : Cur W c) : Calls Try.prog 73 #[.pointer (some ⟨c, 0, none⟩)] W (DrawnVec (some c) W) := by
  have hcl_ := cur_lt H
  have HCU := Lib.hid H
  clear H
  obtain ⟨i1_, hi1_, hz0_, hz1_, hz2_⟩ := info_parts infoBool
  go_enter Try.func73, Try.ntmps73
  have rR1_ := Lib.hid (show ((W.alloc (.cells #[.int .i64 0, .slice none 0 0, .slice none 0 0] 26))).heap[W.heap.size]? = some (.cells #[.int .i64 0, .slice none 0 0, .slice none 0 0] 26 (0, 0)) from by exact heap_alloc_new _ _)
  have G2_ := Lib.hid (show (W).grownBy ((W.alloc (.cells #[.int .i64 0, .slice none 0 0, .slice none 0 0] 26))) (some c) from (gby_alloc (gby_refl _ _) _))
  have HCU3_ := Lib.hid (show Cur ((W.alloc (.cells #[.int .i64 0, .slice none 0 0, .slice none 0 0] 26))) c from cur_kept HCU.out (gby_alloc (gby_refl _ none) _) (by simp))
  have R_0_ : ((W.alloc (.cells #[.int .i64 0, .slice none 0 0, .slice none 0 0] 26))).cell? ⟨W.heap.size, 0, none⟩ = some (.int .i64 0) := cell_of_row _ _ 0 _ _ _ rR1_.out
  have R_1_ : ((W.alloc (.cells #[.int .i64 0, .slice none 0 0, .slice none 0 0] 26))).cell? ⟨W.heap.size, 1, none⟩ = some (.slice none 0 0) := cell_of_row _ _ 1 _ _ _ rR1_.out
  have R_2_ : ((W.alloc (.cells #[.int .i64 0, .slice none 0 0, .slice none 0 0] 26))).cell? ⟨W.heap.size, 2, none⟩ = some (.slice none 0 0) := cell_of_row _ _ 2 _ _ _ rR1_.out
  clear R_0_ R_1_ R_2_
  have al_ : ((W.alloc (.cells #[.int .i64 0, .slice none 0 0, .slice none 0 0] 26))).grownBy (((W.alloc (.cells #[.int .i64 0, .slice none 0 0, .slice none 0 0] 26))).alloc (.cells #[.int .i64 0, .int .i64 100, .int .i64 65535] 3)) none := gby_alloc (gby_refl _ _) _
  have rR4_ := Lib.hid (show (((W.alloc (.cells #[.int .i64 0, .slice none 0 0, .slice none 0 0] 26)).alloc (.cells #[.int .i64 0, .int .i64 100, .int .i64 65535] 3))).heap[W.heap.size]? = some (.cells #[.int .i64 0, .slice none 0 0, .slice none 0 0] 26 (0, 0)) from row_held al_ rR1_.out)
  clear rR1_
  have G5_ := Lib.hid (show (W).grownBy (((W.alloc (.cells #[.int .i64 0, .slice none 0 0, .slice none 0 0] 26)).alloc (.cells #[.int .i64 0, .int .i64 100, .int .i64 65535] 3))) (some c) from gby_trans G2_.out (gby_some al_ _))
  have HCU6_ := Lib.hid (show Cur (((W.alloc (.cells #[.int .i64 0, .slice none 0 0, .slice none 0 0] 26)).alloc (.cells #[.int .i64 0, .int .i64 100, .int .i64 65535] 3))) c from cur_kept HCU3_.out al_ (by simp))
  have rL7_ := Lib.hid (show (((W.alloc (.cells #[.int .i64 0, .slice none 0 0, .slice none 0 0] 26)).alloc (.cells #[.int .i64 0, .int .i64 100, .int .i64 65535] 3))).heap[W.heap.size + 1]? = some (.cells #[.int .i64 0, .int .i64 100, .int .i64 65535] 3 (0, 0)) from by first | exact heap_alloc_new _ _ | exact heap_pair _ _ _ | exact heap_trip _ _ _ _)
  clear al_
  have R_0_ : (((W.alloc (.cells #[.int .i64 0, .slice none 0 0, .slice none 0 0] 26)).alloc (.cells #[.int .i64 0, .int .i64 100, .int .i64 65535] 3))).cell? ⟨W.heap.size, 0, none⟩ = some (.int .i64 0) := cell_of_row _ _ 0 _ _ _ rR4_.out
  have R_1_ : (((W.alloc (.cells #[.int .i64 0, .slice none 0 0, .slice none 0 0] 26)).alloc (.cells #[.int .i64 0, .int .i64 100, .int .i64 65535] 3))).cell? ⟨W.heap.size, 1, none⟩ = some (.slice none 0 0) := cell_of_row _ _ 1 _ _ _ rR4_.out
  have R_2_ : (((W.alloc (.cells #[.int .i64 0, .slice none 0 0, .slice none 0 0] 26)).alloc (.cells #[.int .i64 0, .int .i64 100, .int .i64 65535] 3))).cell? ⟨W.heap.size, 2, none⟩ = some (.slice none 0 0) := cell_of_row _ _ 2 _ _ _ rR4_.out
  have L_0_ : (((W.alloc (.cells #[.int .i64 0, .slice none 0 0, .slice none 0 0] 26)).alloc (.cells #[.int .i64 0, .int .i64 100, .int .i64 65535] 3))).cell? ⟨W.heap.size + 1, 0, none⟩ = some (.int .i64 0) := cell_of_row _ _ 0 _ _ _ rL7_.out
  have L_1_ : (((W.alloc (.cells #[.int .i64 0, .slice none 0 0, .slice none 0 0] 26)).alloc (.cells #[.int .i64 0, .int .i64 100, .int .i64 65535] 3))).cell? ⟨W.heap.size + 1, 1, none⟩ = some (.int .i64 100) := cell_of_row _ _ 1 _ _ _ rL7_.out
  have L_2_ : (((W.alloc (.cells #[.int .i64 0, .slice none 0 0, .slice none 0 0] 26)).alloc (.cells #[.int .i64 0, .int .i64 100, .int .i64 65535] 3))).cell? ⟨W.heap.size + 1, 2, none⟩ = some (.int .i64 65535) := cell_of_row _ _ 2 _ _ _ rL7_.out
  go_wp2_with fail
  go_at_call 111
  refine (pickInt_any _ c (W.heap.size + 1) 3 3 (fun n => 0 ≤ n ∧ n ≤ 65535) HCU6_.out (by omega) (by omega) (by omega) (fun k hk => by match k, hk with | 0, _ => exact ⟨0, L_0_, by omega⟩ | 1, _ => exact ⟨100, L_1_, by omega⟩ | 2, _ => exact ⟨65535, L_2_, by omega⟩)).mono ?_
  rintro e w1 ⟨i0, ⟨i1, i2⟩, rfl, H1_, g⟩
  have szw1 := g.size
  try simp only [World.size_alloc] at szw1
  try simp only [World.size_setCell] at szw1
  clear R_0_ R_1_ R_2_ L_0_ L_1_ L_2_
  have rR8_ := Lib.hid (show (w1).heap[W.heap.size]? = some (.cells #[.int .i64 0, .slice none 0 0, .slice none 0 0] 26 (0, 0)) from Chg.keep (chg_cur g) rR4_.out (by omega))
  clear rR4_
  have rL9_ := Lib.hid (show (w1).heap[W.heap.size + 1]? = some (.cells #[.int .i64 0, .int .i64 100, .int .i64 65535] 3 (0, 0)) from Chg.keep (chg_cur g) rL7_.out (by omega))
  clear rL7_
  have G10_ := Lib.hid (show (W).grownBy (w1) (some c) from gby_trans G5_.out g)
  clear HCU6_
  have HCU11_ := Lib.hid (show Cur (w1) c from H1_)
  clear g H1_
  have R_0_ : (w1).cell? ⟨W.heap.size, 0, none⟩ = some (.int .i64 0) := cell_of_row _ _ 0 _ _ _ rR8_.out
  have R_1_ : (w1).cell? ⟨W.heap.size, 1, none⟩ = some (.slice none 0 0) := cell_of_row _ _ 1 _ _ _ rR8_.out
  have R_2_ : (w1).cell? ⟨W.heap.size, 2, none⟩ = some (.slice none 0 0) := cell_of_row _ _ 2 _ _ _ rR8_.out
  have L_0_ : (w1).cell? ⟨W.heap.size + 1, 0, none⟩ = some (.int .i64 0) := cell_of_row _ _ 0 _ _ _ rL9_.out
  have L_1_ : (w1).cell? ⟨W.heap.size + 1, 1, none⟩ = some (.int .i64 100) := cell_of_row _ _ 1 _ _ _ rL9_.out
  have L_2_ : (w1).cell? ⟨W.heap.size + 1, 2, none⟩ = some (.int .i64 65535) := cell_of_row _ _ 2 _ _ _ rL9_.out
  have HTM12_ := Lib.hid (gby_refl (w1) (some c))
  have MG13_ := Lib.hid (show (W).grownBy (w1) (some c) from G10_.out)
  have MR14_ := Lib.hid rR8_.out
  have MR15_ := Lib.hid rL9_.out
  clear R_0_ R_1_ R_2_ L_0_ L_1_ L_2_
  have al_ : (w1).grownBy ((w1).alloc (.cells #[.int .i64 i0, .slice none 0 0, .slice none 0 0] 26)) none := gby_alloc (gby_refl _ _) _
  have rR16_ := Lib.hid (show ((w1.alloc (.cells #[.int .i64 i0, .slice none 0 0, .slice none 0 0] 26))).heap[W.heap.size]? = some (.cells #[.int .i64 0, .slice none 0 0, .slice none 0 0] 26 (0, 0)) from row_held al_ rR8_.out)
  clear rR8_
  have rL17_ := Lib.hid (show ((w1.alloc (.cells #[.int .i64 i0, .slice none 0 0, .slice none 0 0] 26))).heap[W.heap.size + 1]? = some (.cells #[.int .i64 0, .int .i64 100, .int .i64 65535] 3 (0, 0)) from row_held al_ rL9_.out)
  clear rL9_
  have G18_ := Lib.hid (show (W).grownBy ((w1.alloc (.cells #[.int .i64 i0, .slice none 0 0, .slice none 0 0] 26))) (some c) from gby_trans G10_.out (gby_some al_ _))
  have HCU19_ := Lib.hid (show Cur ((w1.alloc (.cells #[.int .i64 i0, .slice none 0 0, .slice none 0 0] 26))) c from cur_kept HCU11_.out al_ (by simp))
  have HTM20_ := Lib.hid (show (w1).grownBy ((w1.alloc (.cells #[.int .i64 i0, .slice none 0 0, .slice none 0 0] 26))) (some c) from gby_trans HTM12_.out (gby_some al_ _))
  clear HTM12_
  have rB21_ := Lib.hid (show ((w1.alloc (.cells #[.int .i64 i0, .slice none 0 0, .slice none 0 0] 26))).heap[w1.heap.size]? = some (.cells #[.int .i64 i0, .slice none 0 0, .slice none 0 0] 26 (0, 0)) from by first | exact heap_alloc_new _ _ | exact heap_pair _ _ _ | exact heap_trip _ _ _ _)
  clear al_
  have R_0_ : ((w1.alloc (.cells #[.int .i64 i0, .slice none 0 0, .slice none 0 0] 26))).cell? ⟨W.heap.size, 0, none⟩ = some (.int .i64 0) := cell_of_row _ _ 0 _ _ _ rR16_.out
  have R_1_ : ((w1.alloc (.cells #[.int .i64 i0, .slice none 0 0, .slice none 0 0] 26))).cell? ⟨W.heap.size, 1, none⟩ = some (.slice none 0 0) := cell_of_row _ _ 1 _ _ _ rR16_.out
  have R_2_ : ((w1.alloc (.cells #[.int .i64 i0, .slice none 0 0, .slice none 0 0] 26))).cell? ⟨W.heap.size, 2, none⟩ = some (.slice none 0 0) := cell_of_row _ _ 2 _ _ _ rR16_.out
  have L_0_ : ((w1.alloc (.cells #[.int .i64 i0, .slice none 0 0, .slice none 0 0] 26))).cell? ⟨W.heap.size + 1, 0, none⟩ = some (.int .i64 0) := cell_of_row _ _ 0 _ _ _ rL17_.out
  have L_1_ : ((w1.alloc (.cells #[.int .i64 i0, .slice none 0 0, .slice none 0 0] 26))).cell? ⟨W.heap.size + 1, 1, none⟩ = some (.int .i64 100) := cell_of_row _ _ 1 _ _ _ rL17_.out
  have L_2_ : ((w1.alloc (.cells #[.int .i64 i0, .slice none 0 0, .slice none 0 0] 26))).cell? ⟨W.heap.size + 1, 2, none⟩ = some (.int .i64 65535) := cell_of_row _ _ 2 _ _ _ rL17_.out
  have B_0_ : ((w1.alloc (.cells #[.int .i64 i0, .slice none 0 0, .slice none 0 0] 26))).cell? ⟨w1.heap.size, 0, none⟩ = some (.int .i64 i0) := cell_of_row _ _ 0 _ _ _ rB21_.out
  have B_1_ : ((w1.alloc (.cells #[.int .i64 i0, .slice none 0 0, .slice none 0 0] 26))).cell? ⟨w1.heap.size, 1, none⟩ = some (.slice none 0 0) := cell_of_row _ _ 1 _ _ _ rB21_.out
  have B_2_ : ((w1.alloc (.cells #[.int .i64 i0, .slice none 0 0, .slice none 0 0] 26))).cell? ⟨w1.heap.size, 2, none⟩ = some (.slice none 0 0) := cell_of_row _ _ 2 _ _ _ rB21_.out
  go_wp2_with fail
  go_at_call 75
  refine (below_any _ _ _ HCU19_.out (by omega) (by omega)).mono ?_
  rintro e w2 ⟨x, ⟨x1, x2⟩, rfl, H1_, g⟩
  have szw2 := g.size
  try simp only [World.size_alloc] at szw2
  try simp only [World.size_setCell] at szw2
  clear R_0_ R_1_ R_2_ L_0_ L_1_ L_2_ B_0_ B_1_ B_2_
  have rR22_ := Lib.hid (show (w2).heap[W.heap.size]? = some (.cells #[.int .i64 0, .slice none 0 0, .slice none 0 0] 26 (0, 0)) from Chg.keep (chg_cur g) rR16_.out (by omega))
  clear rR16_
  have rL23_ := Lib.hid (show (w2).heap[W.heap.size + 1]? = some (.cells #[.int .i64 0, .int .i64 100, .int .i64 65535] 3 (0, 0)) from Chg.keep (chg_cur g) rL17_.out (by omega))
  clear rL17_
  have rB24_ := Lib.hid (show (w2).heap[w1.heap.size]? = some (.cells #[.int .i64 i0, .slice none 0 0, .slice none 0 0] 26 (0, 0)) from Chg.keep (chg_cur g) rB21_.out (by omega))
  clear rB21_
  have G25_ := Lib.hid (show (W).grownBy (w2) (some c) from gby_trans G18_.out g)
  clear HCU19_
  have HCU26_ := Lib.hid (show Cur (w2) c from H1_)
  have HTM27_ := Lib.hid (show (w1).grownBy (w2) (some c) from gby_trans HTM20_.out g)
  clear HTM20_
  clear g H1_
  have R_0_ : (w2).cell? ⟨W.heap.size, 0, none⟩ = some (.int .i64 0) := cell_of_row _ _ 0 _ _ _ rR22_.out
  have R_1_ : (w2).cell? ⟨W.heap.size, 1, none⟩ = some (.slice none 0 0) := cell_of_row _ _ 1 _ _ _ rR22_.out
  have R_2_ : (w2).cell? ⟨W.heap.size, 2, none⟩ = some (.slice none 0 0) := cell_of_row _ _ 2 _ _ _ rR22_.out
  have L_0_ : (w2).cell? ⟨W.heap.size + 1, 0, none⟩ = some (.int .i64 0) := cell_of_row _ _ 0 _ _ _ rL23_.out
  have L_1_ : (w2).cell? ⟨W.heap.size + 1, 1, none⟩ = some (.int .i64 100) := cell_of_row _ _ 1 _ _ _ rL23_.out
  have L_2_ : (w2).cell? ⟨W.heap.size + 1, 2, none⟩ = some (.int .i64 65535) := cell_of_row _ _ 2 _ _ _ rL23_.out
  have B_0_ : (w2).cell? ⟨w1.heap.size, 0, none⟩ = some (.int .i64 i0) := cell_of_row _ _ 0 _ _ _ rB24_.out
  have B_1_ : (w2).cell? ⟨w1.heap.size, 1, none⟩ = some (.slice none 0 0) := cell_of_row _ _ 1 _ _ _ rB24_.out
  have B_2_ : (w2).cell? ⟨w1.heap.size, 2, none⟩ = some (.slice none 0 0) := cell_of_row _ _ 2 _ _ _ rB24_.out
  have e1_ : IntKind.i64.wrap (1 + x) = 1 + x := IntWalk.i64_in _ (by omega)
  have HB0 := Lib.hid (show (w2).heap[w1.heap.size]? = some (.cells #[.int .i64 i0, .slice none 0 0, .slice none 0 0] 26 (0, 0)) from rB24_.out)
  go_wp2
  go_loopw [5, 6] (fun k z6 wr => ∃ (j : Nat) (xs ys : List Bool) (s1 s2 : Value), k = .int .i64 (j : Int) ∧ (∃ q, z6 = q) ∧ (j : Int) ≤ 1 + x ∧ xs.length = j ∧ ys.length = j ∧ (∀ i, i < j → ys.getD i false = true → xs.getD i false = true) ∧ wr.heap[w1.heap.size]? = some (.cells #[.int .i64 i0, s1, s2] 26 (0, 0)) ∧ wr.ownsRow (w1.heap.size + 1) 4 1 s1 j (blv xs) ∧ wr.ownsRow (w1.heap.size + 1) 4 1 s2 j (blv ys) ∧ Apart s1 s2 ∧ Cur wr c ∧ (w1).grownBy wr (some c)) (fun k _ _ => 9 - (intOf k).toNat)
  case atStart => exact ⟨0, [], [], _, _, rfl, ⟨_, rfl⟩, by omega, rfl, rfl, (fun i hi => absurd hi (Nat.not_lt_zero _)), HB0.out, ⟨rfl, .inl ⟨rfl, rfl⟩⟩, ⟨rfl, .inl ⟨rfl, rfl⟩⟩, (fun i h1 => by cases h1), HCU26_.out, HTM27_.out⟩
  case round =>
    clear R_0_ R_1_ R_2_ L_0_ L_1_ L_2_ B_0_ B_1_ B_2_
    clear rR22_
    clear rL23_
    clear rB24_
    clear HTM27_
    clear HCU26_
    obtain ⟨j, xs, ys, s1, s2, rfl, ⟨z6, rfl⟩, hj, hlx, hly, himp, hbx, ho1, ho2, hap, hcu, hg⟩ := hrel
    have szr_ := hg.size
    try simp only [World.size_alloc] at szr_
    try simp only [World.size_setCell] at szr_
    have G28_ := Lib.hid (show (W).grownBy (wr) (some c) from gby_trans MG13_.out hg)
    have rR29_ := Lib.hid (show (wr).heap[W.heap.size]? = some (.cells #[.int .i64 0, .slice none 0 0, .slice none 0 0] 26 (0, 0)) from Chg.keep (chg_cur hg) MR14_.out (by omega))
    have rL30_ := Lib.hid (show (wr).heap[W.heap.size + 1]? = some (.cells #[.int .i64 0, .int .i64 100, .int .i64 65535] 3 (0, 0)) from Chg.keep (chg_cur hg) MR15_.out (by omega))
    have HCU31_ := Lib.hid (show Cur (wr) c from hcu)
    have HTM32_ := Lib.hid hg
    clear hg hcu
    have R_0_ : (wr).cell? ⟨W.heap.size, 0, none⟩ = some (.int .i64 0) := cell_of_row _ _ 0 _ _ _ rR29_.out
    have R_1_ : (wr).cell? ⟨W.heap.size, 1, none⟩ = some (.slice none 0 0) := cell_of_row _ _ 1 _ _ _ rR29_.out
    have R_2_ : (wr).cell? ⟨W.heap.size, 2, none⟩ = some (.slice none 0 0) := cell_of_row _ _ 2 _ _ _ rR29_.out
    have L_0_ : (wr).cell? ⟨W.heap.size + 1, 0, none⟩ = some (.int .i64 0) := cell_of_row _ _ 0 _ _ _ rL30_.out
    have L_1_ : (wr).cell? ⟨W.heap.size + 1, 1, none⟩ = some (.int .i64 100) := cell_of_row _ _ 1 _ _ _ rL30_.out
    have L_2_ : (wr).cell? ⟨W.heap.size + 1, 2, none⟩ = some (.int .i64 65535) := cell_of_row _ _ 2 _ _ _ rL30_.out
    have HLX := Lib.hid hlx
    have HLY := Lib.hid hly
    have HIM := Lib.hid himp
    have HAP := Lib.hid hap
    obtain ⟨p1, d1, hv_⟩ := own_shapeV ho1
    subst hv_
    obtain ⟨p2, d2, hv_⟩ := own_shapeV ho2
    subst hv_
    have HO1 := Lib.hid ho1
    have HO2 := Lib.hid ho2
    clear hlx hly himp hap ho1 ho2
    have hn0 : (0 : Int) ≤ (j : Int) := by omega
    have htn : ((j : Int)).toNat = j := by omega
    have rB33_ := Lib.hid (show (wr).heap[w1.heap.size]? = some (.cells #[.int .i64 i0, .slice p1 j d1, .slice p2 j d2] 26 (0, 0)) from hbx)
    clear hbx
    have hwr : w1.heap.size < wr.heap.size := lt_of_block (rB33_.out)
    by_cases hlt : (j : Int) < 1 + x
    rotate_left
    · have hjx : (j : Int) = 1 + x := by omega
      clear R_0_ R_1_ R_2_ L_0_ L_1_ L_2_
      have R_0_ : (wr).cell? ⟨W.heap.size, 0, none⟩ = some (.int .i64 0) := cell_of_row _ _ 0 _ _ _ rR29_.out
      have R_1_ : (wr).cell? ⟨W.heap.size, 1, none⟩ = some (.slice none 0 0) := cell_of_row _ _ 1 _ _ _ rR29_.out
      have R_2_ : (wr).cell? ⟨W.heap.size, 2, none⟩ = some (.slice none 0 0) := cell_of_row _ _ 2 _ _ _ rR29_.out
      have L_0_ : (wr).cell? ⟨W.heap.size + 1, 0, none⟩ = some (.int .i64 0) := cell_of_row _ _ 0 _ _ _ rL30_.out
      have L_1_ : (wr).cell? ⟨W.heap.size + 1, 1, none⟩ = some (.int .i64 100) := cell_of_row _ _ 1 _ _ _ rL30_.out
      have L_2_ : (wr).cell? ⟨W.heap.size + 1, 2, none⟩ = some (.int .i64 65535) := cell_of_row _ _ 2 _ _ _ rL30_.out
      have B_0_ : (wr).cell? ⟨w1.heap.size, 0, none⟩ = some (.int .i64 i0) := cell_of_row _ _ 0 _ _ _ rB33_.out
      have B_1_ : (wr).cell? ⟨w1.heap.size, 1, none⟩ = some (.slice p1 j d1) := cell_of_row _ _ 1 _ _ _ rB33_.out
      have B_2_ : (wr).cell? ⟨w1.heap.size, 2, none⟩ = some (.slice p2 j d2) := cell_of_row _ _ 2 _ _ _ rB33_.out
      obtain ⟨g1, d1', hv1_, lg1, hg1, ow1⟩ := own_one_row HO1.out HLX.out (by omega) (by omega)
      obtain ⟨g2, d2', hv2_, lg2, hg2, ow2⟩ := own_one_row HO2.out HLY.out (by omega) (by omega)
      have hne_ : ¬ g1 = g2 := fun e => HAP.out g1 (by rw [hv1_]; rfl) (by rw [hv2_, e]; rfl)
      have HV := Lib.hid (show OwU wr (w1.heap.size + 1) wr.heap.size [] [own shB (.slice p1 j d1) xs, own shB (.slice p2 j d2) ys] from ⟨g1, g1 + 1, by omega, by omega, (fun i hi => by cases hi), ow1, g2, g2 + 1, by omega, by omega, (fun i hi => by obtain rfl := List.mem_singleton.1 hi; dsimp only; omega), ow2, trivial⟩)
      have HOKV := Lib.hid (show VOk i0 xs ys from ⟨⟨by rw [HLX.out]; omega, by rw [HLX.out]; omega⟩, by rw [HLX.out, HLY.out], ⟨by omega, by omega⟩, fun i hi => HIM.out i (by rw [HLX.out] at hi; exact hi)⟩)
      clear ow1 ow2 hv1_ hv2_
      have FR0 := frozen_of_row _ _ 0 _ _ rR29_.out
      have FR1 := frozen_of_row _ _ 1 _ _ rR29_.out
      have FR2 := frozen_of_row _ _ 2 _ _ rR29_.out
      have zr_ := Lib.hid (show ((((wr.setCell ⟨W.heap.size, 0, none⟩ (.int .i64 i0)).setCell ⟨W.heap.size, 1, none⟩ (.slice p1 j d1)).setCell ⟨W.heap.size, 2, none⟩ (.slice p2 j d2))).heap[W.heap.size]? = some (.cells #[.int .i64 i0, .slice p1 j d1, .slice p2 j d2] 26 (0, 0)) from (heap_setCell_same _ _ 2 _ _ _ (heap_setCell_same _ _ 1 _ _ _ (heap_setCell_same _ _ 0 _ _ _ rR29_.out))))
      have z0_ : ((((wr.setCell ⟨W.heap.size, 0, none⟩ (.int .i64 i0)).setCell ⟨W.heap.size, 1, none⟩ (.slice p1 j d1)).setCell ⟨W.heap.size, 2, none⟩ (.slice p2 j d2))).cell? ⟨W.heap.size, 0, none⟩ = some (.int .i64 i0) := cell_of_row _ _ 0 _ _ _ zr_.out
      have z1_ : ((((wr.setCell ⟨W.heap.size, 0, none⟩ (.int .i64 i0)).setCell ⟨W.heap.size, 1, none⟩ (.slice p1 j d1)).setCell ⟨W.heap.size, 2, none⟩ (.slice p2 j d2))).cell? ⟨W.heap.size, 1, none⟩ = some (.slice p1 j d1) := cell_of_row _ _ 1 _ _ _ zr_.out
      have z2_ : ((((wr.setCell ⟨W.heap.size, 0, none⟩ (.int .i64 i0)).setCell ⟨W.heap.size, 1, none⟩ (.slice p1 j d1)).setCell ⟨W.heap.size, 2, none⟩ (.slice p2 j d2))).cell? ⟨W.heap.size, 2, none⟩ = some (.slice p2 j d2) := cell_of_row _ _ 2 _ _ _ zr_.out
      go_wp2
      refine bodyPost_ret (v := .agg #[.int .i64 i0, .slice p1 j d1, .slice p2 j d2]) (by simp [results, go_sem, z0_, z1_, z2_]) rfl ⟨i0, _, _, xs, ys, rfl, HOKV.out, ?_, ?_⟩
      · exact OwU.wide (by omega) (by simp only [World.size_setCell]; omega) (OwU.keep (chg_one _ _ _ _) (.inr (by omega)) (OwU.keep (chg_one _ _ _ _) (.inr (by omega)) (OwU.keep (chg_one _ _ _ _) (.inr (by omega)) HV.out)))
      · exact (gby_setnew (gby_setnew (gby_setnew G28_.out _ (by dsimp only; omega) _) _ (by dsimp only; omega) _) _ (by dsimp only; omega) _)
    go_wp2_with fail
    go_at_call 112
    refine (once_any _ _ _ HCU31_.out (by omega) (by omega)).mono ?_
    rintro e w3 ⟨mb, rfl, H1_, g⟩
    have szw3 := g.size
    have HO1b := Lib.hid (own_keptV HO1.out g (by omega))
    have HO2b := Lib.hid (own_keptV HO2.out g (by omega))
    clear HO1 HO2
    clear R_0_ R_1_ R_2_ L_0_ L_1_ L_2_
    have rR34_ := Lib.hid (show (w3).heap[W.heap.size]? = some (.cells #[.int .i64 0, .slice none 0 0, .slice none 0 0] 26 (0, 0)) from Chg.keep (chg_cur g) rR29_.out (by omega))
    clear rR29_
    have rL35_ := Lib.hid (show (w3).heap[W.heap.size + 1]? = some (.cells #[.int .i64 0, .int .i64 100, .int .i64 65535] 3 (0, 0)) from Chg.keep (chg_cur g) rL30_.out (by omega))
    clear rL30_
    have rB36_ := Lib.hid (show (w3).heap[w1.heap.size]? = some (.cells #[.int .i64 i0, .slice p1 j d1, .slice p2 j d2] 26 (0, 0)) from Chg.keep (chg_cur g) rB33_.out (by omega))
    clear rB33_
    have G37_ := Lib.hid (show (W).grownBy (w3) (some c) from gby_trans G28_.out g)
    clear HCU31_
    have HCU38_ := Lib.hid (show Cur (w3) c from H1_)
    have HTM39_ := Lib.hid (show (w1).grownBy (w3) (some c) from gby_trans HTM32_.out g)
    clear HTM32_
    clear g H1_
    have R_0_ : (w3).cell? ⟨W.heap.size, 0, none⟩ = some (.int .i64 0) := cell_of_row _ _ 0 _ _ _ rR34_.out
    have R_1_ : (w3).cell? ⟨W.heap.size, 1, none⟩ = some (.slice none 0 0) := cell_of_row _ _ 1 _ _ _ rR34_.out
    have R_2_ : (w3).cell? ⟨W.heap.size, 2, none⟩ = some (.slice none 0 0) := cell_of_row _ _ 2 _ _ _ rR34_.out
    have L_0_ : (w3).cell? ⟨W.heap.size + 1, 0, none⟩ = some (.int .i64 0) := cell_of_row _ _ 0 _ _ _ rL35_.out
    have L_1_ : (w3).cell? ⟨W.heap.size + 1, 1, none⟩ = some (.int .i64 100) := cell_of_row _ _ 1 _ _ _ rL35_.out
    have L_2_ : (w3).cell? ⟨W.heap.size + 1, 2, none⟩ = some (.int .i64 65535) := cell_of_row _ _ 2 _ _ _ rL35_.out
    have B_0_ : (w3).cell? ⟨w1.heap.size, 0, none⟩ = some (.int .i64 i0) := cell_of_row _ _ 0 _ _ _ rB36_.out
    have B_1_ : (w3).cell? ⟨w1.heap.size, 1, none⟩ = some (.slice p1 j d1) := cell_of_row _ _ 1 _ _ _ rB36_.out
    have B_2_ : (w3).cell? ⟨w1.heap.size, 2, none⟩ = some (.slice p2 j d2) := cell_of_row _ _ 2 _ _ _ rB36_.out
    have hbw : w1.heap.size < w3.heap.size := lt_of_block (rB36_.out)
    go_wp2_with (at_builtin; refine wpList_append_lies _ (by rfl) _ _ _ (by rfl) (w1.heap.size + 1) 4 i1_ _ 1 1 Try.underlying22 hi1_ hz0_ hz1_ hz2_ rfl (by omega) _ j (blv xs) (by rfl) (HO1b.out.alloc _) ⟨w3.heap.size, 0, none⟩ 1 1 [.bool mb] (by rfl) (by rfl) (World.news_of_block (t := 4) (fr := (0, 0)) (heap_alloc_new w3 _)) (by simp [Value.oneCell']) (by omega) (by unfold maxLen; omega) (by omega) (by simp; omega) _ (by rfl) ?_; intro gg cap2 wa hown_ hgr_ hat_ hlt2_; have ZB : wa.heap[w1.heap.size]? = some (.cells #[.int .i64 i0, (.slice p1 j d1), (.slice p2 j d2)] 26 (0, 0)) := (hgr_.block (w1.heap.size) (by simp only [World.size_alloc]; omega) (fun e => by have := own_from HO1b.out _ e.symm; omega)).trans (row_held (gby_alloc (gby_refl _ none) _) rB36_.out); have zb0 := cell_of_row wa _ 0 _ _ _ ZB; have zb1 := cell_of_row wa _ 1 _ _ _ ZB; have zb2 := cell_of_row wa _ 2 _ _ _ ZB; have zf1 := frozen_of_row wa _ 1 _ _ ZB; have HP := Lib.hid hown_; have HQ := Lib.hid hgr_; have HT := Lib.hid hat_; have HZ := Lib.hid ZB; clear hown_ hgr_ hat_ hlt2_ ZB)
    clear R_0_ R_1_ R_2_ L_0_ L_1_ L_2_ B_0_ B_1_ B_2_
    clear zb0 zb1 zb2 zf1
    have hsa_ := HQ.out.size
    simp only [World.size_alloc] at hsa_
    have RN := Lib.hid (show (wa.setCell ⟨w1.heap.size, 1, none⟩ (.slice (some ⟨gg, 0, none⟩) (j + 1) cap2)).heap[w1.heap.size]? = some (.cells #[.int .i64 i0, (.slice (some ⟨gg, 0, none⟩) (j + 1) cap2), (.slice p2 j d2)] 26 (0, 0)) from heap_setCell_same _ _ 1 _ _ _ HZ.out)
    have ON1 := Lib.hid (show (wa.setCell ⟨w1.heap.size, 1, none⟩ (.slice (some ⟨gg, 0, none⟩) (j + 1) cap2)).ownsRow (w1.heap.size + 1) 4 1 (.slice (some ⟨gg, 0, none⟩) (j + 1) cap2) (j + 1) (blv (xs ++ [mb])) from by rw [blv_append]; exact ownsRow_setCell_below HP.out (by dsimp only; omega) _)
    have ON2 := Lib.hid (show (wa.setCell ⟨w1.heap.size, 1, none⟩ (.slice (some ⟨gg, 0, none⟩) (j + 1) cap2)).ownsRow (w1.heap.size + 1) 4 1 (.slice p2 j d2) j (blv ys) from ownsRow_setCell_below (own_aside (HO2b.out.alloc _) HQ.out HAP.out) (by dsimp only; omega) _)
    have AN := Lib.hid (show Apart (.slice (some ⟨gg, 0, none⟩) (j + 1) cap2) (.slice p2 j d2) from apart_new HO2b.out HAP.out HT.out (by simp only [World.size_alloc]; omega))
    have CN := Lib.hid (show Cur (wa.setCell ⟨w1.heap.size, 1, none⟩ (.slice (some ⟨gg, 0, none⟩) (j + 1) cap2)) c from cur_other (cur_other (cur_kept HCU38_.out (World.grownBy_alloc _ _ none) (by simp)) HQ.out (fun i hi => by have := own_from HO1b.out i hi; omega)) (gby_set (gby_refl _ _) _ _) (fun i hi => by have h2 := Option.some.inj hi; omega))
    have GN := Lib.hid (show (w1).grownBy (wa.setCell ⟨w1.heap.size, 1, none⟩ (.slice (some ⟨gg, 0, none⟩) (j + 1) cap2)) (some c) from gby_setnew (gby_new (gby_alloc HTM39_.out _) HQ.out (fun i hi => by have := own_from HO1b.out i hi; (try simp only [World.size_alloc]); omega)) _ (by dsimp only; (try simp only [World.size_alloc]); omega) _)
    have hsn_ : ((wa.setCell ⟨w1.heap.size, 1, none⟩ (.slice (some ⟨gg, 0, none⟩) (j + 1) cap2))).heap.size = wa.heap.size := by simp only [World.size_setCell]
    generalize (wa.setCell ⟨w1.heap.size, 1, none⟩ (.slice (some ⟨gg, 0, none⟩) (j + 1) cap2)) = w5 at RN ON1 ON2 AN CN GN hsn_ ⊢
    have hsm_ : wa.heap.size ≤ w5.heap.size := by omega
    clear hsn_
    have hb5 : w1.heap.size < w5.heap.size := by omega
    have c2 := cell_of_row _ _ 2 _ _ _ RN.out
    have HCD := Lib.hid (show Cur w5.drew c from cur_kept CN.out (gby_drew (gby_refl _ none)) (by simp))
    have HBD := Lib.hid (show w5.drew.heap[w1.heap.size]? = some (.cells #[.int .i64 i0, (.slice (some ⟨gg, 0, none⟩) (j + 1) cap2), (.slice p2 j d2)] 26 (0, 0)) from RN.out)
    have HO1d := Lib.hid (show w5.drew.ownsRow (w1.heap.size + 1) 4 1 (.slice (some ⟨gg, 0, none⟩) (j + 1) cap2) (j + 1) (blv (xs ++ [mb])) from ON1.out.drew)
    have HO2d := Lib.hid (show w5.drew.ownsRow (w1.heap.size + 1) 4 1 (.slice p2 j d2) j (blv ys) from ON2.out.drew)
    have HTD := Lib.hid (show (w1).grownBy w5.drew (some c) from gby_drew GN.out)
    cases mb
    · skip
      go_wp2_with fail
      refine wp_region_any (by kernel_rfl) ?_
      have c2w := c2
      clear c2
      have c2 : w5.drew.cell? ⟨_, 2, none⟩ = some (.slice p2 j d2) := cell_of_row _ _ 2 _ _ _ HBD.out
      have c2d := cell_of_row _ _ 2 _ _ _ (row_held (gby_alloc (gby_refl w5.drew none) (.cells #[.bool false] 4)) HBD.out)
      have c2e := cell_of_row _ _ 2 _ _ _ (row_held (gby_alloc (gby_refl w5 none) (.cells #[.bool false] 4)) RN.out)
      refine wpAny_take (i := 0) (oi := { dst := some 27, op := Op.fieldAddr 26 (Operand.tmp 3) 2, type := 0, pos := "l30_interrupt.go:66", after := #[], guard := none }) (v := ?v0q) rfl (by kernel_rfl) (by kernel_rfl) (by kernel_rfl) (fun _ _ _ h => h) (Or.inl ⟨by rfl, ?y0q⟩) ?r0q
      case y0q => (intro w; go_simp; all_goals (with_reducible rfl))
      try simp only [Act.put, List.setIfInBounds_toArray, List.set_cons_zero, List.set_cons_succ]
      refine wpAny_take (i := 2) (oi := { dst := some 29, op := Op.move (Operand.tmp 6), type := 4, pos := "l30_interrupt.go:66", after := #[], guard := none }) (v := ?v2q) rfl (by kernel_rfl) (by kernel_rfl) (by kernel_rfl) (fun _ _ _ h => h) (Or.inl ⟨by rfl, ?y2q⟩) ?r2q
      case y2q => (intro w; go_simp; all_goals (with_reducible rfl))
      try simp only [Act.put, List.setIfInBounds_toArray, List.set_cons_zero, List.set_cons_succ]
      refine wpAny_take (i := 3) (oi := { dst := some 30, op := Op.move (Operand.tmp 29), type := 4, pos := "l30_interrupt.go:66", after := #[{ on := 2, ground := Ground.data }], guard := none }) (v := ?v3q) rfl (by kernel_rfl) (by kernel_rfl) (by kernel_rfl) (fun _ _ _ h => h) (Or.inl ⟨by rfl, ?y3q⟩) ?r3q
      case y3q => (intro w; go_simp; all_goals (with_reducible rfl))
      try simp only [Act.put, List.setIfInBounds_toArray, List.set_cons_zero, List.set_cons_succ]
      refine wpAny_take (i := 4) (oi := { dst := some 31, op := Op.move (Operand.tmp 0), type := 99, pos := "l30_interrupt.go:66", after := #[{ on := 3, ground := Ground.guard }], guard := some (3, true) }) (v := undef) rfl (by kernel_rfl) (by kernel_rfl) (by kernel_rfl) (fun _ _ _ h => h) (Or.inr ⟨by rfl, rfl⟩) ?r4q
      try simp only [Act.put, List.setIfInBounds_toArray, List.set_cons_zero, List.set_cons_succ]
      refine wpAny_take (i := 5) (oi := { dst := some 32, op := Op.call { callee := Callee.value (Operand.func 112), args := #[Operand.tmp 31, Operand.const (Value.int IntKind.i64 2)], argTypes := #[99, 3] }, type := 4, pos := "l30_interrupt.go:66", after := #[{ on := 4, ground := Ground.data }, { on := 3, ground := Ground.chain }, { on := 3, ground := Ground.guard }], guard := some (3, true) }) (v := undef) rfl (by kernel_rfl) (by kernel_rfl) (by kernel_rfl) (fun _ _ _ h => h) (Or.inr ⟨by rfl, rfl⟩) ?r5q
      try simp only [Act.put, List.setIfInBounds_toArray, List.set_cons_zero, List.set_cons_succ]
      refine wpAny_take (i := 6) (oi := { dst := some 33, op := Op.pick (Operand.tmp 30) (Operand.tmp 32) (Operand.const (Value.bool false)), type := 4, pos := "l30_interrupt.go:66", after := #[{ on := 3, ground := Ground.data }, { on := 5, ground := Ground.data }], guard := none }) (v := ?v6q) rfl (by kernel_rfl) (by kernel_rfl) (by kernel_rfl) (fun _ _ _ h => h) (Or.inl ⟨by rfl, ?y6q⟩) ?r6q
      case y6q => (intro w; go_simp; all_goals (with_reducible rfl))
      try simp only [Act.put, List.setIfInBounds_toArray, List.set_cons_zero, List.set_cons_succ]
      refine wpAny_ready (rs := [1, 7]) (by kernel_rfl) (by simp) ?_
      refine AllReady.cons (o := { dst := some 28, op := Op.load 22 (Operand.tmp 27), type := 22, pos := "l30_interrupt.go:66", after := #[{ on := 0, ground := Ground.data }], guard := none }) rfl (fun K hK => ?_) (AllReady.cons (o := { dst := some 34, op := Op.buildSlice 22 1 #[(0, Operand.tmp 33)], type := 22, pos := "l30_interrupt.go:66", after := #[{ on := 6, ground := Ground.data }], guard := none }) rfl (fun K hK => ?_) AllReady.nil)
      go_simp
      refine hK _ _ ?_
      clear hK K
      try simp only [Act.put, List.setIfInBounds_toArray, List.set_cons_zero, List.set_cons_succ]
      refine wpAny_ready (rs := [7]) (by kernel_rfl) (by simp) ?_
      refine AllReady.cons (o := { dst := some 34, op := Op.buildSlice 22 1 #[(0, Operand.tmp 33)], type := 22, pos := "l30_interrupt.go:66", after := #[{ on := 6, ground := Ground.data }], guard := none }) rfl (fun K hK => ?_) AllReady.nil
      go_simp
      refine hK _ _ ?_
      clear hK K
      try simp only [Act.put, List.setIfInBounds_toArray, List.set_cons_zero, List.set_cons_succ]
      refine wpAny_ready (rs := [8]) (by kernel_rfl) (by simp) ?_
      refine AllReady.cons (o := { dst := some 35, op := Op.call { callee := Callee.builtin Builtin.append, args := #[Operand.tmp 28, Operand.tmp 34], argTypes := #[22, 22] }, type := 22, pos := "l30_interrupt.go:66", after := #[{ on := 1, ground := Ground.data }, { on := 7, ground := Ground.data }, { on := 5, ground := Ground.chain }], guard := none }) rfl (fun K hK => ?_) AllReady.nil
      rw [if_pos (by first | rfl | decide)]
      (refine wp_append_lies _ _ _ _ (by rfl) (w1.heap.size + 1) 4 i1_ _ 1 1 Try.underlying22 hi1_ hz0_ hz1_ hz2_ rfl (by omega) _ j (blv ys) (by rfl) (by first | exact World.ownsRow.drew (ON2.out.alloc _) | exact (World.ownsRow.drew ON2.out).alloc _) ⟨w5.heap.size, 0, none⟩ 1 1 [.bool false] (by rfl) (by rfl) (World.news_of_block (t := 4) (fr := (0, 0)) (by first | exact row_drewV (heap_alloc_new w5 _) | exact heap_alloc_new w5.drew _)) (by simp [Value.oneCell']) (by omega) (by unfold maxLen; omega) (by omega) (by simp; omega) _ (by rfl) ?_; intro g3 cap3 wB hownB hgB hatB hltB; have ZB : wB.heap[w1.heap.size]? = some (.cells #[.int .i64 i0, (.slice (some ⟨gg, 0, none⟩) (j + 1) cap2), (.slice p2 j d2)] 26 (0, 0)) := (hgB.block (w1.heap.size) (by (try simp only [World.size_drew, World.size_alloc]); omega) (fun e => by have := own_from ON2.out _ e.symm; omega)).trans (by first | exact row_drewV (row_held (gby_alloc (gby_refl _ none) _) RN.out) | exact row_held (gby_alloc (gby_refl _ none) _) (row_drewV RN.out)); have b2 := cell_of_row wB _ 2 _ _ _ ZB; have f2 := frozen_of_row wB _ 2 _ _ ZB)
      refine hK _ _ ?_
      clear hK K
      try simp only [Act.put, List.setIfInBounds_toArray, List.set_cons_zero, List.set_cons_succ]
      refine wpAny_take (i := 9) (oi := { dst := some 36, op := Op.fieldAddr 26 (Operand.tmp 3) 2, type := 0, pos := "l30_interrupt.go:66", after := #[{ on := 0, ground := Ground.phase }, { on := 1, ground := Ground.phase }, { on := 2, ground := Ground.phase }, { on := 3, ground := Ground.phase }, { on := 4, ground := Ground.phase }, { on := 5, ground := Ground.phase }, { on := 6, ground := Ground.phase }, { on := 7, ground := Ground.phase }, { on := 8, ground := Ground.phase }], guard := none }) (v := ?v9q) rfl (by kernel_rfl) (by kernel_rfl) (by kernel_rfl) (fun _ _ _ h => h) (Or.inl ⟨by rfl, ?y9q⟩) ?r9q
      case y9q => (intro w; go_simp; all_goals (with_reducible rfl))
      try simp only [Act.put, List.setIfInBounds_toArray, List.set_cons_zero, List.set_cons_succ]
      refine wpAny_ready (rs := [10]) (by kernel_rfl) (by simp) ?_
      refine AllReady.cons (o := { dst := none, op := Op.store 22 (Operand.tmp 36) (Operand.tmp 35), type := 0, pos := "l30_interrupt.go:66", after := #[{ on := 9, ground := Ground.data }, { on := 8, ground := Ground.data }, { on := 8, ground := Ground.chain }, { on := 0, ground := Ground.phase }, { on := 1, ground := Ground.phase }, { on := 2, ground := Ground.phase }, { on := 3, ground := Ground.phase }, { on := 4, ground := Ground.phase }, { on := 5, ground := Ground.phase }, { on := 6, ground := Ground.phase }, { on := 7, ground := Ground.phase }, { on := 8, ground := Ground.phase }], guard := none }) rfl (fun K hK => ?_) AllReady.nil
      go_simp
      refine hK _ _ ?_
      clear hK K
      try simp only [Act.put, List.setIfInBounds_toArray, List.set_cons_zero, List.set_cons_succ]
      refine wpAny_done (by kernel_rfl) ?_ _
      rotate_left
      go_simp
      refine hK _ _ ?_
      clear hK K
      try simp only [Act.put, List.setIfInBounds_toArray, List.set_cons_zero, List.set_cons_succ]
      refine wpAny_ready (rs := [1]) (by kernel_rfl) (by simp) ?_
      refine AllReady.cons (o := { dst := some 28, op := Op.load 22 (Operand.tmp 27), type := 22, pos := "l30_interrupt.go:66", after := #[{ on := 0, ground := Ground.data }], guard := none }) rfl (fun K hK => ?_) AllReady.nil
      go_simp
      refine hK _ _ ?_
      clear hK K
      try simp only [Act.put, List.setIfInBounds_toArray, List.set_cons_zero, List.set_cons_succ]
      refine wpAny_ready (rs := [8]) (by kernel_rfl) (by simp) ?_
      refine AllReady.cons (o := { dst := some 35, op := Op.call { callee := Callee.builtin Builtin.append, args := #[Operand.tmp 28, Operand.tmp 34], argTypes := #[22, 22] }, type := 22, pos := "l30_interrupt.go:66", after := #[{ on := 1, ground := Ground.data }, { on := 7, ground := Ground.data }, { on := 5, ground := Ground.chain }], guard := none }) rfl (fun K hK => ?_) AllReady.nil
      rw [if_pos (by first | rfl | decide)]
      (refine wp_append_lies _ _ _ _ (by rfl) (w1.heap.size + 1) 4 i1_ _ 1 1 Try.underlying22 hi1_ hz0_ hz1_ hz2_ rfl (by omega) _ j (blv ys) (by rfl) (by first | exact World.ownsRow.drew (ON2.out.alloc _) | exact (World.ownsRow.drew ON2.out).alloc _) ⟨w5.heap.size, 0, none⟩ 1 1 [.bool false] (by rfl) (by rfl) (World.news_of_block (t := 4) (fr := (0, 0)) (by first | exact row_drewV (heap_alloc_new w5 _) | exact heap_alloc_new w5.drew _)) (by simp [Value.oneCell']) (by omega) (by unfold maxLen; omega) (by omega) (by simp; omega) _ (by rfl) ?_; intro g3 cap3 wB hownB hgB hatB hltB; have ZB : wB.heap[w1.heap.size]? = some (.cells #[.int .i64 i0, (.slice (some ⟨gg, 0, none⟩) (j + 1) cap2), (.slice p2 j d2)] 26 (0, 0)) := (hgB.block (w1.heap.size) (by (try simp only [World.size_drew, World.size_alloc]); omega) (fun e => by have := own_from ON2.out _ e.symm; omega)).trans (by first | exact row_drewV (row_held (gby_alloc (gby_refl _ none) _) RN.out) | exact row_held (gby_alloc (gby_refl _ none) _) (row_drewV RN.out)); have b2 := cell_of_row wB _ 2 _ _ _ ZB; have f2 := frozen_of_row wB _ 2 _ _ ZB)
      refine hK _ _ ?_
      clear hK K
      try simp only [Act.put, List.setIfInBounds_toArray, List.set_cons_zero, List.set_cons_succ]
      refine wpAny_take (i := 9) (oi := { dst := some 36, op := Op.fieldAddr 26 (Operand.tmp 3) 2, type := 0, pos := "l30_interrupt.go:66", after := #[{ on := 0, ground := Ground.phase }, { on := 1, ground := Ground.phase }, { on := 2, ground := Ground.phase }, { on := 3, ground := Ground.phase }, { on := 4, ground := Ground.phase }, { on := 5, ground := Ground.phase }, { on := 6, ground := Ground.phase }, { on := 7, ground := Ground.phase }, { on := 8, ground := Ground.phase }], guard := none }) (v := ?v9p) rfl (by kernel_rfl) (by kernel_rfl) (by kernel_rfl) (fun _ _ _ h => h) (Or.inl ⟨by rfl, ?y9p⟩) ?r9p
      case y9p => (intro w; go_simp; all_goals (with_reducible rfl))
      try simp only [Act.put, List.setIfInBounds_toArray, List.set_cons_zero, List.set_cons_succ]
      refine wpAny_ready (rs := [10]) (by kernel_rfl) (by simp) ?_
      refine AllReady.cons (o := { dst := none, op := Op.store 22 (Operand.tmp 36) (Operand.tmp 35), type := 0, pos := "l30_interrupt.go:66", after := #[{ on := 9, ground := Ground.data }, { on := 8, ground := Ground.data }, { on := 8, ground := Ground.chain }, { on := 0, ground := Ground.phase }, { on := 1, ground := Ground.phase }, { on := 2, ground := Ground.phase }, { on := 3, ground := Ground.phase }, { on := 4, ground := Ground.phase }, { on := 5, ground := Ground.phase }, { on := 6, ground := Ground.phase }, { on := 7, ground := Ground.phase }, { on := 8, ground := Ground.phase }], guard := none }) rfl (fun K hK => ?_) AllReady.nil
      go_simp
      refine hK _ _ ?_
      clear hK K
      try simp only [Act.put, List.setIfInBounds_toArray, List.set_cons_zero, List.set_cons_succ]
      refine wpAny_done (by kernel_rfl) ?_ _
      all_goals
        skip
        have HOB := Lib.hid hownB
        have HGB := Lib.hid (show (w1).grownBy wB (some c) from gby_new (by first | exact gby_drew (gby_alloc GN.out _) | exact gby_alloc (gby_drew GN.out) _) hgB (fun i hi => by have := own_from ON2.out i hi; (try simp only [World.size_alloc]); omega))
        have HCB := Lib.hid (show Cur wB c from cur_other (by first | exact cur_kept CN.out (gby_drew (gby_alloc (gby_refl _ none) _)) (by simp) | exact cur_kept CN.out (gby_alloc (gby_drew (gby_refl _ none)) _) (by simp)) hgB (fun i hi => by have := own_from ON2.out i hi; omega))
        have HZB := Lib.hid ZB
        have O1B := Lib.hid (own_aside (by first | exact World.ownsRow.drew (ON1.out.alloc _) | exact (World.ownsRow.drew ON1.out).alloc _) hgB AN.out.symm)
        have APB := Lib.hid (apart_new (m := j + 1) (c := cap3) ON1.out AN.out.symm hatB (by (try simp only [World.size_drew, World.size_alloc]); omega))
        have sB := hgB.size
        (try simp only [World.size_alloc, World.size_drew] at sB)
        try clear b2 f2
        try clear a2 a2c
        try clear a2d
        clear hgB hownB hatB hltB ZB
        have zr_ := Lib.hid (show (wB.setCell ⟨w1.heap.size, 2, none⟩ (.slice (some ⟨g3, 0, none⟩) (j + 1) cap3)).heap[w1.heap.size]? = some (.cells #[.int .i64 i0, (.slice (some ⟨gg, 0, none⟩) (j + 1) cap2), (.slice (some ⟨g3, 0, none⟩) (j + 1) cap3)] 26 (0, 0)) from heap_setCell_same _ _ 2 _ _ _ HZB.out)
        go_wp2
        refine ⟨⟨j + 1, xs ++ [false], ys ++ [false], _, _, by go_num, ⟨_, rfl⟩, by omega, by have := HLX.out; simp [this], by have := HLY.out; simp [this], ?_, zr_.out, ownsRow_setCell_below O1B.out (by dsimp only; omega) _, by rw [blv_append]; exact ownsRow_setCell_below HOB.out (by dsimp only; omega) _, APB.out.symm, ?_, ?_⟩, by simp [intOf]; omega⟩
        · exact imp_app HLX.out HLY.out HIM.out (by intro h; cases h)
        · exact cur_other HCB.out (gby_set (gby_refl _ _) _ _) (fun i hi => by have h2 := Option.some.inj hi; omega)
        · exact gby_setnew HGB.out _ (by dsimp only; (try simp only [World.size_alloc]); omega) _

    · skip
      go_wp2_with fail
      go_region_law (first
        | (go_simp; go_at_call 112; refine (once_any _ c 2 HCD.out (by omega) (by omega)).mono ?_; rintro e wA ⟨qb, rfl, HA, gA⟩; have ZA := Chg.keep (chg_cur gA) HBD.out (by omega); have a2 := cell_of_row wA _ 2 _ _ _ ZA; have ZC := row_held (gby_alloc (gby_refl wA none) (.cells #[.bool qb] 4)) ZA; have a2c := cell_of_row _ _ 2 _ _ _ ZC; have OA1 := own_keptV HO1d.out gA (by omega); have OA2 := own_keptV HO2d.out gA (by omega); have sA := gA.size; (try simp only [World.size_drew] at sA); have GA_ := gby_trans HTD.out gA)
        | (refine step_append_lies _ (by rfl) _ _ _ (by rfl) (w1.heap.size + 1) 4 i1_ _ 1 1 Try.underlying22 hi1_ hz0_ hz1_ hz2_ rfl (by omega) _ j (blv ys) (by rfl) (OA2.alloc _) ⟨wA.heap.size, 0, none⟩ 1 1 _ (by rfl) (by rfl) (World.news_of_block (t := 4) (fr := (0, 0)) (heap_alloc_new wA _)) (by simp [Value.oneCell']) (by omega) (by unfold maxLen; omega) (by omega) (by simp; omega) _ (by rfl) ?_; intro g3 cap3 wB hownB hgB hatB hltB; have ZB : wB.heap[w1.heap.size]? = some (.cells #[.int .i64 i0, (.slice (some ⟨gg, 0, none⟩) (j + 1) cap2), (.slice p2 j d2)] 26 (0, 0)) := (hgB.block (w1.heap.size) (by (try simp only [World.size_drew, World.size_alloc]); omega) (fun e => by have := own_from OA2 _ e.symm; omega)).trans (row_held (gby_alloc (gby_refl _ none) _) ZA); have b2 := cell_of_row wB _ 2 _ _ _ ZB; have f2 := frozen_of_row wB _ 2 _ _ ZB)
        | fail)
      all_goals
        skip
        have HOB := Lib.hid hownB
        have HGB := Lib.hid (show (w1).grownBy wB (some c) from gby_new (gby_alloc GA_ _) hgB (fun i hi => by have := own_from OA2 i hi; (try simp only [World.size_alloc]); omega))
        have HCB := Lib.hid (show Cur wB c from cur_other (cur_kept HA (World.grownBy_alloc _ _ none) (by simp)) hgB (fun i hi => by have := own_from OA2 i hi; omega))
        have HZB := Lib.hid ZB
        have O1B := Lib.hid (own_aside (OA1.alloc _) hgB AN.out.symm)
        have APB := Lib.hid (apart_new (m := j + 1) (c := cap3) OA1 AN.out.symm hatB (by (try simp only [World.size_drew, World.size_alloc]); omega))
        have sB := hgB.size
        (try simp only [World.size_alloc, World.size_drew] at sB)
        try clear b2 f2
        try clear a2 a2c
        try clear a2d
        clear hgB hownB hatB hltB ZB
        have zr_ := Lib.hid (show (wB.setCell ⟨w1.heap.size, 2, none⟩ (.slice (some ⟨g3, 0, none⟩) (j + 1) cap3)).heap[w1.heap.size]? = some (.cells #[.int .i64 i0, (.slice (some ⟨gg, 0, none⟩) (j + 1) cap2), (.slice (some ⟨g3, 0, none⟩) (j + 1) cap3)] 26 (0, 0)) from heap_setCell_same _ _ 2 _ _ _ HZB.out)
        go_wp2
        refine ⟨⟨j + 1, xs ++ [true], ys ++ [qb], _, _, by go_num, ⟨_, rfl⟩, by omega, by have := HLX.out; simp [this], by have := HLY.out; simp [this], ?_, zr_.out, ownsRow_setCell_below O1B.out (by dsimp only; omega) _, by rw [blv_append]; exact ownsRow_setCell_below HOB.out (by dsimp only; omega) _, APB.out.symm, ?_, ?_⟩, by simp [intOf]; omega⟩
        · exact imp_app HLX.out HLY.out HIM.out (by intro _; rfl)
        · exact cur_other HCB.out (gby_set (gby_refl _ _) _ _) (fun i hi => by have h2 := Option.some.inj hi; omega)
        · exact gby_setnew HGB.out _ (by dsimp only; (try simp only [World.size_alloc]); omega) _

set_option maxHeartbeats 1000000 in
theorem drawVec_any (W : World) (a : Option Addr) (len cap : Nat) (zs : List Int) (hB : Bytes W a len zs) (hl : len ≤ 1048576) : Calls Try.prog 24 #[.slice a len cap] W (DrawnVec none W) := by
  have HB := Lib.hid hB
  clear hB
  go_enter Try.func24, Try.ntmps24
  have HB0 := Lib.hid (bytes_grow HB.out (gby_alloc (gby_refl W none) (.cells #[.int .i64 0, .slice none 0 0, .slice none 0 0] 26)))
  have r0 := Lib.hid (heap_alloc_new W (.cells #[.int .i64 0, .slice none 0 0, .slice none 0 0] 26))
  have G0 := Lib.hid (gby_alloc (gby_refl W none) (.cells #[.int .i64 0, .slice none 0 0, .slice none 0 0] 26))
  go_wp2_with fail
  go_at_call 74
  refine (new_any _ _ _ _ _ HB0.out hl).mono ?_
  rintro e w1 ⟨c, rfl, hc, H1, G1⟩
  simp only [World.size_alloc] at hc
  have HC1 := Lib.hid H1
  have r1 := Lib.hid (row_held G1 r0.out)
  have hs1 := G1.size
  simp only [World.size_alloc] at hs1
  have HG1 := Lib.hid (gby_trans G0.out G1)
  have hcl := cur_lt H1
  clear H1 G1
  go_wp2_with fail
  go_at_call 73
  refine (vectors30_any _ c HC1.out).mono ?_
  rintro e w2 ⟨i0, v1, v2, xs, ys, rfl, hok, o, g⟩
  obtain ⟨p1, n1, c1, hv_⟩ := RdL.form (OwU.rd o)
  subst hv_
  obtain ⟨p2, n2, c2, hv_⟩ := RdL.form (OwU.rd (OwU.tail o))
  subst hv_
  have hs2 := g.size
  have r2 := Lib.hid (show w2.heap[W.heap.size]? = some (.cells #[.int .i64 0, .slice none 0 0, .slice none 0 0] 26 (0, 0)) from Chg.keep (chg_cur g) r1.out (by omega))
  have HG2 := Lib.hid (gby_own HG1.out g (by omega))
  have HO := Lib.hid o
  have HOK := Lib.hid hok
  clear g o hok
  have c0_ := cell_of_row _ _ 0 _ _ _ r2.out
  have f0_ := frozen_of_row _ _ 0 _ _ r2.out
  have c1_ := cell_of_row _ _ 1 _ _ _ r2.out
  have f1_ := frozen_of_row _ _ 1 _ _ r2.out
  have c2_ := cell_of_row _ _ 2 _ _ _ r2.out
  have f2_ := frozen_of_row _ _ 2 _ _ r2.out
  have zr_ := Lib.hid (show ((((w2.setCell ⟨W.heap.size, 0, none⟩ (.int .i64 i0)).setCell ⟨W.heap.size, 1, none⟩ (.slice p1 n1 c1)).setCell ⟨W.heap.size, 2, none⟩ (.slice p2 n2 c2))).heap[W.heap.size]? = some (.cells #[.int .i64 i0, .slice p1 n1 c1, .slice p2 n2 c2] 26 (0, 0)) from (heap_setCell_same _ _ 2 _ _ _ (heap_setCell_same _ _ 1 _ _ _ (heap_setCell_same _ _ 0 _ _ _ r2.out))))
  have z0_ : ((((w2.setCell ⟨W.heap.size, 0, none⟩ (.int .i64 i0)).setCell ⟨W.heap.size, 1, none⟩ (.slice p1 n1 c1)).setCell ⟨W.heap.size, 2, none⟩ (.slice p2 n2 c2))).cell? ⟨W.heap.size, 0, none⟩ = some (.int .i64 i0) := cell_of_row _ _ 0 _ _ _ zr_.out
  have z1_ : ((((w2.setCell ⟨W.heap.size, 0, none⟩ (.int .i64 i0)).setCell ⟨W.heap.size, 1, none⟩ (.slice p1 n1 c1)).setCell ⟨W.heap.size, 2, none⟩ (.slice p2 n2 c2))).cell? ⟨W.heap.size, 1, none⟩ = some (.slice p1 n1 c1) := cell_of_row _ _ 1 _ _ _ zr_.out
  have z2_ : ((((w2.setCell ⟨W.heap.size, 0, none⟩ (.int .i64 i0)).setCell ⟨W.heap.size, 1, none⟩ (.slice p1 n1 c1)).setCell ⟨W.heap.size, 2, none⟩ (.slice p2 n2 c2))).cell? ⟨W.heap.size, 2, none⟩ = some (.slice p2 n2 c2) := cell_of_row _ _ 2 _ _ _ zr_.out
  go_wp2
  refine bodyPost_ret (v := .agg #[.int .i64 i0, .slice p1 n1 c1, .slice p2 n2 c2]) (by simp [results, go_sem, z0_, z1_, z2_]) rfl ⟨i0, _, _, xs, ys, rfl, HOK.out, ?_, ?_⟩
  · exact OwU.wide (by omega) (by simp only [World.size_setCell]; omega) (OwU.keep (chg_one _ _ _ _) (.inr (by omega)) (OwU.keep (chg_one _ _ _ _) (.inr (by omega)) (OwU.keep (chg_one _ _ _ _) (.inr (by omega)) HO.out)))
  · exact (gby_setnew (gby_setnew (gby_setnew HG2.out _ (by dsimp only; omega) _) _ (by dsimp only; omega) _) _ (by dsimp only; omega) _)

end Go.Proofs.Ytomiicegkdogkaa
