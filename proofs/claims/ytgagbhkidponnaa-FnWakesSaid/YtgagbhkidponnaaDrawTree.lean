/-
  Valid trees drawn by the model.
-/
import Derived.Test.YtgagbhkidponnaaAppP
import Derived.Test.YtgagbhkidponnaaDrawNumber
import Derived.Test.YtgagbhkidponnaaShpI
import Derived.Test.YtgagbhkidponnaaOwS
import Derived.Test.YtgagbhkidponnaaQSNode
import Derived.Lib.SliceRun
import Derived.Test.YtgagbhkidponnaaTreeB
import Derived.Deep.RegionHeld3
import Derived.Deep.AppendLies
namespace Go.Proofs.Ytgagbhkidponnaa
open Go Go.RowKit
set_option linter.unusedVariables false

theorem owr_low {w : World} {b base : Nat} {e : TypeId} {n m : Nat} {v : Value} {xs : List Value} (h : w.ownsRow b e n v m xs) (hb : base ≤ b) : w.ownsRow base e n v m xs := by
  obtain ⟨h1, h2⟩ := h
  refine ⟨h1, ?_⟩
  rcases h2 with h | ⟨g, cap, cur, e1, e2, e3⟩
  · exact .inl h
  · exact .inr ⟨g, cap, cur, e1, by omega, e3⟩

section
variable {α : Type} [Inhabited α] {s : Shp α} {c : α → List Value}
theorem step_clone_prow (pl : Plain s c) {T e : TypeId} (hT : SlT T e s.n) {ops : Array Oper} {o : Oper} {ac : Act} {K : Act → World → Prop} {Q : Exit → Act → World → Prop} {E : Prop} (w : World) (hgd : o.guard = none) (l x : Operand)
    (ho : o.op = .call { callee := .builtin .append, args := #[l, x], argTypes := #[T, T] })
    (B : Nat) (hs : ac.eval l = .slice (some ⟨B, 0, none⟩) 0 0) (hB : w.heap[B]? = some (.cells #[] e (0, 0)))
    (a2 : Option Addr) (m cap : Nat) (xs : List α) (hx : ac.eval x = .slice a2 m cap) (H : RdL s w (.slice a2 m cap) xs) (hb : m ≤ 100000000)
    (h : ∀ g cap' w', w'.ownsRow B e s.n (.slice (some ⟨g, 0, none⟩) m cap') m (xs.flatMap c) → w.grownBy w' (some B) → (g = B ∨ g = w.heap.size) → g < w'.heap.size → K (ac.put o.dst (.slice (some ⟨g, 0, none⟩) m cap')) w') :
    if Region.wanted o (yielded ops ac.tmps) = true then Oper.wp Try.prog o ac w K Q else E := by
  have hw : Region.wanted o (yielded ops ac.tmps) = true := by simp [Region.wanted, hgd]
  rw [if_pos hw]
  have hBs : B < w.heap.size := (Array.getElem?_eq_some_iff.1 hB).1
  have hown : w.ownsRow B e s.n (.slice (some ⟨B, 0, none⟩) 0 0) 0 [] := ⟨by simp, .inr ⟨B, 0, #[], rfl, Nat.le_refl _, hB, Nat.le_refl _, by unfold maxLen; omega, by simp, by simp⟩⟩
  obtain ⟨hm, _, _⟩ := rdP_cells pl H
  obtain ⟨v', w', hr, h2, h3, h5⟩ := run_append_plain pl hT w o.type B _ 0 [] hown a2 m cap xs H (by omega) (by omega)
  have h20 := h2
  rcases h2.2 with ⟨rfl, _⟩ | ⟨g, cap', cur, rfl, q1, q2, q3, q4, q5, q6⟩
  · simp [Value.ownBlock] at h5
  · simp only [Value.ownBlock, Option.some.injEq] at h5
    rw [Nat.zero_add] at hr h20
    unfold Oper.wp
    simp [execOp, ho, resolve, invoke, builtin, hs, hx, hr, Result.andThen]
    exact h g cap' w' (by simpa using h20) h3 h5 (Array.getElem?_eq_some_iff.1 q2).1
end

end Go.Proofs.Ytgagbhkidponnaa

namespace Go.Proofs.Ytgagbhkidponnaa
open Go Go.RowKit
set_option linter.unusedVariables false

theorem gby_some {w a : World} (g : w.grownBy a none) (r : Option Nat) : w.grownBy a r := ⟨g.os, g.tape, g.output, g.size, fun k hk _ => g.block k hk (by simp)⟩
theorem chg_cur {w w' : World} {c : Nat} (g : w.grownBy w' (some c)) : Chg w w' c (c + 1) := chg_row g (fun i h => by obtain rfl := Option.some.inj h; omega)
theorem bytes_grow {w w' : World} {a : Option Addr} {len : Nat} {zs : List Int} (h : Bytes w a len zs) (g : w.grownBy w' none) : Bytes w' a len zs := by
  rcases h with h0 | ⟨b, off, ha, hk⟩
  · exact .inl h0
  · exact .inr ⟨b, off, ha, fun k hlt => ⟨g.cell (hk k hlt).1 (by simp), (hk k hlt).2⟩⟩
/-- the drawn numbers, one by one -/
theorem OwI.twelve {w : World} {lo hi : Nat} {v : Value} {xs : List Int} (h : OwI w lo hi v xs) (hl : xs.length = 12) : ∃ b off cap, v = .slice (some ⟨b, off, none⟩) 12 cap ∧ ∀ k, k < 12 → w.cell? ⟨b, off + k, none⟩ = some (.int .i64 (xs.getD k 0)) := by
  obtain ⟨a, cap, rfl, h, _⟩ := h
  obtain ⟨b, off, rfl, hc⟩ := h.isl.2.resolve_left (by omega)
  exact ⟨b, off, cap, by rw [hl], fun k hk => hc k (by omega)⟩

end Go.Proofs.Ytgagbhkidponnaa

namespace Go.Proofs.Ytgagbhkidponnaa
open Go Go.RowKit
set_option linter.unusedVariables false

theorem plainNode : Plain shNode (fun x => [.int .i64 x.f0, .int .i64 x.f1, .int .i64 x.f2]) := ⟨fun _ => rfl, by decide, fun h => h, fun _ _ => rfl, fun _ _ _ _ => rfl, fun x u hu => by simp only [List.mem_cons, List.not_mem_nil, or_false] at hu; rcases hu with rfl | rfl | rfl <;> rfl⟩
theorem slTNode : SlT 26 72 3 := slT_of Try.underlying26 infoNodeS rfl (by omega)

/-- a clone -/
def ClonedNode (xs : List DNode) (W : World) (e : Ending) (w' : World) : Prop := ∃ v', e = .returned v' ∧ OwL shNode w' W.heap.size w'.heap.size v' xs ∧ W.grownBy w' none
/-- .. as a row -/
def ClonedRowNode (xs : List DNode) (W : World) (e : Ending) (w' : World) : Prop := ∃ v', e = .returned v' ∧ w'.ownsRow W.heap.size 72 3 v' xs.length (xs.flatMap (fun x => [.int .i64 x.f0, .int .i64 x.f1, .int .i64 x.f2])) ∧ W.grownBy w' none
set_option maxHeartbeats 1000000 in
theorem cloneNode_row (W : World) (v : Value) (xs : List DNode) (H : RdL shNode W v xs) (hl : szL shNode xs ≤ 1048576) :
    Calls Try.prog 77 #[v] W (ClonedRowNode xs W) := by
  have q22 : ∀ (w : World) (a : Option Addr) (n c n' c' : Nat), (binOp .eql 26 (.slice a n c) (.slice none n' c')).run Try.prog w = .ok (.bool a.isNone) w := fun w a n c n' c' => Lib.run_eql_slice_nil w _ _ a n c n' c' Try.underlying26
  have hl1 : xs.length ≤ 1048576 := Nat.le_trans (szL_len _ _) hl
  have hmx := H.max
  obtain ⟨a, n, cap, rfl⟩ := RdL.form H
  cases a with
  | none =>
    have hr := rdP_cells plainNode H
    have h0 : n = 0 := by
      rcases hr.2.2 with h | ⟨b, off, h, _⟩
      · exact h
      · cases h
    obtain rfl : xs = [] := List.eq_nil_of_length_eq_zero (hr.1.symm.trans h0)
    subst h0
    obtain rfl := hr.2.1 rfl
    clear hr H hmx hl hl1
    go_enter Try.func77, Try.ntmps77
    go_wp2
    go_ret
    exact ⟨_, rfl, World.ownsRow_nil _ _ _ _, gby_refl _ _⟩
  | some p =>
    have hn : n = xs.length := (rdP_cells plainNode H).1
    have HX := Lib.hid H
    have HN := Lib.hid hn
    have hn1 : n ≤ 1048576 := by omega
    have HM := Lib.hid hmx
    clear H hmx hl hl1 hn
    go_enter Try.func77, Try.ntmps77
    go_wp2_with (at_builtin; refine wpList_append_plain plainNode slTNode _ rfl _ _ rfl W.heap.size _ 0 [] rfl (World.ownsRow_made W #[] 0 (Nat.le_refl _) (by unfold maxLen; omega) (by simp)) (some p) n cap xs rfl (HX.out.grow (gby_alloc (gby_refl _ _) _)) (by omega) (by simp) ?_; intro v2 w2 hown2 hg2; have HO2 := Lib.hid (show w2.ownsRow W.heap.size 72 3 v2 xs.length (xs.flatMap (fun x => [.int .i64 x.f0, .int .i64 x.f1, .int .i64 x.f2])) by have q := hown2; rw [Nat.zero_add, List.nil_append, HN.out] at q; exact q); have HG2 := Lib.hid (gby_new (gby_alloc (gby_refl W none) _) (show (W.alloc (.cells #[] 72)).grownBy w2 (some W.heap.size) from hg2) (fun i hi => by obtain rfl := Option.some.inj hi; exact Nat.le_refl _)); clear hown2 hg2)
    go_ret
    exact ⟨_, rfl, HO2.out, HG2.out⟩

theorem cloneNode_d (W : World) (v : Value) (xs : List DNode) (H : RdL shNode W v xs) (hl : szL shNode xs ≤ 1048576) :
    Calls Try.prog 77 #[v] W (ClonedNode xs W) :=
  (cloneNode_row W v xs H hl).mono (fun e w' ⟨v', he, h, g⟩ => ⟨v', he, owP_row _ plainNode.len plainNode.ow H.max h, g⟩)

end Go.Proofs.Ytgagbhkidponnaa

namespace Go.Proofs.Ytgagbhkidponnaa
open Go Go.RowKit
set_option linter.unusedVariables false

theorem gsz {w w' : World} {r : Option Nat} (g : w.grownBy w' r) : w.heap.size ≤ w'.heap.size := g.size
theorem tok_one : TOk [(⟨-1, 0, 0⟩ : DNode)] := ⟨by simp, ⟨rfl, rfl, rfl⟩, fun k h1 h2 => by simp at h2; omega⟩
theorem six_cells (w : World) (a b c d e f : Int) : ∀ k, k < 6 → ∃ n, (w.alloc (.cells #[.int .i64 a, .int .i64 b, .int .i64 c, .int .i64 d, .int .i64 e, .int .i64 f] 3)).cell? ⟨w.heap.size, k, none⟩ = some (.int .i64 n) ∧ True := by
  intro k hk
  rw [cell_of_row _ _ _ _ _ _ (heap_alloc_new w _)]
  match k, hk with
  | 0, _ => exact ⟨_, rfl, trivial⟩
  | 1, _ => exact ⟨_, rfl, trivial⟩
  | 2, _ => exact ⟨_, rfl, trivial⟩
  | 3, _ => exact ⟨_, rfl, trivial⟩
  | 4, _ => exact ⟨_, rfl, trivial⟩
  | 5, _ => exact ⟨_, rfl, trivial⟩
  | n + 6, h => omega

set_option maxRecDepth 8000 in
set_option maxHeartbeats 4000000 in
theorem tree19_any (W : World) (c : Nat) (H : Cur W c) : Calls Try.prog 58 #[.pointer (some ⟨c, 0, none⟩)] W (fun e w' => ∃ (v : Value) (xs : List DNode), e = .returned v ∧ TOk xs ∧ OwL shNode w' W.heap.size w'.heap.size v xs ∧ Cur w' c ∧ W.grownBy w' (some c)) := by
  have hcl_ := cur_lt H
  have HCU := Lib.hid H
  clear H
  obtain ⟨i1_, hi1_, hz0_, hz1_, hz2_⟩ := info_parts infoNodeS
  go_enter Try.func58, Try.ntmps58
  have HTM1_ := Lib.hid (gby_refl (W) (some c))
  have MG2_ := Lib.hid (show (W).grownBy (W) (some c) from (gby_refl _ _))
  have al_ : (W).grownBy ((W).alloc (.cells #[.int .i64 (-1), .int .i64 0, .int .i64 0] 72)) none := gby_alloc (gby_refl _ _) _
  have G3_ := Lib.hid (show (W).grownBy ((W.alloc (.cells #[.int .i64 (-1), .int .i64 0, .int .i64 0] 72))) (some c) from gby_trans (gby_refl _ _) (gby_some al_ _))
  have HCU4_ := Lib.hid (show Cur ((W.alloc (.cells #[.int .i64 (-1), .int .i64 0, .int .i64 0] 72))) c from cur_kept HCU.out al_ (by simp))
  have HTM5_ := Lib.hid (show (W).grownBy ((W.alloc (.cells #[.int .i64 (-1), .int .i64 0, .int .i64 0] 72))) (some c) from gby_trans HTM1_.out (gby_some al_ _))
  clear HTM1_
  have rT06_ := Lib.hid (show ((W.alloc (.cells #[.int .i64 (-1), .int .i64 0, .int .i64 0] 72))).heap[W.heap.size]? = some (.cells #[.int .i64 (-1), .int .i64 0, .int .i64 0] 72 (0, 0)) from by first | exact heap_alloc_new _ _ | exact heap_pair _ _ _ | exact heap_trip _ _ _ _)
  clear al_
  have T0_0_ : ((W.alloc (.cells #[.int .i64 (-1), .int .i64 0, .int .i64 0] 72))).cell? ⟨W.heap.size, 0, none⟩ = some (.int .i64 (-1)) := cell_of_row _ _ 0 _ _ _ rT06_.out
  have T0_1_ : ((W.alloc (.cells #[.int .i64 (-1), .int .i64 0, .int .i64 0] 72))).cell? ⟨W.heap.size, 1, none⟩ = some (.int .i64 0) := cell_of_row _ _ 1 _ _ _ rT06_.out
  have T0_2_ : ((W.alloc (.cells #[.int .i64 (-1), .int .i64 0, .int .i64 0] 72))).cell? ⟨W.heap.size, 2, none⟩ = some (.int .i64 0) := cell_of_row _ _ 2 _ _ _ rT06_.out
  have HO0 := Lib.hid (show OwL shNode ((W.alloc (.cells #[.int .i64 (-1), .int .i64 0, .int .i64 0] 72))) W.heap.size ((W.alloc (.cells #[.int .i64 (-1), .int .i64 0, .int .i64 0] 72))).heap.size (.slice (some ⟨W.heap.size, 0, none⟩) 1 1) [(⟨-1, 0, 0⟩ : DNode)] from owP_row (e := 72) _ plainNode.len plainNode.ow (by simp) ⟨rfl, .inr ⟨W.heap.size, 1, _, rfl, Nat.le_refl _, rT06_.out, Nat.le_refl _, by unfold maxLen; omega, rfl, rfl⟩⟩)
  go_wp2
  go_loopw [3, 4, 5, 6] (fun v i z1 z2 wr => ∃ (n : Nat) (xs : List DNode), i = .int .i64 (n : Int) ∧ n ≤ 10 ∧ (∃ q, z1 = q) ∧ (∃ q, z2 = q) ∧ TOk xs ∧ OwL shNode wr W.heap.size wr.heap.size v xs ∧ Cur wr c ∧ (W).grownBy wr (some c)) (fun _ i _ _ _ => 11 - (intOf i).toNat)
  case atStart => exact ⟨0, _, rfl, by omega, ⟨_, rfl⟩, ⟨_, rfl⟩, tok_one, HO0.out, HCU4_.out, HTM5_.out⟩
  case round =>
    clear T0_0_ T0_1_ T0_2_
    clear rT06_
    clear HTM5_
    clear HCU4_
    obtain ⟨n, xs, rfl, hn, ⟨z1, rfl⟩, ⟨z2, rfl⟩, hto, hown, hcu, hg⟩ := hrel
    have szr_ := hg.size
    try simp only [World.size_alloc, World.size_setCell] at szr_
    have G7_ := Lib.hid (show (W).grownBy (wr) (some c) from gby_trans MG2_.out hg)
    have HCU8_ := Lib.hid (show Cur (wr) c from hcu)
    have HTM9_ := Lib.hid hg
    clear hg hcu
    have HTO := Lib.hid hto
    have hx1 := hto.1.1
    have hx2 := hto.1.2
    clear hto
    have hn0 : (0 : Int) ≤ (n : Int) := by omega
    have htn : ((n : Int)).toNat = n := by omega
    obtain ⟨pa, pn, pc, hv_⟩ := RdL.form hown.rd
    have hpn : pn = xs.length := by obtain ⟨_, _, e, _⟩ := hown.rd; rw [hv_] at e; injection e
    subst hv_
    have HPN := Lib.hid hpn
    have HO := Lib.hid hown
    have hpn1 : 1 ≤ pn := by omega
    have hpn12 : pn ≤ 12 := by omega
    clear hown hpn
    have oO10_ := Lib.hid (show OwU (wr) (W.heap.size) (wr.heap.size) [] [own shNode (.slice pa pn pc) xs] from OwU.one HO.out)
    clear HO
    go_wp2_with fail
    go_at_call 61
    refine (below_any _ _ _ HCU8_.out (by omega) (by omega)).mono ?_
    rintro e w1 ⟨x, ⟨x1, x2⟩, rfl, H1_, g⟩
    have szw1 := g.size
    try simp only [World.size_alloc] at szw1
    try simp only [World.size_setCell] at szw1
    have oO11_ := Lib.hid (show OwU (w1) (W.heap.size) (wr.heap.size) [] [own shNode (.slice pa pn pc) xs] from OwU.keep (chg_cur g) (by omega) oO10_.out)
    clear oO10_
    have G12_ := Lib.hid (show (W).grownBy (w1) (some c) from gby_trans G7_.out g)
    clear HCU8_
    have HCU13_ := Lib.hid (show Cur (w1) c from H1_)
    have HTM14_ := Lib.hid (show (W).grownBy (w1) (some c) from gby_trans HTM9_.out g)
    clear HTM9_
    clear g H1_
    have e1_ : IntKind.i64.wrap (3 + x) = 3 + x := IntWalk.i64_in _ (by omega)
    by_cases hlt : (n : Int) < 3 + x
    rotate_left
    · skip
      go_wp2
      go_ret
      exact ⟨_, xs, rfl, HTO.out, (by obtain ⟨a_, b_, q1, q2, _, q3, _⟩ := (show OwU _ _ _ [] [own shNode _ _] from oO11_.out); exact OwL.wide q3 q1 (by omega)), HCU13_.out, G12_.out⟩
    have hpi : (0 : Int) < (pn : Int) := by omega
    go_wp2_with fail
    go_at_call 61
    refine (below_any _ _ _ HCU13_.out (by omega) (by omega)).mono ?_
    rintro e w2 ⟨y0, ⟨y1, y2⟩, rfl, H1_, g⟩
    have szw2 := g.size
    try simp only [World.size_alloc] at szw2
    try simp only [World.size_setCell] at szw2
    have oO15_ := Lib.hid (show OwU (w2) (W.heap.size) (wr.heap.size) [] [own shNode (.slice pa pn pc) xs] from OwU.keep (chg_cur g) (by omega) oO11_.out)
    clear oO11_
    have G16_ := Lib.hid (show (W).grownBy (w2) (some c) from gby_trans G12_.out g)
    clear HCU13_
    have HCU17_ := Lib.hid (show Cur (w2) c from H1_)
    have HTM18_ := Lib.hid (show (W).grownBy (w2) (some c) from gby_trans HTM14_.out g)
    clear HTM14_
    clear g H1_
    go_wp2_with fail
    go_at_call 61
    refine (below_any _ _ _ HCU17_.out (by omega) (by omega)).mono ?_
    rintro e w3 ⟨d0, ⟨d1, d2⟩, rfl, H1_, g⟩
    have szw3 := g.size
    try simp only [World.size_alloc] at szw3
    try simp only [World.size_setCell] at szw3
    have oO19_ := Lib.hid (show OwU (w3) (W.heap.size) (wr.heap.size) [] [own shNode (.slice pa pn pc) xs] from OwU.keep (chg_cur g) (by omega) oO15_.out)
    clear oO15_
    have G20_ := Lib.hid (show (W).grownBy (w3) (some c) from gby_trans G16_.out g)
    clear HCU17_
    have HCU21_ := Lib.hid (show Cur (w3) c from H1_)
    have HTM22_ := Lib.hid (show (W).grownBy (w3) (some c) from gby_trans HTM18_.out g)
    clear HTM18_
    clear g H1_
    have al_ : (w3).grownBy ((w3).alloc (.cells #[.int .i64 0, .int .i64 0, .int .i64 1, .int .i64 1, .int .i64 2, .int .i64 4] 3)) none := gby_alloc (gby_refl _ _) _
    have oO23_ := Lib.hid (show OwU ((w3.alloc (.cells #[.int .i64 0, .int .i64 0, .int .i64 1, .int .i64 1, .int .i64 2, .int .i64 4] 3))) (W.heap.size) (wr.heap.size) [] [own shNode (.slice pa pn pc) xs] from OwU.grow oO19_.out al_)
    clear oO19_
    have G24_ := Lib.hid (show (W).grownBy ((w3.alloc (.cells #[.int .i64 0, .int .i64 0, .int .i64 1, .int .i64 1, .int .i64 2, .int .i64 4] 3))) (some c) from gby_trans G20_.out (gby_some al_ _))
    have HCU25_ := Lib.hid (show Cur ((w3.alloc (.cells #[.int .i64 0, .int .i64 0, .int .i64 1, .int .i64 1, .int .i64 2, .int .i64 4] 3))) c from cur_kept HCU21_.out al_ (by simp))
    have HTM26_ := Lib.hid (show (W).grownBy ((w3.alloc (.cells #[.int .i64 0, .int .i64 0, .int .i64 1, .int .i64 1, .int .i64 2, .int .i64 4] 3))) (some c) from gby_trans HTM22_.out (gby_some al_ _))
    clear HTM22_
    have rL27_ := Lib.hid (show ((w3.alloc (.cells #[.int .i64 0, .int .i64 0, .int .i64 1, .int .i64 1, .int .i64 2, .int .i64 4] 3))).heap[w3.heap.size]? = some (.cells #[.int .i64 0, .int .i64 0, .int .i64 1, .int .i64 1, .int .i64 2, .int .i64 4] 3 (0, 0)) from by first | exact heap_alloc_new _ _ | exact heap_pair _ _ _ | exact heap_trip _ _ _ _)
    clear al_
    have L_0_ : ((w3.alloc (.cells #[.int .i64 0, .int .i64 0, .int .i64 1, .int .i64 1, .int .i64 2, .int .i64 4] 3))).cell? ⟨w3.heap.size, 0, none⟩ = some (.int .i64 0) := cell_of_row _ _ 0 _ _ _ rL27_.out
    have L_1_ : ((w3.alloc (.cells #[.int .i64 0, .int .i64 0, .int .i64 1, .int .i64 1, .int .i64 2, .int .i64 4] 3))).cell? ⟨w3.heap.size, 1, none⟩ = some (.int .i64 0) := cell_of_row _ _ 1 _ _ _ rL27_.out
    have L_2_ : ((w3.alloc (.cells #[.int .i64 0, .int .i64 0, .int .i64 1, .int .i64 1, .int .i64 2, .int .i64 4] 3))).cell? ⟨w3.heap.size, 2, none⟩ = some (.int .i64 1) := cell_of_row _ _ 2 _ _ _ rL27_.out
    have L_3_ : ((w3.alloc (.cells #[.int .i64 0, .int .i64 0, .int .i64 1, .int .i64 1, .int .i64 2, .int .i64 4] 3))).cell? ⟨w3.heap.size, 3, none⟩ = some (.int .i64 1) := cell_of_row _ _ 3 _ _ _ rL27_.out
    have L_4_ : ((w3.alloc (.cells #[.int .i64 0, .int .i64 0, .int .i64 1, .int .i64 1, .int .i64 2, .int .i64 4] 3))).cell? ⟨w3.heap.size, 4, none⟩ = some (.int .i64 2) := cell_of_row _ _ 4 _ _ _ rL27_.out
    have L_5_ : ((w3.alloc (.cells #[.int .i64 0, .int .i64 0, .int .i64 1, .int .i64 1, .int .i64 2, .int .i64 4] 3))).cell? ⟨w3.heap.size, 5, none⟩ = some (.int .i64 4) := cell_of_row _ _ 5 _ _ _ rL27_.out
    go_wp2_with fail
    go_at_call 88
    refine (pickInt_any _ _ _ _ _ (fun _ => True) HCU25_.out (by omega) (by omega) (by omega) (six_cells w3 0 0 1 1 2 4)).mono ?_
    rintro e w4 ⟨f0, hf_, rfl, H1_, g⟩
    have szw4 := g.size
    try simp only [World.size_alloc] at szw4
    try simp only [World.size_setCell] at szw4
    clear L_0_ L_1_ L_2_ L_3_ L_4_ L_5_
    have rL28_ := Lib.hid (show (w4).heap[w3.heap.size]? = some (.cells #[.int .i64 0, .int .i64 0, .int .i64 1, .int .i64 1, .int .i64 2, .int .i64 4] 3 (0, 0)) from Chg.keep (chg_cur g) rL27_.out (by omega))
    clear rL27_
    have oO29_ := Lib.hid (show OwU (w4) (W.heap.size) (wr.heap.size) [] [own shNode (.slice pa pn pc) xs] from OwU.keep (chg_cur g) (by omega) oO23_.out)
    clear oO23_
    have G30_ := Lib.hid (show (W).grownBy (w4) (some c) from gby_trans G24_.out g)
    clear HCU25_
    have HCU31_ := Lib.hid (show Cur (w4) c from H1_)
    have HTM32_ := Lib.hid (show (W).grownBy (w4) (some c) from gby_trans HTM26_.out g)
    clear HTM26_
    clear g H1_
    have L_0_ : (w4).cell? ⟨w3.heap.size, 0, none⟩ = some (.int .i64 0) := cell_of_row _ _ 0 _ _ _ rL28_.out
    have L_1_ : (w4).cell? ⟨w3.heap.size, 1, none⟩ = some (.int .i64 0) := cell_of_row _ _ 1 _ _ _ rL28_.out
    have L_2_ : (w4).cell? ⟨w3.heap.size, 2, none⟩ = some (.int .i64 1) := cell_of_row _ _ 2 _ _ _ rL28_.out
    have L_3_ : (w4).cell? ⟨w3.heap.size, 3, none⟩ = some (.int .i64 1) := cell_of_row _ _ 3 _ _ _ rL28_.out
    have L_4_ : (w4).cell? ⟨w3.heap.size, 4, none⟩ = some (.int .i64 2) := cell_of_row _ _ 4 _ _ _ rL28_.out
    have L_5_ : (w4).cell? ⟨w3.heap.size, 5, none⟩ = some (.int .i64 4) := cell_of_row _ _ 5 _ _ _ rL28_.out
    clear hf_
    clear L_0_ L_1_ L_2_ L_3_ L_4_ L_5_
    have al_ : (w4).grownBy ((w4).alloc (.cells #[.int .i64 y0, .int .i64 d0, .int .i64 f0] 72)) none := gby_alloc (gby_refl _ _) _
    have oO33_ := Lib.hid (show OwU ((w4.alloc (.cells #[.int .i64 y0, .int .i64 d0, .int .i64 f0] 72))) (W.heap.size) (wr.heap.size) [] [own shNode (.slice pa pn pc) xs] from OwU.grow oO29_.out al_)
    clear oO29_
    have G34_ := Lib.hid (show (W).grownBy ((w4.alloc (.cells #[.int .i64 y0, .int .i64 d0, .int .i64 f0] 72))) (some c) from gby_trans G30_.out (gby_some al_ _))
    have HCU35_ := Lib.hid (show Cur ((w4.alloc (.cells #[.int .i64 y0, .int .i64 d0, .int .i64 f0] 72))) c from cur_kept HCU31_.out al_ (by simp))
    have HTM36_ := Lib.hid (show (W).grownBy ((w4.alloc (.cells #[.int .i64 y0, .int .i64 d0, .int .i64 f0] 72))) (some c) from gby_trans HTM32_.out (gby_some al_ _))
    clear HTM32_
    have rN37_ := Lib.hid (show ((w4.alloc (.cells #[.int .i64 y0, .int .i64 d0, .int .i64 f0] 72))).heap[w4.heap.size]? = some (.cells #[.int .i64 y0, .int .i64 d0, .int .i64 f0] 72 (0, 0)) from by first | exact heap_alloc_new _ _ | exact heap_pair _ _ _ | exact heap_trip _ _ _ _)
    clear al_
    have N_0_ : ((w4.alloc (.cells #[.int .i64 y0, .int .i64 d0, .int .i64 f0] 72))).cell? ⟨w4.heap.size, 0, none⟩ = some (.int .i64 y0) := cell_of_row _ _ 0 _ _ _ rN37_.out
    have N_1_ : ((w4.alloc (.cells #[.int .i64 y0, .int .i64 d0, .int .i64 f0] 72))).cell? ⟨w4.heap.size, 1, none⟩ = some (.int .i64 d0) := cell_of_row _ _ 1 _ _ _ rN37_.out
    have N_2_ : ((w4.alloc (.cells #[.int .i64 y0, .int .i64 d0, .int .i64 f0] 72))).cell? ⟨w4.heap.size, 2, none⟩ = some (.int .i64 f0) := cell_of_row _ _ 2 _ _ _ rN37_.out
    have HRN := Lib.hid (rN37_.out)
    have HG0 := Lib.hid (show (W).grownBy ((w4.alloc (.cells #[.int .i64 y0, .int .i64 d0, .int .i64 f0] 72))) (some c) from G34_.out)
    have HCU0 := Lib.hid (HCU35_.out)
    have HOX := Lib.hid (show OwU ((w4.alloc (.cells #[.int .i64 y0, .int .i64 d0, .int .i64 f0] 72))) W.heap.size wr.heap.size [] [own shNode (.slice pa pn pc) xs] from oO33_.out)
    have HRD := Lib.hid (show RdL shNode ((w4.alloc (.cells #[.int .i64 y0, .int .i64 d0, .int .i64 f0] 72))) (.slice pa pn pc) xs from OwU.rd HOX.out)
    clear N_0_ N_1_ N_2_
    have k0 : ((w4.alloc (.cells #[.int .i64 y0, .int .i64 d0, .int .i64 f0] 72))).cell? ⟨w4.heap.size, 0, none⟩ = some (.int .i64 y0) := cell_of_row _ _ 0 _ _ _ HRN.out
    have k1 : ((w4.alloc (.cells #[.int .i64 y0, .int .i64 d0, .int .i64 f0] 72))).cell? ⟨w4.heap.size, 1, none⟩ = some (.int .i64 d0) := cell_of_row _ _ 1 _ _ _ HRN.out
    have k2 : ((w4.alloc (.cells #[.int .i64 y0, .int .i64 d0, .int .i64 f0] 72))).cell? ⟨w4.heap.size, 2, none⟩ = some (.int .i64 f0) := cell_of_row _ _ 2 _ _ _ HRN.out
    go_wp2_with fail
    go_region_held3 (fun w' => w'.cell? ⟨w4.heap.size, 0, none⟩ = some (.int .i64 y0) ∧ w'.cell? ⟨w4.heap.size, 1, none⟩ = some (.int .i64 d0) ∧ w'.cell? ⟨w4.heap.size, 2, none⟩ = some (.int .i64 f0))
      (first | exact ⟨kB0, kB1, kB2⟩ | exact ⟨kA0, kA1, kA2⟩ | exact ⟨k0, k1, k2⟩ | go_keep)
      (first
        | (refine step_clone_prow plainNode slTNode _ (by rfl) _ _ (by rfl) _ (by rfl) (by first | exact heap_pair w4 _ _ | exact heap_trip w4 _ _ _ | exact row_held (by repeat (first | exact gby_refl _ _ | (with_reducible refine gby_alloc ?_ _) | (with_reducible refine gby_drew ?_))) (heap_pair w4 _ _) | exact row_held (by repeat (first | exact gby_refl _ _ | (with_reducible refine gby_alloc ?_ _) | (with_reducible refine gby_drew ?_))) (heap_trip w4 _ _ _)) pa pn pc xs (by rfl) (HRD.out.grow (by repeat (first | exact gby_refl _ _ | (with_reducible refine gby_alloc ?_ _) | (with_reducible refine gby_drew ?_)))) (by omega) ?_; intro gA cA wA oA hgA hA sA; have kA0 : wA.cell? ⟨w4.heap.size, 0, none⟩ = some (.int .i64 y0) := hgA.cell (by go_keep) (by first | (simp; done) | (simp; omega)); have kA1 : wA.cell? ⟨w4.heap.size, 1, none⟩ = some (.int .i64 d0) := hgA.cell (by go_keep) (by first | (simp; done) | (simp; omega)); have kA2 : wA.cell? ⟨w4.heap.size, 2, none⟩ = some (.int .i64 f0) := hgA.cell (by go_keep) (by first | (simp; done) | (simp; omega)); have zA := hgA.size; have hgA2 := own_from oA gA rfl; (try simp at zA); (try simp at hA); (try simp at hgA2); (try have NA := (show wA.heap[w4.heap.size + 1]? = some (.cells #[.int .i64 y0, .int .i64 d0, .int .i64 f0] 72 (0, 0)) from (hgA.block _ (by first | (simp; done) | (simp; omega)) (by first | (simp; done) | (simp; omega))).trans (row_held (by repeat (first | exact gby_refl _ _ | (with_reducible refine gby_alloc ?_ _) | (with_reducible refine gby_drew ?_))) (heap_pair w4 _ _)))); (try have NA := (show wA.heap[w4.heap.size + 1 + 1]? = some (.cells #[.int .i64 y0, .int .i64 d0, .int .i64 f0] 72 (0, 0)) from (hgA.block _ (by first | (simp; done) | (simp; omega)) (by first | (simp; done) | (simp; omega))).trans (by first | exact heap_trip w4 _ _ _ | exact row_held (by repeat (first | exact gby_refl _ _ | (with_reducible refine gby_alloc ?_ _) | (with_reducible refine gby_drew ?_))) (heap_trip w4 _ _ _)))); have HRW := Lib.hid (show wA.ownsRow ((w4.alloc (.cells #[.int .i64 y0, .int .i64 d0, .int .i64 f0] 72))).heap.size 72 3 (.slice (some ⟨gA, 0, none⟩) pn cA) pn (xs.flatMap (fun x => [Value.int .i64 x.f0, Value.int .i64 x.f1, Value.int .i64 x.f2])) from owr_low oA (by first | exact Nat.le_refl _ | (simp; done) | (simp; omega))); have GA := Lib.hid (show ((w4.alloc (.cells #[.int .i64 y0, .int .i64 d0, .int .i64 f0] 72))).grownBy wA none from gby_new (by repeat (first | exact gby_refl _ _ | (with_reducible refine gby_alloc ?_ _) | (with_reducible refine gby_drew ?_))) hgA (fun i hi => by first | (simp at hi ⊢; omega) | (simp at hi; simp only [World.size_alloc]; omega) | omega)); clear hgA oA)
        | (refine step_append_lies _ (by rfl) _ _ _ (by rfl) ((w4.alloc (.cells #[.int .i64 y0, .int .i64 d0, .int .i64 f0] 72))).heap.size 72 i1_ _ 3 24 Try.underlying26 hi1_ hz0_ hz1_ hz2_ rfl (by omega) (.slice (some ⟨gA, 0, none⟩) pn cA) pn (xs.flatMap (fun x => [Value.int .i64 x.f0, Value.int .i64 x.f1, Value.int .i64 x.f2])) (by rfl) (by repeat (first | exact HRW.out | (with_reducible refine World.ownsRow.alloc ?_ _) | (with_reducible refine World.ownsRow.drew ?_))) _ 1 1 (#[Value.int .i64 y0, Value.int .i64 d0, Value.int .i64 f0] : Array Value).toList (by rfl) (by rfl) (World.news_of_block (t := 72) (fr := (0, 0)) (by first | exact heap_alloc_new wA _ | exact NA | exact row_held (by repeat (first | exact gby_refl _ _ | (with_reducible refine gby_alloc ?_ _) | (with_reducible refine gby_drew ?_))) NA)) (by simp [Value.oneCell']) (by omega) (by unfold maxLen; omega) (by omega) (by first | (simp; omega) | simp) _ (by rfl) ?_; intro gB cB wB oB hgB hB sB; have kB0 : wB.cell? ⟨w4.heap.size, 0, none⟩ = some (.int .i64 y0) := hgB.cell (by go_keep) (fun e => by have h2 := Option.some.inj (show some w4.heap.size = some gA from e); omega); have kB1 : wB.cell? ⟨w4.heap.size, 1, none⟩ = some (.int .i64 d0) := hgB.cell (by go_keep) (fun e => by have h2 := Option.some.inj (show some w4.heap.size = some gA from e); omega); have kB2 : wB.cell? ⟨w4.heap.size, 2, none⟩ = some (.int .i64 f0) := hgB.cell (by go_keep) (fun e => by have h2 := Option.some.inj (show some w4.heap.size = some gA from e); omega))
        | fail)
    all_goals
      have HWB := Lib.hid (show ((w4.alloc (.cells #[.int .i64 y0, .int .i64 d0, .int .i64 f0] 72))).grownBy wB none from gby_new (by repeat (first | exact GA.out | (with_reducible refine gby_alloc ?_ _) | (with_reducible refine gby_drew ?_))) hgB (fun i hi => by have h2 := Option.some.inj (show some gA = some i from hi); (try simp only [World.size_alloc]); omega))
      have hzB := gsz HWB.out
      (try simp only [World.size_alloc] at hzB)
      have HOY := Lib.hid (show OwL shNode wB W.heap.size wB.heap.size (.slice (some ⟨gB, 0, none⟩) (pn + 1) cB) (xs ++ [(⟨y0, d0, f0⟩ : DNode)]) from OwL.wide (owP_row _ plainNode.len plainNode.ow (by rw [List.length_append, List.length_singleton]; omega) (by rw [List.length_append, List.length_singleton, ← HPN.out, List.flatMap_append]; exact oB)) (by (try simp only [World.size_alloc]); omega) (Nat.le_refl _))
      have HCB := Lib.hid (show Cur wB c from cur_kept HCU0.out HWB.out (by simp))
      have HGB := Lib.hid (show W.grownBy wB (some c) from gby_trans HG0.out (gby_some HWB.out _))
      have HOB := Lib.hid (OwU.grow HOX.out HWB.out)
      clear oB hgB hB sB kA0 kA1 kA2 kB0 kB1 kB2 k0 k1 k2 hgA2 hA zA sA
      go_wp2_with fail
      go_at_call 74
      refine (specTree _ _ (xs ++ [(⟨y0, d0, f0⟩ : DNode)]) HOY.out.rd (by rw [szL_size0 (fun _ => rfl), List.length_append, List.length_singleton]; omega)).mono ?_
      rintro e w9 ⟨r, rfl, hr, g9⟩
      have HR := Lib.hid hr
      have HG9 := Lib.hid g9
      have hz9 := gsz g9
      clear hr g9
      cases r
      · go_wp2
        refine ⟨⟨n + 1, xs, by go_num, by omega, ⟨_, rfl⟩, ⟨_, rfl⟩, HTO.out, ?_, cur_kept HCB.out HG9.out (by simp), gby_trans HGB.out (gby_some HG9.out _)⟩, by simp [intOf]; omega⟩
        obtain ⟨a_, b_, q1, q2, _, q3, _⟩ := (show OwU _ _ _ [] [own shNode _ _] from HOB.out)
        exact OwL.wide (q3.grow HG9.out) q1 (by omega)
      · go_wp2
        exact ⟨⟨n + 1, xs ++ [(⟨y0, d0, f0⟩ : DNode)], by go_num, by omega, ⟨_, rfl⟩, ⟨_, rfl⟩, HR.out.1 (by first | trivial | rfl), OwL.wide (HOY.out.grow HG9.out) (Nat.le_refl _) (by omega), cur_kept HCB.out HG9.out (by simp), gby_trans HGB.out (gby_some HG9.out _)⟩, by simp [intOf]; omega⟩

def DrawnTree (W : World) (e : Ending) (w' : World) : Prop := ∃ (v : Value) (xs : List DNode), e = .returned v ∧ TOk xs ∧ OwL shNode w' W.heap.size w'.heap.size v xs ∧ W.grownBy w' none
set_option maxHeartbeats 1000000 in
theorem drawTree_any (W : World) (a : Option Addr) (len cap : Nat) (zs : List Int) (hB : Bytes W a len zs) (hl : len ≤ 1048576) : Calls Try.prog 45 #[.slice a len cap] W (DrawnTree W) := by
  have HB := Lib.hid hB
  clear hB
  go_enter Try.func45, Try.ntmps45
  go_wp2_with fail
  go_at_call 57
  refine (new_any _ _ _ _ _ HB.out hl).mono ?_
  rintro e w1 ⟨c, rfl, hc, H1, G1⟩
  have HC1 := Lib.hid H1
  have HG1 := Lib.hid G1
  clear H1 G1
  go_wp2_with fail
  go_at_call 58
  refine (tree19_any _ c HC1.out).mono ?_
  rintro e w2 ⟨v, xs, rfl, ht, ho, _, g⟩
  have HT := Lib.hid ht
  have HO := Lib.hid ho
  have HG2 := Lib.hid (gby_own HG1.out g (by omega))
  have hz := gsz HG1.out
  clear ht ho g
  go_wp2
  go_ret
  exact ⟨_, xs, rfl, HT.out, OwL.wide HO.out hz (Nat.le_refl _), HG2.out⟩

end Go.Proofs.Ytgagbhkidponnaa
