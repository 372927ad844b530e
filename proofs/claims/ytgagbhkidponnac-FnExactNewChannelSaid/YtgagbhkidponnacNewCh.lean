/-
  NewChannel on both sides.
-/
import Derived.Test.YtgagbhkidponnacL14
import Derived.Test.YtgagbhkidponnacPksOk
import Derived.Test.YtgagbhkidponnacQChannel
import Derived.Test.YtgagbhkidponnacRNewChannel
import Derived.Deep.RegionHeld3
namespace Go.Proofs.Ytgagbhkidponnac
open Go Go.RowKit
set_option linter.unusedVariables false

theorem ownNil {α : Type} [Inhabited α] (s : Shp α) (w : World) (lo hi : Nat) : OwL s w lo hi (.slice none 0 0) [] :=
  ⟨none, 0, rfl, ⟨fun _ => rfl, Nat.le_refl _⟩, Nat.zero_le _, (fun p e => by cases e), .inl rfl⟩
theorem ownNils2 {α β : Type} [Inhabited α] [Inhabited β] (s : Shp α) (r : Shp β) (w : World) (h : Nat) : OwU w h h [] [own s (.slice none 0 0) [], own r (.slice none 0 0) []] :=
  ⟨h, h, Nat.le_refl _, Nat.le_refl _, (fun i hi => (by cases hi)), ownNil s w h h, h, h, Nat.le_refl _, Nat.le_refl _, (fun i hi => (by obtain rfl := List.mem_singleton.1 hi; exact .inl (Nat.le_refl _))), ownNil r w h h, trivial⟩
theorem far6 {w : World} {b j c : Nat} {v : Value} {x0 x1 x2 x3 x4 x5 : Value} (h : w.cell? ⟨b, j, none⟩ = some v) (hp : b ≠ c) : ((((((w.setCell ⟨c, 0, none⟩ x0).setCell ⟨c, 1, none⟩ x1).setCell ⟨c, 2, none⟩ x2).setCell ⟨c, 3, none⟩ x3).setCell ⟨c, 4, none⟩ x4).setCell ⟨c, 5, none⟩ x5).cell? ⟨b, j, none⟩ = some v :=
  far2 (far2 (far2 h hp hp) hp hp) hp hp

set_option maxRecDepth 8000 in
set_option maxHeartbeats 4000000 in
theorem specNewCh_yes (W : World) (v0 v1 : Value) (xs0 xs1 : List Int) (H0 : RdL shI W v0 xs0) (H1 : RdL shI W v1 xs1) (hl0 : szL shI xs0 ≤ 1048576) (hl1 : szL shI xs1 ≤ 1048576) (hok : CrdOk xs0 xs1) :
    Calls Try.prog 54 #[vCredits v0 v1] W (ResINewChannel xs0 xs1 xs0 xs1 [] [] true W) := by
  have HI0 := Lib.hid H0
  have HI1 := Lib.hid H1
  have HB := Lib.hid (show true = decide (CrdOk xs0 xs1) from (decide_eq_true hok).symm)
  clear H0 H1 hok
  unfold vCredits
  have hrA := Lib.hid (show (((W.alloc (.cells #[v0, v1] 54)).alloc (.cells #[.slice none 0 0, .slice none 0 0, .slice none 0 0, .slice none 0 0, .slice none 0 0, .slice none 0 0] 73))).heap[W.heap.size]? = some (.cells #[v0, v1] 54) from by rw [heap_alloc_old _ _ (by simp)]; exact heap_alloc_new W _)
  have hrZ := Lib.hid (show (((W.alloc (.cells #[v0, v1] 54)).alloc (.cells #[.slice none 0 0, .slice none 0 0, .slice none 0 0, .slice none 0 0, .slice none 0 0, .slice none 0 0] 73))).heap[W.heap.size + 1]? = some (.cells #[.slice none 0 0, .slice none 0 0, .slice none 0 0, .slice none 0 0, .slice none 0 0, .slice none 0 0] 73) from heap_pair W _ _)
  go_enter Try.func54, Try.ntmps54
  go_wp2_with fail
  go_at_call 89
  refine (specCrD _ v0 v1 xs0 xs1 (HI0.out.grow (gby_alloc (gby_alloc (gby_refl _ _) _) _)) (HI1.out.grow (gby_alloc (gby_alloc (gby_refl _ _) _) _)) hl0 hl1 true HB.out).mono ?_
  rintro e w1 ⟨rfl, g1⟩
  have G1 := Lib.hid (gby_trans (gby_alloc (gby_alloc (gby_refl W none) _) _) g1)
  have s1 : W.heap.size + 1 + 1 ≤ w1.heap.size := by have := g1.size; simp only [World.size_alloc] at this; exact this
  have hA := row_held g1 hrA.out
  have Z1 := Lib.hid (row_held g1 hrZ.out)
  have k0 : w1.cell? ⟨W.heap.size, 0, none⟩ = some v0 := cell_of_row _ _ 0 _ _ _ hA
  have k1 : w1.cell? ⟨W.heap.size, 1, none⟩ = some v1 := cell_of_row _ _ 1 _ _ _ hA
  clear g1 hA
  go_wp2_with fail
  refine wp_region_held_drew (S := fun w' => w'.cell? ⟨W.heap.size, 0, none⟩ = some v0 ∧ w'.cell? ⟨W.heap.size, 1, none⟩ = some v1) (by kernel_rfl) (by (try dsimp only); exact ⟨k0, k1⟩) (fun hHeld => ?_)
  refine wpAnyH_take (i := 0) (oi := { dst := some 8, op := Op.load 54 (Operand.tmp 1), type := 54, pos := "l15_flow.go:21", after := #[], guard := none }) (v := ?v0z1) rfl (by kernel_rfl) (by kernel_rfl) (by kernel_rfl) (fun _ _ _ h => h) (Or.inl ⟨by rfl, ?y0z1⟩) (by assumption) ?r0z1
  case y0z1 => (intro w hSw; (try dsimp only at hSw); go_simp; all_goals (with_reducible rfl))
  try simp only [Act.put, List.setIfInBounds_toArray, List.set_cons_zero, List.set_cons_succ]
  refine wpAnyH_take (i := 2) (oi := { dst := some 10, op := Op.load 54 (Operand.tmp 1), type := 54, pos := "l15_flow.go:21", after := #[], guard := none }) (v := ?v2z2) rfl (by kernel_rfl) (by kernel_rfl) (by kernel_rfl) (fun _ _ _ h => h) (Or.inl ⟨by rfl, ?y2z2⟩) (by assumption) ?r2z2
  case y2z2 => (intro w hSw; (try dsimp only at hSw); go_simp; all_goals (with_reducible rfl))
  try simp only [Act.put, List.setIfInBounds_toArray, List.set_cons_zero, List.set_cons_succ]
  refine wpAnyH_ready (rs := [1]) (by kernel_rfl) (by simp) ?_
  refine AllReadyH.cons (o := { dst := some 9, op := Op.call { callee := Callee.value (Operand.func 82), args := #[Operand.tmp 8], argTypes := #[54] }, type := 54, pos := "l15_flow.go:21", after := #[{ on := 0, ground := Ground.data }], guard := none }) rfl (fun K hK => ?_) AllReadyH.nil
  go_simp
  go_at_call 82
  refine (l14Copy_d _ v0 v1 xs0 xs1 (HI0.out.grow (gby_drew G1.out)) (HI1.out.grow (gby_drew G1.out)) hl0 hl1).mono ?_
  rintro e wA ⟨dA, dA2, rfl, oA, gA⟩
  obtain ⟨p0, n0, c0, hv⟩ := RdL.form (OwU.rd oA)
  subst hv
  obtain ⟨p1, n1, c1, hv⟩ := RdL.form (OwU.rd (OwU.tail oA))
  subst hv
  have ZA := row_held gA (show (World.drew w1).heap[W.heap.size + 1]? = _ from Z1.out)
  have ka0 : wA.cell? ⟨W.heap.size, 0, none⟩ = some v0 := gA.cell k0 (by simp)
  have ka1 : wA.cell? ⟨W.heap.size, 1, none⟩ = some v1 := gA.cell k1 (by simp)
  unfold vCredits
  go_wp2_with fail
  clear hHeld
  refine hK.out _ _ ?sA3 (fun hHeld => ?_)
  case sA3 => exact ⟨ka0, ka1⟩
  clear hK K
  try simp only [Act.put, List.setIfInBounds_toArray, List.set_cons_zero, List.set_cons_succ]
  refine wpAnyH_ready (rs := [3]) (by kernel_rfl) (by simp) ?_
  refine AllReadyH.cons (o := { dst := some 11, op := Op.call { callee := Callee.value (Operand.func 82), args := #[Operand.tmp 10], argTypes := #[54] }, type := 54, pos := "l15_flow.go:21", after := #[{ on := 2, ground := Ground.data }, { on := 1, ground := Ground.chain }], guard := none }) rfl (fun K hK => ?_) AllReadyH.nil
  go_simp
  go_at_call 82
  refine (l14Copy_d _ v0 v1 xs0 xs1 (HI0.out.grow (gby_trans (gby_drew G1.out) gA)) (HI1.out.grow (gby_trans (gby_drew G1.out) gA)) hl0 hl1).mono ?_
  rintro e wB ⟨dB, dB2, rfl, oB, gB⟩
  obtain ⟨p2, n2, c2, hv⟩ := RdL.form (OwU.rd oB)
  subst hv
  obtain ⟨p3, n3, c3, hv⟩ := RdL.form (OwU.rd (OwU.tail oB))
  subst hv
  have ZB := row_held gB ZA
  have kb0 : wB.cell? ⟨W.heap.size, 0, none⟩ = some v0 := gB.cell ka0 (by simp)
  have kb1 : wB.cell? ⟨W.heap.size, 1, none⟩ = some v1 := gB.cell ka1 (by simp)
  have z0_ : wB.cell? ⟨W.heap.size + 1, 0, none⟩ = some (.slice none 0 0) := cell_of_row _ _ 0 _ _ _ ZB
  have f0_ := frozen_of_row wB _ 0 _ _ ZB
  have z1_ : wB.cell? ⟨W.heap.size + 1, 1, none⟩ = some (.slice none 0 0) := cell_of_row _ _ 1 _ _ _ ZB
  have f1_ := frozen_of_row wB _ 1 _ _ ZB
  have z2_ : wB.cell? ⟨W.heap.size + 1, 2, none⟩ = some (.slice none 0 0) := cell_of_row _ _ 2 _ _ _ ZB
  have f2_ := frozen_of_row wB _ 2 _ _ ZB
  have z3_ : wB.cell? ⟨W.heap.size + 1, 3, none⟩ = some (.slice none 0 0) := cell_of_row _ _ 3 _ _ _ ZB
  have f3_ := frozen_of_row wB _ 3 _ _ ZB
  have z4_ : wB.cell? ⟨W.heap.size + 1, 4, none⟩ = some (.slice none 0 0) := cell_of_row _ _ 4 _ _ _ ZB
  have f4_ := frozen_of_row wB _ 4 _ _ ZB
  have z5_ : wB.cell? ⟨W.heap.size + 1, 5, none⟩ = some (.slice none 0 0) := cell_of_row _ _ 5 _ _ _ ZB
  have f5_ := frozen_of_row wB _ 5 _ _ ZB
  unfold vCredits
  go_wp2_with fail
  clear hHeld
  refine hK.out _ _ ?sB4 (fun hHeld => ?_)
  case sB4 => exact ⟨kb0, kb1⟩
  clear hK K
  try simp only [Act.put, List.setIfInBounds_toArray, List.set_cons_zero, List.set_cons_succ]
  refine wpAnyH_take (i := 4) (oi := { dst := some 12, op := Op.build 73 #[(0, Operand.tmp 9), (1, Operand.tmp 11)], type := 73, pos := "l15_flow.go:21", after := #[{ on := 1, ground := Ground.data }, { on := 3, ground := Ground.data }], guard := none }) (v := ?v4z5) rfl (by kernel_rfl) (by kernel_rfl) (by kernel_rfl) (fun _ _ _ h => h) (Or.inl ⟨by rfl, ?y4z5⟩) (by assumption) ?r4z5
  case y4z5 => (intro w hSw; (try dsimp only at hSw); go_simp; all_goals (with_reducible rfl))
  try simp only [Act.put, List.setIfInBounds_toArray, List.set_cons_zero, List.set_cons_succ]
  refine wpAnyH_ready (rs := [5]) (by kernel_rfl) (by simp) ?_
  refine AllReadyH.cons (o := { dst := none, op := Op.store 73 (Operand.tmp 2) (Operand.tmp 12), type := 0, pos := "l15_flow.go:21", after := #[{ on := 4, ground := Ground.data }, { on := 3, ground := Ground.chain }, { on := 0, ground := Ground.phase }, { on := 1, ground := Ground.phase }, { on := 2, ground := Ground.phase }, { on := 3, ground := Ground.phase }, { on := 4, ground := Ground.phase }], guard := none }) rfl (fun K hK => ?_) AllReadyH.nil
  go_simp
  clear hHeld
  refine hK.out _ _ ?sC6 (fun hHeld => ?_)
  case sC6 => ((try dsimp only); exact ⟨far6 kb0 (by simp), far6 kb1 (by simp)⟩)
  clear hK K
  try simp only [Act.put, List.setIfInBounds_toArray, List.set_cons_zero, List.set_cons_succ]
  refine wpAnyH_take (i := 6) (oi := { dst := some 3, op := Op.assign (Operand.const (Value.bool true)), type := 4, pos := "l15_flow.go:21", after := #[{ on := 5, ground := Ground.chain }, { on := 0, ground := Ground.phase }, { on := 1, ground := Ground.phase }, { on := 2, ground := Ground.phase }, { on := 3, ground := Ground.phase }, { on := 4, ground := Ground.phase }, { on := 5, ground := Ground.phase }], guard := none }) (v := ?v6z7) rfl (by kernel_rfl) (by kernel_rfl) (by kernel_rfl) (fun _ _ _ h => h) (Or.inl ⟨by rfl, ?y6z7⟩) (by assumption) ?r6z7
  case y6z7 => (intro w hSw; (try dsimp only at hSw); go_simp; all_goals (with_reducible rfl))
  try simp only [Act.put, List.setIfInBounds_toArray, List.set_cons_zero, List.set_cons_succ]
  have sA := gA.size
  have sB := gB.size
  have sD : (World.drew w1).heap.size = w1.heap.size := rfl
  rw [sD] at oA sA
  have G := Lib.hid (show W.grownBy wB none from gby_trans (gby_trans (gby_drew G1.out) gA) gB)
  have OO0 := Lib.hid (show OwU wB w1.heap.size wB.heap.size [] ([own shI (.slice p0 n0 c0) xs0, own shI (.slice p1 n1 c1) xs1] ++ ([own shI (.slice p2 n2 c2) xs0, own shI (.slice p3 n3 c3) xs1] ++ [own shPacket (.slice none 0 0) [], own shPacket (.slice none 0 0) []])) from OwU.app (ps := [own shI (.slice p0 n0 c0) xs0, own shI (.slice p1 n1 c1) xs1]) (m := wA.heap.size) sA sB (OwU.grow oA gB) (OwU.app (ps := [own shI (.slice p2 n2 c2) xs0, own shI (.slice p3 n3 c3) xs1]) (m := wB.heap.size) sB (Nat.le_refl _) oB (ownNils2 shPacket shPacket wB wB.heap.size)))
  have OO := Lib.hid (show OwU wB w1.heap.size wB.heap.size [] ([own shI (.slice p0 n0 c0) xs0, own shI (.slice p1 n1 c1) xs1] ++ ([own shI (.slice p2 n2 c2) xs0, own shI (.slice p3 n3 c3) xs1] ++ [own shPacket (.slice none 0 0) [], own shPacket (.slice none 0 0) []])) from OO0.out)
  have C := Lib.hid (chg_trans (chg_trans (chg_trans (chg_trans (chg_trans (chg_one wB (W.heap.size + 1) 0 (.slice p0 n0 c0)) (chg_one _ (W.heap.size + 1) 1 (.slice p1 n1 c1))) (chg_one _ (W.heap.size + 1) 2 (.slice p2 n2 c2))) (chg_one _ (W.heap.size + 1) 3 (.slice p3 n3 c3))) (chg_one _ (W.heap.size + 1) 4 (.slice none 0 0))) (chg_one _ (W.heap.size + 1) 5 (.slice none 0 0)))
  have ZB2 := Lib.hid (heap_setCell_same _ _ 5 _ _ (.slice none 0 0) (heap_setCell_same _ _ 4 _ _ (.slice none 0 0) (heap_setCell_same _ _ 3 _ _ (.slice p3 n3 c3) (heap_setCell_same _ _ 2 _ _ (.slice p2 n2 c2) (heap_setCell_same _ _ 1 _ _ (.slice p1 n1 c1) (heap_setCell_same wB _ 0 _ _ (.slice p0 n0 c0) ZB))))))
  have r0_ : ((((((wB.setCell ⟨W.heap.size + 1, 0, none⟩ (.slice p0 n0 c0)).setCell ⟨W.heap.size + 1, 1, none⟩ (.slice p1 n1 c1)).setCell ⟨W.heap.size + 1, 2, none⟩ (.slice p2 n2 c2)).setCell ⟨W.heap.size + 1, 3, none⟩ (.slice p3 n3 c3)).setCell ⟨W.heap.size + 1, 4, none⟩ (.slice none 0 0)).setCell ⟨W.heap.size + 1, 5, none⟩ (.slice none 0 0)).cell? ⟨W.heap.size + 1, 0, none⟩ = some (.slice p0 n0 c0) := cell_of_row _ _ 0 _ _ _ ZB2.out
  have r1_ : ((((((wB.setCell ⟨W.heap.size + 1, 0, none⟩ (.slice p0 n0 c0)).setCell ⟨W.heap.size + 1, 1, none⟩ (.slice p1 n1 c1)).setCell ⟨W.heap.size + 1, 2, none⟩ (.slice p2 n2 c2)).setCell ⟨W.heap.size + 1, 3, none⟩ (.slice p3 n3 c3)).setCell ⟨W.heap.size + 1, 4, none⟩ (.slice none 0 0)).setCell ⟨W.heap.size + 1, 5, none⟩ (.slice none 0 0)).cell? ⟨W.heap.size + 1, 1, none⟩ = some (.slice p1 n1 c1) := cell_of_row _ _ 1 _ _ _ ZB2.out
  have r2_ : ((((((wB.setCell ⟨W.heap.size + 1, 0, none⟩ (.slice p0 n0 c0)).setCell ⟨W.heap.size + 1, 1, none⟩ (.slice p1 n1 c1)).setCell ⟨W.heap.size + 1, 2, none⟩ (.slice p2 n2 c2)).setCell ⟨W.heap.size + 1, 3, none⟩ (.slice p3 n3 c3)).setCell ⟨W.heap.size + 1, 4, none⟩ (.slice none 0 0)).setCell ⟨W.heap.size + 1, 5, none⟩ (.slice none 0 0)).cell? ⟨W.heap.size + 1, 2, none⟩ = some (.slice p2 n2 c2) := cell_of_row _ _ 2 _ _ _ ZB2.out
  have r3_ : ((((((wB.setCell ⟨W.heap.size + 1, 0, none⟩ (.slice p0 n0 c0)).setCell ⟨W.heap.size + 1, 1, none⟩ (.slice p1 n1 c1)).setCell ⟨W.heap.size + 1, 2, none⟩ (.slice p2 n2 c2)).setCell ⟨W.heap.size + 1, 3, none⟩ (.slice p3 n3 c3)).setCell ⟨W.heap.size + 1, 4, none⟩ (.slice none 0 0)).setCell ⟨W.heap.size + 1, 5, none⟩ (.slice none 0 0)).cell? ⟨W.heap.size + 1, 3, none⟩ = some (.slice p3 n3 c3) := cell_of_row _ _ 3 _ _ _ ZB2.out
  have r4_ : ((((((wB.setCell ⟨W.heap.size + 1, 0, none⟩ (.slice p0 n0 c0)).setCell ⟨W.heap.size + 1, 1, none⟩ (.slice p1 n1 c1)).setCell ⟨W.heap.size + 1, 2, none⟩ (.slice p2 n2 c2)).setCell ⟨W.heap.size + 1, 3, none⟩ (.slice p3 n3 c3)).setCell ⟨W.heap.size + 1, 4, none⟩ (.slice none 0 0)).setCell ⟨W.heap.size + 1, 5, none⟩ (.slice none 0 0)).cell? ⟨W.heap.size + 1, 4, none⟩ = some (.slice none 0 0) := cell_of_row _ _ 4 _ _ _ ZB2.out
  have r5_ : ((((((wB.setCell ⟨W.heap.size + 1, 0, none⟩ (.slice p0 n0 c0)).setCell ⟨W.heap.size + 1, 1, none⟩ (.slice p1 n1 c1)).setCell ⟨W.heap.size + 1, 2, none⟩ (.slice p2 n2 c2)).setCell ⟨W.heap.size + 1, 3, none⟩ (.slice p3 n3 c3)).setCell ⟨W.heap.size + 1, 4, none⟩ (.slice none 0 0)).setCell ⟨W.heap.size + 1, 5, none⟩ (.slice none 0 0)).cell? ⟨W.heap.size + 1, 5, none⟩ = some (.slice none 0 0) := cell_of_row _ _ 5 _ _ _ ZB2.out
  clear OO0 oA oB gA gB ZA ZB k0 k1 ka0 ka1 kb0 kb1 z0_ f0_ z1_ f1_ z2_ f2_ z3_ f3_ z4_ f4_ z5_ f5_
  refine wpAnyH_done (by kernel_rfl) ?_ _
  go_wp2
  refine bodyPost_ret (v := .tuple #[.agg #[.slice p0 n0 c0, .slice p1 n1 c1, .slice p2 n2 c2, .slice p3 n3 c3, .slice none 0 0, .slice none 0 0], .bool true]) (by simp [results, go_sem, r0_, r1_, r2_, r3_, r4_, r5_]) rfl ⟨_, _, _, _, _, _, rfl, ?_, ?_⟩
  · exact OwU.wide (by omega) (by simp) (OwU.keep C.out (.inr (by omega)) OO.out)
  · exact gby_chg G.out C.out (by omega)

set_option maxRecDepth 8000 in
set_option maxHeartbeats 4000000 in
theorem specNewCh_no (W : World) (v0 v1 : Value) (xs0 xs1 : List Int) (H0 : RdL shI W v0 xs0) (H1 : RdL shI W v1 xs1) (hl0 : szL shI xs0 ≤ 1048576) (hl1 : szL shI xs1 ≤ 1048576) (hok : ¬ CrdOk xs0 xs1) :
    Calls Try.prog 54 #[vCredits v0 v1] W (ResINewChannel [] [] [] [] [] [] false W) := by
  have HI0 := Lib.hid H0
  have HI1 := Lib.hid H1
  have HB := Lib.hid (show false = decide (CrdOk xs0 xs1) from (decide_eq_false hok).symm)
  clear H0 H1 hok
  unfold vCredits
  have hrZ := Lib.hid (show (((W.alloc (.cells #[v0, v1] 54)).alloc (.cells #[.slice none 0 0, .slice none 0 0, .slice none 0 0, .slice none 0 0, .slice none 0 0, .slice none 0 0] 73))).heap[W.heap.size + 1]? = some (.cells #[.slice none 0 0, .slice none 0 0, .slice none 0 0, .slice none 0 0, .slice none 0 0, .slice none 0 0] 73) from heap_pair W _ _)
  go_enter Try.func54, Try.ntmps54
  go_wp2_with fail
  go_at_call 89
  refine (specCrD _ v0 v1 xs0 xs1 (HI0.out.grow (gby_alloc (gby_alloc (gby_refl _ _) _) _)) (HI1.out.grow (gby_alloc (gby_alloc (gby_refl _ _) _) _)) hl0 hl1 false HB.out).mono ?_
  rintro e wB ⟨rfl, g1⟩
  have G1 := Lib.hid (gby_trans (gby_alloc (gby_alloc (gby_refl W none) _) _) g1)
  have s1 : W.heap.size + 1 + 1 ≤ wB.heap.size := by have := g1.size; simp only [World.size_alloc] at this; exact this
  have ZB := row_held g1 hrZ.out
  have z0_ : wB.cell? ⟨W.heap.size + 1, 0, none⟩ = some (.slice none 0 0) := cell_of_row _ _ 0 _ _ _ ZB
  have f0_ := frozen_of_row wB _ 0 _ _ ZB
  have z1_ : wB.cell? ⟨W.heap.size + 1, 1, none⟩ = some (.slice none 0 0) := cell_of_row _ _ 1 _ _ _ ZB
  have f1_ := frozen_of_row wB _ 1 _ _ ZB
  have z2_ : wB.cell? ⟨W.heap.size + 1, 2, none⟩ = some (.slice none 0 0) := cell_of_row _ _ 2 _ _ _ ZB
  have f2_ := frozen_of_row wB _ 2 _ _ ZB
  have z3_ : wB.cell? ⟨W.heap.size + 1, 3, none⟩ = some (.slice none 0 0) := cell_of_row _ _ 3 _ _ _ ZB
  have f3_ := frozen_of_row wB _ 3 _ _ ZB
  have z4_ : wB.cell? ⟨W.heap.size + 1, 4, none⟩ = some (.slice none 0 0) := cell_of_row _ _ 4 _ _ _ ZB
  have f4_ := frozen_of_row wB _ 4 _ _ ZB
  have z5_ : wB.cell? ⟨W.heap.size + 1, 5, none⟩ = some (.slice none 0 0) := cell_of_row _ _ 5 _ _ _ ZB
  have f5_ := frozen_of_row wB _ 5 _ _ ZB
  clear g1 ZB
  go_wp2
  refine bodyPost_ret (v := .tuple #[.agg #[.slice none 0 0, .slice none 0 0, .slice none 0 0, .slice none 0 0, .slice none 0 0, .slice none 0 0], .bool false]) (by simp [results, go_sem, z0_, z1_, z2_, z3_, z4_, z5_]) rfl ⟨_, _, _, _, _, _, rfl, ?_, ?_⟩
  · exact OwU.wide (Nat.le_refl _) (by simp; omega) (OwU.app (ps := [own shI (.slice none 0 0) [], own shI (.slice none 0 0) []]) (m := W.heap.size) (lo := W.heap.size) (hi := W.heap.size) (Nat.le_refl _) (Nat.le_refl _) (ownNils2 shI shI _ _) (OwU.app (ps := [own shI (.slice none 0 0) [], own shI (.slice none 0 0) []]) (m := W.heap.size) (Nat.le_refl _) (Nat.le_refl _) (ownNils2 shI shI _ _) (ownNils2 shPacket shPacket _ _)))
  · repeat (with_reducible refine gby_setnew ?_ _ (by dsimp only; omega) _)
    exact G1.out

set_option maxRecDepth 8000 in
set_option maxHeartbeats 4000000 in
theorem implNewCh_yes (W : World) (v0 v1 : Value) (xs0 xs1 : List Int) (H0 : RdL shI W v0 xs0) (H1 : RdL shI W v1 xs1) (hl0 : szL shI xs0 ≤ 1048576) (hl1 : szL shI xs1 ≤ 1048576) (hok : CrdOk xs0 xs1) :
    Calls Try.prog 55 #[vCredits v0 v1] W (ResINewChannel xs0 xs1 xs0 xs1 [] [] true W) := by
  have HI0 := Lib.hid H0
  have HI1 := Lib.hid H1
  have HB := Lib.hid (show true = decide (CrdOk xs0 xs1) from (decide_eq_true hok).symm)
  clear H0 H1 hok
  unfold vCredits
  have hrA := Lib.hid (show (((W.alloc (.cells #[v0, v1] 54)).alloc (.cells #[.slice none 0 0, .slice none 0 0, .slice none 0 0, .slice none 0 0, .slice none 0 0, .slice none 0 0] 73))).heap[W.heap.size]? = some (.cells #[v0, v1] 54) from by rw [heap_alloc_old _ _ (by simp)]; exact heap_alloc_new W _)
  have hrZ := Lib.hid (show (((W.alloc (.cells #[v0, v1] 54)).alloc (.cells #[.slice none 0 0, .slice none 0 0, .slice none 0 0, .slice none 0 0, .slice none 0 0, .slice none 0 0] 73))).heap[W.heap.size + 1]? = some (.cells #[.slice none 0 0, .slice none 0 0, .slice none 0 0, .slice none 0 0, .slice none 0 0, .slice none 0 0] 73) from heap_pair W _ _)
  go_enter Try.func55, Try.ntmps55
  go_wp2_with fail
  go_at_call 47
  refine (implCrD _ v0 v1 xs0 xs1 (HI0.out.grow (gby_alloc (gby_alloc (gby_refl _ _) _) _)) (HI1.out.grow (gby_alloc (gby_alloc (gby_refl _ _) _) _)) hl0 hl1 true HB.out).mono ?_
  rintro e w1 ⟨rfl, g1⟩
  have G1 := Lib.hid (gby_trans (gby_alloc (gby_alloc (gby_refl W none) _) _) g1)
  have s1 : W.heap.size + 1 + 1 ≤ w1.heap.size := by have := g1.size; simp only [World.size_alloc] at this; exact this
  have hA := row_held g1 hrA.out
  have Z1 := Lib.hid (row_held g1 hrZ.out)
  have k0 : w1.cell? ⟨W.heap.size, 0, none⟩ = some v0 := cell_of_row _ _ 0 _ _ _ hA
  have k1 : w1.cell? ⟨W.heap.size, 1, none⟩ = some v1 := cell_of_row _ _ 1 _ _ _ hA
  clear g1 hA
  go_wp2_with fail
  refine wp_region_held_drew (S := fun w' => w'.cell? ⟨W.heap.size, 0, none⟩ = some v0 ∧ w'.cell? ⟨W.heap.size, 1, none⟩ = some v1) (by kernel_rfl) (by (try dsimp only); exact ⟨k0, k1⟩) (fun hHeld => ?_)
  refine wpAnyH_take (i := 0) (oi := { dst := some 8, op := Op.load 54 (Operand.tmp 1), type := 54, pos := "l15_flow.go:25", after := #[], guard := none }) (v := ?v0z1) rfl (by kernel_rfl) (by kernel_rfl) (by kernel_rfl) (fun _ _ _ h => h) (Or.inl ⟨by rfl, ?y0z1⟩) (by assumption) ?r0z1
  case y0z1 => (intro w hSw; (try dsimp only at hSw); go_simp; all_goals (with_reducible rfl))
  try simp only [Act.put, List.setIfInBounds_toArray, List.set_cons_zero, List.set_cons_succ]
  refine wpAnyH_take (i := 2) (oi := { dst := some 10, op := Op.load 54 (Operand.tmp 1), type := 54, pos := "l15_flow.go:25", after := #[], guard := none }) (v := ?v2z2) rfl (by kernel_rfl) (by kernel_rfl) (by kernel_rfl) (fun _ _ _ h => h) (Or.inl ⟨by rfl, ?y2z2⟩) (by assumption) ?r2z2
  case y2z2 => (intro w hSw; (try dsimp only at hSw); go_simp; all_goals (with_reducible rfl))
  try simp only [Act.put, List.setIfInBounds_toArray, List.set_cons_zero, List.set_cons_succ]
  refine wpAnyH_ready (rs := [1]) (by kernel_rfl) (by simp) ?_
  refine AllReadyH.cons (o := { dst := some 9, op := Op.call { callee := Callee.value (Operand.func 87), args := #[Operand.tmp 8], argTypes := #[54] }, type := 54, pos := "l15_flow.go:25", after := #[{ on := 0, ground := Ground.data }], guard := none }) rfl (fun K hK => ?_) AllReadyH.nil
  go_simp
  go_at_call 87
  refine (copiedCr_d _ v0 v1 xs0 xs1 (HI0.out.grow (gby_drew G1.out)) (HI1.out.grow (gby_drew G1.out)) hl0 hl1).mono ?_
  rintro e wA ⟨dA, dA2, rfl, oA, gA⟩
  obtain ⟨p0, n0, c0, hv⟩ := RdL.form (OwU.rd oA)
  subst hv
  obtain ⟨p1, n1, c1, hv⟩ := RdL.form (OwU.rd (OwU.tail oA))
  subst hv
  have ZA := row_held gA (show (World.drew w1).heap[W.heap.size + 1]? = _ from Z1.out)
  have ka0 : wA.cell? ⟨W.heap.size, 0, none⟩ = some v0 := gA.cell k0 (by simp)
  have ka1 : wA.cell? ⟨W.heap.size, 1, none⟩ = some v1 := gA.cell k1 (by simp)
  unfold vCredits
  go_wp2_with fail
  clear hHeld
  refine hK.out _ _ ?sA3 (fun hHeld => ?_)
  case sA3 => exact ⟨ka0, ka1⟩
  clear hK K
  try simp only [Act.put, List.setIfInBounds_toArray, List.set_cons_zero, List.set_cons_succ]
  refine wpAnyH_ready (rs := [3]) (by kernel_rfl) (by simp) ?_
  refine AllReadyH.cons (o := { dst := some 11, op := Op.call { callee := Callee.value (Operand.func 87), args := #[Operand.tmp 10], argTypes := #[54] }, type := 54, pos := "l15_flow.go:25", after := #[{ on := 2, ground := Ground.data }, { on := 1, ground := Ground.chain }], guard := none }) rfl (fun K hK => ?_) AllReadyH.nil
  go_simp
  go_at_call 87
  refine (copiedCr_d _ v0 v1 xs0 xs1 (HI0.out.grow (gby_trans (gby_drew G1.out) gA)) (HI1.out.grow (gby_trans (gby_drew G1.out) gA)) hl0 hl1).mono ?_
  rintro e wB ⟨dB, dB2, rfl, oB, gB⟩
  obtain ⟨p2, n2, c2, hv⟩ := RdL.form (OwU.rd oB)
  subst hv
  obtain ⟨p3, n3, c3, hv⟩ := RdL.form (OwU.rd (OwU.tail oB))
  subst hv
  have ZB := row_held gB ZA
  have kb0 : wB.cell? ⟨W.heap.size, 0, none⟩ = some v0 := gB.cell ka0 (by simp)
  have kb1 : wB.cell? ⟨W.heap.size, 1, none⟩ = some v1 := gB.cell ka1 (by simp)
  have z0_ : wB.cell? ⟨W.heap.size + 1, 0, none⟩ = some (.slice none 0 0) := cell_of_row _ _ 0 _ _ _ ZB
  have f0_ := frozen_of_row wB _ 0 _ _ ZB
  have z1_ : wB.cell? ⟨W.heap.size + 1, 1, none⟩ = some (.slice none 0 0) := cell_of_row _ _ 1 _ _ _ ZB
  have f1_ := frozen_of_row wB _ 1 _ _ ZB
  have z2_ : wB.cell? ⟨W.heap.size + 1, 2, none⟩ = some (.slice none 0 0) := cell_of_row _ _ 2 _ _ _ ZB
  have f2_ := frozen_of_row wB _ 2 _ _ ZB
  have z3_ : wB.cell? ⟨W.heap.size + 1, 3, none⟩ = some (.slice none 0 0) := cell_of_row _ _ 3 _ _ _ ZB
  have f3_ := frozen_of_row wB _ 3 _ _ ZB
  have z4_ : wB.cell? ⟨W.heap.size + 1, 4, none⟩ = some (.slice none 0 0) := cell_of_row _ _ 4 _ _ _ ZB
  have f4_ := frozen_of_row wB _ 4 _ _ ZB
  have z5_ : wB.cell? ⟨W.heap.size + 1, 5, none⟩ = some (.slice none 0 0) := cell_of_row _ _ 5 _ _ _ ZB
  have f5_ := frozen_of_row wB _ 5 _ _ ZB
  unfold vCredits
  go_wp2_with fail
  clear hHeld
  refine hK.out _ _ ?sB4 (fun hHeld => ?_)
  case sB4 => exact ⟨kb0, kb1⟩
  clear hK K
  try simp only [Act.put, List.setIfInBounds_toArray, List.set_cons_zero, List.set_cons_succ]
  refine wpAnyH_take (i := 4) (oi := { dst := some 12, op := Op.build 73 #[(0, Operand.tmp 9), (1, Operand.tmp 11)], type := 73, pos := "l15_flow.go:25", after := #[{ on := 1, ground := Ground.data }, { on := 3, ground := Ground.data }], guard := none }) (v := ?v4z5) rfl (by kernel_rfl) (by kernel_rfl) (by kernel_rfl) (fun _ _ _ h => h) (Or.inl ⟨by rfl, ?y4z5⟩) (by assumption) ?r4z5
  case y4z5 => (intro w hSw; (try dsimp only at hSw); go_simp; all_goals (with_reducible rfl))
  try simp only [Act.put, List.setIfInBounds_toArray, List.set_cons_zero, List.set_cons_succ]
  refine wpAnyH_ready (rs := [5]) (by kernel_rfl) (by simp) ?_
  refine AllReadyH.cons (o := { dst := none, op := Op.store 73 (Operand.tmp 2) (Operand.tmp 12), type := 0, pos := "l15_flow.go:25", after := #[{ on := 4, ground := Ground.data }, { on := 3, ground := Ground.chain }, { on := 0, ground := Ground.phase }, { on := 1, ground := Ground.phase }, { on := 2, ground := Ground.phase }, { on := 3, ground := Ground.phase }, { on := 4, ground := Ground.phase }], guard := none }) rfl (fun K hK => ?_) AllReadyH.nil
  go_simp
  clear hHeld
  refine hK.out _ _ ?sC6 (fun hHeld => ?_)
  case sC6 => ((try dsimp only); exact ⟨far6 kb0 (by simp), far6 kb1 (by simp)⟩)
  clear hK K
  try simp only [Act.put, List.setIfInBounds_toArray, List.set_cons_zero, List.set_cons_succ]
  refine wpAnyH_take (i := 6) (oi := { dst := some 3, op := Op.assign (Operand.const (Value.bool true)), type := 4, pos := "l15_flow.go:25", after := #[{ on := 5, ground := Ground.chain }, { on := 0, ground := Ground.phase }, { on := 1, ground := Ground.phase }, { on := 2, ground := Ground.phase }, { on := 3, ground := Ground.phase }, { on := 4, ground := Ground.phase }, { on := 5, ground := Ground.phase }], guard := none }) (v := ?v6z7) rfl (by kernel_rfl) (by kernel_rfl) (by kernel_rfl) (fun _ _ _ h => h) (Or.inl ⟨by rfl, ?y6z7⟩) (by assumption) ?r6z7
  case y6z7 => (intro w hSw; (try dsimp only at hSw); go_simp; all_goals (with_reducible rfl))
  try simp only [Act.put, List.setIfInBounds_toArray, List.set_cons_zero, List.set_cons_succ]
  have sA := gA.size
  have sB := gB.size
  have sD : (World.drew w1).heap.size = w1.heap.size := rfl
  rw [sD] at oA sA
  have G := Lib.hid (show W.grownBy wB none from gby_trans (gby_trans (gby_drew G1.out) gA) gB)
  have OO0 := Lib.hid (show OwU wB w1.heap.size wB.heap.size [] ([own shI (.slice p0 n0 c0) xs0, own shI (.slice p1 n1 c1) xs1] ++ ([own shI (.slice p2 n2 c2) xs0, own shI (.slice p3 n3 c3) xs1] ++ [own shPacket (.slice none 0 0) [], own shPacket (.slice none 0 0) []])) from OwU.app (ps := [own shI (.slice p0 n0 c0) xs0, own shI (.slice p1 n1 c1) xs1]) (m := wA.heap.size) sA sB (OwU.grow oA gB) (OwU.app (ps := [own shI (.slice p2 n2 c2) xs0, own shI (.slice p3 n3 c3) xs1]) (m := wB.heap.size) sB (Nat.le_refl _) oB (ownNils2 shPacket shPacket wB wB.heap.size)))
  have OO := Lib.hid (show OwU wB w1.heap.size wB.heap.size [] ([own shI (.slice p0 n0 c0) xs0, own shI (.slice p1 n1 c1) xs1] ++ ([own shI (.slice p2 n2 c2) xs0, own shI (.slice p3 n3 c3) xs1] ++ [own shPacket (.slice none 0 0) [], own shPacket (.slice none 0 0) []])) from OO0.out)
  have C := Lib.hid (chg_trans (chg_trans (chg_trans (chg_trans (chg_trans (chg_one wB (W.heap.size + 1) 0 (.slice p0 n0 c0)) (chg_one _ (W.heap.size + 1) 1 (.slice p1 n1 c1))) (chg_one _ (W.heap.size + 1) 2 (.slice p2 n2 c2))) (chg_one _ (W.heap.size + 1) 3 (.slice p3 n3 c3))) (chg_one _ (W.heap.size + 1) 4 (.slice none 0 0))) (chg_one _ (W.heap.size + 1) 5 (.slice none 0 0)))
  have ZB2 := Lib.hid (heap_setCell_same _ _ 5 _ _ (.slice none 0 0) (heap_setCell_same _ _ 4 _ _ (.slice none 0 0) (heap_setCell_same _ _ 3 _ _ (.slice p3 n3 c3) (heap_setCell_same _ _ 2 _ _ (.slice p2 n2 c2) (heap_setCell_same _ _ 1 _ _ (.slice p1 n1 c1) (heap_setCell_same wB _ 0 _ _ (.slice p0 n0 c0) ZB))))))
  have r0_ : ((((((wB.setCell ⟨W.heap.size + 1, 0, none⟩ (.slice p0 n0 c0)).setCell ⟨W.heap.size + 1, 1, none⟩ (.slice p1 n1 c1)).setCell ⟨W.heap.size + 1, 2, none⟩ (.slice p2 n2 c2)).setCell ⟨W.heap.size + 1, 3, none⟩ (.slice p3 n3 c3)).setCell ⟨W.heap.size + 1, 4, none⟩ (.slice none 0 0)).setCell ⟨W.heap.size + 1, 5, none⟩ (.slice none 0 0)).cell? ⟨W.heap.size + 1, 0, none⟩ = some (.slice p0 n0 c0) := cell_of_row _ _ 0 _ _ _ ZB2.out
  have r1_ : ((((((wB.setCell ⟨W.heap.size + 1, 0, none⟩ (.slice p0 n0 c0)).setCell ⟨W.heap.size + 1, 1, none⟩ (.slice p1 n1 c1)).setCell ⟨W.heap.size + 1, 2, none⟩ (.slice p2 n2 c2)).setCell ⟨W.heap.size + 1, 3, none⟩ (.slice p3 n3 c3)).setCell ⟨W.heap.size + 1, 4, none⟩ (.slice none 0 0)).setCell ⟨W.heap.size + 1, 5, none⟩ (.slice none 0 0)).cell? ⟨W.heap.size + 1, 1, none⟩ = some (.slice p1 n1 c1) := cell_of_row _ _ 1 _ _ _ ZB2.out
  have r2_ : ((((((wB.setCell ⟨W.heap.size + 1, 0, none⟩ (.slice p0 n0 c0)).setCell ⟨W.heap.size + 1, 1, none⟩ (.slice p1 n1 c1)).setCell ⟨W.heap.size + 1, 2, none⟩ (.slice p2 n2 c2)).setCell ⟨W.heap.size + 1, 3, none⟩ (.slice p3 n3 c3)).setCell ⟨W.heap.size + 1, 4, none⟩ (.slice none 0 0)).setCell ⟨W.heap.size + 1, 5, none⟩ (.slice none 0 0)).cell? ⟨W.heap.size + 1, 2, none⟩ = some (.slice p2 n2 c2) := cell_of_row _ _ 2 _ _ _ ZB2.out
  have r3_ : ((((((wB.setCell ⟨W.heap.size + 1, 0, none⟩ (.slice p0 n0 c0)).setCell ⟨W.heap.size + 1, 1, none⟩ (.slice p1 n1 c1)).setCell ⟨W.heap.size + 1, 2, none⟩ (.slice p2 n2 c2)).setCell ⟨W.heap.size + 1, 3, none⟩ (.slice p3 n3 c3)).setCell ⟨W.heap.size + 1, 4, none⟩ (.slice none 0 0)).setCell ⟨W.heap.size + 1, 5, none⟩ (.slice none 0 0)).cell? ⟨W.heap.size + 1, 3, none⟩ = some (.slice p3 n3 c3) := cell_of_row _ _ 3 _ _ _ ZB2.out
  have r4_ : ((((((wB.setCell ⟨W.heap.size + 1, 0, none⟩ (.slice p0 n0 c0)).setCell ⟨W.heap.size + 1, 1, none⟩ (.slice p1 n1 c1)).setCell ⟨W.heap.size + 1, 2, none⟩ (.slice p2 n2 c2)).setCell ⟨W.heap.size + 1, 3, none⟩ (.slice p3 n3 c3)).setCell ⟨W.heap.size + 1, 4, none⟩ (.slice none 0 0)).setCell ⟨W.heap.size + 1, 5, none⟩ (.slice none 0 0)).cell? ⟨W.heap.size + 1, 4, none⟩ = some (.slice none 0 0) := cell_of_row _ _ 4 _ _ _ ZB2.out
  have r5_ : ((((((wB.setCell ⟨W.heap.size + 1, 0, none⟩ (.slice p0 n0 c0)).setCell ⟨W.heap.size + 1, 1, none⟩ (.slice p1 n1 c1)).setCell ⟨W.heap.size + 1, 2, none⟩ (.slice p2 n2 c2)).setCell ⟨W.heap.size + 1, 3, none⟩ (.slice p3 n3 c3)).setCell ⟨W.heap.size + 1, 4, none⟩ (.slice none 0 0)).setCell ⟨W.heap.size + 1, 5, none⟩ (.slice none 0 0)).cell? ⟨W.heap.size + 1, 5, none⟩ = some (.slice none 0 0) := cell_of_row _ _ 5 _ _ _ ZB2.out
  clear OO0 oA oB gA gB ZA ZB k0 k1 ka0 ka1 kb0 kb1 z0_ f0_ z1_ f1_ z2_ f2_ z3_ f3_ z4_ f4_ z5_ f5_
  refine wpAnyH_done (by kernel_rfl) ?_ _
  go_wp2
  refine bodyPost_ret (v := .tuple #[.agg #[.slice p0 n0 c0, .slice p1 n1 c1, .slice p2 n2 c2, .slice p3 n3 c3, .slice none 0 0, .slice none 0 0], .bool true]) (by simp [results, go_sem, r0_, r1_, r2_, r3_, r4_, r5_]) rfl ⟨_, _, _, _, _, _, rfl, ?_, ?_⟩
  · exact OwU.wide (by omega) (by simp) (OwU.keep C.out (.inr (by omega)) OO.out)
  · exact gby_chg G.out C.out (by omega)

set_option maxRecDepth 8000 in
set_option maxHeartbeats 4000000 in
theorem implNewCh_no (W : World) (v0 v1 : Value) (xs0 xs1 : List Int) (H0 : RdL shI W v0 xs0) (H1 : RdL shI W v1 xs1) (hl0 : szL shI xs0 ≤ 1048576) (hl1 : szL shI xs1 ≤ 1048576) (hok : ¬ CrdOk xs0 xs1) :
    Calls Try.prog 55 #[vCredits v0 v1] W (ResINewChannel [] [] [] [] [] [] false W) := by
  have HI0 := Lib.hid H0
  have HI1 := Lib.hid H1
  have HB := Lib.hid (show false = decide (CrdOk xs0 xs1) from (decide_eq_false hok).symm)
  clear H0 H1 hok
  unfold vCredits
  have hrZ := Lib.hid (show (((W.alloc (.cells #[v0, v1] 54)).alloc (.cells #[.slice none 0 0, .slice none 0 0, .slice none 0 0, .slice none 0 0, .slice none 0 0, .slice none 0 0] 73))).heap[W.heap.size + 1]? = some (.cells #[.slice none 0 0, .slice none 0 0, .slice none 0 0, .slice none 0 0, .slice none 0 0, .slice none 0 0] 73) from heap_pair W _ _)
  go_enter Try.func55, Try.ntmps55
  go_wp2_with fail
  go_at_call 47
  refine (implCrD _ v0 v1 xs0 xs1 (HI0.out.grow (gby_alloc (gby_alloc (gby_refl _ _) _) _)) (HI1.out.grow (gby_alloc (gby_alloc (gby_refl _ _) _) _)) hl0 hl1 false HB.out).mono ?_
  rintro e wB ⟨rfl, g1⟩
  have G1 := Lib.hid (gby_trans (gby_alloc (gby_alloc (gby_refl W none) _) _) g1)
  have s1 : W.heap.size + 1 + 1 ≤ wB.heap.size := by have := g1.size; simp only [World.size_alloc] at this; exact this
  have ZB := row_held g1 hrZ.out
  have z0_ : wB.cell? ⟨W.heap.size + 1, 0, none⟩ = some (.slice none 0 0) := cell_of_row _ _ 0 _ _ _ ZB
  have f0_ := frozen_of_row wB _ 0 _ _ ZB
  have z1_ : wB.cell? ⟨W.heap.size + 1, 1, none⟩ = some (.slice none 0 0) := cell_of_row _ _ 1 _ _ _ ZB
  have f1_ := frozen_of_row wB _ 1 _ _ ZB
  have z2_ : wB.cell? ⟨W.heap.size + 1, 2, none⟩ = some (.slice none 0 0) := cell_of_row _ _ 2 _ _ _ ZB
  have f2_ := frozen_of_row wB _ 2 _ _ ZB
  have z3_ : wB.cell? ⟨W.heap.size + 1, 3, none⟩ = some (.slice none 0 0) := cell_of_row _ _ 3 _ _ _ ZB
  have f3_ := frozen_of_row wB _ 3 _ _ ZB
  have z4_ : wB.cell? ⟨W.heap.size + 1, 4, none⟩ = some (.slice none 0 0) := cell_of_row _ _ 4 _ _ _ ZB
  have f4_ := frozen_of_row wB _ 4 _ _ ZB
  have z5_ : wB.cell? ⟨W.heap.size + 1, 5, none⟩ = some (.slice none 0 0) := cell_of_row _ _ 5 _ _ _ ZB
  have f5_ := frozen_of_row wB _ 5 _ _ ZB
  clear g1 ZB
  go_wp2
  refine bodyPost_ret (v := .tuple #[.agg #[.slice none 0 0, .slice none 0 0, .slice none 0 0, .slice none 0 0, .slice none 0 0, .slice none 0 0], .bool false]) (by simp [results, go_sem, z0_, z1_, z2_, z3_, z4_, z5_]) rfl ⟨_, _, _, _, _, _, rfl, ?_, ?_⟩
  · exact OwU.wide (Nat.le_refl _) (by simp; omega) (OwU.app (ps := [own shI (.slice none 0 0) [], own shI (.slice none 0 0) []]) (m := W.heap.size) (lo := W.heap.size) (hi := W.heap.size) (Nat.le_refl _) (Nat.le_refl _) (ownNils2 shI shI _ _) (OwU.app (ps := [own shI (.slice none 0 0) [], own shI (.slice none 0 0) []]) (m := W.heap.size) (Nat.le_refl _) (Nat.le_refl _) (ownNils2 shI shI _ _) (ownNils2 shPacket shPacket _ _)))
  · repeat (with_reducible refine gby_setnew ?_ _ (by dsimp only; omega) _)
    exact G1.out

theorem newChannel_both (xs0_0 xs0_1 : List Int) (h0 : szL shI xs0_0 ≤ 1048576) (h1 : szL shI xs0_1 ≤ 1048576) :
    ∃ (xsr0_0 : List Int) (xsr0_1 : List Int) (xsr0_2 : List Int) (xsr0_3 : List Int) (xsr0_4 : List DPacket) (xsr0_5 : List DPacket) (br1 : Bool), szL shI xsr0_0 ≤ 1048576 ∧ szL shI xsr0_1 ≤ 1048576 ∧ szL shI xsr0_2 ≤ 1048576 ∧ szL shI xsr0_3 ≤ 1048576 ∧ szL shPacket xsr0_4 ≤ 1048576 ∧ szL shPacket xsr0_5 ≤ 1048576 ∧ (∀ (W : World), ∀ u0_0 u0_1, RdL shI W u0_0 xs0_0 → RdL shI W u0_1 xs0_1 → Calls Try.prog 54 #[.agg #[u0_0, u0_1]] W (ResSNewChannel xsr0_0 xsr0_1 xsr0_2 xsr0_3 xsr0_4 xsr0_5 br1 W)) ∧ (∀ (W : World), ∀ u0_0 u0_1, RdL shI W u0_0 xs0_0 → RdL shI W u0_1 xs0_1 → Calls Try.prog 55 #[.agg #[u0_0, u0_1]] W (ResINewChannel xsr0_0 xsr0_1 xsr0_2 xsr0_3 xsr0_4 xsr0_5 br1 W)) := by
  by_cases h : CrdOk xs0_0 xs0_1
  · exact ⟨xs0_0, xs0_1, xs0_0, xs0_1, [], [], true, h0, h1, h0, h1, by decide, by decide, fun W u0 u1 r0 r1 => (specNewCh_yes W u0 u1 xs0_0 xs0_1 r0 r1 h0 h1 h).mono resS_ofNewChannel, fun W u0 u1 r0 r1 => implNewCh_yes W u0 u1 xs0_0 xs0_1 r0 r1 h0 h1 h⟩
  · exact ⟨[], [], [], [], [], [], false, by decide, by decide, by decide, by decide, by decide, by decide, fun W u0 u1 r0 r1 => (specNewCh_no W u0 u1 xs0_0 xs0_1 r0 r1 h0 h1 h).mono resS_ofNewChannel, fun W u0 u1 r0 r1 => implNewCh_no W u0 u1 xs0_0 xs0_1 r0 r1 h0 h1 h⟩

end Go.Proofs.Ytgagbhkidponnac
