/-
  Credits spent and given back by the program's methods.
-/
import Derived.Test.YtgagbhkidponnacCrAdd
import Derived.Test.YtgagbhkidponnacCan
namespace Go.Proofs.Ytgagbhkidponnac
open Go Go.RowKit
set_option linter.unusedVariables false

theorem coverD (W : World) (v0 v1 vp : Value) (xs ys : List Int) (p : DPacket) (H0 : RdL shI W v0 xs) (H1 : RdL shI W v1 ys) (H2 : RdL shI W vp p.f7) (hl0 : szL shI xs ≤ 1048576) (hl1 : szL shI ys ≤ 1048576) (hl2 : szL shI p.f7 ≤ 1048576) (hcr : CrdOk xs ys) (h0 : 0 ≤ clsD p) : Calls Try.prog 93 #[vCredits v0 v1, (vPacket p.f0 p.f1 p.f2 p.f3 p.f4 p.f5 p.f6 vp)] W (AnsN (.bool (decide (CanP xs ys (clsD p) (untD p)))) W) := by
  rw [szL_I] at hl0 hl1 hl2
  obtain ⟨a0, c0, rfl, hi0, _⟩ := rdI_in H0
  obtain ⟨a1, c1, rfl, hi1, _⟩ := rdI_in H1
  obtain ⟨a2, c2, rfl, hi2, _⟩ := rdI_in H2
  exact cover_any W a0 _ c0 a1 _ c1 xs ys _ _ _ _ _ _ _ a2 _ c2 p.f7 (clsD p) (clsD_of p) hi0 hi1 hi2 hl0 hl1 hl2 (untD p) rfl hcr h0

theorem specCanD (W : World) (v0 v1 vp : Value) (xs ys : List Int) (p : DPacket) (H0 : RdL shI W v0 xs) (H1 : RdL shI W v1 ys) (H2 : RdL shI W vp p.f7) (hl0 : szL shI xs ≤ 1048576) (hl1 : szL shI ys ≤ 1048576) (hl2 : szL shI p.f7 ≤ 1048576) : Calls Try.prog 83 #[vCredits v0 v1, (vPacket p.f0 p.f1 p.f2 p.f3 p.f4 p.f5 p.f6 vp)] W (AnsN (.bool (decide (CanP xs ys (clsD p) (untD p)))) W) := by
  rw [szL_I] at hl0 hl1 hl2
  obtain ⟨a0, c0, rfl, hi0, _⟩ := rdI_in H0
  obtain ⟨a1, c1, rfl, hi1, _⟩ := rdI_in H1
  obtain ⟨a2, c2, rfl, hi2, _⟩ := rdI_in H2
  exact specCan_any W a0 _ c0 a1 _ c1 xs ys _ _ _ _ _ _ _ a2 _ c2 p.f7 (clsD p) (clsD_of p) hi0 hi1 hi2 hl0 hl1 hl2 (untD p) rfl

theorem implCanD (W : World) (v0 v1 vp : Value) (xs ys : List Int) (p : DPacket) (H0 : RdL shI W v0 xs) (H1 : RdL shI W v1 ys) (H2 : RdL shI W vp p.f7) (hl0 : szL shI xs ≤ 1048576) (hl1 : szL shI ys ≤ 1048576) (hl2 : szL shI p.f7 ≤ 1048576) : Calls Try.prog 45 #[vCredits v0 v1, (vPacket p.f0 p.f1 p.f2 p.f3 p.f4 p.f5 p.f6 vp)] W (AnsN (.bool (decide (CanP xs ys (clsD p) (untD p)))) W) := by
  rw [szL_I] at hl0 hl1 hl2
  obtain ⟨a0, c0, rfl, hi0, _⟩ := rdI_in H0
  obtain ⟨a1, c1, rfl, hi1, _⟩ := rdI_in H1
  obtain ⟨a2, c2, rfl, hi2, _⟩ := rdI_in H2
  exact implCan_any W a0 _ c0 a1 _ c1 xs ys _ _ _ _ _ _ _ a2 _ c2 p.f7 (clsD p) (clsD_of p) hi0 hi1 hi2 hl0 hl1 hl2 (untD p) rfl

/-- what spend and giveBack leave -/
def SpPost (b : Bool) (lo hi : Nat) (v0 v1 : Value) (xs ys : List Int) (W : World) (e : Ending) (w' : World) : Prop := e = .returned (.bool b) ∧ OwU w' lo hi [] [own shI v0 xs, own shI v1 ys] ∧ Chg W w' lo hi
theorem crd_at {xs ys : List Int} (h : CrdOk xs ys) {k : Nat} (hk : k < 3) : xs.length = 3 ∧ ys.length = 3 ∧ 0 ≤ xs.getD k 0 ∧ xs.getD k 0 ≤ 30 ∧ 0 ≤ ys.getD k 0 ∧ ys.getD k 0 ≤ 30 := by
  have h1 := all_at h.1.2 (k := k) (by rw [h.1.1]; exact hk)
  have h2 := all_at h.2.2 (k := k) (by rw [h.2.1]; exact hk)
  exact ⟨h.1.1, h.2.1, h1.1, h1.2, h2.1, h2.2⟩
/-- the credits suffice -/
theorem can_at {xs ys : List Int} {k : Nat} {u : Int} (h : CanP xs ys (k : Int) u) : 1 ≤ xs.getD k 0 ∧ u ≤ ys.getD k 0 := by
  have := h.2.2; rw [Int.toNat_natCast] at this; exact this

set_option maxRecDepth 8000 in
set_option maxHeartbeats 2000000 in
theorem spend_yes (W : World) (gb lo hi k : Nat) (v0 v1 vp : Value) (xs ys : List Int) (p : DPacket) (hg : W.heap[gb]? = some (.cells #[v0, v1] 54 (0, 0))) (ho : OwU W lo hi [] [own shI v0 xs, own shI v1 ys]) (hgo : gb < lo ∨ hi ≤ gb) (hhi : hi ≤ W.heap.size) (hp : RdL shI W vp p.f7) (hpf : ∀ w, Chg W w lo hi → RdL shI w vp p.f7) (hl : szL shI p.f7 ≤ 1048576) (hc : clsD p = (k : Int)) (hk3 : k < 3) (hcr : CrdOk xs ys) (u : Int) (hu : untD p = u) (hu0 : 0 ≤ u) (hu9 : u ≤ 1000000) (hcan : CanP xs ys (k : Int) u) (hux : u ≤ ys.getD k 0) : Calls Try.prog 88 #[.pointer (some ⟨gb, 0, none⟩), (vPacket p.f0 p.f1 p.f2 p.f3 p.f4 p.f5 p.f6 vp)] W (SpPost true lo hi v0 v1 (xs.set k (xs.getD k 0 - 1)) (ys.set k (ys.getD k 0 - u)) W) := by
  have HP := Lib.hid hp
  have HPF := Lib.hid hpf
  have HL := Lib.hid hl
  have HC := Lib.hid hc
  have HU := Lib.hid hu
  have HCR := Lib.hid hcr
  have hx1 := crd_at hcr hk3
  obtain ⟨x, hx⟩ : ∃ x, x = xs.getD k 0 := ⟨_, rfl⟩
  obtain ⟨y, hy⟩ : ∃ y, y = ys.getD k 0 := ⟨_, rfl⟩
  rw [← hx, ← hy] at hx1
  obtain ⟨hxl, hyl, hx0, hx30, hy0, hy30⟩ := hx1
  have HX := Lib.hid hx
  have HY := Lib.hid hy
  have HXL := Lib.hid (show szL shI xs ≤ 1048576 by rw [szL_I]; omega)
  have HYL := Lib.hid (show szL shI ys ≤ 1048576 by rw [szL_I]; omega)
  have hgl_ : gb < W.heap.size := lt_of_block hg
  clear hp hpf hl hc hu hcr hx hy
  unfold vPacket
  rw [← HX.out, ← HY.out]
  rw [← HY.out] at hux
  go_enter Try.func88, Try.ntmps88
  have rK1_ := Lib.hid (show ((W.alloc (.cells #[.int .i64 p.f0, .int .i64 p.f1, .int .i64 p.f2, .int .i64 p.f3, .int .i64 p.f4, .int .i64 p.f5, .int .i64 p.f6, vp] 29))).heap[W.heap.size]? = some (.cells #[.int .i64 p.f0, .int .i64 p.f1, .int .i64 p.f2, .int .i64 p.f3, .int .i64 p.f4, .int .i64 p.f5, .int .i64 p.f6, vp] 29 (0, 0)) from by exact heap_alloc_new _ _)
  have G2_ := Lib.hid (show (W).grownBy ((W.alloc (.cells #[.int .i64 p.f0, .int .i64 p.f1, .int .i64 p.f2, .int .i64 p.f3, .int .i64 p.f4, .int .i64 p.f5, .int .i64 p.f6, vp] 29))) none from (gby_alloc (gby_refl _ _) _))
  have K_0_ : ((W.alloc (.cells #[.int .i64 p.f0, .int .i64 p.f1, .int .i64 p.f2, .int .i64 p.f3, .int .i64 p.f4, .int .i64 p.f5, .int .i64 p.f6, vp] 29))).cell? ⟨W.heap.size, 0, none⟩ = some (.int .i64 p.f0) := cell_of_row _ _ 0 _ _ _ rK1_.out
  have K_1_ : ((W.alloc (.cells #[.int .i64 p.f0, .int .i64 p.f1, .int .i64 p.f2, .int .i64 p.f3, .int .i64 p.f4, .int .i64 p.f5, .int .i64 p.f6, vp] 29))).cell? ⟨W.heap.size, 1, none⟩ = some (.int .i64 p.f1) := cell_of_row _ _ 1 _ _ _ rK1_.out
  have K_2_ : ((W.alloc (.cells #[.int .i64 p.f0, .int .i64 p.f1, .int .i64 p.f2, .int .i64 p.f3, .int .i64 p.f4, .int .i64 p.f5, .int .i64 p.f6, vp] 29))).cell? ⟨W.heap.size, 2, none⟩ = some (.int .i64 p.f2) := cell_of_row _ _ 2 _ _ _ rK1_.out
  have K_3_ : ((W.alloc (.cells #[.int .i64 p.f0, .int .i64 p.f1, .int .i64 p.f2, .int .i64 p.f3, .int .i64 p.f4, .int .i64 p.f5, .int .i64 p.f6, vp] 29))).cell? ⟨W.heap.size, 3, none⟩ = some (.int .i64 p.f3) := cell_of_row _ _ 3 _ _ _ rK1_.out
  have K_4_ : ((W.alloc (.cells #[.int .i64 p.f0, .int .i64 p.f1, .int .i64 p.f2, .int .i64 p.f3, .int .i64 p.f4, .int .i64 p.f5, .int .i64 p.f6, vp] 29))).cell? ⟨W.heap.size, 4, none⟩ = some (.int .i64 p.f4) := cell_of_row _ _ 4 _ _ _ rK1_.out
  have K_5_ : ((W.alloc (.cells #[.int .i64 p.f0, .int .i64 p.f1, .int .i64 p.f2, .int .i64 p.f3, .int .i64 p.f4, .int .i64 p.f5, .int .i64 p.f6, vp] 29))).cell? ⟨W.heap.size, 5, none⟩ = some (.int .i64 p.f5) := cell_of_row _ _ 5 _ _ _ rK1_.out
  have K_6_ : ((W.alloc (.cells #[.int .i64 p.f0, .int .i64 p.f1, .int .i64 p.f2, .int .i64 p.f3, .int .i64 p.f4, .int .i64 p.f5, .int .i64 p.f6, vp] 29))).cell? ⟨W.heap.size, 6, none⟩ = some (.int .i64 p.f6) := cell_of_row _ _ 6 _ _ _ rK1_.out
  have K_7_ : ((W.alloc (.cells #[.int .i64 p.f0, .int .i64 p.f1, .int .i64 p.f2, .int .i64 p.f3, .int .i64 p.f4, .int .i64 p.f5, .int .i64 p.f6, vp] 29))).cell? ⟨W.heap.size, 7, none⟩ = some (vp) := cell_of_row _ _ 7 _ _ _ rK1_.out
  have rG3_ := Lib.hid (show ((W.alloc (.cells #[.int .i64 p.f0, .int .i64 p.f1, .int .i64 p.f2, .int .i64 p.f3, .int .i64 p.f4, .int .i64 p.f5, .int .i64 p.f6, vp] 29))).heap[gb]? = some (.cells #[v0, v1] 54 (0, 0)) from row_held G2_.out hg)
  have oC4_ := Lib.hid (show OwU ((W.alloc (.cells #[.int .i64 p.f0, .int .i64 p.f1, .int .i64 p.f2, .int .i64 p.f3, .int .i64 p.f4, .int .i64 p.f5, .int .i64 p.f6, vp] 29))) (lo) (hi) [] [own shI v0 xs, own shI v1 ys] from ho.grow G2_.out)
  clear hg ho
  have G_0_ : ((W.alloc (.cells #[.int .i64 p.f0, .int .i64 p.f1, .int .i64 p.f2, .int .i64 p.f3, .int .i64 p.f4, .int .i64 p.f5, .int .i64 p.f6, vp] 29))).cell? ⟨gb, 0, none⟩ = some (v0) := cell_of_row _ _ 0 _ _ _ rG3_.out
  have G_1_ : ((W.alloc (.cells #[.int .i64 p.f0, .int .i64 p.f1, .int .i64 p.f2, .int .i64 p.f3, .int .i64 p.f4, .int .i64 p.f5, .int .i64 p.f6, vp] 29))).cell? ⟨gb, 1, none⟩ = some (v1) := cell_of_row _ _ 1 _ _ _ rG3_.out
  have HB := Lib.hid (show ∀ (W : World), RdL shI W v0 xs → RdL shI W v1 ys → RdL shI W vp p.f7 → Calls Try.prog 93 #[.agg #[v0, v1], .agg #[.int .i64 p.f0, .int .i64 p.f1, .int .i64 p.f2, .int .i64 p.f3, .int .i64 p.f4, .int .i64 p.f5, .int .i64 p.f6, vp]] W (AnsN (.bool true) W) from fun W h0 h1 h2 => by have q := coverD W v0 v1 vp xs ys p h0 h1 h2 HXL.out HYL.out HL.out HCR.out (by rw [HC.out]; omega); rw [HC.out, HU.out, decide_eq_true hcan] at q; exact q)
  have HR0 := Lib.hid (OwU.rd (oC4_.out.grow (gby_drew (gby_refl _ none))))
  have HR1 := Lib.hid (OwU.rd (OwU.tail (oC4_.out.grow (gby_drew (gby_refl _ none)))))
  have HR2 := Lib.hid (HP.out.grow (gby_drew G2_.out))
  have RG9 := Lib.hid rG3_.out
  have OC9 := Lib.hid oC4_.out
  have RK9 := Lib.hid rK1_.out
  have GW9 := Lib.hid (show W.grownBy (W.alloc (.cells #[.int .i64 p.f0, .int .i64 p.f1, .int .i64 p.f2, .int .i64 p.f3, .int .i64 p.f4, .int .i64 p.f5, .int .i64 p.f6, vp] 29)) none from G2_.out)
  go_wp2_with fail
  go_region_law (first
    | (go_simp; go_at_call 93; refine (HB.out _ HR0.out HR1.out HR2.out).mono ?_; rintro e wA ⟨rfl, gA⟩)
    | fail)
  all_goals
    have RG := Lib.hid (row_held gA (row_held (gby_drew (gby_refl _ none)) RG9.out))
    have RK := Lib.hid (row_held gA (row_held (gby_drew (gby_refl _ none)) RK9.out))
    have OC := Lib.hid (OwU.grow (OwU.grow OC9.out (gby_drew (gby_refl _ none))) gA)
    have GW := Lib.hid (gby_trans (gby_drew GW9.out) gA)
    have szA := GW.out.size
    try clear gA
    try clear K_0_
    try clear K_1_
    try clear K_2_
    try clear K_3_
    try clear K_4_
    try clear K_5_
    try clear K_6_
    try clear K_7_
    try clear G_0_
    try clear G_1_
    have G_0_ : (wA).cell? ⟨gb, 0, none⟩ = some (v0) := cell_of_row _ _ 0 _ _ _ RG.out
    have G_1_ : (wA).cell? ⟨gb, 1, none⟩ = some (v1) := cell_of_row _ _ 1 _ _ _ RG.out
    have K_0_ : (wA).cell? ⟨W.heap.size, 0, none⟩ = some (.int .i64 p.f0) := cell_of_row _ _ 0 _ _ _ RK.out
    have K_1_ : (wA).cell? ⟨W.heap.size, 1, none⟩ = some (.int .i64 p.f1) := cell_of_row _ _ 1 _ _ _ RK.out
    have K_2_ : (wA).cell? ⟨W.heap.size, 2, none⟩ = some (.int .i64 p.f2) := cell_of_row _ _ 2 _ _ _ RK.out
    have K_3_ : (wA).cell? ⟨W.heap.size, 3, none⟩ = some (.int .i64 p.f3) := cell_of_row _ _ 3 _ _ _ RK.out
    have K_4_ : (wA).cell? ⟨W.heap.size, 4, none⟩ = some (.int .i64 p.f4) := cell_of_row _ _ 4 _ _ _ RK.out
    have K_5_ : (wA).cell? ⟨W.heap.size, 5, none⟩ = some (.int .i64 p.f5) := cell_of_row _ _ 5 _ _ _ RK.out
    have K_6_ : (wA).cell? ⟨W.heap.size, 6, none⟩ = some (.int .i64 p.f6) := cell_of_row _ _ 6 _ _ _ RK.out
    have K_7_ : (wA).cell? ⟨W.heap.size, 7, none⟩ = some (vp) := cell_of_row _ _ 7 _ _ _ RK.out
    go_wp2_with fail
    go_at_call 124
    refine (crAdd _ gb lo hi k v0 v1 vp xs ys p (-1) u (-u) RG.out OC.out hgo (by omega) (HP.out.grow GW.out) (fun w g => HPF.out w (chg_trans (chg_gby GW.out lo hi) g)) HL.out HC.out (by omega) (by omega) HU.out (by rw [IntWalk.i64_in _ (by omega)]; omega) x y HX.out HY.out (IntWalk.i64_in _ (by omega)) (IntWalk.i64_in _ (by omega))).mono ?_
    rintro e w1 ⟨rfl, o, gc⟩
    rw [show x + (-1) = x - 1 by omega, show y + (-u) = y - u by omega] at o
    have HO9 := Lib.hid o
    have GC9 := Lib.hid (chg_trans (chg_gby GW.out lo hi) gc)
    clear o gc
    clear G_0_ G_1_ K_0_ K_1_ K_2_ K_3_ K_4_ K_5_ K_6_ K_7_
    go_wp2
    go_ret
    exact ⟨rfl, HO9.out, GC9.out⟩

set_option maxRecDepth 8000 in
set_option maxHeartbeats 2000000 in
theorem spend_no (W : World) (gb lo hi k : Nat) (v0 v1 vp : Value) (xs ys : List Int) (p : DPacket) (hg : W.heap[gb]? = some (.cells #[v0, v1] 54 (0, 0))) (ho : OwU W lo hi [] [own shI v0 xs, own shI v1 ys]) (hgo : gb < lo ∨ hi ≤ gb) (hhi : hi ≤ W.heap.size) (hp : RdL shI W vp p.f7) (hpf : ∀ w, Chg W w lo hi → RdL shI w vp p.f7) (hl : szL shI p.f7 ≤ 1048576) (hc : clsD p = (k : Int)) (hk3 : k < 3) (hcr : CrdOk xs ys) (u : Int) (hu : untD p = u) (hu0 : 0 ≤ u) (hu9 : u ≤ 1000000) (hcan : ¬ CanP xs ys (k : Int) u) : Calls Try.prog 88 #[.pointer (some ⟨gb, 0, none⟩), (vPacket p.f0 p.f1 p.f2 p.f3 p.f4 p.f5 p.f6 vp)] W (SpPost false lo hi v0 v1 xs ys W) := by
  have HP := Lib.hid hp
  have HPF := Lib.hid hpf
  have HL := Lib.hid hl
  have HC := Lib.hid hc
  have HU := Lib.hid hu
  have HCR := Lib.hid hcr
  have hx1 := crd_at hcr hk3
  obtain ⟨x, hx⟩ : ∃ x, x = xs.getD k 0 := ⟨_, rfl⟩
  obtain ⟨y, hy⟩ : ∃ y, y = ys.getD k 0 := ⟨_, rfl⟩
  rw [← hx, ← hy] at hx1
  obtain ⟨hxl, hyl, hx0, hx30, hy0, hy30⟩ := hx1
  have HX := Lib.hid hx
  have HY := Lib.hid hy
  have HXL := Lib.hid (show szL shI xs ≤ 1048576 by rw [szL_I]; omega)
  have HYL := Lib.hid (show szL shI ys ≤ 1048576 by rw [szL_I]; omega)
  have hgl_ : gb < W.heap.size := lt_of_block hg
  clear hp hpf hl hc hu hcr hx hy
  unfold vPacket
  go_enter Try.func88, Try.ntmps88
  have rK1_ := Lib.hid (show ((W.alloc (.cells #[.int .i64 p.f0, .int .i64 p.f1, .int .i64 p.f2, .int .i64 p.f3, .int .i64 p.f4, .int .i64 p.f5, .int .i64 p.f6, vp] 29))).heap[W.heap.size]? = some (.cells #[.int .i64 p.f0, .int .i64 p.f1, .int .i64 p.f2, .int .i64 p.f3, .int .i64 p.f4, .int .i64 p.f5, .int .i64 p.f6, vp] 29 (0, 0)) from by exact heap_alloc_new _ _)
  have G2_ := Lib.hid (show (W).grownBy ((W.alloc (.cells #[.int .i64 p.f0, .int .i64 p.f1, .int .i64 p.f2, .int .i64 p.f3, .int .i64 p.f4, .int .i64 p.f5, .int .i64 p.f6, vp] 29))) none from (gby_alloc (gby_refl _ _) _))
  have K_0_ : ((W.alloc (.cells #[.int .i64 p.f0, .int .i64 p.f1, .int .i64 p.f2, .int .i64 p.f3, .int .i64 p.f4, .int .i64 p.f5, .int .i64 p.f6, vp] 29))).cell? ⟨W.heap.size, 0, none⟩ = some (.int .i64 p.f0) := cell_of_row _ _ 0 _ _ _ rK1_.out
  have K_1_ : ((W.alloc (.cells #[.int .i64 p.f0, .int .i64 p.f1, .int .i64 p.f2, .int .i64 p.f3, .int .i64 p.f4, .int .i64 p.f5, .int .i64 p.f6, vp] 29))).cell? ⟨W.heap.size, 1, none⟩ = some (.int .i64 p.f1) := cell_of_row _ _ 1 _ _ _ rK1_.out
  have K_2_ : ((W.alloc (.cells #[.int .i64 p.f0, .int .i64 p.f1, .int .i64 p.f2, .int .i64 p.f3, .int .i64 p.f4, .int .i64 p.f5, .int .i64 p.f6, vp] 29))).cell? ⟨W.heap.size, 2, none⟩ = some (.int .i64 p.f2) := cell_of_row _ _ 2 _ _ _ rK1_.out
  have K_3_ : ((W.alloc (.cells #[.int .i64 p.f0, .int .i64 p.f1, .int .i64 p.f2, .int .i64 p.f3, .int .i64 p.f4, .int .i64 p.f5, .int .i64 p.f6, vp] 29))).cell? ⟨W.heap.size, 3, none⟩ = some (.int .i64 p.f3) := cell_of_row _ _ 3 _ _ _ rK1_.out
  have K_4_ : ((W.alloc (.cells #[.int .i64 p.f0, .int .i64 p.f1, .int .i64 p.f2, .int .i64 p.f3, .int .i64 p.f4, .int .i64 p.f5, .int .i64 p.f6, vp] 29))).cell? ⟨W.heap.size, 4, none⟩ = some (.int .i64 p.f4) := cell_of_row _ _ 4 _ _ _ rK1_.out
  have K_5_ : ((W.alloc (.cells #[.int .i64 p.f0, .int .i64 p.f1, .int .i64 p.f2, .int .i64 p.f3, .int .i64 p.f4, .int .i64 p.f5, .int .i64 p.f6, vp] 29))).cell? ⟨W.heap.size, 5, none⟩ = some (.int .i64 p.f5) := cell_of_row _ _ 5 _ _ _ rK1_.out
  have K_6_ : ((W.alloc (.cells #[.int .i64 p.f0, .int .i64 p.f1, .int .i64 p.f2, .int .i64 p.f3, .int .i64 p.f4, .int .i64 p.f5, .int .i64 p.f6, vp] 29))).cell? ⟨W.heap.size, 6, none⟩ = some (.int .i64 p.f6) := cell_of_row _ _ 6 _ _ _ rK1_.out
  have K_7_ : ((W.alloc (.cells #[.int .i64 p.f0, .int .i64 p.f1, .int .i64 p.f2, .int .i64 p.f3, .int .i64 p.f4, .int .i64 p.f5, .int .i64 p.f6, vp] 29))).cell? ⟨W.heap.size, 7, none⟩ = some (vp) := cell_of_row _ _ 7 _ _ _ rK1_.out
  have rG3_ := Lib.hid (show ((W.alloc (.cells #[.int .i64 p.f0, .int .i64 p.f1, .int .i64 p.f2, .int .i64 p.f3, .int .i64 p.f4, .int .i64 p.f5, .int .i64 p.f6, vp] 29))).heap[gb]? = some (.cells #[v0, v1] 54 (0, 0)) from row_held G2_.out hg)
  have oC4_ := Lib.hid (show OwU ((W.alloc (.cells #[.int .i64 p.f0, .int .i64 p.f1, .int .i64 p.f2, .int .i64 p.f3, .int .i64 p.f4, .int .i64 p.f5, .int .i64 p.f6, vp] 29))) (lo) (hi) [] [own shI v0 xs, own shI v1 ys] from ho.grow G2_.out)
  clear hg ho
  have G_0_ : ((W.alloc (.cells #[.int .i64 p.f0, .int .i64 p.f1, .int .i64 p.f2, .int .i64 p.f3, .int .i64 p.f4, .int .i64 p.f5, .int .i64 p.f6, vp] 29))).cell? ⟨gb, 0, none⟩ = some (v0) := cell_of_row _ _ 0 _ _ _ rG3_.out
  have G_1_ : ((W.alloc (.cells #[.int .i64 p.f0, .int .i64 p.f1, .int .i64 p.f2, .int .i64 p.f3, .int .i64 p.f4, .int .i64 p.f5, .int .i64 p.f6, vp] 29))).cell? ⟨gb, 1, none⟩ = some (v1) := cell_of_row _ _ 1 _ _ _ rG3_.out
  have HB := Lib.hid (show ∀ (W : World), RdL shI W v0 xs → RdL shI W v1 ys → RdL shI W vp p.f7 → Calls Try.prog 93 #[.agg #[v0, v1], .agg #[.int .i64 p.f0, .int .i64 p.f1, .int .i64 p.f2, .int .i64 p.f3, .int .i64 p.f4, .int .i64 p.f5, .int .i64 p.f6, vp]] W (AnsN (.bool false) W) from fun W h0 h1 h2 => by have q := coverD W v0 v1 vp xs ys p h0 h1 h2 HXL.out HYL.out HL.out HCR.out (by rw [HC.out]; omega); rw [HC.out, HU.out, decide_eq_false hcan] at q; exact q)
  have HR0 := Lib.hid (OwU.rd (oC4_.out.grow (gby_drew (gby_refl _ none))))
  have HR1 := Lib.hid (OwU.rd (OwU.tail (oC4_.out.grow (gby_drew (gby_refl _ none)))))
  have HR2 := Lib.hid (HP.out.grow (gby_drew G2_.out))
  have RG9 := Lib.hid rG3_.out
  have OC9 := Lib.hid oC4_.out
  have RK9 := Lib.hid rK1_.out
  have GW9 := Lib.hid (show W.grownBy (W.alloc (.cells #[.int .i64 p.f0, .int .i64 p.f1, .int .i64 p.f2, .int .i64 p.f3, .int .i64 p.f4, .int .i64 p.f5, .int .i64 p.f6, vp] 29)) none from G2_.out)
  go_wp2_with fail
  go_region_law (first
    | (go_simp; go_at_call 93; refine (HB.out _ HR0.out HR1.out HR2.out).mono ?_; rintro e wA ⟨rfl, gA⟩)
    | fail)
  all_goals
    have RG := Lib.hid (row_held gA (row_held (gby_drew (gby_refl _ none)) RG9.out))
    have RK := Lib.hid (row_held gA (row_held (gby_drew (gby_refl _ none)) RK9.out))
    have OC := Lib.hid (OwU.grow (OwU.grow OC9.out (gby_drew (gby_refl _ none))) gA)
    have GW := Lib.hid (gby_trans (gby_drew GW9.out) gA)
    have szA := GW.out.size
    try clear gA
    try clear K_0_
    try clear K_1_
    try clear K_2_
    try clear K_3_
    try clear K_4_
    try clear K_5_
    try clear K_6_
    try clear K_7_
    try clear G_0_
    try clear G_1_
    have G_0_ : (wA).cell? ⟨gb, 0, none⟩ = some (v0) := cell_of_row _ _ 0 _ _ _ RG.out
    have G_1_ : (wA).cell? ⟨gb, 1, none⟩ = some (v1) := cell_of_row _ _ 1 _ _ _ RG.out
    have K_0_ : (wA).cell? ⟨W.heap.size, 0, none⟩ = some (.int .i64 p.f0) := cell_of_row _ _ 0 _ _ _ RK.out
    have K_1_ : (wA).cell? ⟨W.heap.size, 1, none⟩ = some (.int .i64 p.f1) := cell_of_row _ _ 1 _ _ _ RK.out
    have K_2_ : (wA).cell? ⟨W.heap.size, 2, none⟩ = some (.int .i64 p.f2) := cell_of_row _ _ 2 _ _ _ RK.out
    have K_3_ : (wA).cell? ⟨W.heap.size, 3, none⟩ = some (.int .i64 p.f3) := cell_of_row _ _ 3 _ _ _ RK.out
    have K_4_ : (wA).cell? ⟨W.heap.size, 4, none⟩ = some (.int .i64 p.f4) := cell_of_row _ _ 4 _ _ _ RK.out
    have K_5_ : (wA).cell? ⟨W.heap.size, 5, none⟩ = some (.int .i64 p.f5) := cell_of_row _ _ 5 _ _ _ RK.out
    have K_6_ : (wA).cell? ⟨W.heap.size, 6, none⟩ = some (.int .i64 p.f6) := cell_of_row _ _ 6 _ _ _ RK.out
    have K_7_ : (wA).cell? ⟨W.heap.size, 7, none⟩ = some (vp) := cell_of_row _ _ 7 _ _ _ RK.out
    go_wp2
    go_ret
    exact ⟨rfl, OC.out, chg_gby GW.out lo hi⟩

end Go.Proofs.Ytgagbhkidponnac
