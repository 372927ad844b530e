/-
  Frames as the law hands them over: opened, measured, copied, compared, marked, held.
-/
import Derived.Test.YtokpmbagidokkacFrame
import Derived.Test.YtokpmbagidokkacRows
import Derived.ProofKit
import Derived.OpenShut
import Derived.ChangeSame
import Derived.Deep.RegionHeld
namespace Go.Proofs.Ytokpmbagidokkac
open Go Go.RowKit Go.ChangeShapes Go.WideShapes Go.ChangeAt

set_option maxHeartbeats 1000000 in
theorem szFr_any (W : World) (q n : Int) (d : Option Addr) (len cap : Nat) (hl : (len : Int) ≤ n) (hn : n ≤ 1048576) :
    Calls Try.prog 11 #[frV q d len cap, .int .i64 n] W (fun e w' => e = .returned (.int .i64 (n - len)) ∧ W.grownBy w' none) := by
  unfold frV
  go_enter Try.func11, Try.ntmps11
  go_wp2
  go_ret
  exact ⟨rfl, gby_alloc (gby_refl _ _) _⟩

set_option maxHeartbeats 1000000 in
theorem szFr_big (W : World) (q n : Int) (d : Option Addr) (len cap : Nat) (hl : n < (len : Int)) (hn : n ≤ 1048576) (h0 : 0 ≤ n) (hc : len ≤ 9223372036854775807) :
    Calls Try.prog 11 #[frV q d len cap, .int .i64 n] W (fun e w' => e = .returned (.int .i64 (-1)) ∧ W.grownBy w' none) := by
  unfold frV
  have hneg : n - (len : Int) < 0 := by omega
  go_enter Try.func11, Try.ntmps11
  go_wp2
  go_ret
  exact ⟨rfl, gby_alloc (gby_refl _ _) _⟩

/-- a row that a later world still holds -/
theorem row_on {W w : World} {b : Nat} {o : Obj} (g : W.grownBy w none) (h : W.heap[b]? = some o) : w.heap[b]? = some o := by
  rw [g.block b (block_in h) (by simp)]; exact h

theorem fr_cells {w : World} {b : Nat} {q : Int} {d : Option Addr} {len cap : Nat} {ty : TypeId} (h : w.heap[b]? = some (.cells #[.int .i64 q, .slice d len cap] ty (0, 0))) : w.cell? ⟨b, 0, none⟩ = some (.int .i64 q) ∧ w.cell? ⟨b, 1, none⟩ = some (.slice d len cap) :=
  ⟨cell_of_row w b 0 _ _ _ h, cell_of_row w b 1 _ _ _ h⟩

theorem OwI.isl {w : World} {lo hi : Nat} {a : Option Addr} {n cap : Nat} {xs : List Int} (h : OwI w lo hi (.slice a n cap) xs) : ISl w a n xs := by
  obtain ⟨a', cap', hv, h, _⟩ := h
  injection hv with h1 h2 h3
  subst h1 h2
  exact h.isl
theorem OwI.rds {w : World} {lo hi : Nat} {a : Option Addr} {n cap : Nat} {xs : List Int} (h : OwI w lo hi (.slice a n cap) xs) : RdS w a n cap xs := by
  obtain ⟨a', cap', hv, h, _, hc⟩ := h
  injection hv with h1 h2 h3
  subst h1 h2 h3
  exact ⟨h.isl, hc⟩

theorem chg_set {w a : World} {lo hi : Nat} (h : Chg w a lo hi) (p : Addr) (h1 : lo ≤ p.block) (h2 : p.block < hi) (v : Value) : Chg w (a.setCell p v) lo hi :=
  ⟨h.os, h.tape, h.output, by simpa using h.size, fun k hk hn => (Below.heap_setCell _ _ _ _ (by omega)).trans (h.block k hk hn)⟩

/-- a frame whose bytes lie in new memory -/
def MadeFr (q : Int) (xs : List Int) (W : World) (e : Ending) (w' : World) : Prop := ∃ d cap, e = .returned (frV q d xs.length cap) ∧ OwI w' W.heap.size w'.heap.size (.slice d xs.length cap) xs ∧ W.grownBy w' none

set_option maxHeartbeats 1000000 in
theorem toFr_own (W : World) (q : Int) (d : Option Addr) (len cap : Nat) (xs : List Int) (H : ISl W d len xs) (hl : len ≤ 1048576) :
    Calls Try.prog 13 #[frV q d len cap] W (MadeFr q xs W) := by
  have HI := Lib.hid H
  clear H
  unfold frV
  go_enter Try.func13, Try.ntmps13
  go_wp2_with fail
  go_at_call 21
  refine (toI_any _ _ _ _ _ (HI.out.kept (gby_alloc (gby_alloc (gby_alloc (gby_refl _ _) _) _) _)) hl).mono ?_
  rintro e w1 ⟨vv, rfl, hi, hg⟩
  obtain ⟨d2, cap2, rfl, hi⟩ := hi
  have hr := row_on hg (heap_alloc_new _ _)
  simp only [World.size_alloc] at hr hi
  have r0 := cell_of_row w1 _ 0 _ _ _ hr
  have r1 := cell_of_row w1 _ 1 _ _ _ hr
  have f1 := frozen_of_row w1 _ 1 _ _ hr
  have hq := row_on hg (W := ((W.alloc _).alloc _).alloc _) (b := W.heap.size + 1) (by rw [heap_alloc_old _ _ (by simp)]; exact heap_two W _ _)
  have q0 := cell_of_row w1 _ 0 _ _ _ hq
  have q1 := cell_of_row w1 _ 1 _ _ _ hq
  have z0 := frozen_of_row w1 _ 0 _ _ hq
  have z1 := frozen_of_row w1 _ 1 _ _ hq
  have HG := Lib.hid (gby_trans (gby_alloc (gby_alloc (gby_alloc (gby_refl W none) _) _) _) hg)
  have HJ := Lib.hid hi
  clear hr hi hg hq
  go_wp2
  refine bodyPost_ret (v := frV q d2 xs.length cap2) (by simp [results, go_sem, frV, q0, q1]) rfl ⟨d2, cap2, rfl, ?_, ?_⟩
  · have ho : OwI w1 (W.heap.size + 1 + 1 + 1) w1.heap.size (.slice d2 xs.length cap2) xs := ⟨d2, cap2, rfl, HJ.out⟩
    refine (ho.kept (lo' := W.heap.size) (hi' := W.heap.size + 3) ?_ (.inr (by omega))).wide (by omega) (by simp)
    iterate 3 (with_reducible refine chg_set ?_ _ (by dsimp only; omega) (by dsimp only; omega) _)
    exact chg_gby (gby_refl _ _) _ _
  · iterate 3 (with_reducible refine gby_setnew ?_ _ (by dsimp only; omega) _)
    exact HG.out

set_option maxHeartbeats 1000000 in
theorem eqFr_same (W : World) (q : Int) (d1 d2 : Option Addr) (len c1 c2 : Nat) (xs : List Int) (H1 : ISl W d1 len xs) (H2 : ISl W d2 len xs) (hl : len ≤ 1048576) :
    Calls Try.prog 16 #[frV q d1 len c1, frV q d2 len c2] W (fun e w' => e = .returned (.bool true) ∧ W.grownBy w' none) := by
  have HI1 := Lib.hid H1
  have HI2 := Lib.hid H2
  clear H1 H2
  unfold frV
  have bk : (q != q) = false := by simp
  go_enter Try.func16, Try.ntmps16
  go_wp2_with fail
  go_at_call 15
  refine (eqInts_any _ _ _ _ _ _ _ xs xs (HI1.out.kept (gby_alloc (gby_alloc (gby_refl _ _) _) _)) (HI2.out.kept (gby_alloc (gby_alloc (gby_refl _ _) _) _)) hl (by omega)).mono ?_
  rintro e w1 ⟨rfl, d1⟩
  have D1 := Lib.hid (gby_trans (gby_alloc (gby_alloc (gby_refl W none) _) _) (d1.gby none))
  clear d1
  rw [show decide (xs = xs) = true from decide_eq_true rfl]
  go_wp2
  go_ret
  exact ⟨rfl, D1.out⟩

set_option maxHeartbeats 1000000 in
theorem markFr_any (w : World) (lo hi m : Nat) (q : Int) (d : Option Addr) (len cap : Nat) (xs : List Int) (h1 : OwI w lo hi (.slice d len cap) xs) (hl : xs.length ≤ 2000000) (hm2 : m ≤ 1000000000) :
    Calls Try.prog 17 #[frV q d len cap, .int .i64 (m : Int)] w (fun e w' => e = .returned (.int .i64 ((m + xs.length : Nat) : Int)) ∧ OwI w' lo hi (.slice d len cap) (marksI m xs.length) ∧ Chg w w' lo hi) := by
  have HO := Lib.hid h1
  clear h1
  unfold frV
  go_enter Try.func17, Try.ntmps17
  go_wp2_with fail
  go_at_call 18
  refine (mkI_any _ lo hi m _ xs (HO.out.grow (gby_alloc (gby_refl _ _) _)) hl hm2).mono ?_
  rintro e w1 ⟨rfl, o1, c1⟩
  have O1 := Lib.hid o1
  have C1 := Lib.hid (chg_trans (chg_gby (gby_alloc (gby_refl w none) _) lo hi) c1)
  clear o1 c1
  go_wp2
  go_ret
  exact ⟨rfl, O1.out, C1.out⟩

set_option maxHeartbeats 1000000 in
theorem heldFr_any (w : World) (m n : Nat) (q : Int) (d : Option Addr) (len cap : Nat) (h1 : RdI w (.slice d len cap) (marksI m n)) (hl : n ≤ 2000000) (hm2 : m ≤ 1000000000) :
    Calls Try.prog 23 #[frV q d len cap, .int .i64 (m : Int)] w (fun e w' => e = .returned (.int .i64 ((m + n : Nat) : Int)) ∧ w.grownBy w' none) := by
  have HO := Lib.hid h1
  clear h1
  unfold frV
  go_enter Try.func23, Try.ntmps23
  go_wp2_with fail
  go_at_call 19
  refine (hdI_any _ m n _ (HO.out.kept (gby_alloc (gby_refl _ _) _)) hl hm2).mono ?_
  rintro e w1 ⟨rfl, d1⟩
  have G1 := Lib.hid (gby_trans (gby_alloc (gby_refl w none) _) (d1.gby none))
  clear d1
  go_wp2
  go_ret
  exact ⟨rfl, G1.out⟩

set_option maxRecDepth 100000 in
theorem cellsFr : Try.prog.cellsOf 24 = 2 := by kernel_rfl
set_option maxRecDepth 100000 in
theorem cellsInt : Try.prog.cellsOf 3 = 1 := by kernel_rfl
set_option maxRecDepth 100000 in
theorem cellsSlc : Try.prog.cellsOf 22 = 1 := by kernel_rfl

/-- a slice of numbers, read -/
theorem isl_of {H : Type} {enc : TypeId × Value → H} {W : World} {v : Value} {y : DataW H × List MemPlace} {n : Nat} (h : DataW.trod enc Try.prog W 0 (fun _ => true) true n 22 [v] = some y) :
    ∃ a len cap xs, v = .slice a len cap ∧ ISl W a len xs ∧ len ≤ 9223372036854775807 := by
  rcases open_ints Try.underlying22 Try.underlying3 cellsInt h with ⟨hcs, _⟩ | ⟨x, l, c, zs, hcs, _, hl, hm, hz, _, hcell, _⟩
  · obtain rfl : v = .slice none 0 0 := by simpa using hcs
    exact ⟨none, 0, 0, [], rfl, ⟨rfl, .inl rfl⟩, by omega⟩
  · obtain rfl : v = .slice (some x) l c := by simpa using hcs
    unfold maxLen at hm
    have hzl : zs.length = c := by simpa using hz
    refine ⟨some x, l, c, zs.take l, rfl, ⟨by simp; omega, ?_⟩, by omega⟩
    by_cases h0 : l = 0
    · exact .inl h0
    · obtain ⟨b, off, spot⟩ := x
      have hc := hcell 0 (by omega)
      have hspot : spot = none := by simpa [Addr.add] using World.cell?_spot hc
      subst hspot
      refine .inr ⟨b, off, rfl, fun k hk => ?_⟩
      have := hcell k (by omega)
      have e : (Addr.mk b off none).add k = ⟨b, off + k, none⟩ := by
        unfold Addr.add; split
        · rename_i hk0; have : k = 0 := by simpa using hk0
          subst this; rfl
        · rfl
      rw [e] at this
      rw [this]
      congr 2
      rw [List.getD_eq_getElem?_getD, List.getD_eq_getElem?_getD, List.getElem?_take, if_pos hk]

set_option maxRecDepth 100000 in
theorem open_fr {H : Type} {enc : TypeId × Value → H} {W : World} {base : Nat} {v : Value} {d : DataW H} {ps : List MemPlace} (hw : Value.okWide Try.prog W .any base 24 v) (h : DataW.Trod enc Try.prog W 0 (fun _ => true) true 24 v d ps) :
    ∃ q da len cap xs, v = frV q da len cap ∧ ISl W da len xs ∧ len ≤ 9223372036854775807 := by
  obtain ⟨cs, rfl, hsz⟩ := okWide_struct Try.underlying24 hw
  rw [cellsFr] at hsz
  obtain ⟨L⟩ := cs
  match L, hsz with
  | [c0, c1], _ =>
  obtain ⟨fuel, hf⟩ := h
  obtain ⟨ys, n, _, _, _, hlen, hfld⟩ := DataW.trod_struct Try.underlying24 hf
  match ys, hlen with
  | [y0, y1], _ =>
  obtain ⟨q, e0, _, _⟩ := DataW.trod_int Try.underlying3 (hfld 0 _ rfl)
  have h7 := hfld 1 _ rfl
  simp [Value.cells, cellsInt, cellsSlc] at e0 h7
  obtain ⟨da, len, cap, xs, rfl, hi, hc⟩ := isl_of h7
  subst e0
  exact ⟨q, da, len, cap, xs, rfl, hi, hc⟩

end Go.Proofs.Ytokpmbagidokkac
