/-
  NewArbiter on both sides.
-/
import Derived.Test.YtgmpehccklifdacArb
import Derived.Test.YtgmpehccklifdacClone
import Derived.Deep.RegionHeld3
namespace Go.Proofs.Ytgmpehccklifdac
open Go Go.RowKit
set_option linter.unusedVariables false

/-- no arbiter -/
theorem madeNo {W w : World} (g : W.grownBy w none) (hle : W.heap.size ≤ w.heap.size) : MadeArbiterB [] 0 0 false W (.returned (.tuple #[abV none 0 0 0 0, .bool false])) w :=
  ⟨none, 0, rfl, owS_one (owI_row (World.ownsRow_nil _ _ _ _)) hle, g⟩

set_option maxRecDepth 8000 in
set_option maxHeartbeats 2000000 in
theorem specNewAb_in (W : World) (a : Option Addr) (n c : Nat) (ws : List Int) (H : RdI W (.slice a n c) ws) (hl : n ≤ 1048576) (h0 : 0 < n) (x : Int) (hx : x = ws.getD 0 0) (hok : ArbOk ws 0 x) :
    Calls Try.prog 20 #[.slice a n c] W (MadeArbiterB ws 0 x true W) := by
  obtain ⟨a', c', hv, hi, hcap⟩ := H
  injection hv with e1 e2 e3
  subst e1 e3
  have hd : decide (ArbOk ws 0 x) = true := decide_eq_true hok
  have hl' : ws.length ≤ 1048576 := by omega
  have HE := Lib.hid e2
  have hn : a = none → c = 0 := hcap.1
  obtain ⟨b, off, rfl, hcell⟩ := hi.2.resolve_left (by omega)
  have hc0 := hcell 0 (by omega)
  rw [Nat.add_zero, ← hx] at hc0
  have HC := Lib.hid hc0
  clear hcell hc0 hx
  have hn0 : (0 : Int) < (n : Int) := by omega
  rw [← e2] at hi
  have HI := Lib.hid hi
  clear hok e2 hi hcap
  have hm : ((W.alloc (.cells #[.slice none 0 0, .int .i64 0, .int .i64 0] 27)).alloc (.cells #[] 3)).ownsRow (W.heap.size + 1) 3 1 (.slice (some ⟨W.heap.size + 1, 0, none⟩) 0 0) 0 [] := by
    have := World.ownsRow_made (W.alloc (.cells #[.slice none 0 0, .int .i64 0, .int .i64 0] 27)) (base := W.heap.size + 1) (e := 3) (size := 1) #[] 0 (by simp) (by unfold maxLen; omega) rfl
    simpa using this
  have HM := Lib.hid hm
  have HN := Lib.hid hn
  clear hm hn
  go_enter Try.func20, Try.ntmps20
  go_wp2_with (at_builtin; refine wpList_append_isl _ rfl _ _ rfl (W.heap.size + 1) _ 0 [] rfl HM.out (some ⟨b, off, none⟩) n c ws rfl (HI.out.kept (gby_alloc (gby_alloc (gby_refl _ _) _) _)) (fun h => by cases h) (by omega) (by simp) ?_; intro v2 w2 hown2 hg2; have HO := Lib.hid hown2; have HG := Lib.hid (show ((W.alloc (.cells #[.slice none 0 0, .int .i64 0, .int .i64 0] 27)).alloc (.cells #[] 3)).grownBy w2 (some (W.heap.size + 1)) from hg2); clear hown2 hg2; have ho : w2.ownsRow (W.heap.size + 1) 3 1 v2 n (i64s ws) := (by have := HO.out; rwa [Nat.zero_add, List.nil_append] at this); obtain ⟨d, e, rfl, hp⟩ := owI_row ho; have O2 := Lib.hid (show OwI w2 (W.heap.size + 1) w2.heap.size (.slice d ws.length e) ws from ⟨d, e, rfl, hp⟩); have s2 := ho.1; have hz : w2.heap[W.heap.size]? = some (.cells #[.slice none 0 0, .int .i64 0, .int .i64 0] 27 (0, 0)) := (by rw [HG.out.block W.heap.size (by simp only [World.size_alloc]; omega) (by simp), heap_alloc_old _ _ (by simp)]; exact heap_alloc_new W _); have HZ := Lib.hid hz; have G2 := Lib.hid (gby_new (gby_alloc (gby_alloc (gby_refl W none) _) _) HG.out (fun i hi => by have := Option.some.inj hi; omega)); have z2 := HG.out.size; simp only [World.size_alloc] at z2; have hc := (gby_alloc G2.out (.cells #[.slice d ws.length e, .int .i64 0, .int .i64 0] 27)).cell HC.out (by simp); clear hp ho hz HO HG HM s2)
  all_goals
    go_wp2_with fail
    go_at_call 16
    refine (specAb_any _ d _ e ws 0 x ((O2.out.isl').kept (gby_alloc (gby_refl _ _) _)) (by omega)).mono ?_
    rw [hd]
    rintro e' w3 ⟨rfl, g3⟩
    obtain ⟨p0, p1, p2⟩ := ab_row (row_held g3 (heap_alloc_new w2 _))
    have hz := row_held g3 (row_held (gby_alloc (gby_refl w2 none) _) HZ.out)
    obtain ⟨q0, q1, q2⟩ := ab_row hz
    have f0 := frozen_of_row w3 _ 0 _ _ hz
    have f1 := frozen_of_row w3 _ 1 _ _ hz
    have f2 := frozen_of_row w3 _ 2 _ _ hz
    have s3 := g3.size
    simp only [World.size_alloc] at s3
    have G3 := Lib.hid (gby_trans (gby_alloc G2.out _) g3)
    have O3 := Lib.hid (O2.out.grow (gby_trans (gby_alloc (gby_refl _ _) _) g3))
    clear g3 hz
    go_wp2
    refine bodyPost_ret (v := .tuple #[abV d ws.length e 0 x, .bool true]) (by simp [results, go_sem, abV, q0, q1, q2]) rfl ⟨d, e, rfl, ?_, ?_⟩
    · refine owS_one ?_ (by simp; omega)
      refine OwI.wide (lo := W.heap.size + 1) (hi := w2.heap.size) (OwI.kept (w := w3) (lo' := W.heap.size) (hi' := W.heap.size + 1) O3.out ?_ (.inr (Nat.le_refl _))) (by omega) (by simp; omega)
      repeat (with_reducible refine chg_setp ?_ _ (by dsimp only; omega) (by dsimp only; omega) _)
      exact chg_gby (gby_refl _ _) _ _
    · repeat (with_reducible refine gby_setnew ?_ _ (by dsimp only; omega) _)
      exact G3.out

set_option maxRecDepth 8000 in
set_option maxHeartbeats 2000000 in
theorem specNewAb_out (W : World) (a : Option Addr) (n c : Nat) (ws : List Int) (H : RdI W (.slice a n c) ws) (hl : n ≤ 1048576) (h0 : 0 < n) (x : Int) (hx : x = ws.getD 0 0) (hok : ¬ ArbOk ws 0 x) :
    Calls Try.prog 20 #[.slice a n c] W (MadeArbiterB [] 0 0 false W) := by
  obtain ⟨a', c', hv, hi, hcap⟩ := H
  injection hv with e1 e2 e3
  subst e1 e3
  have hd : decide (ArbOk ws 0 x) = false := decide_eq_false hok
  have hl' : ws.length ≤ 1048576 := by omega
  have HE := Lib.hid e2
  have hn : a = none → c = 0 := hcap.1
  obtain ⟨b, off, rfl, hcell⟩ := hi.2.resolve_left (by omega)
  have hc0 := hcell 0 (by omega)
  rw [Nat.add_zero, ← hx] at hc0
  have HC := Lib.hid hc0
  clear hcell hc0 hx
  have hn0 : (0 : Int) < (n : Int) := by omega
  rw [← e2] at hi
  have HI := Lib.hid hi
  clear hok e2 hi hcap
  have hm : ((W.alloc (.cells #[.slice none 0 0, .int .i64 0, .int .i64 0] 27)).alloc (.cells #[] 3)).ownsRow (W.heap.size + 1) 3 1 (.slice (some ⟨W.heap.size + 1, 0, none⟩) 0 0) 0 [] := by
    have := World.ownsRow_made (W.alloc (.cells #[.slice none 0 0, .int .i64 0, .int .i64 0] 27)) (base := W.heap.size + 1) (e := 3) (size := 1) #[] 0 (by simp) (by unfold maxLen; omega) rfl
    simpa using this
  have HM := Lib.hid hm
  have HN := Lib.hid hn
  clear hm hn
  go_enter Try.func20, Try.ntmps20
  go_wp2_with (at_builtin; refine wpList_append_isl _ rfl _ _ rfl (W.heap.size + 1) _ 0 [] rfl HM.out (some ⟨b, off, none⟩) n c ws rfl (HI.out.kept (gby_alloc (gby_alloc (gby_refl _ _) _) _)) (fun h => by cases h) (by omega) (by simp) ?_; intro v2 w2 hown2 hg2; have HO := Lib.hid hown2; have HG := Lib.hid (show ((W.alloc (.cells #[.slice none 0 0, .int .i64 0, .int .i64 0] 27)).alloc (.cells #[] 3)).grownBy w2 (some (W.heap.size + 1)) from hg2); clear hown2 hg2; have ho : w2.ownsRow (W.heap.size + 1) 3 1 v2 n (i64s ws) := (by have := HO.out; rwa [Nat.zero_add, List.nil_append] at this); obtain ⟨d, e, rfl, hp⟩ := owI_row ho; have O2 := Lib.hid (show OwI w2 (W.heap.size + 1) w2.heap.size (.slice d ws.length e) ws from ⟨d, e, rfl, hp⟩); have s2 := ho.1; have hz : w2.heap[W.heap.size]? = some (.cells #[.slice none 0 0, .int .i64 0, .int .i64 0] 27 (0, 0)) := (by rw [HG.out.block W.heap.size (by simp only [World.size_alloc]; omega) (by simp), heap_alloc_old _ _ (by simp)]; exact heap_alloc_new W _); have HZ := Lib.hid hz; have G2 := Lib.hid (gby_new (gby_alloc (gby_alloc (gby_refl W none) _) _) HG.out (fun i hi => by have := Option.some.inj hi; omega)); have z2 := HG.out.size; simp only [World.size_alloc] at z2; have hc := (gby_alloc G2.out (.cells #[.slice d ws.length e, .int .i64 0, .int .i64 0] 27)).cell HC.out (by simp); clear hp ho hz HO HG HM s2)
  all_goals
    go_wp2_with fail
    go_at_call 16
    refine (specAb_any _ d _ e ws 0 x ((O2.out.isl').kept (gby_alloc (gby_refl _ _) _)) (by omega)).mono ?_
    rw [hd]
    rintro e' w3 ⟨rfl, g3⟩
    obtain ⟨p0, p1, p2⟩ := ab_row (row_held g3 (heap_alloc_new w2 _))
    have hz := row_held g3 (row_held (gby_alloc (gby_refl w2 none) _) HZ.out)
    obtain ⟨q0, q1, q2⟩ := ab_row hz
    have f0 := frozen_of_row w3 _ 0 _ _ hz
    have f1 := frozen_of_row w3 _ 1 _ _ hz
    have f2 := frozen_of_row w3 _ 2 _ _ hz
    have s3 := g3.size
    simp only [World.size_alloc] at s3
    have G3 := Lib.hid (gby_trans (gby_alloc G2.out _) g3)
    have O3 := Lib.hid (O2.out.grow (gby_trans (gby_alloc (gby_refl _ _) _) g3))
    clear g3 hz
    go_wp2
    refine bodyPost_ret (v := .tuple #[abV none 0 0 0 0, .bool false]) (by simp [results, go_sem, abV, q0, q1, q2]) rfl (madeNo ?_ (by simp; omega))
    repeat (with_reducible refine gby_setnew ?_ _ (by dsimp only; omega) _)
    exact G3.out

set_option maxRecDepth 8000 in
set_option maxHeartbeats 2000000 in
theorem specNewAb_nil (W : World) (a : Option Addr) (n c : Nat) (ws : List Int) (H : RdI W (.slice a n c) ws) (hl : n ≤ 1048576) (h0 : n = 0) (hok : ¬ ArbOk ws 0 0) :
    Calls Try.prog 20 #[.slice a n c] W (MadeArbiterB [] 0 0 false W) := by
  have hn0 : ¬ (0 : Int) < (n : Int) := by omega
  clear h0
  obtain ⟨a', c', hv, hi, hcap⟩ := H
  injection hv with e1 e2 e3
  subst e1 e3
  have hd : decide (ArbOk ws 0 0) = false := decide_eq_false hok
  have hl' : ws.length ≤ 1048576 := by omega
  have HE := Lib.hid e2
  have hn : a = none → c = 0 := hcap.1
  rw [← e2] at hi
  have HI := Lib.hid hi
  clear hok e2 hi hcap
  have hm : ((W.alloc (.cells #[.slice none 0 0, .int .i64 0, .int .i64 0] 27)).alloc (.cells #[] 3)).ownsRow (W.heap.size + 1) 3 1 (.slice (some ⟨W.heap.size + 1, 0, none⟩) 0 0) 0 [] := by
    have := World.ownsRow_made (W.alloc (.cells #[.slice none 0 0, .int .i64 0, .int .i64 0] 27)) (base := W.heap.size + 1) (e := 3) (size := 1) #[] 0 (by simp) (by unfold maxLen; omega) rfl
    simpa using this
  have HM := Lib.hid hm
  have HN := Lib.hid hn
  clear hm hn
  go_enter Try.func20, Try.ntmps20
  go_wp2_with (at_builtin; refine wpList_append_isl _ rfl _ _ rfl (W.heap.size + 1) _ 0 [] rfl HM.out a n c ws rfl (HI.out.kept (gby_alloc (gby_alloc (gby_refl _ _) _) _)) HN.out (by omega) (by simp) ?_; intro v2 w2 hown2 hg2; have HO := Lib.hid hown2; have HG := Lib.hid (show ((W.alloc (.cells #[.slice none 0 0, .int .i64 0, .int .i64 0] 27)).alloc (.cells #[] 3)).grownBy w2 (some (W.heap.size + 1)) from hg2); clear hown2 hg2; have ho : w2.ownsRow (W.heap.size + 1) 3 1 v2 n (i64s ws) := (by have := HO.out; rwa [Nat.zero_add, List.nil_append] at this); obtain ⟨d, e, rfl, hp⟩ := owI_row ho; have O2 := Lib.hid (show OwI w2 (W.heap.size + 1) w2.heap.size (.slice d ws.length e) ws from ⟨d, e, rfl, hp⟩); have s2 := ho.1; have hz : w2.heap[W.heap.size]? = some (.cells #[.slice none 0 0, .int .i64 0, .int .i64 0] 27 (0, 0)) := (by rw [HG.out.block W.heap.size (by simp only [World.size_alloc]; omega) (by simp), heap_alloc_old _ _ (by simp)]; exact heap_alloc_new W _); have HZ := Lib.hid hz; have G2 := Lib.hid (gby_new (gby_alloc (gby_alloc (gby_refl W none) _) _) HG.out (fun i hi => by have := Option.some.inj hi; omega)); have z2 := HG.out.size; simp only [World.size_alloc] at z2; skip; clear hp ho hz HO HG HM s2)
  all_goals
    go_wp2_with fail
    go_at_call 16
    refine (specAb_any _ d _ e ws 0 0 ((O2.out.isl').kept (gby_alloc (gby_refl _ _) _)) (by omega)).mono ?_
    rw [hd]
    rintro e' w3 ⟨rfl, g3⟩
    obtain ⟨p0, p1, p2⟩ := ab_row (row_held g3 (heap_alloc_new w2 _))
    have hz := row_held g3 (row_held (gby_alloc (gby_refl w2 none) _) HZ.out)
    obtain ⟨q0, q1, q2⟩ := ab_row hz
    have f0 := frozen_of_row w3 _ 0 _ _ hz
    have f1 := frozen_of_row w3 _ 1 _ _ hz
    have f2 := frozen_of_row w3 _ 2 _ _ hz
    have s3 := g3.size
    simp only [World.size_alloc] at s3
    have G3 := Lib.hid (gby_trans (gby_alloc G2.out _) g3)
    have O3 := Lib.hid (O2.out.grow (gby_trans (gby_alloc (gby_refl _ _) _) g3))
    clear g3 hz
    go_wp2
    refine bodyPost_ret (v := .tuple #[abV none 0 0 0 0, .bool false]) (by simp [results, go_sem, abV, q0, q1, q2]) rfl (madeNo ?_ (by simp; omega))
    repeat (with_reducible refine gby_setnew ?_ _ (by dsimp only; omega) _)
    exact G3.out

set_option maxRecDepth 8000 in
set_option maxHeartbeats 2000000 in
theorem implNewAb_in (W : World) (a : Option Addr) (n c : Nat) (ws : List Int) (H : RdI W (.slice a n c) ws) (hl : n ≤ 1048576) (h0 : 0 < n) (x : Int) (hx : x = ws.getD 0 0) (hok : ArbOk ws 0 x) :
    Calls Try.prog 22 #[.slice a n c] W (MadeArbiterB ws 0 x true W) := by
  have HR := Lib.hid H
  obtain ⟨a', c', hv, hi, hcap⟩ := H
  injection hv with e1 e2 e3
  subst e1 e3
  have hd : decide (ArbOk ws 0 x) = true := decide_eq_true hok
  have hl' : ws.length ≤ 1048576 := by omega
  obtain ⟨b, off, rfl, hcell⟩ := hi.2.resolve_left (by omega)
  have hc0 := hcell 0 (by omega)
  rw [Nat.add_zero, ← hx] at hc0
  have HC := Lib.hid hc0
  have hcW : (W.alloc (.cells #[.slice none 0 0, .int .i64 0, .int .i64 0] 27)).cell? ⟨b, off, none⟩ = some (.int .i64 x) := (gby_alloc (gby_refl W none) _).cell HC.out (by simp)
  have hcW2 : ((W.alloc (.cells #[.slice none 0 0, .int .i64 0, .int .i64 0] 27)).alloc (.cells #[.slice none 0 0, .int .i64 0, .int .i64 0] 27)).cell? ⟨b, off, none⟩ = some (.int .i64 x) := (gby_alloc (gby_alloc (gby_refl W none) _) _).cell HC.out (by simp)
  have new1 := World.new_ne (W.alloc (.cells #[.slice none 0 0, .int .i64 0, .int .i64 0] 27)) ⟨b, off, none⟩ hcW
  have new2 : W.heap.size + 1 ≠ b := by simpa using new1
  have hn0 : ((n : Int) == 0) = false := by simp; omega
  have hz : (W.alloc (.cells #[.slice none 0 0, .int .i64 0, .int .i64 0] 27)).heap[W.heap.size]? = some (.cells #[.slice none 0 0, .int .i64 0, .int .i64 0] 27 (0, 0)) := heap_alloc_new W _
  have HZ := Lib.hid hz
  have hlt : (0 : Int) < (n : Int) := by omega
  clear hok e2 hi hcap hx hcell hc0 hz
  go_enter Try.func22, Try.ntmps22
  go_wp2_with fail
  go_region_held3 (fun w' => w'.cell? ⟨b, off, none⟩ = some (.int .i64 x))
    (first | exact hcW | exact gC.cell hcW (by simp) | exact (gby_alloc gC _).cell hcW (by simp) | exact gC.cell hcW2 (by simp) | exact gC.cell (show (World.drew _).cell? _ = _ from hcW2) (by simp) | exact hcW2 | (rw [World.cell?_setCell_far _ _ _ _ new2, World.cell?_setCell_far _ _ _ _ new2, World.cell?_setCell_far _ _ _ _ new2]; exact gC.cell (show (World.drew _).cell? _ = _ from hcW2) (by simp)) | go_keep)
    (first | (go_at_call 60; refine (clone_any _ _ ws (HR.out.kept (by first | exact gby_drew (gby_alloc (gby_refl _ _) _) | exact gby_alloc (gby_drew (gby_alloc (gby_refl _ _) _)) _)) hl').mono ?_; rintro e wC ⟨vC, rfl, oC, gC⟩; obtain ⟨dC, eC, rfl, pC⟩ := oC; try (have hA := row_held gC (show (World.drew ((W.alloc (.cells #[.slice none 0 0, .int .i64 0, .int .i64 0] 27)).alloc (.cells #[.slice none 0 0, .int .i64 0, .int .i64 0] 27))).heap[W.heap.size + 1]? = some (.cells #[.slice none 0 0, .int .i64 0, .int .i64 0] 27 (0, 0)) from heap_pair W _ _); obtain ⟨k0, k1, k2⟩ := ab_row hA; have f0 := frozen_of_row wC _ 0 _ _ hA; have f1 := frozen_of_row wC _ 1 _ _ hA; have f2 := frozen_of_row wC _ 2 _ _ hA)))
  all_goals
    clear hcW hcW2
    try clear k0 k1 k2 f0 f1 f2 hA
    first
      | skip
        have GC := Lib.hid (gby_trans (gby_drew (show W.grownBy (W.alloc (.cells #[.slice none 0 0, .int .i64 0, .int .i64 0] 27)) none from (gby_alloc (gby_refl _ _) _))) gC)
        have hz := row_held gC (show (World.drew (W.alloc (.cells #[.slice none 0 0, .int .i64 0, .int .i64 0] 27))).heap[W.heap.size]? = _ from HZ.out)
        have HZ' := Lib.hid hz
        have OC := Lib.hid (show OwI wC (W.heap.size + 1) wC.heap.size (.slice dC ws.length eC) ws from by
          have q : OwI wC _ wC.heap.size (.slice dC ws.length eC) ws := ⟨dC, eC, rfl, pC⟩
          have e : (World.drew (W.alloc (.cells #[.slice none 0 0, .int .i64 0, .int .i64 0] 27))).heap.size = W.heap.size + 1 := by show ((W.alloc (.cells #[.slice none 0 0, .int .i64 0, .int .i64 0] 27))).heap.size = _; simp
          rw [e] at q
          exact q)
        have sC : W.heap.size + 1 ≤ wC.heap.size := by
          have q := gC.size
          have e : (World.drew (W.alloc (.cells #[.slice none 0 0, .int .i64 0, .int .i64 0] 27))).heap.size = W.heap.size + 1 := by show ((W.alloc (.cells #[.slice none 0 0, .int .i64 0, .int .i64 0] 27))).heap.size = _; simp
          omega
        have GA := Lib.hid (show wC.grownBy (wC.alloc (.cells #[.slice dC ws.length eC, .int .i64 0, .int .i64 x] 27)) none from gby_alloc (gby_refl _ _) _)
        have HA := Lib.hid (heap_alloc_new wC (.cells #[.slice dC ws.length eC, .int .i64 0, .int .i64 x] 27))
        have OA := Lib.hid (OC.out.grow GA.out)
        have HZA := Lib.hid (row_held GA.out HZ'.out)
        have GW := Lib.hid (gby_trans GC.out GA.out)
        have sA : wC.heap.size ≤ ((wC.alloc (.cells #[.slice dC ws.length eC, .int .i64 0, .int .i64 x] 27))).heap.size := by simp
        clear hz gC pC
        go_wp2_with fail
        go_at_call 18
        refine (implAb_any _ dC _ eC ws 0 x OA.out.isl' (by omega)).mono ?_
        rw [hd]
        rintro e' w3 ⟨rfl, g3⟩
        obtain ⟨p0, p1, p2⟩ := ab_row (row_held g3 HA.out)
        have hz := row_held g3 HZA.out
        obtain ⟨q0, q1, q2⟩ := ab_row hz
        have f0 := frozen_of_row w3 _ 0 _ _ hz
        have f1 := frozen_of_row w3 _ 1 _ _ hz
        have f2 := frozen_of_row w3 _ 2 _ _ hz
        have s3 := g3.size
        have G3 := Lib.hid (gby_trans GW.out g3)
        have O3 := Lib.hid (OA.out.grow g3)
        clear g3 hz
        go_wp2
        refine bodyPost_ret (v := .tuple #[abV dC ws.length eC 0 x, .bool true]) (by simp [results, go_sem, abV, q0, q1, q2]) rfl ⟨dC, eC, rfl, ?_, ?_⟩
        · refine owS_one ?_ (by simp; omega)
          refine OwI.wide (lo := W.heap.size + 1) (hi := wC.heap.size) (OwI.kept (w := w3) (lo' := W.heap.size) (hi' := W.heap.size + 1) O3.out ?_ (.inr (by omega))) (by omega) (by simp; omega)
          repeat (with_reducible refine chg_setp ?_ _ (by dsimp only; omega) (by dsimp only; omega) _)
          exact chg_gby (gby_refl _ _) _ _
        · repeat (with_reducible refine gby_setnew ?_ _ (by dsimp only; omega) _)
          exact G3.out
      | skip
        have GC := Lib.hid (gby_trans (gby_drew (show W.grownBy ((W.alloc (.cells #[.slice none 0 0, .int .i64 0, .int .i64 0] 27)).alloc (.cells #[.slice none 0 0, .int .i64 0, .int .i64 0] 27)) none from (gby_alloc (gby_alloc (gby_refl _ _) _) _))) gC)
        have hz := row_held gC (show (World.drew ((W.alloc (.cells #[.slice none 0 0, .int .i64 0, .int .i64 0] 27)).alloc (.cells #[.slice none 0 0, .int .i64 0, .int .i64 0] 27))).heap[W.heap.size]? = _ from (show ((W.alloc (.cells #[.slice none 0 0, .int .i64 0, .int .i64 0] 27)).alloc (.cells #[.slice none 0 0, .int .i64 0, .int .i64 0] 27)).heap[W.heap.size]? = some (.cells #[.slice none 0 0, .int .i64 0, .int .i64 0] 27 (0, 0)) from by rw [heap_alloc_old _ _ (by simp)]; exact heap_alloc_new W _))
        have HZ' := Lib.hid hz
        have OC := Lib.hid (show OwI wC (W.heap.size + 2) wC.heap.size (.slice dC ws.length eC) ws from by
          have q : OwI wC _ wC.heap.size (.slice dC ws.length eC) ws := ⟨dC, eC, rfl, pC⟩
          have e : (World.drew ((W.alloc (.cells #[.slice none 0 0, .int .i64 0, .int .i64 0] 27)).alloc (.cells #[.slice none 0 0, .int .i64 0, .int .i64 0] 27))).heap.size = W.heap.size + 2 := by show (((W.alloc (.cells #[.slice none 0 0, .int .i64 0, .int .i64 0] 27)).alloc (.cells #[.slice none 0 0, .int .i64 0, .int .i64 0] 27))).heap.size = _; simp
          rw [e] at q
          exact q)
        have sC : W.heap.size + 2 ≤ wC.heap.size := by
          have q := gC.size
          have e : (World.drew ((W.alloc (.cells #[.slice none 0 0, .int .i64 0, .int .i64 0] 27)).alloc (.cells #[.slice none 0 0, .int .i64 0, .int .i64 0] 27))).heap.size = W.heap.size + 2 := by show (((W.alloc (.cells #[.slice none 0 0, .int .i64 0, .int .i64 0] 27)).alloc (.cells #[.slice none 0 0, .int .i64 0, .int .i64 0] 27))).heap.size = _; simp
          omega
        have hA := row_held gC (show (World.drew ((W.alloc (.cells #[.slice none 0 0, .int .i64 0, .int .i64 0] 27)).alloc (.cells #[.slice none 0 0, .int .i64 0, .int .i64 0] 27))).heap[W.heap.size + 1]? = some (.cells #[.slice none 0 0, .int .i64 0, .int .i64 0] 27 (0, 0)) from heap_pair W _ _)
        have HA := Lib.hid (show (((wC.setCell ⟨W.heap.size + 1, 0, none⟩ (.slice dC ws.length eC)).setCell ⟨W.heap.size + 1, 1, none⟩ (.int .i64 0)).setCell ⟨W.heap.size + 1, 2, none⟩ (.int .i64 x)).heap[W.heap.size + 1]? = some (.cells #[.slice dC ws.length eC, .int .i64 0, .int .i64 x] 27 (0, 0)) from heap_setCell_same _ _ 2 _ _ _ (heap_setCell_same _ _ 1 _ _ _ (heap_setCell_same _ _ 0 _ _ _ hA)))
        have CA : Chg wC (((wC.setCell ⟨W.heap.size + 1, 0, none⟩ (.slice dC ws.length eC)).setCell ⟨W.heap.size + 1, 1, none⟩ (.int .i64 0)).setCell ⟨W.heap.size + 1, 2, none⟩ (.int .i64 x)) (W.heap.size + 1) (W.heap.size + 2) := by
          repeat (with_reducible refine chg_setp ?_ _ (by dsimp only; omega) (by dsimp only; omega) _)
          exact chg_gby (gby_refl _ _) _ _
        have OA := Lib.hid (OC.out.kept CA (.inr (by omega)))
        have HZA := Lib.hid (CA.keep HZ'.out (.inl (by omega)))
        have GW := Lib.hid (gby_chg GC.out (chg_wide CA (lo' := W.heap.size + 1) (hi' := W.heap.size + 2) (Nat.le_refl _) (Nat.le_refl _)) (by omega))
        have sA : wC.heap.size ≤ ((((wC.setCell ⟨W.heap.size + 1, 0, none⟩ (.slice dC ws.length eC)).setCell ⟨W.heap.size + 1, 1, none⟩ (.int .i64 0)).setCell ⟨W.heap.size + 1, 2, none⟩ (.int .i64 x))).heap.size := by simp
        clear hz gC pC
        generalize (((wC.setCell ⟨W.heap.size + 1, 0, none⟩ (.slice dC ws.length eC)).setCell ⟨W.heap.size + 1, 1, none⟩ (.int .i64 0)).setCell ⟨W.heap.size + 1, 2, none⟩ (.int .i64 x)) = wS at HA OA HZA GW sA CA ⊢
        obtain ⟨y0, y1, y2⟩ := ab_row HA.out
        go_wp2_with fail
        go_at_call 18
        refine (implAb_any _ dC _ eC ws 0 x OA.out.isl' (by omega)).mono ?_
        rw [hd]
        rintro e' w3 ⟨rfl, g3⟩
        obtain ⟨p0, p1, p2⟩ := ab_row (row_held g3 HA.out)
        have hz := row_held g3 HZA.out
        obtain ⟨q0, q1, q2⟩ := ab_row hz
        have f0 := frozen_of_row w3 _ 0 _ _ hz
        have f1 := frozen_of_row w3 _ 1 _ _ hz
        have f2 := frozen_of_row w3 _ 2 _ _ hz
        have s3 := g3.size
        have G3 := Lib.hid (gby_trans GW.out g3)
        have O3 := Lib.hid (OA.out.grow g3)
        clear g3 hz
        go_wp2
        refine bodyPost_ret (v := .tuple #[abV dC ws.length eC 0 x, .bool true]) (by simp [results, go_sem, abV, q0, q1, q2]) rfl ⟨dC, eC, rfl, ?_, ?_⟩
        · refine owS_one ?_ (by simp; omega)
          refine OwI.wide (lo := W.heap.size + 2) (hi := wC.heap.size) (OwI.kept (w := w3) (lo' := W.heap.size) (hi' := W.heap.size + 1) O3.out ?_ (.inr (by omega))) (by omega) (by simp; omega)
          repeat (with_reducible refine chg_setp ?_ _ (by dsimp only; omega) (by dsimp only; omega) _)
          exact chg_gby (gby_refl _ _) _ _
        · repeat (with_reducible refine gby_setnew ?_ _ (by dsimp only; omega) _)
          exact G3.out

set_option maxRecDepth 8000 in
set_option maxHeartbeats 2000000 in
theorem implNewAb_out (W : World) (a : Option Addr) (n c : Nat) (ws : List Int) (H : RdI W (.slice a n c) ws) (hl : n ≤ 1048576) (h0 : 0 < n) (x : Int) (hx : x = ws.getD 0 0) (hok : ¬ ArbOk ws 0 x) :
    Calls Try.prog 22 #[.slice a n c] W (MadeArbiterB [] 0 0 false W) := by
  have HR := Lib.hid H
  obtain ⟨a', c', hv, hi, hcap⟩ := H
  injection hv with e1 e2 e3
  subst e1 e3
  have hd : decide (ArbOk ws 0 x) = false := decide_eq_false hok
  have hl' : ws.length ≤ 1048576 := by omega
  obtain ⟨b, off, rfl, hcell⟩ := hi.2.resolve_left (by omega)
  have hc0 := hcell 0 (by omega)
  rw [Nat.add_zero, ← hx] at hc0
  have HC := Lib.hid hc0
  have hcW : (W.alloc (.cells #[.slice none 0 0, .int .i64 0, .int .i64 0] 27)).cell? ⟨b, off, none⟩ = some (.int .i64 x) := (gby_alloc (gby_refl W none) _).cell HC.out (by simp)
  have hcW2 : ((W.alloc (.cells #[.slice none 0 0, .int .i64 0, .int .i64 0] 27)).alloc (.cells #[.slice none 0 0, .int .i64 0, .int .i64 0] 27)).cell? ⟨b, off, none⟩ = some (.int .i64 x) := (gby_alloc (gby_alloc (gby_refl W none) _) _).cell HC.out (by simp)
  have new1 := World.new_ne (W.alloc (.cells #[.slice none 0 0, .int .i64 0, .int .i64 0] 27)) ⟨b, off, none⟩ hcW
  have new2 : W.heap.size + 1 ≠ b := by simpa using new1
  have hn0 : ((n : Int) == 0) = false := by simp; omega
  have hz : (W.alloc (.cells #[.slice none 0 0, .int .i64 0, .int .i64 0] 27)).heap[W.heap.size]? = some (.cells #[.slice none 0 0, .int .i64 0, .int .i64 0] 27 (0, 0)) := heap_alloc_new W _
  have HZ := Lib.hid hz
  have hlt : (0 : Int) < (n : Int) := by omega
  clear hok e2 hi hcap hx hcell hc0 hz
  go_enter Try.func22, Try.ntmps22
  go_wp2_with fail
  go_region_held3 (fun w' => w'.cell? ⟨b, off, none⟩ = some (.int .i64 x))
    (first | exact hcW | exact gC.cell hcW (by simp) | exact (gby_alloc gC _).cell hcW (by simp) | exact gC.cell hcW2 (by simp) | exact gC.cell (show (World.drew _).cell? _ = _ from hcW2) (by simp) | exact hcW2 | (rw [World.cell?_setCell_far _ _ _ _ new2, World.cell?_setCell_far _ _ _ _ new2, World.cell?_setCell_far _ _ _ _ new2]; exact gC.cell (show (World.drew _).cell? _ = _ from hcW2) (by simp)) | go_keep)
    (first | (go_at_call 60; refine (clone_any _ _ ws (HR.out.kept (by first | exact gby_drew (gby_alloc (gby_refl _ _) _) | exact gby_alloc (gby_drew (gby_alloc (gby_refl _ _) _)) _)) hl').mono ?_; rintro e wC ⟨vC, rfl, oC, gC⟩; obtain ⟨dC, eC, rfl, pC⟩ := oC; try (have hA := row_held gC (show (World.drew ((W.alloc (.cells #[.slice none 0 0, .int .i64 0, .int .i64 0] 27)).alloc (.cells #[.slice none 0 0, .int .i64 0, .int .i64 0] 27))).heap[W.heap.size + 1]? = some (.cells #[.slice none 0 0, .int .i64 0, .int .i64 0] 27 (0, 0)) from heap_pair W _ _); obtain ⟨k0, k1, k2⟩ := ab_row hA; have f0 := frozen_of_row wC _ 0 _ _ hA; have f1 := frozen_of_row wC _ 1 _ _ hA; have f2 := frozen_of_row wC _ 2 _ _ hA)))
  all_goals
    clear hcW hcW2
    try clear k0 k1 k2 f0 f1 f2 hA
    first
      | skip
        have GC := Lib.hid (gby_trans (gby_drew (show W.grownBy (W.alloc (.cells #[.slice none 0 0, .int .i64 0, .int .i64 0] 27)) none from (gby_alloc (gby_refl _ _) _))) gC)
        have hz := row_held gC (show (World.drew (W.alloc (.cells #[.slice none 0 0, .int .i64 0, .int .i64 0] 27))).heap[W.heap.size]? = _ from HZ.out)
        have HZ' := Lib.hid hz
        have OC := Lib.hid (show OwI wC (W.heap.size + 1) wC.heap.size (.slice dC ws.length eC) ws from by
          have q : OwI wC _ wC.heap.size (.slice dC ws.length eC) ws := ⟨dC, eC, rfl, pC⟩
          have e : (World.drew (W.alloc (.cells #[.slice none 0 0, .int .i64 0, .int .i64 0] 27))).heap.size = W.heap.size + 1 := by show ((W.alloc (.cells #[.slice none 0 0, .int .i64 0, .int .i64 0] 27))).heap.size = _; simp
          rw [e] at q
          exact q)
        have sC : W.heap.size + 1 ≤ wC.heap.size := by
          have q := gC.size
          have e : (World.drew (W.alloc (.cells #[.slice none 0 0, .int .i64 0, .int .i64 0] 27))).heap.size = W.heap.size + 1 := by show ((W.alloc (.cells #[.slice none 0 0, .int .i64 0, .int .i64 0] 27))).heap.size = _; simp
          omega
        have GA := Lib.hid (show wC.grownBy (wC.alloc (.cells #[.slice dC ws.length eC, .int .i64 0, .int .i64 x] 27)) none from gby_alloc (gby_refl _ _) _)
        have HA := Lib.hid (heap_alloc_new wC (.cells #[.slice dC ws.length eC, .int .i64 0, .int .i64 x] 27))
        have OA := Lib.hid (OC.out.grow GA.out)
        have HZA := Lib.hid (row_held GA.out HZ'.out)
        have GW := Lib.hid (gby_trans GC.out GA.out)
        have sA : wC.heap.size ≤ ((wC.alloc (.cells #[.slice dC ws.length eC, .int .i64 0, .int .i64 x] 27))).heap.size := by simp
        clear hz gC pC
        go_wp2_with fail
        go_at_call 18
        refine (implAb_any _ dC _ eC ws 0 x OA.out.isl' (by omega)).mono ?_
        rw [hd]
        rintro e' w3 ⟨rfl, g3⟩
        obtain ⟨p0, p1, p2⟩ := ab_row (row_held g3 HA.out)
        have hz := row_held g3 HZA.out
        obtain ⟨q0, q1, q2⟩ := ab_row hz
        have f0 := frozen_of_row w3 _ 0 _ _ hz
        have f1 := frozen_of_row w3 _ 1 _ _ hz
        have f2 := frozen_of_row w3 _ 2 _ _ hz
        have s3 := g3.size
        have G3 := Lib.hid (gby_trans GW.out g3)
        have O3 := Lib.hid (OA.out.grow g3)
        clear g3 hz
        go_wp2
        refine bodyPost_ret (v := .tuple #[abV none 0 0 0 0, .bool false]) (by simp [results, go_sem, abV, q0, q1, q2]) rfl (madeNo ?_ (by simp; omega))
        repeat (with_reducible refine gby_setnew ?_ _ (by dsimp only; omega) _)
        exact G3.out
      | skip
        have GC := Lib.hid (gby_trans (gby_drew (show W.grownBy ((W.alloc (.cells #[.slice none 0 0, .int .i64 0, .int .i64 0] 27)).alloc (.cells #[.slice none 0 0, .int .i64 0, .int .i64 0] 27)) none from (gby_alloc (gby_alloc (gby_refl _ _) _) _))) gC)
        have hz := row_held gC (show (World.drew ((W.alloc (.cells #[.slice none 0 0, .int .i64 0, .int .i64 0] 27)).alloc (.cells #[.slice none 0 0, .int .i64 0, .int .i64 0] 27))).heap[W.heap.size]? = _ from (show ((W.alloc (.cells #[.slice none 0 0, .int .i64 0, .int .i64 0] 27)).alloc (.cells #[.slice none 0 0, .int .i64 0, .int .i64 0] 27)).heap[W.heap.size]? = some (.cells #[.slice none 0 0, .int .i64 0, .int .i64 0] 27 (0, 0)) from by rw [heap_alloc_old _ _ (by simp)]; exact heap_alloc_new W _))
        have HZ' := Lib.hid hz
        have OC := Lib.hid (show OwI wC (W.heap.size + 2) wC.heap.size (.slice dC ws.length eC) ws from by
          have q : OwI wC _ wC.heap.size (.slice dC ws.length eC) ws := ⟨dC, eC, rfl, pC⟩
          have e : (World.drew ((W.alloc (.cells #[.slice none 0 0, .int .i64 0, .int .i64 0] 27)).alloc (.cells #[.slice none 0 0, .int .i64 0, .int .i64 0] 27))).heap.size = W.heap.size + 2 := by show (((W.alloc (.cells #[.slice none 0 0, .int .i64 0, .int .i64 0] 27)).alloc (.cells #[.slice none 0 0, .int .i64 0, .int .i64 0] 27))).heap.size = _; simp
          rw [e] at q
          exact q)
        have sC : W.heap.size + 2 ≤ wC.heap.size := by
          have q := gC.size
          have e : (World.drew ((W.alloc (.cells #[.slice none 0 0, .int .i64 0, .int .i64 0] 27)).alloc (.cells #[.slice none 0 0, .int .i64 0, .int .i64 0] 27))).heap.size = W.heap.size + 2 := by show (((W.alloc (.cells #[.slice none 0 0, .int .i64 0, .int .i64 0] 27)).alloc (.cells #[.slice none 0 0, .int .i64 0, .int .i64 0] 27))).heap.size = _; simp
          omega
        have hA := row_held gC (show (World.drew ((W.alloc (.cells #[.slice none 0 0, .int .i64 0, .int .i64 0] 27)).alloc (.cells #[.slice none 0 0, .int .i64 0, .int .i64 0] 27))).heap[W.heap.size + 1]? = some (.cells #[.slice none 0 0, .int .i64 0, .int .i64 0] 27 (0, 0)) from heap_pair W _ _)
        have HA := Lib.hid (show (((wC.setCell ⟨W.heap.size + 1, 0, none⟩ (.slice dC ws.length eC)).setCell ⟨W.heap.size + 1, 1, none⟩ (.int .i64 0)).setCell ⟨W.heap.size + 1, 2, none⟩ (.int .i64 x)).heap[W.heap.size + 1]? = some (.cells #[.slice dC ws.length eC, .int .i64 0, .int .i64 x] 27 (0, 0)) from heap_setCell_same _ _ 2 _ _ _ (heap_setCell_same _ _ 1 _ _ _ (heap_setCell_same _ _ 0 _ _ _ hA)))
        have CA : Chg wC (((wC.setCell ⟨W.heap.size + 1, 0, none⟩ (.slice dC ws.length eC)).setCell ⟨W.heap.size + 1, 1, none⟩ (.int .i64 0)).setCell ⟨W.heap.size + 1, 2, none⟩ (.int .i64 x)) (W.heap.size + 1) (W.heap.size + 2) := by
          repeat (with_reducible refine chg_setp ?_ _ (by dsimp only; omega) (by dsimp only; omega) _)
          exact chg_gby (gby_refl _ _) _ _
        have OA := Lib.hid (OC.out.kept CA (.inr (by omega)))
        have HZA := Lib.hid (CA.keep HZ'.out (.inl (by omega)))
        have GW := Lib.hid (gby_chg GC.out (chg_wide CA (lo' := W.heap.size + 1) (hi' := W.heap.size + 2) (Nat.le_refl _) (Nat.le_refl _)) (by omega))
        have sA : wC.heap.size ≤ ((((wC.setCell ⟨W.heap.size + 1, 0, none⟩ (.slice dC ws.length eC)).setCell ⟨W.heap.size + 1, 1, none⟩ (.int .i64 0)).setCell ⟨W.heap.size + 1, 2, none⟩ (.int .i64 x))).heap.size := by simp
        clear hz gC pC
        generalize (((wC.setCell ⟨W.heap.size + 1, 0, none⟩ (.slice dC ws.length eC)).setCell ⟨W.heap.size + 1, 1, none⟩ (.int .i64 0)).setCell ⟨W.heap.size + 1, 2, none⟩ (.int .i64 x)) = wS at HA OA HZA GW sA CA ⊢
        obtain ⟨y0, y1, y2⟩ := ab_row HA.out
        go_wp2_with fail
        go_at_call 18
        refine (implAb_any _ dC _ eC ws 0 x OA.out.isl' (by omega)).mono ?_
        rw [hd]
        rintro e' w3 ⟨rfl, g3⟩
        obtain ⟨p0, p1, p2⟩ := ab_row (row_held g3 HA.out)
        have hz := row_held g3 HZA.out
        obtain ⟨q0, q1, q2⟩ := ab_row hz
        have f0 := frozen_of_row w3 _ 0 _ _ hz
        have f1 := frozen_of_row w3 _ 1 _ _ hz
        have f2 := frozen_of_row w3 _ 2 _ _ hz
        have s3 := g3.size
        have G3 := Lib.hid (gby_trans GW.out g3)
        have O3 := Lib.hid (OA.out.grow g3)
        clear g3 hz
        go_wp2
        refine bodyPost_ret (v := .tuple #[abV none 0 0 0 0, .bool false]) (by simp [results, go_sem, abV, q0, q1, q2]) rfl (madeNo ?_ (by simp; omega))
        repeat (with_reducible refine gby_setnew ?_ _ (by dsimp only; omega) _)
        exact G3.out

set_option maxRecDepth 8000 in
theorem implNewAb_nil (W : World) (a : Option Addr) (n c : Nat) (ws : List Int) (h0 : n = 0) :
    Calls Try.prog 22 #[.slice a n c] W (MadeArbiterB [] 0 0 false W) := by
  have hn0 : ((n : Int) == 0) = true := by simp [h0]
  clear h0
  have G := Lib.hid (gby_alloc (gby_refl W none) (.cells #[.slice none 0 0, .int .i64 0, .int .i64 0] 27))
  go_enter Try.func22, Try.ntmps22
  go_wp2
  refine bodyPost_ret (v := .tuple #[abV none 0 0 0 0, .bool false]) (by simp [results, go_sem, abV]) rfl (madeNo ?_ (by simp))
  repeat (first | exact gby_refl _ _ | with_reducible refine gby_alloc ?_ _)

/-- both answer the same -/
theorem newAb_both (ws : List Int) (hl : ws.length ≤ 1048576) : ∃ (L : List Int) (y1 y2 : Int) (b : Bool), L.length ≤ 1048576 ∧
    (∀ (W : World) (u : Option Addr) (v : Nat), RdI W (.slice u ws.length v) ws → Calls Try.prog 20 #[.slice u ws.length v] W (MadeArbiterB L y1 y2 b W)) ∧
    ∀ (W : World) (u : Option Addr) (v : Nat), RdI W (.slice u ws.length v) ws → Calls Try.prog 22 #[.slice u ws.length v] W (MadeArbiterB L y1 y2 b W) := by
  by_cases h0 : 0 < ws.length
  · by_cases hok : ArbOk ws 0 (ws.getD 0 0)
    · exact ⟨ws, 0, ws.getD 0 0, true, hl, fun W u v H => specNewAb_in W u _ v ws H hl h0 _ rfl hok, fun W u v H => implNewAb_in W u _ v ws H hl h0 _ rfl hok⟩
    · exact ⟨[], 0, 0, false, by simp, fun W u v H => specNewAb_out W u _ v ws H hl h0 _ rfl hok, fun W u v H => implNewAb_out W u _ v ws H hl h0 _ rfl hok⟩
  · have e : ws.length = 0 := by omega
    exact ⟨[], 0, 0, false, by simp, fun W u v H => specNewAb_nil W u _ v ws H hl e (fun h => by have := h.2.1; omega), fun W u v H => implNewAb_nil W u _ v ws e⟩

end Go.Proofs.Ytgmpehccklifdac
