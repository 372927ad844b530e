/-
  The program's table of grants: a map keyed by a struct; its elements are structs.
-/
import Derived.Test.YtgagbhkidponnabGrP
import Derived.Test.YtgagbhkidponnabRGrantsOk
import Derived.Test.YtgagbhkidponnabMapLaw
import Derived.Maps.OwnSet
import Derived.DeepKeys5
import Derived.Deep.AppendLies
namespace Go.Proofs.Ytgagbhkidponnab
open Go Go.RowKit
set_option linter.unusedVariables false
open Go.Maps
open Go.WideMaps

theorem laidOut9 : laidOutB Try.prog = true := by kernel_rfl
theorem keyType9 : Try.prog.keyType 82 = true := by kernel_rfl
theorem row9 : (82 : TypeId) < Try.prog.types.size := of_decide_eq_true (by kernel_rfl)
theorem wide9 : (match Try.prog.underlying 82 with | some (.array _ _) | some (.struct _) => true | _ => false) = true := by kernel_rfl
theorem seenKeyed : Keyed Try.prog 82 := Keyed.of_law (deep_law_laid laidOut9 (m := 2) (by omega) row9 (by kernel_rfl) wide9)
theorem cells9 : Try.prog.cellsOf 82 = 2 := by kernel_rfl
theorem cellsInt9 : Try.prog.cellsOf 3 = 1 := by kernel_rfl
/-- a key -/
def kv (id p : Int) : Value := .agg #[.int .i64 id, .int .i64 p]
def kl (id p : Int) : Lit := .string (keyBytes [.int .i64 id, .int .i64 p])
theorem keyOf_kv {id p : Int} (h1 : (Lit.int .i64 id).wf = true) (h2 : (Lit.int .i64 p).wf = true) : keyOf Try.prog 82 (kv id p) = some (kl id p) := by
  have hr : (0 : Nat) < Try.prog.types.size := Nat.lt_of_le_of_lt (Nat.zero_le _) row9
  obtain ⟨m, hm⟩ : ∃ m, Try.prog.types.size = m + 1 := ⟨Try.prog.types.size - 1, by omega⟩
  exact keyOf_pair Try.underlying82 keyType9 cells9 cellsInt9 Try.underlying3 ⟨rfl, rfl, by decide⟩ ⟨rfl, rfl, by decide⟩ hm h1 h2
theorem kl_inj {a b c d : Int} (ha : (Lit.int .i64 a).wf = true) (hb : (Lit.int .i64 b).wf = true) (hc : (Lit.int .i64 c).wf = true) (hd : (Lit.int .i64 d).wf = true) (h : kl a b = kl c d) : a = c ∧ b = d := by
  have := seenKeyed.inj (keyOf_kv ha hb) (h ▸ keyOf_kv hc hd)
  unfold kv at this
  simpa using this
theorem wf_small {x : Int} (h0 : 0 ≤ x) (h1 : x ≤ 255) : (Lit.int .i64 x).wf = true := WalkArith.wf_i64 (by omega)
/-- a grant as a value, and as data -/
def gv (x : DPageGrant) : Value := .agg #[.int .i64 x.f0, .int .i64 x.f1, .int .i64 x.f2, .bool x.f3]
def dg (x : DPageGrant) : DataW Unit := .agg [.lit (.int .i64 x.f0), .lit (.int .i64 x.f1), .lit (.int .i64 x.f2), .lit (.bool x.f3)]
def rG (v : Value) : Option (DataW Unit × List MemPlace) :=
  match v with
  | .agg ⟨[.int .i64 a, .int .i64 b, .int .i64 c, .bool d]⟩ => some (dg ⟨a, b, c, d⟩, [])
  | _ => none
theorem rG_mk (x : DPageGrant) : rG (gv x) = some (dg x, []) := rfl
theorem rG_inv {v : Value} {z : DataW Unit × List MemPlace} (h : rG v = some z) : ∃ x, v = gv x ∧ z = (dg x, []) := by
  unfold rG at h
  split at h
  · cases h; exact ⟨⟨_, _, _, _⟩, rfl, rfl⟩
  · cases h
theorem dg_inj {x y : DPageGrant} (h : dg x = dg y) : x = y := by
  obtain ⟨a, b, c, d⟩ := x
  obtain ⟨a', b', c', d'⟩ := y
  unfold dg at h
  simp at h
  obtain ⟨rfl, rfl, rfl, rfl⟩ := h
  rfl
def zG : DPageGrant := ⟨0, 0, 0, false⟩
theorem zeroG (w : World) : (zeroValue 59).run Try.prog w = .ok (gv zG) w := by kernel_rfl
/-- the table of the first n -/
def dmap (xs : List DPageGrant) : Nat → DataW Unit
  | 0 => .map []
  | n + 1 => (dmap xs n).put (kl (pg xs n).f0 (pg xs n).f1) (dg (pg xs n))
theorem kl_key {a b : Int} (ha : (Lit.int .i64 a).wf = true) (hb : (Lit.int .i64 b).wf = true) : WideAt.IsKeyLit (kl a b) := seenKeyed.key (keyOf_kv ha hb)
theorem inG_key {x : DPageGrant} (h : InG x) : WideAt.IsKeyLit (kl x.f0 x.f1) := kl_key (wf_small h.1.1 h.1.2) (wf_small h.2.1.1 h.2.1.2)
theorem dmap_tidy {xs : List DPageGrant} : ∀ n, (∀ k, k < n → InG (pg xs k)) → Tidy (dmap xs n)
  | 0, _ => ⟨[], rfl, .nil⟩
  | n + 1, h => (dmap_tidy n (fun k hk => h k (by omega))).put (inG_key (h n (by omega))) _
theorem tidy_map {D : DataW Unit} (h : Tidy D) : IsMap D := by obtain ⟨es, e, _⟩ := h; exact ⟨es, e⟩
theorem dmap_has {xs : List DPageGrant} {id p : Int} (h1 : (Lit.int .i64 id).wf = true) (h2 : (Lit.int .i64 p).wf = true) : ∀ n, (∀ k, k < n → InG (pg xs k)) → (has (dmap xs n) (kl id p) = true ↔ ∃ k, k < n ∧ (pg xs k).f0 = id ∧ (pg xs k).f1 = p)
  | 0, _ => ⟨fun h => by simp [dmap, has] at h, fun ⟨k, hk, _⟩ => by omega⟩
  | n + 1, h => by
    have hg := h n (by omega)
    have ih := dmap_has (xs := xs) h1 h2 n (fun k hk => h k (by omega))
    by_cases e : (pg xs n).f0 = id ∧ (pg xs n).f1 = p
    · obtain ⟨rfl, rfl⟩ := e
      exact ⟨fun _ => ⟨n, by omega, rfl, rfl⟩, fun _ => has_put_same (tidy_map (dmap_tidy n (fun k hk => h k (by omega)))) (inG_key hg) _⟩
    · have hne : kl id p ≠ kl (pg xs n).f0 (pg xs n).f1 := fun q => e (by
        obtain ⟨a, b⟩ := kl_inj h1 h2 (wf_small hg.1.1 hg.1.2) (wf_small hg.2.1.1 hg.2.1.2) q
        exact ⟨a.symm, b.symm⟩)
      show has ((dmap xs n).put _ _) _ = true ↔ _
      rw [has_put_other hne, ih]
      exact ⟨fun ⟨k, hk, q⟩ => ⟨k, by omega, q⟩, fun ⟨k, hk, q⟩ => ⟨k, by
        by_cases ek : k = n
        · subst ek; exact absurd q e
        · omega, q⟩⟩
theorem dmap_at {xs : List DPageGrant} : ∀ n, (∀ k, k < n → InG (pg xs k)) → Apart xs n → ∀ k, k < n → ∀ z, (dmap xs n).atKey (kl (pg xs k).f0 (pg xs k).f1) z = dg (pg xs k)
  | 0, _, _ => fun k hk => by omega
  | n + 1, h, ha => fun k hk z => by
    have hg := h n (by omega)
    show ((dmap xs n).put _ _).atKey _ z = _
    by_cases e : k = n
    · subst e
      exact atKey_put_same (tidy_map (dmap_tidy k (fun j hj => h j (by omega)))) (inG_key hg) _ _
    · have hk' := h k (by omega)
      have hne : kl (pg xs k).f0 (pg xs k).f1 ≠ kl (pg xs n).f0 (pg xs n).f1 := fun q => ha n (by omega) k (by omega) (by
        obtain ⟨a, b⟩ := kl_inj (wf_small hk'.1.1 hk'.1.2) (wf_small hk'.2.1.1 hk'.2.1.2) (wf_small hg.1.1 hg.1.2) (wf_small hg.2.1.1 hg.2.1.2) q
        exact ⟨a, b⟩)
      rw [atKey_put_other hne]
      exact dmap_at n (fun j hj => h j (by omega)) (fun a b c d => ha a (by omega) c d) k (by omega) z
theorem dmap_size {xs : List DPageGrant} : ∀ n, (∀ k, k < n → InG (pg xs k)) → size (dmap xs n) ≤ n ∧ (size (dmap xs n) = n ↔ Apart xs n)
  | 0, _ => ⟨Nat.le_refl _, fun _ => apart_zero _, fun _ => rfl⟩
  | n + 1, h => by
    obtain ⟨i1, i2⟩ := dmap_size n (fun k hk => h k (by omega))
    have hg := h n (by omega)
    have hh := dmap_has (xs := xs) (wf_small hg.1.1 hg.1.2) (wf_small hg.2.1.1 hg.2.1.2) n (fun k hk => h k (by omega))
    have hp := size_put (k := kl (pg xs n).f0 (pg xs n).f1) (dmap_tidy n (fun k hk => h k (by omega))) (dg (pg xs n))
    have e : size (dmap xs (n + 1)) = _ := hp
    rw [e]
    by_cases q : has (dmap xs n) (kl (pg xs n).f0 (pg xs n).f1) = true
    · rw [if_pos q]
      refine ⟨by omega, fun c => by omega, fun c => ?_⟩
      obtain ⟨k, hk, q1, q2⟩ := hh.1 q
      exact absurd ⟨q1, q2⟩ (c n (by omega) k hk)
    · rw [if_neg q]
      refine ⟨by omega, fun c => apart_succ (i2.1 (by omega)) (fun i hi c2 => q (hh.2 ⟨i, hi, c2.1, c2.2⟩)), fun c => ?_⟩
      have := i2.2 (fun a b c' d => c a (by omega) c' d)
      omega

def TabP (xs : List DPageGrant) (W : World) (e : Ending) (w' : World) : Prop := ∃ b, e = .returned (.map (some b)) ∧ W.heap.size ≤ b ∧ b < w'.heap.size ∧ w'.ownsMap Try.prog 82 rG b xs.length (dmap xs xs.length) ∧ W.grownBy w' none
set_option maxRecDepth 8000 in
set_option maxHeartbeats 2000000 in
theorem table_any (W : World) (v : Value) (xs : List DPageGrant) (H : RdL shPageGrant W v xs) (hl : szL shPageGrant xs ≤ 1048576) (hin : ∀ k, k < xs.length → InG (pg xs k)) : Calls Try.prog 42 #[v] W (TabP xs W) := by
  have HIN0 := Lib.hid hin
  clear hin
  have HT := Lib.hid H
  have HLZ := Lib.hid hl
  rw [szL_size0 (fun _ => rfl)] at hl
  obtain ⟨a0, cap, rfl, hcap, hi⟩ := rdG_in H
  have HA := Lib.hid hi
  obtain ⟨len, hlen⟩ : ∃ len, len = xs.length := ⟨_, rfl⟩
  have HE := Lib.hid hlen
  unfold RdG at HA
  rw [← hlen] at hl HA HT ⊢
  clear H hi hlen hcap
  have HIN : Hid (∀ k, k < len → InG (pg xs k)) := Lib.hid (fun k hk => HIN0.out k (by rw [← HE.out]; exact hk))
  have hmk := fun (q : IntKind) (n : Int) (w : World) => run_makeMap_hint (P := Try.prog) 65 82 59 Try.underlying65 q n w
  go_enter Try.func42, Try.ntmps42
  have HTM1_ := Lib.hid (gby_refl (W) none)
  have MG2_ := Lib.hid (show (W).grownBy (W) none from (gby_refl _ _))
  go_wp2
  go_loopw [11] (fun i wr => ∃ n : Nat, n ≤ len ∧ i = .int .i64 (n : Int) ∧ wr.ownsMap Try.prog 82 rG W.heap.size n (dmap xs n) ∧ (W).grownBy wr none) (fun i _ => len - (intOf i).toNat)
  case atStart => exact ⟨0, by omega, rfl, World.ownsMap_made _ _ _ _, gby_alloc (gby_refl _ _) _⟩
  case round =>
    clear HTM1_
    obtain ⟨n, hn, rfl, hown, hg⟩ := hrel
    have szr_ := hg.size
    try simp only [World.size_alloc, World.size_setCell] at szr_
    have G3_ := Lib.hid (show (W).grownBy (wr) none from gby_trans MG2_.out hg)
    have HTM4_ := Lib.hid hg
    clear hg
    have HO := Lib.hid hown
    clear hown
    have hn0 : (0 : Int) ≤ (n : Int) := by omega
    have htn : ((n : Int)).toNat = n := by omega
    by_cases hlt : n < len
    rotate_left
    · obtain rfl : n = len := by omega
      have hki : ¬ (n : Int) < (n : Int) := by omega
      go_wp2
      go_ret
      exact ⟨_, rfl, Nat.le_refl _, HO.out.lt, by rw [← HE.out]; exact HO.out, G3_.out⟩
    have hki : (n : Int) < (len : Int) := by omega
    obtain ⟨b, off, rfl, hcell⟩ := HA.out.resolve_left (by omega)
    obtain ⟨y_, hy_⟩ : ∃ y_, y_ = pg xs n := ⟨_, rfl⟩
    have hyc_ := hcell n (by omega)
    rw [← hy_] at hyc_
    obtain ⟨y0, y1, y2, y3⟩ := y_
    dsimp only at hyc_
    have Hy := Lib.hid hy_
    have Hy0 := Lib.hid hyc_.1
    have Hy1 := Lib.hid hyc_.2.1
    have Hy2 := Lib.hid hyc_.2.2.1
    have Hy3 := Lib.hid hyc_.2.2.2
    clear hyc_ hy_ hcell
    have qy0_ := (G3_.out).cell Hy0.out (by simp)
    have qy1_ := (G3_.out).cell Hy1.out (by simp)
    have qy2_ := (G3_.out).cell Hy2.out (by simp)
    have qy3_ := (G3_.out).cell Hy3.out (by simp)
    have al_ : (wr).grownBy ((wr).alloc (.cells #[.int .i64 y0, .int .i64 y1, .int .i64 y2, .bool y3] 59)) none := gby_alloc (gby_refl _ _) _
    have G5_ := Lib.hid (show (W).grownBy ((wr.alloc (.cells #[.int .i64 y0, .int .i64 y1, .int .i64 y2, .bool y3] 59))) none from gby_trans G3_.out al_)
    have HTM6_ := Lib.hid (show (W).grownBy ((wr.alloc (.cells #[.int .i64 y0, .int .i64 y1, .int .i64 y2, .bool y3] 59))) none from gby_trans HTM4_.out al_)
    clear HTM4_
    have rGb7_ := Lib.hid (show ((wr.alloc (.cells #[.int .i64 y0, .int .i64 y1, .int .i64 y2, .bool y3] 59))).heap[wr.heap.size]? = some (.cells #[.int .i64 y0, .int .i64 y1, .int .i64 y2, .bool y3] 59 (0, 0)) from by first | exact heap_alloc_new _ _ | exact heap_pair _ _ _ | exact heap_trip _ _ _ _)
    clear al_
    have Gb_0_ : ((wr.alloc (.cells #[.int .i64 y0, .int .i64 y1, .int .i64 y2, .bool y3] 59))).cell? ⟨wr.heap.size, 0, none⟩ = some (.int .i64 y0) := cell_of_row _ _ 0 _ _ _ rGb7_.out
    have Gb_1_ : ((wr.alloc (.cells #[.int .i64 y0, .int .i64 y1, .int .i64 y2, .bool y3] 59))).cell? ⟨wr.heap.size, 1, none⟩ = some (.int .i64 y1) := cell_of_row _ _ 1 _ _ _ rGb7_.out
    have Gb_2_ : ((wr.alloc (.cells #[.int .i64 y0, .int .i64 y1, .int .i64 y2, .bool y3] 59))).cell? ⟨wr.heap.size, 2, none⟩ = some (.int .i64 y2) := cell_of_row _ _ 2 _ _ _ rGb7_.out
    have Gb_3_ : ((wr.alloc (.cells #[.int .i64 y0, .int .i64 y1, .int .i64 y2, .bool y3] 59))).cell? ⟨wr.heap.size, 3, none⟩ = some (.bool y3) := cell_of_row _ _ 3 _ _ _ rGb7_.out
    have hing := HIN.out n hlt
    rw [← Hy.out] at hing
    have HWF := Lib.hid (show (Lit.int .i64 y0).wf = true ∧ (Lit.int .i64 y1).wf = true from ⟨wf_small hing.1.1 hing.1.2, wf_small hing.2.1.1 hing.2.1.2⟩)
    clear hing
    go_wp2_with (at_mapUpdate; refine wpList_mapUpdate_own _ rfl _ _ _ 65 rfl 82 59 seenKeyed Try.underlying65 rG W.heap.size n (dmap xs n) rfl (HO.out.alloc _) (by unfold maxLen; omega) (kv y0 y1) (gv ⟨y0, y1, y2, y3⟩) (kl y0 y1) rfl rfl (keyOf_kv HWF.out.1 HWF.out.2) (dg ⟨y0, y1, y2, y3⟩) [] rfl ?_; intro w5 hown5 hg5; have HO5 := Lib.hid hown5; have HG5 := Lib.hid hg5; clear hown5 hg5)
    refine ⟨⟨n + 1, by omega, by go_num, ?_, gby_new G5_.out HG5.out (fun i hi => by obtain rfl := Option.some.inj (show some W.heap.size = some i from hi); exact Nat.le_refl _)⟩, by simp [intOf]; omega⟩
    have e_ : dmap xs (n + 1) = (dmap xs n).put (kl y0 y1) (dg ⟨y0, y1, y2, y3⟩) := by show (dmap xs n).put _ _ = _; rw [← Hy.out]
    rw [e_]
    exact HO5.out

set_option maxRecDepth 8000 in
set_option maxHeartbeats 2000000 in
theorem implGOk (W : World) (v : Value) (xs : List DPageGrant) (H : RdL shPageGrant W v xs) (hl : szL shPageGrant xs ≤ 1048576) : Calls Try.prog 14 #[v] W (BPost (GOk xs) W) := by
  have HT := Lib.hid H
  have HLZ := Lib.hid hl
  rw [szL_size0 (fun _ => rfl)] at hl
  obtain ⟨a0, cap, rfl, hcap, hi⟩ := rdG_in H
  have HA := Lib.hid hi
  obtain ⟨len, hlen⟩ : ∃ len, len = xs.length := ⟨_, rfl⟩
  have HE := Lib.hid hlen
  unfold RdG at HA
  rw [← hlen] at hl HA HT ⊢
  clear H hi hlen hcap
  go_enter Try.func14, Try.ntmps14
  have HTM1_ := Lib.hid (gby_refl (W) none)
  have MG2_ := Lib.hid (show (W).grownBy (W) none from (gby_refl _ _))
  by_cases h40 : len ≤ 40
  rotate_left
  · have hd : ¬ (len : Int) ≤ 40 := by omega
    have hd2 : (40 : Int) < (len : Int) := by omega
    have hd3 : decide ((40 : Int) < (len : Int)) = true := decide_eq_true hd2
    go_wp2
    go_ret
    exact ⟨false, rfl, iff_no2 (fun q => h40 (by rw [HE.out]; exact q.1)), (gby_refl _ _)⟩
  have hd : ¬ (40 : Int) < (len : Int) := by omega
  have hd3 : decide ((40 : Int) < (len : Int)) = false := decide_eq_false hd
  go_wp2
  go_loopw [10] (fun i wr => ∃ n : Nat, n ≤ len ∧ i = .int .i64 (n : Int) ∧ (∀ k, k < n → InG (pg xs k)) ∧ (W).grownBy wr none) (fun i _ => len - (intOf i).toNat)
  case atStart => exact ⟨0, by omega, rfl, fun k hk => absurd hk (Nat.not_lt_zero _), HTM1_.out⟩
  case round =>
    clear HTM1_
    obtain ⟨n, hn, rfl, hin, hg⟩ := hrel
    have szr_ := hg.size
    try simp only [World.size_alloc, World.size_setCell] at szr_
    have G3_ := Lib.hid (show (W).grownBy (wr) none from gby_trans MG2_.out hg)
    have HTM4_ := Lib.hid hg
    clear hg
    have HIN := Lib.hid hin
    clear hin
    have hn0 : (0 : Int) ≤ (n : Int) := by omega
    have htn : ((n : Int)).toNat = n := by omega
    by_cases hlt : n < len
    rotate_left
    · obtain rfl : n = len := by omega
      have hki : ¬ (n : Int) < (n : Int) := by omega
      have HS := Lib.hid (dmap_size (xs := xs) n HIN.out)
      go_wp2_with fail
      go_at_call 42
      refine (table_any _ _ xs (HT.out.grow G3_.out) HLZ.out (fun k hk => HIN.out k (by rw [HE.out]; exact hk))).mono ?_
      rintro e w9 ⟨bm, rfl, hb1, hb2, hown, g⟩
      have HO := Lib.hid hown
      rw [← HE.out] at HO
      clear hown
      have G5_ := Lib.hid (show (W).grownBy (w9) none from gby_trans G3_.out g)
      have HTM6_ := Lib.hid (show (W).grownBy (w9) none from gby_trans HTM4_.out g)
      clear HTM4_
      clear g
      obtain ⟨z, hz⟩ : ∃ z, z = Maps.size (dmap xs n) := ⟨_, rfl⟩
      have HZ := Lib.hid hz
      clear hz
      by_cases hq : z = n
      rotate_left
      · have hb : ((z : Int) == (n : Int)) = false := beq_eq_false_iff_ne.2 (by omega)
        go_wp2_with (at_len; refine wpList_len_own _ rfl _ 65 rfl 82 59 Try.underlying65 rG bm n (dmap xs n) rfl HO.out ?_; rw [← HZ.out])
        go_ret
        exact ⟨false, rfl, iff_no2 (fun q => hq (by rw [HZ.out]; exact HS.out.2.2 (by rw [HE.out]; exact q.2.2))), G5_.out⟩
      subst hq
      have hb : ((z : Int) == (z : Int)) = true := by simp
      go_wp2_with (at_len; refine wpList_len_own _ rfl _ 65 rfl 82 59 Try.underlying65 rG bm z (dmap xs z) rfl HO.out ?_; rw [← HZ.out])
      go_ret
      exact ⟨true, rfl, iff_yes2 ⟨by rw [← HE.out]; exact h40, fun k hk => HIN.out k (by rw [HE.out]; exact hk), by rw [← HE.out]; exact HS.out.2.1 HZ.out.symm⟩, G5_.out⟩
    have hki : (n : Int) < (len : Int) := by omega
    obtain ⟨b, off, rfl, hcell⟩ := HA.out.resolve_left (by omega)
    obtain ⟨y_, hy_⟩ : ∃ y_, y_ = pg xs n := ⟨_, rfl⟩
    have hyc_ := hcell n (by omega)
    rw [← hy_] at hyc_
    obtain ⟨y0, y1, y2, y3⟩ := y_
    dsimp only at hyc_
    have Hy := Lib.hid hy_
    have Hy0 := Lib.hid hyc_.1
    have Hy1 := Lib.hid hyc_.2.1
    have Hy2 := Lib.hid hyc_.2.2.1
    have Hy3 := Lib.hid hyc_.2.2.2
    clear hyc_ hy_ hcell
    have qy0_ := (G3_.out).cell Hy0.out (by simp)
    have qy1_ := (G3_.out).cell Hy1.out (by simp)
    have qy2_ := (G3_.out).cell Hy2.out (by simp)
    have qy3_ := (G3_.out).cell Hy3.out (by simp)
    have al_ : (wr).grownBy ((wr).alloc (.cells #[.int .i64 y0, .int .i64 y1, .int .i64 y2, .bool y3] 59)) none := gby_alloc (gby_refl _ _) _
    have G5_ := Lib.hid (show (W).grownBy ((wr.alloc (.cells #[.int .i64 y0, .int .i64 y1, .int .i64 y2, .bool y3] 59))) none from gby_trans G3_.out al_)
    have HTM6_ := Lib.hid (show (W).grownBy ((wr.alloc (.cells #[.int .i64 y0, .int .i64 y1, .int .i64 y2, .bool y3] 59))) none from gby_trans HTM4_.out al_)
    clear HTM4_
    have rGb7_ := Lib.hid (show ((wr.alloc (.cells #[.int .i64 y0, .int .i64 y1, .int .i64 y2, .bool y3] 59))).heap[wr.heap.size]? = some (.cells #[.int .i64 y0, .int .i64 y1, .int .i64 y2, .bool y3] 59 (0, 0)) from by first | exact heap_alloc_new _ _ | exact heap_pair _ _ _ | exact heap_trip _ _ _ _)
    clear al_
    have Gb_0_ : ((wr.alloc (.cells #[.int .i64 y0, .int .i64 y1, .int .i64 y2, .bool y3] 59))).cell? ⟨wr.heap.size, 0, none⟩ = some (.int .i64 y0) := cell_of_row _ _ 0 _ _ _ rGb7_.out
    have Gb_1_ : ((wr.alloc (.cells #[.int .i64 y0, .int .i64 y1, .int .i64 y2, .bool y3] 59))).cell? ⟨wr.heap.size, 1, none⟩ = some (.int .i64 y1) := cell_of_row _ _ 1 _ _ _ rGb7_.out
    have Gb_2_ : ((wr.alloc (.cells #[.int .i64 y0, .int .i64 y1, .int .i64 y2, .bool y3] 59))).cell? ⟨wr.heap.size, 2, none⟩ = some (.int .i64 y2) := cell_of_row _ _ 2 _ _ _ rGb7_.out
    have Gb_3_ : ((wr.alloc (.cells #[.int .i64 y0, .int .i64 y1, .int .i64 y2, .bool y3] 59))).cell? ⟨wr.heap.size, 3, none⟩ = some (.bool y3) := cell_of_row _ _ 3 _ _ _ rGb7_.out
    rcases inr_or2 y0 0 255 with ⟨hy0a, hy0b⟩ | hb
    rotate_left
    · have HB := Lib.hid hb
      clear hb
      go_wp2_with fail
      go_at_call 40
      refine (implIsId_no y0 _ HB.out).mono ?_
      rintro e w1 ⟨rfl, hd⟩
      have g := hd.gby none
      clear hd
      have szw1 := g.size
      try simp only [World.size_alloc] at szw1
      try simp only [World.size_setCell] at szw1
      clear Gb_0_ Gb_1_ Gb_2_ Gb_3_
      have rGb8_ := Lib.hid (show (w1).heap[wr.heap.size]? = some (.cells #[.int .i64 y0, .int .i64 y1, .int .i64 y2, .bool y3] 59 (0, 0)) from row_held g rGb7_.out)
      clear rGb7_
      have G9_ := Lib.hid (show (W).grownBy (w1) none from gby_trans G5_.out g)
      have HTM10_ := Lib.hid (show (W).grownBy (w1) none from gby_trans HTM6_.out g)
      clear HTM6_
      clear g
      have Gb_0_ : (w1).cell? ⟨wr.heap.size, 0, none⟩ = some (.int .i64 y0) := cell_of_row _ _ 0 _ _ _ rGb8_.out
      have Gb_1_ : (w1).cell? ⟨wr.heap.size, 1, none⟩ = some (.int .i64 y1) := cell_of_row _ _ 1 _ _ _ rGb8_.out
      have Gb_2_ : (w1).cell? ⟨wr.heap.size, 2, none⟩ = some (.int .i64 y2) := cell_of_row _ _ 2 _ _ _ rGb8_.out
      have Gb_3_ : (w1).cell? ⟨wr.heap.size, 3, none⟩ = some (.bool y3) := cell_of_row _ _ 3 _ _ _ rGb8_.out
      go_wp2
      go_ret
      exact ⟨false, rfl, iff_no2 (fun q => by have q2 := (q.2.1 n (by rw [← HE.out]; exact hlt)).1; rw [← Hy.out] at q2; dsimp only at q2; have := HB.out; omega), G9_.out⟩
    rcases inr_or2 y1 0 255 with ⟨hy1a, hy1b⟩ | hb
    rotate_left
    · have HB := Lib.hid hb
      clear hb
      go_wp2_with fail
      go_at_call 40
      refine (implIsId_yes y0 _ hy0a hy0b).mono ?_
      rintro e w1 ⟨rfl, hd⟩
      have g := hd.gby none
      clear hd
      have szw1 := g.size
      try simp only [World.size_alloc] at szw1
      try simp only [World.size_setCell] at szw1
      clear Gb_0_ Gb_1_ Gb_2_ Gb_3_
      have rGb8_ := Lib.hid (show (w1).heap[wr.heap.size]? = some (.cells #[.int .i64 y0, .int .i64 y1, .int .i64 y2, .bool y3] 59 (0, 0)) from row_held g rGb7_.out)
      clear rGb7_
      have G9_ := Lib.hid (show (W).grownBy (w1) none from gby_trans G5_.out g)
      have HTM10_ := Lib.hid (show (W).grownBy (w1) none from gby_trans HTM6_.out g)
      clear HTM6_
      clear g
      have Gb_0_ : (w1).cell? ⟨wr.heap.size, 0, none⟩ = some (.int .i64 y0) := cell_of_row _ _ 0 _ _ _ rGb8_.out
      have Gb_1_ : (w1).cell? ⟨wr.heap.size, 1, none⟩ = some (.int .i64 y1) := cell_of_row _ _ 1 _ _ _ rGb8_.out
      have Gb_2_ : (w1).cell? ⟨wr.heap.size, 2, none⟩ = some (.int .i64 y2) := cell_of_row _ _ 2 _ _ _ rGb8_.out
      have Gb_3_ : (w1).cell? ⟨wr.heap.size, 3, none⟩ = some (.bool y3) := cell_of_row _ _ 3 _ _ _ rGb8_.out
      go_wp2_with fail
      go_at_call 41
      refine (page_no HB.out _).mono ?_
      rintro e w2 ⟨rfl, hd⟩
      have g := hd.gby none
      clear hd
      have szw2 := g.size
      try simp only [World.size_alloc] at szw2
      try simp only [World.size_setCell] at szw2
      clear Gb_0_ Gb_1_ Gb_2_ Gb_3_
      have rGb11_ := Lib.hid (show (w2).heap[wr.heap.size]? = some (.cells #[.int .i64 y0, .int .i64 y1, .int .i64 y2, .bool y3] 59 (0, 0)) from row_held g rGb8_.out)
      clear rGb8_
      have G12_ := Lib.hid (show (W).grownBy (w2) none from gby_trans G9_.out g)
      have HTM13_ := Lib.hid (show (W).grownBy (w2) none from gby_trans HTM10_.out g)
      clear HTM10_
      clear g
      have Gb_0_ : (w2).cell? ⟨wr.heap.size, 0, none⟩ = some (.int .i64 y0) := cell_of_row _ _ 0 _ _ _ rGb11_.out
      have Gb_1_ : (w2).cell? ⟨wr.heap.size, 1, none⟩ = some (.int .i64 y1) := cell_of_row _ _ 1 _ _ _ rGb11_.out
      have Gb_2_ : (w2).cell? ⟨wr.heap.size, 2, none⟩ = some (.int .i64 y2) := cell_of_row _ _ 2 _ _ _ rGb11_.out
      have Gb_3_ : (w2).cell? ⟨wr.heap.size, 3, none⟩ = some (.bool y3) := cell_of_row _ _ 3 _ _ _ rGb11_.out
      go_wp2
      go_ret
      exact ⟨false, rfl, iff_no2 (fun q => by have q2 := (q.2.1 n (by rw [← HE.out]; exact hlt)).2.1; rw [← Hy.out] at q2; dsimp only at q2; have := HB.out; omega), G12_.out⟩
    rcases inr_or2 y2 0 255 with ⟨hy2a, hy2b⟩ | hb
    rotate_left
    · have HB := Lib.hid hb
      clear hb
      go_wp2_with fail
      go_at_call 40
      refine (implIsId_yes y0 _ hy0a hy0b).mono ?_
      rintro e w1 ⟨rfl, hd⟩
      have g := hd.gby none
      clear hd
      have szw1 := g.size
      try simp only [World.size_alloc] at szw1
      try simp only [World.size_setCell] at szw1
      clear Gb_0_ Gb_1_ Gb_2_ Gb_3_
      have rGb8_ := Lib.hid (show (w1).heap[wr.heap.size]? = some (.cells #[.int .i64 y0, .int .i64 y1, .int .i64 y2, .bool y3] 59 (0, 0)) from row_held g rGb7_.out)
      clear rGb7_
      have G9_ := Lib.hid (show (W).grownBy (w1) none from gby_trans G5_.out g)
      have HTM10_ := Lib.hid (show (W).grownBy (w1) none from gby_trans HTM6_.out g)
      clear HTM6_
      clear g
      have Gb_0_ : (w1).cell? ⟨wr.heap.size, 0, none⟩ = some (.int .i64 y0) := cell_of_row _ _ 0 _ _ _ rGb8_.out
      have Gb_1_ : (w1).cell? ⟨wr.heap.size, 1, none⟩ = some (.int .i64 y1) := cell_of_row _ _ 1 _ _ _ rGb8_.out
      have Gb_2_ : (w1).cell? ⟨wr.heap.size, 2, none⟩ = some (.int .i64 y2) := cell_of_row _ _ 2 _ _ _ rGb8_.out
      have Gb_3_ : (w1).cell? ⟨wr.heap.size, 3, none⟩ = some (.bool y3) := cell_of_row _ _ 3 _ _ _ rGb8_.out
      go_wp2_with fail
      go_at_call 41
      refine (page_yes hy1a hy1b _).mono ?_
      rintro e w2 ⟨rfl, hd⟩
      have g := hd.gby none
      clear hd
      have szw2 := g.size
      try simp only [World.size_alloc] at szw2
      try simp only [World.size_setCell] at szw2
      clear Gb_0_ Gb_1_ Gb_2_ Gb_3_
      have rGb11_ := Lib.hid (show (w2).heap[wr.heap.size]? = some (.cells #[.int .i64 y0, .int .i64 y1, .int .i64 y2, .bool y3] 59 (0, 0)) from row_held g rGb8_.out)
      clear rGb8_
      have G12_ := Lib.hid (show (W).grownBy (w2) none from gby_trans G9_.out g)
      have HTM13_ := Lib.hid (show (W).grownBy (w2) none from gby_trans HTM10_.out g)
      clear HTM10_
      clear g
      have Gb_0_ : (w2).cell? ⟨wr.heap.size, 0, none⟩ = some (.int .i64 y0) := cell_of_row _ _ 0 _ _ _ rGb11_.out
      have Gb_1_ : (w2).cell? ⟨wr.heap.size, 1, none⟩ = some (.int .i64 y1) := cell_of_row _ _ 1 _ _ _ rGb11_.out
      have Gb_2_ : (w2).cell? ⟨wr.heap.size, 2, none⟩ = some (.int .i64 y2) := cell_of_row _ _ 2 _ _ _ rGb11_.out
      have Gb_3_ : (w2).cell? ⟨wr.heap.size, 3, none⟩ = some (.bool y3) := cell_of_row _ _ 3 _ _ _ rGb11_.out
      go_wp2_with fail
      go_at_call 41
      refine (page_no HB.out _).mono ?_
      rintro e w3 ⟨rfl, hd⟩
      have g := hd.gby none
      clear hd
      have szw3 := g.size
      try simp only [World.size_alloc] at szw3
      try simp only [World.size_setCell] at szw3
      clear Gb_0_ Gb_1_ Gb_2_ Gb_3_
      have rGb14_ := Lib.hid (show (w3).heap[wr.heap.size]? = some (.cells #[.int .i64 y0, .int .i64 y1, .int .i64 y2, .bool y3] 59 (0, 0)) from row_held g rGb11_.out)
      clear rGb11_
      have G15_ := Lib.hid (show (W).grownBy (w3) none from gby_trans G12_.out g)
      have HTM16_ := Lib.hid (show (W).grownBy (w3) none from gby_trans HTM13_.out g)
      clear HTM13_
      clear g
      have Gb_0_ : (w3).cell? ⟨wr.heap.size, 0, none⟩ = some (.int .i64 y0) := cell_of_row _ _ 0 _ _ _ rGb14_.out
      have Gb_1_ : (w3).cell? ⟨wr.heap.size, 1, none⟩ = some (.int .i64 y1) := cell_of_row _ _ 1 _ _ _ rGb14_.out
      have Gb_2_ : (w3).cell? ⟨wr.heap.size, 2, none⟩ = some (.int .i64 y2) := cell_of_row _ _ 2 _ _ _ rGb14_.out
      have Gb_3_ : (w3).cell? ⟨wr.heap.size, 3, none⟩ = some (.bool y3) := cell_of_row _ _ 3 _ _ _ rGb14_.out
      go_wp2
      go_ret
      exact ⟨false, rfl, iff_no2 (fun q => by have q2 := (q.2.1 n (by rw [← HE.out]; exact hlt)).2.2; rw [← Hy.out] at q2; dsimp only at q2; have := HB.out; omega), G15_.out⟩
    go_wp2_with fail
    go_at_call 40
    refine (implIsId_yes y0 _ hy0a hy0b).mono ?_
    rintro e w1 ⟨rfl, hd⟩
    have g := hd.gby none
    clear hd
    have szw1 := g.size
    try simp only [World.size_alloc] at szw1
    try simp only [World.size_setCell] at szw1
    clear Gb_0_ Gb_1_ Gb_2_ Gb_3_
    have rGb8_ := Lib.hid (show (w1).heap[wr.heap.size]? = some (.cells #[.int .i64 y0, .int .i64 y1, .int .i64 y2, .bool y3] 59 (0, 0)) from row_held g rGb7_.out)
    clear rGb7_
    have G9_ := Lib.hid (show (W).grownBy (w1) none from gby_trans G5_.out g)
    have HTM10_ := Lib.hid (show (W).grownBy (w1) none from gby_trans HTM6_.out g)
    clear HTM6_
    clear g
    have Gb_0_ : (w1).cell? ⟨wr.heap.size, 0, none⟩ = some (.int .i64 y0) := cell_of_row _ _ 0 _ _ _ rGb8_.out
    have Gb_1_ : (w1).cell? ⟨wr.heap.size, 1, none⟩ = some (.int .i64 y1) := cell_of_row _ _ 1 _ _ _ rGb8_.out
    have Gb_2_ : (w1).cell? ⟨wr.heap.size, 2, none⟩ = some (.int .i64 y2) := cell_of_row _ _ 2 _ _ _ rGb8_.out
    have Gb_3_ : (w1).cell? ⟨wr.heap.size, 3, none⟩ = some (.bool y3) := cell_of_row _ _ 3 _ _ _ rGb8_.out
    go_wp2_with fail
    go_at_call 41
    refine (page_yes hy1a hy1b _).mono ?_
    rintro e w2 ⟨rfl, hd⟩
    have g := hd.gby none
    clear hd
    have szw2 := g.size
    try simp only [World.size_alloc] at szw2
    try simp only [World.size_setCell] at szw2
    clear Gb_0_ Gb_1_ Gb_2_ Gb_3_
    have rGb11_ := Lib.hid (show (w2).heap[wr.heap.size]? = some (.cells #[.int .i64 y0, .int .i64 y1, .int .i64 y2, .bool y3] 59 (0, 0)) from row_held g rGb8_.out)
    clear rGb8_
    have G12_ := Lib.hid (show (W).grownBy (w2) none from gby_trans G9_.out g)
    have HTM13_ := Lib.hid (show (W).grownBy (w2) none from gby_trans HTM10_.out g)
    clear HTM10_
    clear g
    have Gb_0_ : (w2).cell? ⟨wr.heap.size, 0, none⟩ = some (.int .i64 y0) := cell_of_row _ _ 0 _ _ _ rGb11_.out
    have Gb_1_ : (w2).cell? ⟨wr.heap.size, 1, none⟩ = some (.int .i64 y1) := cell_of_row _ _ 1 _ _ _ rGb11_.out
    have Gb_2_ : (w2).cell? ⟨wr.heap.size, 2, none⟩ = some (.int .i64 y2) := cell_of_row _ _ 2 _ _ _ rGb11_.out
    have Gb_3_ : (w2).cell? ⟨wr.heap.size, 3, none⟩ = some (.bool y3) := cell_of_row _ _ 3 _ _ _ rGb11_.out
    go_wp2_with fail
    go_at_call 41
    refine (page_yes hy2a hy2b _).mono ?_
    rintro e w3 ⟨rfl, hd⟩
    have g := hd.gby none
    clear hd
    have szw3 := g.size
    try simp only [World.size_alloc] at szw3
    try simp only [World.size_setCell] at szw3
    clear Gb_0_ Gb_1_ Gb_2_ Gb_3_
    have rGb14_ := Lib.hid (show (w3).heap[wr.heap.size]? = some (.cells #[.int .i64 y0, .int .i64 y1, .int .i64 y2, .bool y3] 59 (0, 0)) from row_held g rGb11_.out)
    clear rGb11_
    have G15_ := Lib.hid (show (W).grownBy (w3) none from gby_trans G12_.out g)
    have HTM16_ := Lib.hid (show (W).grownBy (w3) none from gby_trans HTM13_.out g)
    clear HTM13_
    clear g
    have Gb_0_ : (w3).cell? ⟨wr.heap.size, 0, none⟩ = some (.int .i64 y0) := cell_of_row _ _ 0 _ _ _ rGb14_.out
    have Gb_1_ : (w3).cell? ⟨wr.heap.size, 1, none⟩ = some (.int .i64 y1) := cell_of_row _ _ 1 _ _ _ rGb14_.out
    have Gb_2_ : (w3).cell? ⟨wr.heap.size, 2, none⟩ = some (.int .i64 y2) := cell_of_row _ _ 2 _ _ _ rGb14_.out
    have Gb_3_ : (w3).cell? ⟨wr.heap.size, 3, none⟩ = some (.bool y3) := cell_of_row _ _ 3 _ _ _ rGb14_.out
    have HING := Lib.hid (show InG (pg xs n) from by rw [← Hy.out]; exact ⟨⟨hy0a, hy0b⟩, ⟨hy1a, hy1b⟩, hy2a, hy2b⟩)
    go_wp2
    refine ⟨⟨n + 1, by omega, by go_num, inG_step HIN.out HING.out, by repeat (first | exact HTM16_.out | with_reducible refine gby_drewN ?_ _)⟩, by simp [intOf]; omega⟩

theorem grantsOk_both (xs0 : List DPageGrant) (h0 : szL shPageGrant xs0 ≤ 1048576) : ∃ br0 : Bool, (∀ (W : World), ∀ u0, RdL shPageGrant W u0 xs0 → Calls Try.prog 12 #[u0] W (ResSGrantsOk br0 W)) ∧ ∀ (W : World), ∀ u0, RdL shPageGrant W u0 xs0 → Calls Try.prog 14 #[u0] W (ResIGrantsOk br0 W) := by
  by_cases h : GOk xs0
  · exact ⟨true, fun W u H => ((specGOk W u xs0 H h0).mono (bpost_yes h)), fun W u H => ((implGOk W u xs0 H h0).mono (bpost_yes h))⟩
  · exact ⟨false, fun W u H => ((specGOk W u xs0 H h0).mono (bpost_no h)), fun W u H => ((implGOk W u xs0 H h0).mono (bpost_no h))⟩


end Go.Proofs.Ytgagbhkidponnab
