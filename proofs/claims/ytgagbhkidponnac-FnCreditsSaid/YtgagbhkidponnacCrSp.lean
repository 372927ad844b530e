/-
  Credits spent and given back by the program's methods.
-/
import Derived.Test.YtgagbhkidponnacPassImpl
import Derived.Test.YtgagbhkidponnacCrd
import Derived.Test.YtgagbhkidponnacGreg
import Derived.Deep.RegionHeld3
import Derived.Test.YtgagbhkidponnacCrAdd
namespace Go.Proofs.Ytgagbhkidponnac
open Go Go.RowKit
set_option linter.unusedVariables false

theorem ClsOf.ok {k f t a l g s : Int} {xs : List Int} {ca : Int} (h : ClsOf k f t a l g s xs ca) (h0 : 0 ≤ ca) : PkOk k f t a l g s xs := by
  rcases h with ⟨q, _⟩ | ⟨_, rfl⟩
  · exact q
  · omega
/-- are there credits for a packet of the class ca that needs u units -/
def CanP (xs ys : List Int) (ca u : Int) : Prop := CrdOk xs ys ∧ 0 ≤ ca ∧ 1 ≤ xs.getD ca.toNat 0 ∧ u ≤ ys.getD ca.toNat 0
instance (xs ys : List Int) (ca u : Int) : Decidable (CanP xs ys ca u) := by unfold CanP; infer_instance

set_option maxRecDepth 8000 in
set_option maxHeartbeats 4000000 in
theorem specCan_any (W : World) (a0 : Option Addr) (n0 c0 : Nat) (a1 : Option Addr) (n1 c1 : Nat) (xs ys : List Int) (k f t a l g s : Int) (d : Option Addr) (n c : Nat) (ds : List Int) (ca : Int) (qa : ClsOf k f t a l g s ds ca) (H0 : ISl W a0 n0 xs) (H1 : ISl W a1 n1 ys) (H2 : ISl W d n ds) (hl0 : n0 ≤ 1048576) (hl1 : n1 ≤ 1048576) (hl2 : n ≤ 1048576) (u : Int) (hu : u = (((n + 3) / 4 : Nat) : Int)) :
    Calls Try.prog 83 #[crV a0 n0 c0 a1 n1 c1, pgV k f t a l g s d n c] W (AnsN (.bool (decide (CanP xs ys ca u))) W) := by
  have HA := Lib.hid H0
  have HB := Lib.hid H1
  have HD := Lib.hid H2
  have QA := Lib.hid qa
  obtain ⟨ra, ra'⟩ := qa.rng
  clear H0 H1 H2
  unfold crV pgV
  by_cases hcr : CrdOk xs ys
  · have hbc : decide (CrdOk xs ys) = true := decide_eq_true hcr
    by_cases h0 : 0 ≤ ca
    · obtain ⟨m, rfl⟩ : ∃ m : Nat, ca = (m : Int) := ⟨ca.toNat, by omega⟩
      have e0 : n0 = 3 := HA.out.1.trans hcr.1.1
      have e1 : n1 = 3 := HB.out.1.trans hcr.2.1
      obtain ⟨b, off, rfl, hcell⟩ := HA.out.2.resolve_left (by omega)
      obtain ⟨b2, off2, rfl, hcell2⟩ := HB.out.2.resolve_left (by omega)
      have hc0 := hcell m (by omega)
      have hc1 := hcell2 m (by omega)
      have htn : ((m : Int)).toNat = m := by omega
      have m1 : (m : Int) < (n0 : Int) := by omega
      have m2 : (m : Int) < (n1 : Int) := by omega
      have hdef : CanP xs ys (m : Int) u ↔ 1 ≤ xs.getD m 0 ∧ u ≤ ys.getD m 0 := by
        unfold CanP
        rw [htn]
        exact ⟨fun h => h.2.2, fun h => ⟨hcr, by omega, h⟩⟩
      obtain ⟨x, hx⟩ : ∃ x, x = xs.getD m 0 := ⟨_, rfl⟩
      obtain ⟨y, hy⟩ : ∃ y, y = ys.getD m 0 := ⟨_, rfl⟩
      rw [← hx] at hc0
      rw [← hy] at hc1
      rw [← hx, ← hy] at hdef
      have HC0 := Lib.hid hc0
      have HC1 := Lib.hid hc1
      clear hcell hcell2 hc0 hc1 hx hy e0 e1
      have HCR := Lib.hid (fun (w' : World) (gg : W.grownBy w' none) => show Calls Try.prog 89 #[.agg #[.slice (some ⟨b, off, none⟩) n0 c0, .slice (some ⟨b2, off2, none⟩) n1 c1]] w' (AnsN (.bool true) w') from hbc ▸ specCr_any w' _ n0 c0 _ n1 c1 xs ys (HA.out.kept gg) (HB.out.kept gg) hl0 hl1)
      have HPU := Lib.hid (fun (w' : World) (gg : W.grownBy w' none) => show Calls Try.prog 85 #[.agg #[.int .i64 k, .int .i64 f, .int .i64 t, .int .i64 a, .int .i64 l, .int .i64 g, .int .i64 s, .slice d n c]] w' (AnsG (.int .i64 u) w') from hu ▸ specPacketUnits_in k w' f t a l g s d n c ds (HD.out.kept gg) hl2 (QA.out.ok (by omega)))
      clear hbc hu qa
      
      by_cases h1 : 1 ≤ x
      · by_cases h2 : u ≤ y
        · have why : decide (CanP xs ys (m : Int) u) = true := decide_eq_true (hdef.2 ⟨h1, h2⟩)
          clear hdef hcr
          go_enter Try.func83, Try.ntmps83
          go_wp2_with fail
          go_at_call 84
          refine (specCls_any _ _ _ _ QA.out (HD.out.kept (gby_alloc (gby_alloc (gby_refl _ _) _) _)) hl2).mono ?_
          rintro e w1 ⟨rfl, g1⟩
          have hm := row_held g1 (W := (W.alloc _).alloc _) (b := W.heap.size) (by rw [heap_alloc_old _ _ (by simp)]; exact heap_alloc_new W _)
          have hp := row_held g1 (W := (W.alloc _).alloc _) (b := W.heap.size + 1) (heap_pair W _ _)
          have G1 := Lib.hid (gby_trans (gby_alloc (gby_alloc (gby_refl W none) _) _) g1)
          clear g1
          obtain ⟨m0, m1⟩ := cr_row hm
          obtain ⟨p0, p1, p2, p3, p4, p5, p6, p7⟩ := pg_row hp
          have HM := Lib.hid hm
          have HP := Lib.hid hp
          clear hm hp
          have hx0 := G1.out.cell HC0.out (by simp)
          have hx1 := G1.out.cell HC1.out (by simp)
          go_wp2_with fail
          refine wp_region_grow (by kernel_rfl) (by kernel_rfl) ?_
          repeat (first
            | (refine gq_no (by rfl) ?_; (try simp only [Act.put, List.setIfInBounds_toArray, List.set_cons_zero, List.set_cons_succ]))
            | (refine gq_yes (by rfl) ?_ (fun wq hq => ?_) ?_; rotate_left; (· (go_simp; go_at_call 89; refine (HCR.out _ (gby_trans G1.out hq)).mono ?_; rintro e wr ⟨rfl, gr⟩; refine And.intro ?_ (gby_trans hq gr); rfl)); (try simp only [Act.put, List.setIfInBounds_toArray, List.set_cons_zero, List.set_cons_succ]))
            | (refine gq_yes (by rfl) ?_ (fun wq hq => ?_) ?_; rotate_left; (· (go_simp; go_at_call 85; refine (HPU.out _ (gby_trans G1.out hq)).mono ?_; rintro e wr ⟨rfl, gr⟩; refine And.intro ?_ (gby_trans hq gr); rfl)); (try simp only [Act.put, List.setIfInBounds_toArray, List.set_cons_zero, List.set_cons_succ]))
            | (refine gq_yes (by rfl) ?_ (fun wq hq => ?_) ?_; rotate_left; (· (have y0 := hq.cell m0 (by simp); have y1 := hq.cell m1 (by simp); have y2 := hq.cell p0 (by simp); have y3 := hq.cell p1 (by simp); have y4 := hq.cell p2 (by simp); have y5 := hq.cell p3 (by simp); have y6 := hq.cell p4 (by simp); have y7 := hq.cell p5 (by simp); have y8 := hq.cell p6 (by simp); have y9 := hq.cell p7 (by simp); have y10 := hq.cell hx0 (by simp); have y11 := hq.cell hx1 (by simp); go_simp; (try rfl))); (try simp only [Act.put, List.setIfInBounds_toArray, List.set_cons_zero, List.set_cons_succ])))
          refine gq_nil ?_
          intro wr2 gz
          have G2 := Lib.hid (gby_trans G1.out gz)
          clear gz m0 m1 p0 p1 p2 p3 p4 p5 p6 p7 hx0 hx1 HM HP
          go_wp2
          go_ret
          exact ⟨ret_bool (by rw [why]; first | done | rfl | (simp; omega) | simp), G2.out⟩
        · have why : decide (CanP xs ys (m : Int) u) = false := decide_eq_false (fun h => h2 (hdef.1 h).2)
          clear hdef hcr
          go_enter Try.func83, Try.ntmps83
          go_wp2_with fail
          go_at_call 84
          refine (specCls_any _ _ _ _ QA.out (HD.out.kept (gby_alloc (gby_alloc (gby_refl _ _) _) _)) hl2).mono ?_
          rintro e w1 ⟨rfl, g1⟩
          have hm := row_held g1 (W := (W.alloc _).alloc _) (b := W.heap.size) (by rw [heap_alloc_old _ _ (by simp)]; exact heap_alloc_new W _)
          have hp := row_held g1 (W := (W.alloc _).alloc _) (b := W.heap.size + 1) (heap_pair W _ _)
          have G1 := Lib.hid (gby_trans (gby_alloc (gby_alloc (gby_refl W none) _) _) g1)
          clear g1
          obtain ⟨m0, m1⟩ := cr_row hm
          obtain ⟨p0, p1, p2, p3, p4, p5, p6, p7⟩ := pg_row hp
          have HM := Lib.hid hm
          have HP := Lib.hid hp
          clear hm hp
          have hx0 := G1.out.cell HC0.out (by simp)
          have hx1 := G1.out.cell HC1.out (by simp)
          go_wp2_with fail
          refine wp_region_grow (by kernel_rfl) (by kernel_rfl) ?_
          repeat (first
            | (refine gq_no (by rfl) ?_; (try simp only [Act.put, List.setIfInBounds_toArray, List.set_cons_zero, List.set_cons_succ]))
            | (refine gq_yes (by rfl) ?_ (fun wq hq => ?_) ?_; rotate_left; (· (go_simp; go_at_call 89; refine (HCR.out _ (gby_trans G1.out hq)).mono ?_; rintro e wr ⟨rfl, gr⟩; refine And.intro ?_ (gby_trans hq gr); rfl)); (try simp only [Act.put, List.setIfInBounds_toArray, List.set_cons_zero, List.set_cons_succ]))
            | (refine gq_yes (by rfl) ?_ (fun wq hq => ?_) ?_; rotate_left; (· (go_simp; go_at_call 85; refine (HPU.out _ (gby_trans G1.out hq)).mono ?_; rintro e wr ⟨rfl, gr⟩; refine And.intro ?_ (gby_trans hq gr); rfl)); (try simp only [Act.put, List.setIfInBounds_toArray, List.set_cons_zero, List.set_cons_succ]))
            | (refine gq_yes (by rfl) ?_ (fun wq hq => ?_) ?_; rotate_left; (· (have y0 := hq.cell m0 (by simp); have y1 := hq.cell m1 (by simp); have y2 := hq.cell p0 (by simp); have y3 := hq.cell p1 (by simp); have y4 := hq.cell p2 (by simp); have y5 := hq.cell p3 (by simp); have y6 := hq.cell p4 (by simp); have y7 := hq.cell p5 (by simp); have y8 := hq.cell p6 (by simp); have y9 := hq.cell p7 (by simp); have y10 := hq.cell hx0 (by simp); have y11 := hq.cell hx1 (by simp); go_simp; (try rfl))); (try simp only [Act.put, List.setIfInBounds_toArray, List.set_cons_zero, List.set_cons_succ])))
          refine gq_nil ?_
          intro wr2 gz
          have G2 := Lib.hid (gby_trans G1.out gz)
          clear gz m0 m1 p0 p1 p2 p3 p4 p5 p6 p7 hx0 hx1 HM HP
          go_wp2
          go_ret
          exact ⟨ret_bool (by rw [why]; first | done | rfl | (simp; omega) | simp), G2.out⟩
      · have why : decide (CanP xs ys (m : Int) u) = false := decide_eq_false (fun h => h1 (hdef.1 h).1)
        skip
        have hd1 : decide (1 ≤ x) = false := decide_eq_false h1
        clear hdef hcr
        go_enter Try.func83, Try.ntmps83
        go_wp2_with fail
        go_at_call 84
        refine (specCls_any _ _ _ _ QA.out (HD.out.kept (gby_alloc (gby_alloc (gby_refl _ _) _) _)) hl2).mono ?_
        rintro e w1 ⟨rfl, g1⟩
        have hm := row_held g1 (W := (W.alloc _).alloc _) (b := W.heap.size) (by rw [heap_alloc_old _ _ (by simp)]; exact heap_alloc_new W _)
        have hp := row_held g1 (W := (W.alloc _).alloc _) (b := W.heap.size + 1) (heap_pair W _ _)
        have G1 := Lib.hid (gby_trans (gby_alloc (gby_alloc (gby_refl W none) _) _) g1)
        clear g1
        obtain ⟨m0, m1⟩ := cr_row hm
        obtain ⟨p0, p1, p2, p3, p4, p5, p6, p7⟩ := pg_row hp
        have HM := Lib.hid hm
        have HP := Lib.hid hp
        clear hm hp
        have hx0 := G1.out.cell HC0.out (by simp)
        have hx1 := G1.out.cell HC1.out (by simp)
        go_wp2_with fail
        refine wp_region_grow (by kernel_rfl) (by kernel_rfl) ?_
        repeat (first
          | (refine gq_no (by rfl) ?_; (try simp only [Act.put, List.setIfInBounds_toArray, List.set_cons_zero, List.set_cons_succ]))
          | (refine gq_yes (by rfl) ?_ (fun wq hq => ?_) ?_; rotate_left; (· (go_simp; go_at_call 89; refine (HCR.out _ (gby_trans G1.out hq)).mono ?_; rintro e wr ⟨rfl, gr⟩; refine And.intro ?_ (gby_trans hq gr); rfl)); (try simp only [Act.put, List.setIfInBounds_toArray, List.set_cons_zero, List.set_cons_succ]))
          | (refine gq_yes (by rfl) ?_ (fun wq hq => ?_) ?_; rotate_left; (· (have y0 := hq.cell m0 (by simp); have y1 := hq.cell m1 (by simp); have y2 := hq.cell p0 (by simp); have y3 := hq.cell p1 (by simp); have y4 := hq.cell p2 (by simp); have y5 := hq.cell p3 (by simp); have y6 := hq.cell p4 (by simp); have y7 := hq.cell p5 (by simp); have y8 := hq.cell p6 (by simp); have y9 := hq.cell p7 (by simp); have y10 := hq.cell hx0 (by simp); have y11 := hq.cell hx1 (by simp); go_simp; (try rfl))); (try simp only [Act.put, List.setIfInBounds_toArray, List.set_cons_zero, List.set_cons_succ])))
        refine gq_nil ?_
        intro wr2 gz
        have G2 := Lib.hid (gby_trans G1.out gz)
        clear gz m0 m1 p0 p1 p2 p3 p4 p5 p6 p7 hx0 hx1 HM HP
        go_wp2
        go_ret
        exact ⟨ret_bool (by rw [why]; first | done | rfl | (simp; omega) | simp), G2.out⟩
    · have why : decide (CanP xs ys ca u) = false := decide_eq_false (fun h => h0 h.2.1)
      skip
      have hd0 : decide (0 ≤ ca) = false := decide_eq_false h0
      have HCR := Lib.hid (fun (w' : World) (gg : W.grownBy w' none) => show Calls Try.prog 89 #[.agg #[.slice a0 n0 c0, .slice a1 n1 c1]] w' (AnsN (.bool true) w') from hbc ▸ specCr_any w' _ n0 c0 _ n1 c1 xs ys (HA.out.kept gg) (HB.out.kept gg) hl0 hl1)
      
      clear hbc hcr qa hu
      go_enter Try.func83, Try.ntmps83
      go_wp2_with fail
      go_at_call 84
      refine (specCls_any _ _ _ _ QA.out (HD.out.kept (gby_alloc (gby_alloc (gby_refl _ _) _) _)) hl2).mono ?_
      rintro e w1 ⟨rfl, g1⟩
      have hm := row_held g1 (W := (W.alloc _).alloc _) (b := W.heap.size) (by rw [heap_alloc_old _ _ (by simp)]; exact heap_alloc_new W _)
      have hp := row_held g1 (W := (W.alloc _).alloc _) (b := W.heap.size + 1) (heap_pair W _ _)
      have G1 := Lib.hid (gby_trans (gby_alloc (gby_alloc (gby_refl W none) _) _) g1)
      clear g1
      obtain ⟨m0, m1⟩ := cr_row hm
      obtain ⟨p0, p1, p2, p3, p4, p5, p6, p7⟩ := pg_row hp
      have HM := Lib.hid hm
      have HP := Lib.hid hp
      clear hm hp
      go_wp2_with fail
      refine wp_region_grow (by kernel_rfl) (by kernel_rfl) ?_
      repeat (first
        | (refine gq_no (by rfl) ?_; (try simp only [Act.put, List.setIfInBounds_toArray, List.set_cons_zero, List.set_cons_succ]))
        | (refine gq_yes (by rfl) ?_ (fun wq hq => ?_) ?_; rotate_left; (· (go_simp; go_at_call 89; refine (HCR.out _ (gby_trans G1.out hq)).mono ?_; rintro e wr ⟨rfl, gr⟩; refine And.intro ?_ (gby_trans hq gr); rfl)); (try simp only [Act.put, List.setIfInBounds_toArray, List.set_cons_zero, List.set_cons_succ]))
        | (refine gq_yes (by rfl) ?_ (fun wq hq => ?_) ?_; rotate_left; (· (have y0 := hq.cell m0 (by simp); have y1 := hq.cell m1 (by simp); have y2 := hq.cell p0 (by simp); have y3 := hq.cell p1 (by simp); have y4 := hq.cell p2 (by simp); have y5 := hq.cell p3 (by simp); have y6 := hq.cell p4 (by simp); have y7 := hq.cell p5 (by simp); have y8 := hq.cell p6 (by simp); have y9 := hq.cell p7 (by simp); go_simp; (try rfl))); (try simp only [Act.put, List.setIfInBounds_toArray, List.set_cons_zero, List.set_cons_succ])))
      refine gq_nil ?_
      intro wr2 gz
      have G2 := Lib.hid (gby_trans G1.out gz)
      clear gz m0 m1 p0 p1 p2 p3 p4 p5 p6 p7 HM HP
      go_wp2
      go_ret
      exact ⟨ret_bool (by rw [why]; first | done | rfl | (simp; omega) | simp), G2.out⟩
  · have hbc : decide (CrdOk xs ys) = false := decide_eq_false hcr
    have why : decide (CanP xs ys ca u) = false := decide_eq_false (fun h => hcr h.1)
    have HCR := Lib.hid (fun (w' : World) (gg : W.grownBy w' none) => show Calls Try.prog 89 #[.agg #[.slice a0 n0 c0, .slice a1 n1 c1]] w' (AnsN (.bool false) w') from hbc ▸ specCr_any w' _ n0 c0 _ n1 c1 xs ys (HA.out.kept gg) (HB.out.kept gg) hl0 hl1)
    
    clear hbc hcr qa hu
    go_enter Try.func83, Try.ntmps83
    go_wp2_with fail
    go_at_call 84
    refine (specCls_any _ _ _ _ QA.out (HD.out.kept (gby_alloc (gby_alloc (gby_refl _ _) _) _)) hl2).mono ?_
    rintro e w1 ⟨rfl, g1⟩
    have hm := row_held g1 (W := (W.alloc _).alloc _) (b := W.heap.size) (by rw [heap_alloc_old _ _ (by simp)]; exact heap_alloc_new W _)
    have hp := row_held g1 (W := (W.alloc _).alloc _) (b := W.heap.size + 1) (heap_pair W _ _)
    have G1 := Lib.hid (gby_trans (gby_alloc (gby_alloc (gby_refl W none) _) _) g1)
    clear g1
    obtain ⟨m0, m1⟩ := cr_row hm
    obtain ⟨p0, p1, p2, p3, p4, p5, p6, p7⟩ := pg_row hp
    have HM := Lib.hid hm
    have HP := Lib.hid hp
    clear hm hp
    go_wp2_with fail
    refine wp_region_grow (by kernel_rfl) (by kernel_rfl) ?_
    repeat (first
      | (refine gq_no (by rfl) ?_; (try simp only [Act.put, List.setIfInBounds_toArray, List.set_cons_zero, List.set_cons_succ]))
      | (refine gq_yes (by rfl) ?_ (fun wq hq => ?_) ?_; rotate_left; (· (go_simp; go_at_call 89; refine (HCR.out _ (gby_trans G1.out hq)).mono ?_; rintro e wr ⟨rfl, gr⟩; refine And.intro ?_ (gby_trans hq gr); rfl)); (try simp only [Act.put, List.setIfInBounds_toArray, List.set_cons_zero, List.set_cons_succ]))
      | (refine gq_yes (by rfl) ?_ (fun wq hq => ?_) ?_; rotate_left; (· (have y0 := hq.cell m0 (by simp); have y1 := hq.cell m1 (by simp); have y2 := hq.cell p0 (by simp); have y3 := hq.cell p1 (by simp); have y4 := hq.cell p2 (by simp); have y5 := hq.cell p3 (by simp); have y6 := hq.cell p4 (by simp); have y7 := hq.cell p5 (by simp); have y8 := hq.cell p6 (by simp); have y9 := hq.cell p7 (by simp); go_simp; (try rfl))); (try simp only [Act.put, List.setIfInBounds_toArray, List.set_cons_zero, List.set_cons_succ])))
    refine gq_nil ?_
    intro wr2 gz
    have G2 := Lib.hid (gby_trans G1.out gz)
    clear gz m0 m1 p0 p1 p2 p3 p4 p5 p6 p7 HM HP
    go_wp2
    go_ret
    exact ⟨ret_bool (by rw [why]; first | done | rfl | (simp; omega) | simp), G2.out⟩

set_option maxRecDepth 8000 in
set_option maxHeartbeats 4000000 in
theorem cover_any (W : World) (a0 : Option Addr) (n0 c0 : Nat) (a1 : Option Addr) (n1 c1 : Nat) (xs ys : List Int) (k f t a l g s : Int) (d : Option Addr) (n c : Nat) (ds : List Int) (ca : Int) (qa : ClsOf k f t a l g s ds ca) (H0 : ISl W a0 n0 xs) (H1 : ISl W a1 n1 ys) (H2 : ISl W d n ds) (hl0 : n0 ≤ 1048576) (hl1 : n1 ≤ 1048576) (hl2 : n ≤ 1048576) (u : Int) (hu : u = (((n + 3) / 4 : Nat) : Int)) (hcr : CrdOk xs ys) (h0 : 0 ≤ ca) :
    Calls Try.prog 93 #[crV a0 n0 c0 a1 n1 c1, pgV k f t a l g s d n c] W (AnsN (.bool (decide (CanP xs ys ca u))) W) := by
  have HA := Lib.hid H0
  have HB := Lib.hid H1
  have HD := Lib.hid H2
  have QA := Lib.hid qa
  obtain ⟨ra, ra'⟩ := qa.rng
  clear H0 H1 H2
  unfold crV pgV
  obtain ⟨m, rfl⟩ : ∃ m : Nat, ca = (m : Int) := ⟨ca.toNat, by omega⟩
  have e0 : n0 = 3 := HA.out.1.trans hcr.1.1
  have e1 : n1 = 3 := HB.out.1.trans hcr.2.1
  obtain ⟨b, off, rfl, hcell⟩ := HA.out.2.resolve_left (by omega)
  obtain ⟨b2, off2, rfl, hcell2⟩ := HB.out.2.resolve_left (by omega)
  have hc0 := hcell m (by omega)
  have hc1 := hcell2 m (by omega)
  have htn : ((m : Int)).toNat = m := by omega
  have m1 : (m : Int) < (n0 : Int) := by omega
  have m2 : (m : Int) < (n1 : Int) := by omega
  have hdef : CanP xs ys (m : Int) u ↔ 1 ≤ xs.getD m 0 ∧ u ≤ ys.getD m 0 := by
    unfold CanP
    rw [htn]
    exact ⟨fun h => h.2.2, fun h => ⟨hcr, by omega, h⟩⟩
  obtain ⟨x, hx⟩ : ∃ x, x = xs.getD m 0 := ⟨_, rfl⟩
  obtain ⟨y, hy⟩ : ∃ y, y = ys.getD m 0 := ⟨_, rfl⟩
  rw [← hx] at hc0
  rw [← hy] at hc1
  rw [← hx, ← hy] at hdef
  have HC0 := Lib.hid hc0
  have HC1 := Lib.hid hc1
  clear hcell hcell2 hc0 hc1 hx hy e0 e1
  have HPU := Lib.hid (fun (w' : World) (gg : W.grownBy w' none) => show Calls Try.prog 126 #[.agg #[.int .i64 k, .int .i64 f, .int .i64 t, .int .i64 a, .int .i64 l, .int .i64 g, .int .i64 s, .slice d n c]] w' (AnsG (.int .i64 u) w') from hu ▸ implPacketUnits_in k w' f t a l g s d n c ds (HD.out.kept gg) hl2 (QA.out.ok (by omega)))
  clear hu qa
  by_cases h1 : 1 ≤ x
  · by_cases h2 : u ≤ y
    · have why : decide (CanP xs ys (m : Int) u) = true := decide_eq_true (hdef.2 ⟨h1, h2⟩)
      clear hdef hcr
      go_enter Try.func93, Try.ntmps93
      go_wp2_with fail
      go_at_call 125
      refine (implCls_any _ _ _ _ QA.out (HD.out.kept (gby_alloc (gby_alloc (gby_refl _ _) _) _)) hl2).mono ?_
      rintro e w1 ⟨rfl, g1⟩
      have hm := row_held g1 (W := (W.alloc _).alloc _) (b := W.heap.size) (by rw [heap_alloc_old _ _ (by simp)]; exact heap_alloc_new W _)
      have hp := row_held g1 (W := (W.alloc _).alloc _) (b := W.heap.size + 1) (heap_pair W _ _)
      have G1 := Lib.hid (gby_trans (gby_alloc (gby_alloc (gby_refl W none) _) _) g1)
      clear g1
      obtain ⟨m0, m1⟩ := cr_row hm
      obtain ⟨p0, p1, p2, p3, p4, p5, p6, p7⟩ := pg_row hp
      have HM := Lib.hid hm
      have HP := Lib.hid hp
      clear hm hp
      have hx0 := G1.out.cell HC0.out (by simp)
      have hx1 := G1.out.cell HC1.out (by simp)
      go_wp2_with fail
      refine wp_region_grow (by kernel_rfl) (by kernel_rfl) ?_
      repeat (first
        | (refine gq_no (by rfl) ?_; (try simp only [Act.put, List.setIfInBounds_toArray, List.set_cons_zero, List.set_cons_succ]))
        | (refine gq_yes (by rfl) ?_ (fun wq hq => ?_) ?_; rotate_left; (· (go_simp; go_at_call 126; refine (HPU.out _ (gby_trans G1.out hq)).mono ?_; rintro e wr ⟨rfl, gr⟩; refine And.intro ?_ (gby_trans hq gr); rfl)); (try simp only [Act.put, List.setIfInBounds_toArray, List.set_cons_zero, List.set_cons_succ]))
        | (refine gq_yes (by rfl) ?_ (fun wq hq => ?_) ?_; rotate_left; (· (have y0 := hq.cell m0 (by simp); have y1 := hq.cell m1 (by simp); have y2 := hq.cell p0 (by simp); have y3 := hq.cell p1 (by simp); have y4 := hq.cell p2 (by simp); have y5 := hq.cell p3 (by simp); have y6 := hq.cell p4 (by simp); have y7 := hq.cell p5 (by simp); have y8 := hq.cell p6 (by simp); have y9 := hq.cell p7 (by simp); have y10 := hq.cell hx0 (by simp); have y11 := hq.cell hx1 (by simp); go_simp; (try rfl))); (try simp only [Act.put, List.setIfInBounds_toArray, List.set_cons_zero, List.set_cons_succ])))
      refine gq_nil ?_
      intro wr2 gz
      have G2 := Lib.hid (gby_trans G1.out gz)
      clear gz m0 m1 p0 p1 p2 p3 p4 p5 p6 p7 hx0 hx1 HM HP
      go_wp2
      go_ret
      exact ⟨ret_bool (by rw [why]; first | done | rfl | (simp; omega) | simp), G2.out⟩
    · have why : decide (CanP xs ys (m : Int) u) = false := decide_eq_false (fun h => h2 (hdef.1 h).2)
      clear hdef hcr
      go_enter Try.func93, Try.ntmps93
      go_wp2_with fail
      go_at_call 125
      refine (implCls_any _ _ _ _ QA.out (HD.out.kept (gby_alloc (gby_alloc (gby_refl _ _) _) _)) hl2).mono ?_
      rintro e w1 ⟨rfl, g1⟩
      have hm := row_held g1 (W := (W.alloc _).alloc _) (b := W.heap.size) (by rw [heap_alloc_old _ _ (by simp)]; exact heap_alloc_new W _)
      have hp := row_held g1 (W := (W.alloc _).alloc _) (b := W.heap.size + 1) (heap_pair W _ _)
      have G1 := Lib.hid (gby_trans (gby_alloc (gby_alloc (gby_refl W none) _) _) g1)
      clear g1
      obtain ⟨m0, m1⟩ := cr_row hm
      obtain ⟨p0, p1, p2, p3, p4, p5, p6, p7⟩ := pg_row hp
      have HM := Lib.hid hm
      have HP := Lib.hid hp
      clear hm hp
      have hx0 := G1.out.cell HC0.out (by simp)
      have hx1 := G1.out.cell HC1.out (by simp)
      go_wp2_with fail
      refine wp_region_grow (by kernel_rfl) (by kernel_rfl) ?_
      repeat (first
        | (refine gq_no (by rfl) ?_; (try simp only [Act.put, List.setIfInBounds_toArray, List.set_cons_zero, List.set_cons_succ]))
        | (refine gq_yes (by rfl) ?_ (fun wq hq => ?_) ?_; rotate_left; (· (go_simp; go_at_call 126; refine (HPU.out _ (gby_trans G1.out hq)).mono ?_; rintro e wr ⟨rfl, gr⟩; refine And.intro ?_ (gby_trans hq gr); rfl)); (try simp only [Act.put, List.setIfInBounds_toArray, List.set_cons_zero, List.set_cons_succ]))
        | (refine gq_yes (by rfl) ?_ (fun wq hq => ?_) ?_; rotate_left; (· (have y0 := hq.cell m0 (by simp); have y1 := hq.cell m1 (by simp); have y2 := hq.cell p0 (by simp); have y3 := hq.cell p1 (by simp); have y4 := hq.cell p2 (by simp); have y5 := hq.cell p3 (by simp); have y6 := hq.cell p4 (by simp); have y7 := hq.cell p5 (by simp); have y8 := hq.cell p6 (by simp); have y9 := hq.cell p7 (by simp); have y10 := hq.cell hx0 (by simp); have y11 := hq.cell hx1 (by simp); go_simp; (try rfl))); (try simp only [Act.put, List.setIfInBounds_toArray, List.set_cons_zero, List.set_cons_succ])))
      refine gq_nil ?_
      intro wr2 gz
      have G2 := Lib.hid (gby_trans G1.out gz)
      clear gz m0 m1 p0 p1 p2 p3 p4 p5 p6 p7 hx0 hx1 HM HP
      go_wp2
      go_ret
      exact ⟨ret_bool (by rw [why]; first | done | rfl | (simp; omega) | simp), G2.out⟩
  · have why : decide (CanP xs ys (m : Int) u) = false := decide_eq_false (fun h => h1 (hdef.1 h).1)
    skip
    have hd1 : decide (1 ≤ x) = false := decide_eq_false h1
    clear hdef hcr
    go_enter Try.func93, Try.ntmps93
    go_wp2_with fail
    go_at_call 125
    refine (implCls_any _ _ _ _ QA.out (HD.out.kept (gby_alloc (gby_alloc (gby_refl _ _) _) _)) hl2).mono ?_
    rintro e w1 ⟨rfl, g1⟩
    have hm := row_held g1 (W := (W.alloc _).alloc _) (b := W.heap.size) (by rw [heap_alloc_old _ _ (by simp)]; exact heap_alloc_new W _)
    have hp := row_held g1 (W := (W.alloc _).alloc _) (b := W.heap.size + 1) (heap_pair W _ _)
    have G1 := Lib.hid (gby_trans (gby_alloc (gby_alloc (gby_refl W none) _) _) g1)
    clear g1
    obtain ⟨m0, m1⟩ := cr_row hm
    obtain ⟨p0, p1, p2, p3, p4, p5, p6, p7⟩ := pg_row hp
    have HM := Lib.hid hm
    have HP := Lib.hid hp
    clear hm hp
    have hx0 := G1.out.cell HC0.out (by simp)
    have hx1 := G1.out.cell HC1.out (by simp)
    go_wp2_with fail
    try go_quiet (fail)
    go_wp2
    go_ret
    exact ⟨ret_bool (by rw [why]; first | done | rfl | (simp; omega) | simp), by first | exact G1.out | exact gby_drewN G1.out _⟩

set_option maxRecDepth 8000 in
set_option maxHeartbeats 4000000 in
theorem implCan_any (W : World) (a0 : Option Addr) (n0 c0 : Nat) (a1 : Option Addr) (n1 c1 : Nat) (xs ys : List Int) (k f t a l g s : Int) (d : Option Addr) (n c : Nat) (ds : List Int) (ca : Int) (qa : ClsOf k f t a l g s ds ca) (H0 : ISl W a0 n0 xs) (H1 : ISl W a1 n1 ys) (H2 : ISl W d n ds) (hl0 : n0 ≤ 1048576) (hl1 : n1 ≤ 1048576) (hl2 : n ≤ 1048576) (u : Int) (hu : u = (((n + 3) / 4 : Nat) : Int)) :
    Calls Try.prog 45 #[crV a0 n0 c0 a1 n1 c1, pgV k f t a l g s d n c] W (AnsN (.bool (decide (CanP xs ys ca u))) W) := by
  have HA := Lib.hid H0
  have HB := Lib.hid H1
  have HD := Lib.hid H2
  have QA := Lib.hid qa
  obtain ⟨ra, ra'⟩ := qa.rng
  clear H0 H1 H2
  by_cases hcr : CrdOk xs ys
  · have hbc : decide (CrdOk xs ys) = true := decide_eq_true hcr
    have HCR := Lib.hid (fun (w' : World) (gg : W.grownBy w' none) => show Calls Try.prog 47 #[.agg #[.slice a0 n0 c0, .slice a1 n1 c1]] w' (AnsN (.bool true) w') from hbc ▸ implCr_any w' _ n0 c0 _ n1 c1 xs ys (HA.out.kept gg) (HB.out.kept gg) hl0 hl1)
    
    by_cases h0 : 0 ≤ ca
    · obtain ⟨z, why⟩ : ∃ z, decide (CanP xs ys ca u) = z := ⟨_, rfl⟩
      have HCV := Lib.hid (fun (w' : World) (gg : W.grownBy w' none) => show Calls Try.prog 93 #[crV a0 n0 c0 a1 n1 c1, pgV k f t a l g s d n c] w' (AnsN (.bool z) w') from why ▸ cover_any w' a0 n0 c0 a1 n1 c1 xs ys k f t a l g s d n c ds ca qa (HA.out.kept gg) (HB.out.kept gg) (HD.out.kept gg) hl0 hl1 hl2 u hu hcr h0)
      rw [why]
      have why : z = z := rfl
      unfold crV pgV
      clear hbc hcr hu qa
      go_enter Try.func45, Try.ntmps45
      go_wp2_with fail
      go_at_call 47
      refine (HCR.out _ (gby_alloc (gby_alloc (gby_refl _ _) _) _)).mono ?_
      rintro e w1 ⟨rfl, g1⟩
      have hm := row_held g1 (W := (W.alloc _).alloc _) (b := W.heap.size) (by rw [heap_alloc_old _ _ (by simp)]; exact heap_alloc_new W _)
      have hp := row_held g1 (W := (W.alloc _).alloc _) (b := W.heap.size + 1) (heap_pair W _ _)
      have G1 := Lib.hid (gby_trans (gby_alloc (gby_alloc (gby_refl W none) _) _) g1)
      clear g1
      obtain ⟨m0, m1⟩ := cr_row hm
      obtain ⟨p0, p1, p2, p3, p4, p5, p6, p7⟩ := pg_row hp
      have HM := Lib.hid hm
      have HP := Lib.hid hp
      clear hm hp
      go_wp2_with fail
      go_at_call 30
      refine (implPk_yes _ _ _ _ QA.out (by omega) (HD.out.kept G1.out) hl2).mono ?_
      rintro e w2 ⟨rfl, g1⟩
      have hm := row_held g1 HM.out
      have hp := row_held g1 HP.out
      have G2 := Lib.hid (gby_trans G1.out g1)
      clear g1 m0 m1 p0 p1 p2 p3 p4 p5 p6 p7 HM HP
      obtain ⟨m0, m1⟩ := cr_row hm
      obtain ⟨p0, p1, p2, p3, p4, p5, p6, p7⟩ := pg_row hp
      have HM := Lib.hid hm
      have HP := Lib.hid hp
      clear hm hp
      go_wp2_with fail
      go_at_call 93
      refine (HCV.out _ G2.out).mono ?_
      rintro e w3 ⟨rfl, g1⟩
      have hm := row_held g1 HM.out
      have hp := row_held g1 HP.out
      have G3 := Lib.hid (gby_trans G2.out g1)
      clear g1 m0 m1 p0 p1 p2 p3 p4 p5 p6 p7 HM HP
      obtain ⟨m0, m1⟩ := cr_row hm
      obtain ⟨p0, p1, p2, p3, p4, p5, p6, p7⟩ := pg_row hp
      have HM := Lib.hid hm
      have HP := Lib.hid hp
      clear hm hp
      go_wp2
      go_ret
      exact ⟨rfl, G3.out⟩
    · have why : decide (CanP xs ys ca u) = false := decide_eq_false (fun h => h0 h.2.1)
      skip
      have hd0 : decide (0 ≤ ca) = false := decide_eq_false h0
      unfold crV pgV
      clear hbc hcr hu qa
      go_enter Try.func45, Try.ntmps45
      go_wp2_with fail
      go_at_call 47
      refine (HCR.out _ (gby_alloc (gby_alloc (gby_refl _ _) _) _)).mono ?_
      rintro e w1 ⟨rfl, g1⟩
      have hm := row_held g1 (W := (W.alloc _).alloc _) (b := W.heap.size) (by rw [heap_alloc_old _ _ (by simp)]; exact heap_alloc_new W _)
      have hp := row_held g1 (W := (W.alloc _).alloc _) (b := W.heap.size + 1) (heap_pair W _ _)
      have G1 := Lib.hid (gby_trans (gby_alloc (gby_alloc (gby_refl W none) _) _) g1)
      clear g1
      obtain ⟨m0, m1⟩ := cr_row hm
      obtain ⟨p0, p1, p2, p3, p4, p5, p6, p7⟩ := pg_row hp
      have HM := Lib.hid hm
      have HP := Lib.hid hp
      clear hm hp
      go_wp2_with fail
      go_at_call 30
      refine (implPk_no _ _ _ _ QA.out (by omega) (HD.out.kept G1.out) hl2).mono ?_
      rintro e w2 ⟨rfl, g1⟩
      have hm := row_held g1 HM.out
      have hp := row_held g1 HP.out
      have G2 := Lib.hid (gby_trans G1.out g1)
      clear g1 m0 m1 p0 p1 p2 p3 p4 p5 p6 p7 HM HP
      obtain ⟨m0, m1⟩ := cr_row hm
      obtain ⟨p0, p1, p2, p3, p4, p5, p6, p7⟩ := pg_row hp
      have HM := Lib.hid hm
      have HP := Lib.hid hp
      clear hm hp
      go_wp2
      go_ret
      exact ⟨ret_bool (by rw [why]), G2.out⟩
  · have hbc : decide (CrdOk xs ys) = false := decide_eq_false hcr
    have why : decide (CanP xs ys ca u) = false := decide_eq_false (fun h => hcr h.1)
    have HCR := Lib.hid (fun (w' : World) (gg : W.grownBy w' none) => show Calls Try.prog 47 #[.agg #[.slice a0 n0 c0, .slice a1 n1 c1]] w' (AnsN (.bool false) w') from hbc ▸ implCr_any w' _ n0 c0 _ n1 c1 xs ys (HA.out.kept gg) (HB.out.kept gg) hl0 hl1)
    
    unfold crV pgV
    clear hbc hcr hu qa
    go_enter Try.func45, Try.ntmps45
    go_wp2_with fail
    go_at_call 47
    refine (HCR.out _ (gby_alloc (gby_alloc (gby_refl _ _) _) _)).mono ?_
    rintro e w1 ⟨rfl, g1⟩
    have hm := row_held g1 (W := (W.alloc _).alloc _) (b := W.heap.size) (by rw [heap_alloc_old _ _ (by simp)]; exact heap_alloc_new W _)
    have hp := row_held g1 (W := (W.alloc _).alloc _) (b := W.heap.size + 1) (heap_pair W _ _)
    have G1 := Lib.hid (gby_trans (gby_alloc (gby_alloc (gby_refl W none) _) _) g1)
    clear g1
    obtain ⟨m0, m1⟩ := cr_row hm
    obtain ⟨p0, p1, p2, p3, p4, p5, p6, p7⟩ := pg_row hp
    have HM := Lib.hid hm
    have HP := Lib.hid hp
    clear hm hp
    go_wp2
    go_ret
    exact ⟨ret_bool (by rw [why]), G1.out⟩

theorem can_both (xs ys : List Int) (k f t a l g s : Int) (ds : List Int) (hx : xs.length ≤ 1048576) (hy : ys.length ≤ 1048576) (hd : ds.length ≤ 1048576) : ∃ b : Bool,
    (∀ (W : World) (u0 u1 u2 : Option Addr) (v0 v1 v2 : Nat), RdI W (.slice u0 xs.length v0) xs → RdI W (.slice u1 ys.length v1) ys → RdI W (.slice u2 ds.length v2) ds → Calls Try.prog 83 #[crV u0 xs.length v0 u1 ys.length v1, pgV k f t a l g s u2 ds.length v2] W (AnsN (.bool b) W)) ∧
    ∀ (W : World) (u0 u1 u2 : Option Addr) (v0 v1 v2 : Nat), RdI W (.slice u0 xs.length v0) xs → RdI W (.slice u1 ys.length v1) ys → RdI W (.slice u2 ds.length v2) ds → Calls Try.prog 45 #[crV u0 xs.length v0 u1 ys.length v1, pgV k f t a l g s u2 ds.length v2] W (AnsN (.bool b) W) := by
  obtain ⟨ca, qa⟩ := clsOf_ex k f t a l g s ds
  exact ⟨_, fun W u0 u1 u2 v0 v1 v2 H0 H1 H2 => specCan_any W u0 _ v0 u1 _ v1 xs ys k f t a l g s u2 _ v2 ds ca qa H0.isl' H1.isl' H2.isl' hx hy hd _ rfl,
    fun W u0 u1 u2 v0 v1 v2 H0 H1 H2 => implCan_any W u0 _ v0 u1 _ v1 xs ys k f t a l g s u2 _ v2 ds ca qa H0.isl' H1.isl' H2.isl' hx hy hd _ rfl⟩

end Go.Proofs.Ytgagbhkidponnac

namespace Go.Proofs.Ytgagbhkidponnac
open Go Go.RowKit
set_option linter.unusedVariables false

theorem coverD (W : World) (v0 v1 vp : Value) (xs ys : List Int) (p : DPacket) (H0 : RdL shI W v0 xs) (H1 : RdL shI W v1 ys) (H2 : RdL shI W vp p.f7) (hl0 : szL shI xs ≤ 1048576) (hl1 : szL shI ys ≤ 1048576) (hl2 : szL shI p.f7 ≤ 1048576) (hcr : CrdOk xs ys) (h0 : 0 ≤ clsD p) : Calls Try.prog 93 #[vCredits v0 v1, (vPacket p.f0 p.f1 p.f2 p.f3 p.f4 p.f5 p.f6 vp)] W (AnsN (.bool (decide (CanP xs ys (clsD p) (untD p)))) W) := by
  rw [szL_I] at hl0 hl1 hl2
  obtain ⟨a0, c0, rfl, hi0, _⟩ := rdI_in H0
  obtain ⟨a1, c1, rfl, hi1, _⟩ := rdI_in H1
  obtain ⟨a2, c2, rfl, hi2, _⟩ := rdI_in H2
  exact cover_any W a0 _ c0 a1 _ c1 xs ys _ _ _ _ _ _ _ a2 _ c2 p.f7 (clsD p) (clsD_of p) hi0 hi1 hi2 hl0 hl1 hl2 (untD p) rfl hcr h0

theorem specCanD (W : World) (v0 v1 vp : Value) (xs ys : List Int) (p : DPacket) (H0 : RdL shI W v0 xs) (H1 : RdL shI W v1 ys) (H2 : RdL shI W vp p.f7) (hl0 : szL shI xs ≤ 1048576) (hl1 : szL shI ys ≤ 1048576) (hl2 : szL shI p.f7 ≤ 1048576) : Calls Try.prog 83 #[vCredits v0 v1, (vPacket p.f0 p.f1 p.f2 p.f3 p.f4 p.f5 p.f6 vp)] W (AnsN (.bool (decide (CanP xs ys (clsD p) (untD p)))) W) := by
  rw [szL_I] at hl0 hl1 hl2
  obtain ⟨a0, c0, rfl, hi0, _⟩ := rdI_in H0
  obtain ⟨a1, c1, rfl, hi1, _⟩ := rdI_in H1
  obtain ⟨a2, c2, rfl, hi2, _⟩ := rdI_in H2
  exact specCan_any W a0 _ c0 a1 _ c1 xs ys _ _ _ _ _ _ _ a2 _ c2 p.f7 (clsD p) (clsD_of p) hi0 hi1 hi2 hl0 hl1 hl2 (untD p) rfl

theorem implCanD (W : World) (v0 v1 vp : Value) (xs ys : List Int) (p : DPacket) (H0 : RdL shI W v0 xs) (H1 : RdL shI W v1 ys) (H2 : RdL shI W vp p.f7) (hl0 : szL shI xs ≤ 1048576) (hl1 : szL shI ys ≤ 1048576) (hl2 : szL shI p.f7 ≤ 1048576) : Calls Try.prog 45 #[vCredits v0 v1, (vPacket p.f0 p.f1 p.f2 p.f3 p.f4 p.f5 p.f6 vp)] W (AnsN (.bool (decide (CanP xs ys (clsD p) (untD p)))) W) := by
  rw [szL_I] at hl0 hl1 hl2
  obtain ⟨a0, c0, rfl, hi0, _⟩ := rdI_in H0
  obtain ⟨a1, c1, rfl, hi1, _⟩ := rdI_in H1
  obtain ⟨a2, c2, rfl, hi2, _⟩ := rdI_in H2
  exact implCan_any W a0 _ c0 a1 _ c1 xs ys _ _ _ _ _ _ _ a2 _ c2 p.f7 (clsD p) (clsD_of p) hi0 hi1 hi2 hl0 hl1 hl2 (untD p) rfl

/-- what spend and giveBack leave -/
def SpPost (b : Bool) (lo hi : Nat) (v0 v1 : Value) (xs ys : List Int) (W : World) (e : Ending) (w' : World) : Prop := e = .returned (.bool b) ∧ OwU w' lo hi [] [own shI v0 xs, own shI v1 ys] ∧ Chg W w' lo hi
theorem crd_at {xs ys : List Int} (h : CrdOk xs ys) {k : Nat} (hk : k < 3) : xs.length = 3 ∧ ys.length = 3 ∧ 0 ≤ xs.getD k 0 ∧ xs.getD k 0 ≤ 30 ∧ 0 ≤ ys.getD k 0 ∧ ys.getD k 0 ≤ 30 := by
  have h1 := all_at h.1.2 (k := k) (by rw [h.1.1]; exact hk)
  have h2 := all_at h.2.2 (k := k) (by rw [h.2.1]; exact hk)
  exact ⟨h.1.1, h.2.1, h1.1, h1.2, h2.1, h2.2⟩
/-- the credits suffice -/
theorem can_at {xs ys : List Int} {k : Nat} {u : Int} (h : CanP xs ys (k : Int) u) : 1 ≤ xs.getD k 0 ∧ u ≤ ys.getD k 0 := by
  have := h.2.2; rw [Int.toNat_natCast] at this; exact this

set_option maxRecDepth 8000 in
set_option maxHeartbeats 2000000 in
theorem spend_yes (W : World) (gb lo hi k : Nat) (v0 v1 vp : Value) (xs ys : List Int) (p : DPacket) (hg : W.heap[gb]? = some (.cells #[v0, v1] 54 (0, 0))) (ho : OwU W lo hi [] [own shI v0 xs, own shI v1 ys]) (hgo : gb < lo ∨ hi ≤ gb) (hhi : hi ≤ W.heap.size) (hp : RdL shI W vp p.f7) (hpf : ∀ w, Chg W w lo hi → RdL shI w vp p.f7) (hl : szL shI p.f7 ≤ 1048576) (hc : clsD p = (k : Int)) (hk3 : k < 3) (hcr : CrdOk xs ys) (u : Int) (hu : untD p = u) (hu0 : 0 ≤ u) (hu9 : u ≤ 1000000) (hcan : CanP xs ys (k : Int) u) (hux : u ≤ ys.getD k 0) : Calls Try.prog 88 #[.pointer (some ⟨gb, 0, none⟩), (vPacket p.f0 p.f1 p.f2 p.f3 p.f4 p.f5 p.f6 vp)] W (SpPost true lo hi v0 v1 (xs.set k (xs.getD k 0 - 1)) (ys.set k (ys.getD k 0 - u)) W) := by
  have HP := Lib.hid hp
  have HPF := Lib.hid hpf
  have HL := Lib.hid hl
  have HC := Lib.hid hc
  have HU := Lib.hid hu
  have HCR := Lib.hid hcr
  have hx1 := crd_at hcr hk3
  obtain ⟨x, hx⟩ : ∃ x, x = xs.getD k 0 := ⟨_, rfl⟩
  obtain ⟨y, hy⟩ : ∃ y, y = ys.getD k 0 := ⟨_, rfl⟩
  rw [← hx, ← hy] at hx1
  obtain ⟨hxl, hyl, hx0, hx30, hy0, hy30⟩ := hx1
  have HX := Lib.hid hx
  have HY := Lib.hid hy
  have HXL := Lib.hid (show szL shI xs ≤ 1048576 by rw [szL_I]; omega)
  have HYL := Lib.hid (show szL shI ys ≤ 1048576 by rw [szL_I]; omega)
  have hgl_ : gb < W.heap.size := lt_of_block hg
  clear hp hpf hl hc hu hcr hx hy
  unfold vPacket
  rw [← HX.out, ← HY.out]
  rw [← HY.out] at hux
  go_enter Try.func88, Try.ntmps88
  have rK1_ := Lib.hid (show ((W.alloc (.cells #[.int .i64 p.f0, .int .i64 p.f1, .int .i64 p.f2, .int .i64 p.f3, .int .i64 p.f4, .int .i64 p.f5, .int .i64 p.f6, vp] 29))).heap[W.heap.size]? = some (.cells #[.int .i64 p.f0, .int .i64 p.f1, .int .i64 p.f2, .int .i64 p.f3, .int .i64 p.f4, .int .i64 p.f5, .int .i64 p.f6, vp] 29 (0, 0)) from by exact heap_alloc_new _ _)
  have G2_ := Lib.hid (show (W).grownBy ((W.alloc (.cells #[.int .i64 p.f0, .int .i64 p.f1, .int .i64 p.f2, .int .i64 p.f3, .int .i64 p.f4, .int .i64 p.f5, .int .i64 p.f6, vp] 29))) none from (gby_alloc (gby_refl _ _) _))
  have K_0_ : ((W.alloc (.cells #[.int .i64 p.f0, .int .i64 p.f1, .int .i64 p.f2, .int .i64 p.f3, .int .i64 p.f4, .int .i64 p.f5, .int .i64 p.f6, vp] 29))).cell? ⟨W.heap.size, 0, none⟩ = some (.int .i64 p.f0) := cell_of_row _ _ 0 _ _ _ rK1_.out
  have K_1_ : ((W.alloc (.cells #[.int .i64 p.f0, .int .i64 p.f1, .int .i64 p.f2, .int .i64 p.f3, .int .i64 p.f4, .int .i64 p.f5, .int .i64 p.f6, vp] 29))).cell? ⟨W.heap.size, 1, none⟩ = some (.int .i64 p.f1) := cell_of_row _ _ 1 _ _ _ rK1_.out
  have K_2_ : ((W.alloc (.cells #[.int .i64 p.f0, .int .i64 p.f1, .int .i64 p.f2, .int .i64 p.f3, .int .i64 p.f4, .int .i64 p.f5, .int .i64 p.f6, vp] 29))).cell? ⟨W.heap.size, 2, none⟩ = some (.int .i64 p.f2) := cell_of_row _ _ 2 _ _ _ rK1_.out
  have K_3_ : ((W.alloc (.cells #[.int .i64 p.f0, .int .i64 p.f1, .int .i64 p.f2, .int .i64 p.f3, .int .i64 p.f4, .int .i64 p.f5, .int .i64 p.f6, vp] 29))).cell? ⟨W.heap.size, 3, none⟩ = some (.int .i64 p.f3) := cell_of_row _ _ 3 _ _ _ rK1_.out
  have K_4_ : ((W.alloc (.cells #[.int .i64 p.f0, .int .i64 p.f1, .int .i64 p.f2, .int .i64 p.f3, .int .i64 p.f4, .int .i64 p.f5, .int .i64 p.f6, vp] 29))).cell? ⟨W.heap.size, 4, none⟩ = some (.int .i64 p.f4) := cell_of_row _ _ 4 _ _ _ rK1_.out
  have K_5_ : ((W.alloc (.cells #[.int .i64 p.f0, .int .i64 p.f1, .int .i64 p.f2, .int .i64 p.f3, .int .i64 p.f4, .int .i64 p.f5, .int .i64 p.f6, vp] 29))).cell? ⟨W.heap.size, 5, none⟩ = some (.int .i64 p.f5) := cell_of_row _ _ 5 _ _ _ rK1_.out
  have K_6_ : ((W.alloc (.cells #[.int .i64 p.f0, .int .i64 p.f1, .int .i64 p.f2, .int .i64 p.f3, .int .i64 p.f4, .int .i64 p.f5, .int .i64 p.f6, vp] 29))).cell? ⟨W.heap.size, 6, none⟩ = some (.int .i64 p.f6) := cell_of_row _ _ 6 _ _ _ rK1_.out
  have K_7_ : ((W.alloc (.cells #[.int .i64 p.f0, .int .i64 p.f1, .int .i64 p.f2, .int .i64 p.f3, .int .i64 p.f4, .int .i64 p.f5, .int .i64 p.f6, vp] 29))).cell? ⟨W.heap.size, 7, none⟩ = some (vp) := cell_of_row _ _ 7 _ _ _ rK1_.out
  have rG3_ := Lib.hid (show ((W.alloc (.cells #[.int .i64 p.f0, .int .i64 p.f1, .int .i64 p.f2, .int .i64 p.f3, .int .i64 p.f4, .int .i64 p.f5, .int .i64 p.f6, vp] 29))).heap[gb]? = some (.cells #[v0, v1] 54 (0, 0)) from row_held G2_.out hg)
  have oC4_ := Lib.hid (show OwU ((W.alloc (.cells #[.int .i64 p.f0, .int .i64 p.f1, .int .i64 p.f2, .int .i64 p.f3, .int .i64 p.f4, .int .i64 p.f5, .int .i64 p.f6, vp] 29))) (lo) (hi) [] [own shI v0 xs, own shI v1 ys] from ho.grow G2_.out)
  clear hg ho
  have G_0_ : ((W.alloc (.cells #[.int .i64 p.f0, .int .i64 p.f1, .int .i64 p.f2, .int .i64 p.f3, .int .i64 p.f4, .int .i64 p.f5, .int .i64 p.f6, vp] 29))).cell? ⟨gb, 0, none⟩ = some (v0) := cell_of_row _ _ 0 _ _ _ rG3_.out
  have G_1_ : ((W.alloc (.cells #[.int .i64 p.f0, .int .i64 p.f1, .int .i64 p.f2, .int .i64 p.f3, .int .i64 p.f4, .int .i64 p.f5, .int .i64 p.f6, vp] 29))).cell? ⟨gb, 1, none⟩ = some (v1) := cell_of_row _ _ 1 _ _ _ rG3_.out
  have HB := Lib.hid (show ∀ (W : World), RdL shI W v0 xs → RdL shI W v1 ys → RdL shI W vp p.f7 → Calls Try.prog 93 #[.agg #[v0, v1], .agg #[.int .i64 p.f0, .int .i64 p.f1, .int .i64 p.f2, .int .i64 p.f3, .int .i64 p.f4, .int .i64 p.f5, .int .i64 p.f6, vp]] W (AnsN (.bool true) W) from fun W h0 h1 h2 => by have q := coverD W v0 v1 vp xs ys p h0 h1 h2 HXL.out HYL.out HL.out HCR.out (by rw [HC.out]; omega); rw [HC.out, HU.out, decide_eq_true hcan] at q; exact q)
  have HR0 := Lib.hid (OwU.rd (oC4_.out.grow (gby_drew (gby_refl _ none))))
  have HR1 := Lib.hid (OwU.rd (OwU.tail (oC4_.out.grow (gby_drew (gby_refl _ none)))))
  have HR2 := Lib.hid (HP.out.grow (gby_drew G2_.out))
  have RG9 := Lib.hid rG3_.out
  have OC9 := Lib.hid oC4_.out
  have RK9 := Lib.hid rK1_.out
  have GW9 := Lib.hid (show W.grownBy (W.alloc (.cells #[.int .i64 p.f0, .int .i64 p.f1, .int .i64 p.f2, .int .i64 p.f3, .int .i64 p.f4, .int .i64 p.f5, .int .i64 p.f6, vp] 29)) none from G2_.out)
  go_wp2_with fail
  go_region_law (first
    | (go_simp; go_at_call 93; refine (HB.out _ HR0.out HR1.out HR2.out).mono ?_; rintro e wA ⟨rfl, gA⟩)
    | fail)
  all_goals
    have RG := Lib.hid (row_held gA (row_held (gby_drew (gby_refl _ none)) RG9.out))
    have RK := Lib.hid (row_held gA (row_held (gby_drew (gby_refl _ none)) RK9.out))
    have OC := Lib.hid (OwU.grow (OwU.grow OC9.out (gby_drew (gby_refl _ none))) gA)
    have GW := Lib.hid (gby_trans (gby_drew GW9.out) gA)
    have szA := GW.out.size
    try clear gA
    try clear K_0_
    try clear K_1_
    try clear K_2_
    try clear K_3_
    try clear K_4_
    try clear K_5_
    try clear K_6_
    try clear K_7_
    try clear G_0_
    try clear G_1_
    have G_0_ : (wA).cell? ⟨gb, 0, none⟩ = some (v0) := cell_of_row _ _ 0 _ _ _ RG.out
    have G_1_ : (wA).cell? ⟨gb, 1, none⟩ = some (v1) := cell_of_row _ _ 1 _ _ _ RG.out
    have K_0_ : (wA).cell? ⟨W.heap.size, 0, none⟩ = some (.int .i64 p.f0) := cell_of_row _ _ 0 _ _ _ RK.out
    have K_1_ : (wA).cell? ⟨W.heap.size, 1, none⟩ = some (.int .i64 p.f1) := cell_of_row _ _ 1 _ _ _ RK.out
    have K_2_ : (wA).cell? ⟨W.heap.size, 2, none⟩ = some (.int .i64 p.f2) := cell_of_row _ _ 2 _ _ _ RK.out
    have K_3_ : (wA).cell? ⟨W.heap.size, 3, none⟩ = some (.int .i64 p.f3) := cell_of_row _ _ 3 _ _ _ RK.out
    have K_4_ : (wA).cell? ⟨W.heap.size, 4, none⟩ = some (.int .i64 p.f4) := cell_of_row _ _ 4 _ _ _ RK.out
    have K_5_ : (wA).cell? ⟨W.heap.size, 5, none⟩ = some (.int .i64 p.f5) := cell_of_row _ _ 5 _ _ _ RK.out
    have K_6_ : (wA).cell? ⟨W.heap.size, 6, none⟩ = some (.int .i64 p.f6) := cell_of_row _ _ 6 _ _ _ RK.out
    have K_7_ : (wA).cell? ⟨W.heap.size, 7, none⟩ = some (vp) := cell_of_row _ _ 7 _ _ _ RK.out
    go_wp2_with fail
    go_at_call 124
    refine (crAdd _ gb lo hi k v0 v1 vp xs ys p (-1) u (-u) RG.out OC.out hgo (by omega) (HP.out.grow GW.out) (fun w g => HPF.out w (chg_trans (chg_gby GW.out lo hi) g)) HL.out HC.out (by omega) (by omega) HU.out (by rw [IntWalk.i64_in _ (by omega)]; omega) x y HX.out HY.out (IntWalk.i64_in _ (by omega)) (IntWalk.i64_in _ (by omega))).mono ?_
    rintro e w1 ⟨rfl, o, gc⟩
    rw [show x + (-1) = x - 1 by omega, show y + (-u) = y - u by omega] at o
    have HO9 := Lib.hid o
    have GC9 := Lib.hid (chg_trans (chg_gby GW.out lo hi) gc)
    clear o gc
    clear G_0_ G_1_ K_0_ K_1_ K_2_ K_3_ K_4_ K_5_ K_6_ K_7_
    go_wp2
    go_ret
    exact ⟨rfl, HO9.out, GC9.out⟩

set_option maxRecDepth 8000 in
set_option maxHeartbeats 2000000 in
theorem spend_no (W : World) (gb lo hi k : Nat) (v0 v1 vp : Value) (xs ys : List Int) (p : DPacket) (hg : W.heap[gb]? = some (.cells #[v0, v1] 54 (0, 0))) (ho : OwU W lo hi [] [own shI v0 xs, own shI v1 ys]) (hgo : gb < lo ∨ hi ≤ gb) (hhi : hi ≤ W.heap.size) (hp : RdL shI W vp p.f7) (hpf : ∀ w, Chg W w lo hi → RdL shI w vp p.f7) (hl : szL shI p.f7 ≤ 1048576) (hc : clsD p = (k : Int)) (hk3 : k < 3) (hcr : CrdOk xs ys) (u : Int) (hu : untD p = u) (hu0 : 0 ≤ u) (hu9 : u ≤ 1000000) (hcan : ¬ CanP xs ys (k : Int) u) : Calls Try.prog 88 #[.pointer (some ⟨gb, 0, none⟩), (vPacket p.f0 p.f1 p.f2 p.f3 p.f4 p.f5 p.f6 vp)] W (SpPost false lo hi v0 v1 xs ys W) := by
  have HP := Lib.hid hp
  have HPF := Lib.hid hpf
  have HL := Lib.hid hl
  have HC := Lib.hid hc
  have HU := Lib.hid hu
  have HCR := Lib.hid hcr
  have hx1 := crd_at hcr hk3
  obtain ⟨x, hx⟩ : ∃ x, x = xs.getD k 0 := ⟨_, rfl⟩
  obtain ⟨y, hy⟩ : ∃ y, y = ys.getD k 0 := ⟨_, rfl⟩
  rw [← hx, ← hy] at hx1
  obtain ⟨hxl, hyl, hx0, hx30, hy0, hy30⟩ := hx1
  have HX := Lib.hid hx
  have HY := Lib.hid hy
  have HXL := Lib.hid (show szL shI xs ≤ 1048576 by rw [szL_I]; omega)
  have HYL := Lib.hid (show szL shI ys ≤ 1048576 by rw [szL_I]; omega)
  have hgl_ : gb < W.heap.size := lt_of_block hg
  clear hp hpf hl hc hu hcr hx hy
  unfold vPacket
  go_enter Try.func88, Try.ntmps88
  have rK1_ := Lib.hid (show ((W.alloc (.cells #[.int .i64 p.f0, .int .i64 p.f1, .int .i64 p.f2, .int .i64 p.f3, .int .i64 p.f4, .int .i64 p.f5, .int .i64 p.f6, vp] 29))).heap[W.heap.size]? = some (.cells #[.int .i64 p.f0, .int .i64 p.f1, .int .i64 p.f2, .int .i64 p.f3, .int .i64 p.f4, .int .i64 p.f5, .int .i64 p.f6, vp] 29 (0, 0)) from by exact heap_alloc_new _ _)
  have G2_ := Lib.hid (show (W).grownBy ((W.alloc (.cells #[.int .i64 p.f0, .int .i64 p.f1, .int .i64 p.f2, .int .i64 p.f3, .int .i64 p.f4, .int .i64 p.f5, .int .i64 p.f6, vp] 29))) none from (gby_alloc (gby_refl _ _) _))
  have K_0_ : ((W.alloc (.cells #[.int .i64 p.f0, .int .i64 p.f1, .int .i64 p.f2, .int .i64 p.f3, .int .i64 p.f4, .int .i64 p.f5, .int .i64 p.f6, vp] 29))).cell? ⟨W.heap.size, 0, none⟩ = some (.int .i64 p.f0) := cell_of_row _ _ 0 _ _ _ rK1_.out
  have K_1_ : ((W.alloc (.cells #[.int .i64 p.f0, .int .i64 p.f1, .int .i64 p.f2, .int .i64 p.f3, .int .i64 p.f4, .int .i64 p.f5, .int .i64 p.f6, vp] 29))).cell? ⟨W.heap.size, 1, none⟩ = some (.int .i64 p.f1) := cell_of_row _ _ 1 _ _ _ rK1_.out
  have K_2_ : ((W.alloc (.cells #[.int .i64 p.f0, .int .i64 p.f1, .int .i64 p.f2, .int .i64 p.f3, .int .i64 p.f4, .int .i64 p.f5, .int .i64 p.f6, vp] 29))).cell? ⟨W.heap.size, 2, none⟩ = some (.int .i64 p.f2) := cell_of_row _ _ 2 _ _ _ rK1_.out
  have K_3_ : ((W.alloc (.cells #[.int .i64 p.f0, .int .i64 p.f1, .int .i64 p.f2, .int .i64 p.f3, .int .i64 p.f4, .int .i64 p.f5, .int .i64 p.f6, vp] 29))).cell? ⟨W.heap.size, 3, none⟩ = some (.int .i64 p.f3) := cell_of_row _ _ 3 _ _ _ rK1_.out
  have K_4_ : ((W.alloc (.cells #[.int .i64 p.f0, .int .i64 p.f1, .int .i64 p.f2, .int .i64 p.f3, .int .i64 p.f4, .int .i64 p.f5, .int .i64 p.f6, vp] 29))).cell? ⟨W.heap.size, 4, none⟩ = some (.int .i64 p.f4) := cell_of_row _ _ 4 _ _ _ rK1_.out
  have K_5_ : ((W.alloc (.cells #[.int .i64 p.f0, .int .i64 p.f1, .int .i64 p.f2, .int .i64 p.f3, .int .i64 p.f4, .int .i64 p.f5, .int .i64 p.f6, vp] 29))).cell? ⟨W.heap.size, 5, none⟩ = some (.int .i64 p.f5) := cell_of_row _ _ 5 _ _ _ rK1_.out
  have K_6_ : ((W.alloc (.cells #[.int .i64 p.f0, .int .i64 p.f1, .int .i64 p.f2, .int .i64 p.f3, .int .i64 p.f4, .int .i64 p.f5, .int .i64 p.f6, vp] 29))).cell? ⟨W.heap.size, 6, none⟩ = some (.int .i64 p.f6) := cell_of_row _ _ 6 _ _ _ rK1_.out
  have K_7_ : ((W.alloc (.cells #[.int .i64 p.f0, .int .i64 p.f1, .int .i64 p.f2, .int .i64 p.f3, .int .i64 p.f4, .int .i64 p.f5, .int .i64 p.f6, vp] 29))).cell? ⟨W.heap.size, 7, none⟩ = some (vp) := cell_of_row _ _ 7 _ _ _ rK1_.out
  have rG3_ := Lib.hid (show ((W.alloc (.cells #[.int .i64 p.f0, .int .i64 p.f1, .int .i64 p.f2, .int .i64 p.f3, .int .i64 p.f4, .int .i64 p.f5, .int .i64 p.f6, vp] 29))).heap[gb]? = some (.cells #[v0, v1] 54 (0, 0)) from row_held G2_.out hg)
  have oC4_ := Lib.hid (show OwU ((W.alloc (.cells #[.int .i64 p.f0, .int .i64 p.f1, .int .i64 p.f2, .int .i64 p.f3, .int .i64 p.f4, .int .i64 p.f5, .int .i64 p.f6, vp] 29))) (lo) (hi) [] [own shI v0 xs, own shI v1 ys] from ho.grow G2_.out)
  clear hg ho
  have G_0_ : ((W.alloc (.cells #[.int .i64 p.f0, .int .i64 p.f1, .int .i64 p.f2, .int .i64 p.f3, .int .i64 p.f4, .int .i64 p.f5, .int .i64 p.f6, vp] 29))).cell? ⟨gb, 0, none⟩ = some (v0) := cell_of_row _ _ 0 _ _ _ rG3_.out
  have G_1_ : ((W.alloc (.cells #[.int .i64 p.f0, .int .i64 p.f1, .int .i64 p.f2, .int .i64 p.f3, .int .i64 p.f4, .int .i64 p.f5, .int .i64 p.f6, vp] 29))).cell? ⟨gb, 1, none⟩ = some (v1) := cell_of_row _ _ 1 _ _ _ rG3_.out
  have HB := Lib.hid (show ∀ (W : World), RdL shI W v0 xs → RdL shI W v1 ys → RdL shI W vp p.f7 → Calls Try.prog 93 #[.agg #[v0, v1], .agg #[.int .i64 p.f0, .int .i64 p.f1, .int .i64 p.f2, .int .i64 p.f3, .int .i64 p.f4, .int .i64 p.f5, .int .i64 p.f6, vp]] W (AnsN (.bool false) W) from fun W h0 h1 h2 => by have q := coverD W v0 v1 vp xs ys p h0 h1 h2 HXL.out HYL.out HL.out HCR.out (by rw [HC.out]; omega); rw [HC.out, HU.out, decide_eq_false hcan] at q; exact q)
  have HR0 := Lib.hid (OwU.rd (oC4_.out.grow (gby_drew (gby_refl _ none))))
  have HR1 := Lib.hid (OwU.rd (OwU.tail (oC4_.out.grow (gby_drew (gby_refl _ none)))))
  have HR2 := Lib.hid (HP.out.grow (gby_drew G2_.out))
  have RG9 := Lib.hid rG3_.out
  have OC9 := Lib.hid oC4_.out
  have RK9 := Lib.hid rK1_.out
  have GW9 := Lib.hid (show W.grownBy (W.alloc (.cells #[.int .i64 p.f0, .int .i64 p.f1, .int .i64 p.f2, .int .i64 p.f3, .int .i64 p.f4, .int .i64 p.f5, .int .i64 p.f6, vp] 29)) none from G2_.out)
  go_wp2_with fail
  go_region_law (first
    | (go_simp; go_at_call 93; refine (HB.out _ HR0.out HR1.out HR2.out).mono ?_; rintro e wA ⟨rfl, gA⟩)
    | fail)
  all_goals
    have RG := Lib.hid (row_held gA (row_held (gby_drew (gby_refl _ none)) RG9.out))
    have RK := Lib.hid (row_held gA (row_held (gby_drew (gby_refl _ none)) RK9.out))
    have OC := Lib.hid (OwU.grow (OwU.grow OC9.out (gby_drew (gby_refl _ none))) gA)
    have GW := Lib.hid (gby_trans (gby_drew GW9.out) gA)
    have szA := GW.out.size
    try clear gA
    try clear K_0_
    try clear K_1_
    try clear K_2_
    try clear K_3_
    try clear K_4_
    try clear K_5_
    try clear K_6_
    try clear K_7_
    try clear G_0_
    try clear G_1_
    have G_0_ : (wA).cell? ⟨gb, 0, none⟩ = some (v0) := cell_of_row _ _ 0 _ _ _ RG.out
    have G_1_ : (wA).cell? ⟨gb, 1, none⟩ = some (v1) := cell_of_row _ _ 1 _ _ _ RG.out
    have K_0_ : (wA).cell? ⟨W.heap.size, 0, none⟩ = some (.int .i64 p.f0) := cell_of_row _ _ 0 _ _ _ RK.out
    have K_1_ : (wA).cell? ⟨W.heap.size, 1, none⟩ = some (.int .i64 p.f1) := cell_of_row _ _ 1 _ _ _ RK.out
    have K_2_ : (wA).cell? ⟨W.heap.size, 2, none⟩ = some (.int .i64 p.f2) := cell_of_row _ _ 2 _ _ _ RK.out
    have K_3_ : (wA).cell? ⟨W.heap.size, 3, none⟩ = some (.int .i64 p.f3) := cell_of_row _ _ 3 _ _ _ RK.out
    have K_4_ : (wA).cell? ⟨W.heap.size, 4, none⟩ = some (.int .i64 p.f4) := cell_of_row _ _ 4 _ _ _ RK.out
    have K_5_ : (wA).cell? ⟨W.heap.size, 5, none⟩ = some (.int .i64 p.f5) := cell_of_row _ _ 5 _ _ _ RK.out
    have K_6_ : (wA).cell? ⟨W.heap.size, 6, none⟩ = some (.int .i64 p.f6) := cell_of_row _ _ 6 _ _ _ RK.out
    have K_7_ : (wA).cell? ⟨W.heap.size, 7, none⟩ = some (vp) := cell_of_row _ _ 7 _ _ _ RK.out
    go_wp2
    go_ret
    exact ⟨rfl, OC.out, chg_gby GW.out lo hi⟩

end Go.Proofs.Ytgagbhkidponnac
