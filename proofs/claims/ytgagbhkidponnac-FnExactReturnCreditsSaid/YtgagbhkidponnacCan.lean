/-
  CanSend on both sides.
-/
import Derived.Test.YtgagbhkidponnacPassImpl
import Derived.Test.YtgagbhkidponnacCrd
import Derived.Test.YtgagbhkidponnacGreg
import Derived.Deep.RegionHeld3
namespace Go.Proofs.Ytgagbhkidponnac
open Go Go.RowKit
set_option linter.unusedVariables false

theorem ClsOf.ok {k f t a l g s : Int} {xs : List Int} {ca : Int} (h : ClsOf k f t a l g s xs ca) (h0 : 0 ≤ ca) : PkOk k f t a l g s xs := by
  rcases h with ⟨q, _⟩ | ⟨_, rfl⟩
  · exact q
  · omega
/-- are there credits for a packet of the class ca that needs u units -/
def CanP (xs ys : List Int) (ca u : Int) : Prop := CrdOk xs ys ∧ 0 ≤ ca ∧ 1 ≤ xs.getD ca.toNat 0 ∧ u ≤ ys.getD ca.toNat 0
instance (xs ys : List Int) (ca u : Int) : Decidable (CanP xs ys ca u) := by unfold CanP; infer_instance

set_option maxRecDepth 8000 in
set_option maxHeartbeats 4000000 in
theorem specCan_any (W : World) (a0 : Option Addr) (n0 c0 : Nat) (a1 : Option Addr) (n1 c1 : Nat) (xs ys : List Int) (k f t a l g s : Int) (d : Option Addr) (n c : Nat) (ds : List Int) (ca : Int) (qa : ClsOf k f t a l g s ds ca) (H0 : ISl W a0 n0 xs) (H1 : ISl W a1 n1 ys) (H2 : ISl W d n ds) (hl0 : n0 ≤ 1048576) (hl1 : n1 ≤ 1048576) (hl2 : n ≤ 1048576) (u : Int) (hu : u = (((n + 3) / 4 : Nat) : Int)) :
    Calls Try.prog 83 #[crV a0 n0 c0 a1 n1 c1, pgV k f t a l g s d n c] W (AnsN (.bool (decide (CanP xs ys ca u))) W) := by
  have HA := Lib.hid H0
  have HB := Lib.hid H1
  have HD := Lib.hid H2
  have QA := Lib.hid qa
  obtain ⟨ra, ra'⟩ := qa.rng
  clear H0 H1 H2
  unfold crV pgV
  by_cases hcr : CrdOk xs ys
  · have hbc : decide (CrdOk xs ys) = true := decide_eq_true hcr
    by_cases h0 : 0 ≤ ca
    · obtain ⟨m, rfl⟩ : ∃ m : Nat, ca = (m : Int) := ⟨ca.toNat, by omega⟩
      have e0 : n0 = 3 := HA.out.1.trans hcr.1.1
      have e1 : n1 = 3 := HB.out.1.trans hcr.2.1
      obtain ⟨b, off, rfl, hcell⟩ := HA.out.2.resolve_left (by omega)
      obtain ⟨b2, off2, rfl, hcell2⟩ := HB.out.2.resolve_left (by omega)
      have hc0 := hcell m (by omega)
      have hc1 := hcell2 m (by omega)
      have htn : ((m : Int)).toNat = m := by omega
      have m1 : (m : Int) < (n0 : Int) := by omega
      have m2 : (m : Int) < (n1 : Int) := by omega
      have hdef : CanP xs ys (m : Int) u ↔ 1 ≤ xs.getD m 0 ∧ u ≤ ys.getD m 0 := by
        unfold CanP
        rw [htn]
        exact ⟨fun h => h.2.2, fun h => ⟨hcr, by omega, h⟩⟩
      obtain ⟨x, hx⟩ : ∃ x, x = xs.getD m 0 := ⟨_, rfl⟩
      obtain ⟨y, hy⟩ : ∃ y, y = ys.getD m 0 := ⟨_, rfl⟩
      rw [← hx] at hc0
      rw [← hy] at hc1
      rw [← hx, ← hy] at hdef
      have HC0 := Lib.hid hc0
      have HC1 := Lib.hid hc1
      clear hcell hcell2 hc0 hc1 hx hy e0 e1
      have HCR := Lib.hid (fun (w' : World) (gg : W.grownBy w' none) => show Calls Try.prog 89 #[.agg #[.slice (some ⟨b, off, none⟩) n0 c0, .slice (some ⟨b2, off2, none⟩) n1 c1]] w' (AnsN (.bool true) w') from hbc ▸ specCr_any w' _ n0 c0 _ n1 c1 xs ys (HA.out.kept gg) (HB.out.kept gg) hl0 hl1)
      have HPU := Lib.hid (fun (w' : World) (gg : W.grownBy w' none) => show Calls Try.prog 85 #[.agg #[.int .i64 k, .int .i64 f, .int .i64 t, .int .i64 a, .int .i64 l, .int .i64 g, .int .i64 s, .slice d n c]] w' (AnsG (.int .i64 u) w') from hu ▸ specPacketUnits_in k w' f t a l g s d n c ds (HD.out.kept gg) hl2 (QA.out.ok (by omega)))
      clear hbc hu qa
      
      by_cases h1 : 1 ≤ x
      · by_cases h2 : u ≤ y
        · have why : decide (CanP xs ys (m : Int) u) = true := decide_eq_true (hdef.2 ⟨h1, h2⟩)
          clear hdef hcr
          go_enter Try.func83, Try.ntmps83
          go_wp2_with fail
          go_at_call 84
          refine (specCls_any _ _ _ _ QA.out (HD.out.kept (gby_alloc (gby_alloc (gby_refl _ _) _) _)) hl2).mono ?_
          rintro e w1 ⟨rfl, g1⟩
          have hm := row_held g1 (W := (W.alloc _).alloc _) (b := W.heap.size) (by rw [heap_alloc_old _ _ (by simp)]; exact heap_alloc_new W _)
          have hp := row_held g1 (W := (W.alloc _).alloc _) (b := W.heap.size + 1) (heap_pair W _ _)
          have G1 := Lib.hid (gby_trans (gby_alloc (gby_alloc (gby_refl W none) _) _) g1)
          clear g1
          obtain ⟨m0, m1⟩ := cr_row hm
          obtain ⟨p0, p1, p2, p3, p4, p5, p6, p7⟩ := pg_row hp
          have HM := Lib.hid hm
          have HP := Lib.hid hp
          clear hm hp
          have hx0 := G1.out.cell HC0.out (by simp)
          have hx1 := G1.out.cell HC1.out (by simp)
          go_wp2_with fail
          refine wp_region_grow (by kernel_rfl) (by kernel_rfl) ?_
          repeat (first
            | (refine gq_no (by rfl) ?_; (try simp only [Act.put, List.setIfInBounds_toArray, List.set_cons_zero, List.set_cons_succ]))
            | (refine gq_yes (by rfl) ?_ (fun wq hq => ?_) ?_; rotate_left; (· (go_simp; go_at_call 89; refine (HCR.out _ (gby_trans G1.out hq)).mono ?_; rintro e wr ⟨rfl, gr⟩; refine And.intro ?_ (gby_trans hq gr); rfl)); (try simp only [Act.put, List.setIfInBounds_toArray, List.set_cons_zero, List.set_cons_succ]))
            | (refine gq_yes (by rfl) ?_ (fun wq hq => ?_) ?_; rotate_left; (· (go_simp; go_at_call 85; refine (HPU.out _ (gby_trans G1.out hq)).mono ?_; rintro e wr ⟨rfl, gr⟩; refine And.intro ?_ (gby_trans hq gr); rfl)); (try simp only [Act.put, List.setIfInBounds_toArray, List.set_cons_zero, List.set_cons_succ]))
            | (refine gq_yes (by rfl) ?_ (fun wq hq => ?_) ?_; rotate_left; (· (have y0 := hq.cell m0 (by simp); have y1 := hq.cell m1 (by simp); have y2 := hq.cell p0 (by simp); have y3 := hq.cell p1 (by simp); have y4 := hq.cell p2 (by simp); have y5 := hq.cell p3 (by simp); have y6 := hq.cell p4 (by simp); have y7 := hq.cell p5 (by simp); have y8 := hq.cell p6 (by simp); have y9 := hq.cell p7 (by simp); have y10 := hq.cell hx0 (by simp); have y11 := hq.cell hx1 (by simp); go_simp; (try rfl))); (try simp only [Act.put, List.setIfInBounds_toArray, List.set_cons_zero, List.set_cons_succ])))
          refine gq_nil ?_
          intro wr2 gz
          have G2 := Lib.hid (gby_trans G1.out gz)
          clear gz m0 m1 p0 p1 p2 p3 p4 p5 p6 p7 hx0 hx1 HM HP
          go_wp2
          go_ret
          exact ⟨ret_bool (by rw [why]; first | done | rfl | (simp; omega) | simp), G2.out⟩
        · have why : decide (CanP xs ys (m : Int) u) = false := decide_eq_false (fun h => h2 (hdef.1 h).2)
          clear hdef hcr
          go_enter Try.func83, Try.ntmps83
          go_wp2_with fail
          go_at_call 84
          refine (specCls_any _ _ _ _ QA.out (HD.out.kept (gby_alloc (gby_alloc (gby_refl _ _) _) _)) hl2).mono ?_
          rintro e w1 ⟨rfl, g1⟩
          have hm := row_held g1 (W := (W.alloc _).alloc _) (b := W.heap.size) (by rw [heap_alloc_old _ _ (by simp)]; exact heap_alloc_new W _)
          have hp := row_held g1 (W := (W.alloc _).alloc _) (b := W.heap.size + 1) (heap_pair W _ _)
          have G1 := Lib.hid (gby_trans (gby_alloc (gby_alloc (gby_refl W none) _) _) g1)
          clear g1
          obtain ⟨m0, m1⟩ := cr_row hm
          obtain ⟨p0, p1, p2, p3, p4, p5, p6, p7⟩ := pg_row hp
          have HM := Lib.hid hm
          have HP := Lib.hid hp
          clear hm hp
          have hx0 := G1.out.cell HC0.out (by simp)
          have hx1 := G1.out.cell HC1.out (by simp)
          go_wp2_with fail
          refine wp_region_grow (by kernel_rfl) (by kernel_rfl) ?_
          repeat (first
            | (refine gq_no (by rfl) ?_; (try simp only [Act.put, List.setIfInBounds_toArray, List.set_cons_zero, List.set_cons_succ]))
            | (refine gq_yes (by rfl) ?_ (fun wq hq => ?_) ?_; rotate_left; (· (go_simp; go_at_call 89; refine (HCR.out _ (gby_trans G1.out hq)).mono ?_; rintro e wr ⟨rfl, gr⟩; refine And.intro ?_ (gby_trans hq gr); rfl)); (try simp only [Act.put, List.setIfInBounds_toArray, List.set_cons_zero, List.set_cons_succ]))
            | (refine gq_yes (by rfl) ?_ (fun wq hq => ?_) ?_; rotate_left; (· (go_simp; go_at_call 85; refine (HPU.out _ (gby_trans G1.out hq)).mono ?_; rintro e wr ⟨rfl, gr⟩; refine And.intro ?_ (gby_trans hq gr); rfl)); (try simp only [Act.put, List.setIfInBounds_toArray, List.set_cons_zero, List.set_cons_succ]))
            | (refine gq_yes (by rfl) ?_ (fun wq hq => ?_) ?_; rotate_left; (· (have y0 := hq.cell m0 (by simp); have y1 := hq.cell m1 (by simp); have y2 := hq.cell p0 (by simp); have y3 := hq.cell p1 (by simp); have y4 := hq.cell p2 (by simp); have y5 := hq.cell p3 (by simp); have y6 := hq.cell p4 (by simp); have y7 := hq.cell p5 (by simp); have y8 := hq.cell p6 (by simp); have y9 := hq.cell p7 (by simp); have y10 := hq.cell hx0 (by simp); have y11 := hq.cell hx1 (by simp); go_simp; (try rfl))); (try simp only [Act.put, List.setIfInBounds_toArray, List.set_cons_zero, List.set_cons_succ])))
          refine gq_nil ?_
          intro wr2 gz
          have G2 := Lib.hid (gby_trans G1.out gz)
          clear gz m0 m1 p0 p1 p2 p3 p4 p5 p6 p7 hx0 hx1 HM HP
          go_wp2
          go_ret
          exact ⟨ret_bool (by rw [why]; first | done | rfl | (simp; omega) | simp), G2.out⟩
      · have why : decide (CanP xs ys (m : Int) u) = false := decide_eq_false (fun h => h1 (hdef.1 h).1)
        skip
        have hd1 : decide (1 ≤ x) = false := decide_eq_false h1
        clear hdef hcr
        go_enter Try.func83, Try.ntmps83
        go_wp2_with fail
        go_at_call 84
        refine (specCls_any _ _ _ _ QA.out (HD.out.kept (gby_alloc (gby_alloc (gby_refl _ _) _) _)) hl2).mono ?_
        rintro e w1 ⟨rfl, g1⟩
        have hm := row_held g1 (W := (W.alloc _).alloc _) (b := W.heap.size) (by rw [heap_alloc_old _ _ (by simp)]; exact heap_alloc_new W _)
        have hp := row_held g1 (W := (W.alloc _).alloc _) (b := W.heap.size + 1) (heap_pair W _ _)
        have G1 := Lib.hid (gby_trans (gby_alloc (gby_alloc (gby_refl W none) _) _) g1)
        clear g1
        obtain ⟨m0, m1⟩ := cr_row hm
        obtain ⟨p0, p1, p2, p3, p4, p5, p6, p7⟩ := pg_row hp
        have HM := Lib.hid hm
        have HP := Lib.hid hp
        clear hm hp
        have hx0 := G1.out.cell HC0.out (by simp)
        have hx1 := G1.out.cell HC1.out (by simp)
        go_wp2_with fail
        refine wp_region_grow (by kernel_rfl) (by kernel_rfl) ?_
        repeat (first
          | (refine gq_no (by rfl) ?_; (try simp only [Act.put, List.setIfInBounds_toArray, List.set_cons_zero, List.set_cons_succ]))
          | (refine gq_yes (by rfl) ?_ (fun wq hq => ?_) ?_; rotate_left; (· (go_simp; go_at_call 89; refine (HCR.out _ (gby_trans G1.out hq)).mono ?_; rintro e wr ⟨rfl, gr⟩; refine And.intro ?_ (gby_trans hq gr); rfl)); (try simp only [Act.put, List.setIfInBounds_toArray, List.set_cons_zero, List.set_cons_succ]))
          | (refine gq_yes (by rfl) ?_ (fun wq hq => ?_) ?_; rotate_left; (· (have y0 := hq.cell m0 (by simp); have y1 := hq.cell m1 (by simp); have y2 := hq.cell p0 (by simp); have y3 := hq.cell p1 (by simp); have y4 := hq.cell p2 (by simp); have y5 := hq.cell p3 (by simp); have y6 := hq.cell p4 (by simp); have y7 := hq.cell p5 (by simp); have y8 := hq.cell p6 (by simp); have y9 := hq.cell p7 (by simp); have y10 := hq.cell hx0 (by simp); have y11 := hq.cell hx1 (by simp); go_simp; (try rfl))); (try simp only [Act.put, List.setIfInBounds_toArray, List.set_cons_zero, List.set_cons_succ])))
        refine gq_nil ?_
        intro wr2 gz
        have G2 := Lib.hid (gby_trans G1.out gz)
        clear gz m0 m1 p0 p1 p2 p3 p4 p5 p6 p7 hx0 hx1 HM HP
        go_wp2
        go_ret
        exact ⟨ret_bool (by rw [why]; first | done | rfl | (simp; omega) | simp), G2.out⟩
    · have why : decide (CanP xs ys ca u) = false := decide_eq_false (fun h => h0 h.2.1)
      skip
      have hd0 : decide (0 ≤ ca) = false := decide_eq_false h0
      have HCR := Lib.hid (fun (w' : World) (gg : W.grownBy w' none) => show Calls Try.prog 89 #[.agg #[.slice a0 n0 c0, .slice a1 n1 c1]] w' (AnsN (.bool true) w') from hbc ▸ specCr_any w' _ n0 c0 _ n1 c1 xs ys (HA.out.kept gg) (HB.out.kept gg) hl0 hl1)
      
      clear hbc hcr qa hu
      go_enter Try.func83, Try.ntmps83
      go_wp2_with fail
      go_at_call 84
      refine (specCls_any _ _ _ _ QA.out (HD.out.kept (gby_alloc (gby_alloc (gby_refl _ _) _) _)) hl2).mono ?_
      rintro e w1 ⟨rfl, g1⟩
      have hm := row_held g1 (W := (W.alloc _).alloc _) (b := W.heap.size) (by rw [heap_alloc_old _ _ (by simp)]; exact heap_alloc_new W _)
      have hp := row_held g1 (W := (W.alloc _).alloc _) (b := W.heap.size + 1) (heap_pair W _ _)
      have G1 := Lib.hid (gby_trans (gby_alloc (gby_alloc (gby_refl W none) _) _) g1)
      clear g1
      obtain ⟨m0, m1⟩ := cr_row hm
      obtain ⟨p0, p1, p2, p3, p4, p5, p6, p7⟩ := pg_row hp
      have HM := Lib.hid hm
      have HP := Lib.hid hp
      clear hm hp
      go_wp2_with fail
      refine wp_region_grow (by kernel_rfl) (by kernel_rfl) ?_
      repeat (first
        | (refine gq_no (by rfl) ?_; (try simp only [Act.put, List.setIfInBounds_toArray, List.set_cons_zero, List.set_cons_succ]))
        | (refine gq_yes (by rfl) ?_ (fun wq hq => ?_) ?_; rotate_left; (· (go_simp; go_at_call 89; refine (HCR.out _ (gby_trans G1.out hq)).mono ?_; rintro e wr ⟨rfl, gr⟩; refine And.intro ?_ (gby_trans hq gr); rfl)); (try simp only [Act.put, List.setIfInBounds_toArray, List.set_cons_zero, List.set_cons_succ]))
        | (refine gq_yes (by rfl) ?_ (fun wq hq => ?_) ?_; rotate_left; (· (have y0 := hq.cell m0 (by simp); have y1 := hq.cell m1 (by simp); have y2 := hq.cell p0 (by simp); have y3 := hq.cell p1 (by simp); have y4 := hq.cell p2 (by simp); have y5 := hq.cell p3 (by simp); have y6 := hq.cell p4 (by simp); have y7 := hq.cell p5 (by simp); have y8 := hq.cell p6 (by simp); have y9 := hq.cell p7 (by simp); go_simp; (try rfl))); (try simp only [Act.put, List.setIfInBounds_toArray, List.set_cons_zero, List.set_cons_succ])))
      refine gq_nil ?_
      intro wr2 gz
      have G2 := Lib.hid (gby_trans G1.out gz)
      clear gz m0 m1 p0 p1 p2 p3 p4 p5 p6 p7 HM HP
      go_wp2
      go_ret
      exact ⟨ret_bool (by rw [why]; first | done | rfl | (simp; omega) | simp), G2.out⟩
  · have hbc : decide (CrdOk xs ys) = false := decide_eq_false hcr
    have why : decide (CanP xs ys ca u) = false := decide_eq_false (fun h => hcr h.1)
    have HCR := Lib.hid (fun (w' : World) (gg : W.grownBy w' none) => show Calls Try.prog 89 #[.agg #[.slice a0 n0 c0, .slice a1 n1 c1]] w' (AnsN (.bool false) w') from hbc ▸ specCr_any w' _ n0 c0 _ n1 c1 xs ys (HA.out.kept gg) (HB.out.kept gg) hl0 hl1)
    
    clear hbc hcr qa hu
    go_enter Try.func83, Try.ntmps83
    go_wp2_with fail
    go_at_call 84
    refine (specCls_any _ _ _ _ QA.out (HD.out.kept (gby_alloc (gby_alloc (gby_refl _ _) _) _)) hl2).mono ?_
    rintro e w1 ⟨rfl, g1⟩
    have hm := row_held g1 (W := (W.alloc _).alloc _) (b := W.heap.size) (by rw [heap_alloc_old _ _ (by simp)]; exact heap_alloc_new W _)
    have hp := row_held g1 (W := (W.alloc _).alloc _) (b := W.heap.size + 1) (heap_pair W _ _)
    have G1 := Lib.hid (gby_trans (gby_alloc (gby_alloc (gby_refl W none) _) _) g1)
    clear g1
    obtain ⟨m0, m1⟩ := cr_row hm
    obtain ⟨p0, p1, p2, p3, p4, p5, p6, p7⟩ := pg_row hp
    have HM := Lib.hid hm
    have HP := Lib.hid hp
    clear hm hp
    go_wp2_with fail
    refine wp_region_grow (by kernel_rfl) (by kernel_rfl) ?_
    repeat (first
      | (refine gq_no (by rfl) ?_; (try simp only [Act.put, List.setIfInBounds_toArray, List.set_cons_zero, List.set_cons_succ]))
      | (refine gq_yes (by rfl) ?_ (fun wq hq => ?_) ?_; rotate_left; (· (go_simp; go_at_call 89; refine (HCR.out _ (gby_trans G1.out hq)).mono ?_; rintro e wr ⟨rfl, gr⟩; refine And.intro ?_ (gby_trans hq gr); rfl)); (try simp only [Act.put, List.setIfInBounds_toArray, List.set_cons_zero, List.set_cons_succ]))
      | (refine gq_yes (by rfl) ?_ (fun wq hq => ?_) ?_; rotate_left; (· (have y0 := hq.cell m0 (by simp); have y1 := hq.cell m1 (by simp); have y2 := hq.cell p0 (by simp); have y3 := hq.cell p1 (by simp); have y4 := hq.cell p2 (by simp); have y5 := hq.cell p3 (by simp); have y6 := hq.cell p4 (by simp); have y7 := hq.cell p5 (by simp); have y8 := hq.cell p6 (by simp); have y9 := hq.cell p7 (by simp); go_simp; (try rfl))); (try simp only [Act.put, List.setIfInBounds_toArray, List.set_cons_zero, List.set_cons_succ])))
    refine gq_nil ?_
    intro wr2 gz
    have G2 := Lib.hid (gby_trans G1.out gz)
    clear gz m0 m1 p0 p1 p2 p3 p4 p5 p6 p7 HM HP
    go_wp2
    go_ret
    exact ⟨ret_bool (by rw [why]; first | done | rfl | (simp; omega) | simp), G2.out⟩

set_option maxRecDepth 8000 in
set_option maxHeartbeats 4000000 in
theorem cover_any (W : World) (a0 : Option Addr) (n0 c0 : Nat) (a1 : Option Addr) (n1 c1 : Nat) (xs ys : List Int) (k f t a l g s : Int) (d : Option Addr) (n c : Nat) (ds : List Int) (ca : Int) (qa : ClsOf k f t a l g s ds ca) (H0 : ISl W a0 n0 xs) (H1 : ISl W a1 n1 ys) (H2 : ISl W d n ds) (hl0 : n0 ≤ 1048576) (hl1 : n1 ≤ 1048576) (hl2 : n ≤ 1048576) (u : Int) (hu : u = (((n + 3) / 4 : Nat) : Int)) (hcr : CrdOk xs ys) (h0 : 0 ≤ ca) :
    Calls Try.prog 93 #[crV a0 n0 c0 a1 n1 c1, pgV k f t a l g s d n c] W (AnsN (.bool (decide (CanP xs ys ca u))) W) := by
  have HA := Lib.hid H0
  have HB := Lib.hid H1
  have HD := Lib.hid H2
  have QA := Lib.hid qa
  obtain ⟨ra, ra'⟩ := qa.rng
  clear H0 H1 H2
  unfold crV pgV
  obtain ⟨m, rfl⟩ : ∃ m : Nat, ca = (m : Int) := ⟨ca.toNat, by omega⟩
  have e0 : n0 = 3 := HA.out.1.trans hcr.1.1
  have e1 : n1 = 3 := HB.out.1.trans hcr.2.1
  obtain ⟨b, off, rfl, hcell⟩ := HA.out.2.resolve_left (by omega)
  obtain ⟨b2, off2, rfl, hcell2⟩ := HB.out.2.resolve_left (by omega)
  have hc0 := hcell m (by omega)
  have hc1 := hcell2 m (by omega)
  have htn : ((m : Int)).toNat = m := by omega
  have m1 : (m : Int) < (n0 : Int) := by omega
  have m2 : (m : Int) < (n1 : Int) := by omega
  have hdef : CanP xs ys (m : Int) u ↔ 1 ≤ xs.getD m 0 ∧ u ≤ ys.getD m 0 := by
    unfold CanP
    rw [htn]
    exact ⟨fun h => h.2.2, fun h => ⟨hcr, by omega, h⟩⟩
  obtain ⟨x, hx⟩ : ∃ x, x = xs.getD m 0 := ⟨_, rfl⟩
  obtain ⟨y, hy⟩ : ∃ y, y = ys.getD m 0 := ⟨_, rfl⟩
  rw [← hx] at hc0
  rw [← hy] at hc1
  rw [← hx, ← hy] at hdef
  have HC0 := Lib.hid hc0
  have HC1 := Lib.hid hc1
  clear hcell hcell2 hc0 hc1 hx hy e0 e1
  have HPU := Lib.hid (fun (w' : World) (gg : W.grownBy w' none) => show Calls Try.prog 126 #[.agg #[.int .i64 k, .int .i64 f, .int .i64 t, .int .i64 a, .int .i64 l, .int .i64 g, .int .i64 s, .slice d n c]] w' (AnsG (.int .i64 u) w') from hu ▸ implPacketUnits_in k w' f t a l g s d n c ds (HD.out.kept gg) hl2 (QA.out.ok (by omega)))
  clear hu qa
  by_cases h1 : 1 ≤ x
  · by_cases h2 : u ≤ y
    · have why : decide (CanP xs ys (m : Int) u) = true := decide_eq_true (hdef.2 ⟨h1, h2⟩)
      clear hdef hcr
      go_enter Try.func93, Try.ntmps93
      go_wp2_with fail
      go_at_call 125
      refine (implCls_any _ _ _ _ QA.out (HD.out.kept (gby_alloc (gby_alloc (gby_refl _ _) _) _)) hl2).mono ?_
      rintro e w1 ⟨rfl, g1⟩
      have hm := row_held g1 (W := (W.alloc _).alloc _) (b := W.heap.size) (by rw [heap_alloc_old _ _ (by simp)]; exact heap_alloc_new W _)
      have hp := row_held g1 (W := (W.alloc _).alloc _) (b := W.heap.size + 1) (heap_pair W _ _)
      have G1 := Lib.hid (gby_trans (gby_alloc (gby_alloc (gby_refl W none) _) _) g1)
      clear g1
      obtain ⟨m0, m1⟩ := cr_row hm
      obtain ⟨p0, p1, p2, p3, p4, p5, p6, p7⟩ := pg_row hp
      have HM := Lib.hid hm
      have HP := Lib.hid hp
      clear hm hp
      have hx0 := G1.out.cell HC0.out (by simp)
      have hx1 := G1.out.cell HC1.out (by simp)
      go_wp2_with fail
      refine wp_region_grow (by kernel_rfl) (by kernel_rfl) ?_
      repeat (first
        | (refine gq_no (by rfl) ?_; (try simp only [Act.put, List.setIfInBounds_toArray, List.set_cons_zero, List.set_cons_succ]))
        | (refine gq_yes (by rfl) ?_ (fun wq hq => ?_) ?_; rotate_left; (· (go_simp; go_at_call 126; refine (HPU.out _ (gby_trans G1.out hq)).mono ?_; rintro e wr ⟨rfl, gr⟩; refine And.intro ?_ (gby_trans hq gr); rfl)); (try simp only [Act.put, List.setIfInBounds_toArray, List.set_cons_zero, List.set_cons_succ]))
        | (refine gq_yes (by rfl) ?_ (fun wq hq => ?_) ?_; rotate_left; (· (have y0 := hq.cell m0 (by simp); have y1 := hq.cell m1 (by simp); have y2 := hq.cell p0 (by simp); have y3 := hq.cell p1 (by simp); have y4 := hq.cell p2 (by simp); have y5 := hq.cell p3 (by simp); have y6 := hq.cell p4 (by simp); have y7 := hq.cell p5 (by simp); have y8 := hq.cell p6 (by simp); have y9 := hq.cell p7 (by simp); have y10 := hq.cell hx0 (by simp); have y11 := hq.cell hx1 (by simp); go_simp; (try rfl))); (try simp only [Act.put, List.setIfInBounds_toArray, List.set_cons_zero, List.set_cons_succ])))
      refine gq_nil ?_
      intro wr2 gz
      have G2 := Lib.hid (gby_trans G1.out gz)
      clear gz m0 m1 p0 p1 p2 p3 p4 p5 p6 p7 hx0 hx1 HM HP
      go_wp2
      go_ret
      exact ⟨ret_bool (by rw [why]; first | done | rfl | (simp; omega) | simp), G2.out⟩
    · have why : decide (CanP xs ys (m : Int) u) = false := decide_eq_false (fun h => h2 (hdef.1 h).2)
      clear hdef hcr
      go_enter Try.func93, Try.ntmps93
      go_wp2_with fail
      go_at_call 125
      refine (implCls_any _ _ _ _ QA.out (HD.out.kept (gby_alloc (gby_alloc (gby_refl _ _) _) _)) hl2).mono ?_
      rintro e w1 ⟨rfl, g1⟩
      have hm := row_held g1 (W := (W.alloc _).alloc _) (b := W.heap.size) (by rw [heap_alloc_old _ _ (by simp)]; exact heap_alloc_new W _)
      have hp := row_held g1 (W := (W.alloc _).alloc _) (b := W.heap.size + 1) (heap_pair W _ _)
      have G1 := Lib.hid (gby_trans (gby_alloc (gby_alloc (gby_refl W none) _) _) g1)
      clear g1
      obtain ⟨m0, m1⟩ := cr_row hm
      obtain ⟨p0, p1, p2, p3, p4, p5, p6, p7⟩ := pg_row hp
      have HM := Lib.hid hm
      have HP := Lib.hid hp
      clear hm hp
      have hx0 := G1.out.cell HC0.out (by simp)
      have hx1 := G1.out.cell HC1.out (by simp)
      go_wp2_with fail
      refine wp_region_grow (by kernel_rfl) (by kernel_rfl) ?_
      repeat (first
        | (refine gq_no (by rfl) ?_; (try simp only [Act.put, List.setIfInBounds_toArray, List.set_cons_zero, List.set_cons_succ]))
        | (refine gq_yes (by rfl) ?_ (fun wq hq => ?_) ?_; rotate_left; (· (go_simp; go_at_call 126; refine (HPU.out _ (gby_trans G1.out hq)).mono ?_; rintro e wr ⟨rfl, gr⟩; refine And.intro ?_ (gby_trans hq gr); rfl)); (try simp only [Act.put, List.setIfInBounds_toArray, List.set_cons_zero, List.set_cons_succ]))
        | (refine gq_yes (by rfl) ?_ (fun wq hq => ?_) ?_; rotate_left; (· (have y0 := hq.cell m0 (by simp); have y1 := hq.cell m1 (by simp); have y2 := hq.cell p0 (by simp); have y3 := hq.cell p1 (by simp); have y4 := hq.cell p2 (by simp); have y5 := hq.cell p3 (by simp); have y6 := hq.cell p4 (by simp); have y7 := hq.cell p5 (by simp); have y8 := hq.cell p6 (by simp); have y9 := hq.cell p7 (by simp); have y10 := hq.cell hx0 (by simp); have y11 := hq.cell hx1 (by simp); go_simp; (try rfl))); (try simp only [Act.put, List.setIfInBounds_toArray, List.set_cons_zero, List.set_cons_succ])))
      refine gq_nil ?_
      intro wr2 gz
      have G2 := Lib.hid (gby_trans G1.out gz)
      clear gz m0 m1 p0 p1 p2 p3 p4 p5 p6 p7 hx0 hx1 HM HP
      go_wp2
      go_ret
      exact ⟨ret_bool (by rw [why]; first | done | rfl | (simp; omega) | simp), G2.out⟩
  · have why : decide (CanP xs ys (m : Int) u) = false := decide_eq_false (fun h => h1 (hdef.1 h).1)
    skip
    have hd1 : decide (1 ≤ x) = false := decide_eq_false h1
    clear hdef hcr
    go_enter Try.func93, Try.ntmps93
    go_wp2_with fail
    go_at_call 125
    refine (implCls_any _ _ _ _ QA.out (HD.out.kept (gby_alloc (gby_alloc (gby_refl _ _) _) _)) hl2).mono ?_
    rintro e w1 ⟨rfl, g1⟩
    have hm := row_held g1 (W := (W.alloc _).alloc _) (b := W.heap.size) (by rw [heap_alloc_old _ _ (by simp)]; exact heap_alloc_new W _)
    have hp := row_held g1 (W := (W.alloc _).alloc _) (b := W.heap.size + 1) (heap_pair W _ _)
    have G1 := Lib.hid (gby_trans (gby_alloc (gby_alloc (gby_refl W none) _) _) g1)
    clear g1
    obtain ⟨m0, m1⟩ := cr_row hm
    obtain ⟨p0, p1, p2, p3, p4, p5, p6, p7⟩ := pg_row hp
    have HM := Lib.hid hm
    have HP := Lib.hid hp
    clear hm hp
    have hx0 := G1.out.cell HC0.out (by simp)
    have hx1 := G1.out.cell HC1.out (by simp)
    go_wp2_with fail
    try go_quiet (fail)
    go_wp2
    go_ret
    exact ⟨ret_bool (by rw [why]; first | done | rfl | (simp; omega) | simp), by first | exact G1.out | exact gby_drewN G1.out _⟩

set_option maxRecDepth 8000 in
set_option maxHeartbeats 4000000 in
theorem implCan_any (W : World) (a0 : Option Addr) (n0 c0 : Nat) (a1 : Option Addr) (n1 c1 : Nat) (xs ys : List Int) (k f t a l g s : Int) (d : Option Addr) (n c : Nat) (ds : List Int) (ca : Int) (qa : ClsOf k f t a l g s ds ca) (H0 : ISl W a0 n0 xs) (H1 : ISl W a1 n1 ys) (H2 : ISl W d n ds) (hl0 : n0 ≤ 1048576) (hl1 : n1 ≤ 1048576) (hl2 : n ≤ 1048576) (u : Int) (hu : u = (((n + 3) / 4 : Nat) : Int)) :
    Calls Try.prog 45 #[crV a0 n0 c0 a1 n1 c1, pgV k f t a l g s d n c] W (AnsN (.bool (decide (CanP xs ys ca u))) W) := by
  have HA := Lib.hid H0
  have HB := Lib.hid H1
  have HD := Lib.hid H2
  have QA := Lib.hid qa
  obtain ⟨ra, ra'⟩ := qa.rng
  clear H0 H1 H2
  by_cases hcr : CrdOk xs ys
  · have hbc : decide (CrdOk xs ys) = true := decide_eq_true hcr
    have HCR := Lib.hid (fun (w' : World) (gg : W.grownBy w' none) => show Calls Try.prog 47 #[.agg #[.slice a0 n0 c0, .slice a1 n1 c1]] w' (AnsN (.bool true) w') from hbc ▸ implCr_any w' _ n0 c0 _ n1 c1 xs ys (HA.out.kept gg) (HB.out.kept gg) hl0 hl1)
    
    by_cases h0 : 0 ≤ ca
    · obtain ⟨z, why⟩ : ∃ z, decide (CanP xs ys ca u) = z := ⟨_, rfl⟩
      have HCV := Lib.hid (fun (w' : World) (gg : W.grownBy w' none) => show Calls Try.prog 93 #[crV a0 n0 c0 a1 n1 c1, pgV k f t a l g s d n c] w' (AnsN (.bool z) w') from why ▸ cover_any w' a0 n0 c0 a1 n1 c1 xs ys k f t a l g s d n c ds ca qa (HA.out.kept gg) (HB.out.kept gg) (HD.out.kept gg) hl0 hl1 hl2 u hu hcr h0)
      rw [why]
      have why : z = z := rfl
      unfold crV pgV
      clear hbc hcr hu qa
      go_enter Try.func45, Try.ntmps45
      go_wp2_with fail
      go_at_call 47
      refine (HCR.out _ (gby_alloc (gby_alloc (gby_refl _ _) _) _)).mono ?_
      rintro e w1 ⟨rfl, g1⟩
      have hm := row_held g1 (W := (W.alloc _).alloc _) (b := W.heap.size) (by rw [heap_alloc_old _ _ (by simp)]; exact heap_alloc_new W _)
      have hp := row_held g1 (W := (W.alloc _).alloc _) (b := W.heap.size + 1) (heap_pair W _ _)
      have G1 := Lib.hid (gby_trans (gby_alloc (gby_alloc (gby_refl W none) _) _) g1)
      clear g1
      obtain ⟨m0, m1⟩ := cr_row hm
      obtain ⟨p0, p1, p2, p3, p4, p5, p6, p7⟩ := pg_row hp
      have HM := Lib.hid hm
      have HP := Lib.hid hp
      clear hm hp
      go_wp2_with fail
      go_at_call 30
      refine (implPk_yes _ _ _ _ QA.out (by omega) (HD.out.kept G1.out) hl2).mono ?_
      rintro e w2 ⟨rfl, g1⟩
      have hm := row_held g1 HM.out
      have hp := row_held g1 HP.out
      have G2 := Lib.hid (gby_trans G1.out g1)
      clear g1 m0 m1 p0 p1 p2 p3 p4 p5 p6 p7 HM HP
      obtain ⟨m0, m1⟩ := cr_row hm
      obtain ⟨p0, p1, p2, p3, p4, p5, p6, p7⟩ := pg_row hp
      have HM := Lib.hid hm
      have HP := Lib.hid hp
      clear hm hp
      go_wp2_with fail
      go_at_call 93
      refine (HCV.out _ G2.out).mono ?_
      rintro e w3 ⟨rfl, g1⟩
      have hm := row_held g1 HM.out
      have hp := row_held g1 HP.out
      have G3 := Lib.hid (gby_trans G2.out g1)
      clear g1 m0 m1 p0 p1 p2 p3 p4 p5 p6 p7 HM HP
      obtain ⟨m0, m1⟩ := cr_row hm
      obtain ⟨p0, p1, p2, p3, p4, p5, p6, p7⟩ := pg_row hp
      have HM := Lib.hid hm
      have HP := Lib.hid hp
      clear hm hp
      go_wp2
      go_ret
      exact ⟨rfl, G3.out⟩
    · have why : decide (CanP xs ys ca u) = false := decide_eq_false (fun h => h0 h.2.1)
      skip
      have hd0 : decide (0 ≤ ca) = false := decide_eq_false h0
      unfold crV pgV
      clear hbc hcr hu qa
      go_enter Try.func45, Try.ntmps45
      go_wp2_with fail
      go_at_call 47
      refine (HCR.out _ (gby_alloc (gby_alloc (gby_refl _ _) _) _)).mono ?_
      rintro e w1 ⟨rfl, g1⟩
      have hm := row_held g1 (W := (W.alloc _).alloc _) (b := W.heap.size) (by rw [heap_alloc_old _ _ (by simp)]; exact heap_alloc_new W _)
      have hp := row_held g1 (W := (W.alloc _).alloc _) (b := W.heap.size + 1) (heap_pair W _ _)
      have G1 := Lib.hid (gby_trans (gby_alloc (gby_alloc (gby_refl W none) _) _) g1)
      clear g1
      obtain ⟨m0, m1⟩ := cr_row hm
      obtain ⟨p0, p1, p2, p3, p4, p5, p6, p7⟩ := pg_row hp
      have HM := Lib.hid hm
      have HP := Lib.hid hp
      clear hm hp
      go_wp2_with fail
      go_at_call 30
      refine (implPk_no _ _ _ _ QA.out (by omega) (HD.out.kept G1.out) hl2).mono ?_
      rintro e w2 ⟨rfl, g1⟩
      have hm := row_held g1 HM.out
      have hp := row_held g1 HP.out
      have G2 := Lib.hid (gby_trans G1.out g1)
      clear g1 m0 m1 p0 p1 p2 p3 p4 p5 p6 p7 HM HP
      obtain ⟨m0, m1⟩ := cr_row hm
      obtain ⟨p0, p1, p2, p3, p4, p5, p6, p7⟩ := pg_row hp
      have HM := Lib.hid hm
      have HP := Lib.hid hp
      clear hm hp
      go_wp2
      go_ret
      exact ⟨ret_bool (by rw [why]), G2.out⟩
  · have hbc : decide (CrdOk xs ys) = false := decide_eq_false hcr
    have why : decide (CanP xs ys ca u) = false := decide_eq_false (fun h => hcr h.1)
    have HCR := Lib.hid (fun (w' : World) (gg : W.grownBy w' none) => show Calls Try.prog 47 #[.agg #[.slice a0 n0 c0, .slice a1 n1 c1]] w' (AnsN (.bool false) w') from hbc ▸ implCr_any w' _ n0 c0 _ n1 c1 xs ys (HA.out.kept gg) (HB.out.kept gg) hl0 hl1)
    
    unfold crV pgV
    clear hbc hcr hu qa
    go_enter Try.func45, Try.ntmps45
    go_wp2_with fail
    go_at_call 47
    refine (HCR.out _ (gby_alloc (gby_alloc (gby_refl _ _) _) _)).mono ?_
    rintro e w1 ⟨rfl, g1⟩
    have hm := row_held g1 (W := (W.alloc _).alloc _) (b := W.heap.size) (by rw [heap_alloc_old _ _ (by simp)]; exact heap_alloc_new W _)
    have hp := row_held g1 (W := (W.alloc _).alloc _) (b := W.heap.size + 1) (heap_pair W _ _)
    have G1 := Lib.hid (gby_trans (gby_alloc (gby_alloc (gby_refl W none) _) _) g1)
    clear g1
    obtain ⟨m0, m1⟩ := cr_row hm
    obtain ⟨p0, p1, p2, p3, p4, p5, p6, p7⟩ := pg_row hp
    have HM := Lib.hid hm
    have HP := Lib.hid hp
    clear hm hp
    go_wp2
    go_ret
    exact ⟨ret_bool (by rw [why]), G1.out⟩

theorem can_both (xs ys : List Int) (k f t a l g s : Int) (ds : List Int) (hx : xs.length ≤ 1048576) (hy : ys.length ≤ 1048576) (hd : ds.length ≤ 1048576) : ∃ b : Bool,
    (∀ (W : World) (u0 u1 u2 : Option Addr) (v0 v1 v2 : Nat), RdI W (.slice u0 xs.length v0) xs → RdI W (.slice u1 ys.length v1) ys → RdI W (.slice u2 ds.length v2) ds → Calls Try.prog 83 #[crV u0 xs.length v0 u1 ys.length v1, pgV k f t a l g s u2 ds.length v2] W (AnsN (.bool b) W)) ∧
    ∀ (W : World) (u0 u1 u2 : Option Addr) (v0 v1 v2 : Nat), RdI W (.slice u0 xs.length v0) xs → RdI W (.slice u1 ys.length v1) ys → RdI W (.slice u2 ds.length v2) ds → Calls Try.prog 45 #[crV u0 xs.length v0 u1 ys.length v1, pgV k f t a l g s u2 ds.length v2] W (AnsN (.bool b) W) := by
  obtain ⟨ca, qa⟩ := clsOf_ex k f t a l g s ds
  exact ⟨_, fun W u0 u1 u2 v0 v1 v2 H0 H1 H2 => specCan_any W u0 _ v0 u1 _ v1 xs ys k f t a l g s u2 _ v2 ds ca qa H0.isl' H1.isl' H2.isl' hx hy hd _ rfl,
    fun W u0 u1 u2 v0 v1 v2 H0 H1 H2 => implCan_any W u0 _ v0 u1 _ v1 xs ys k f t a l g s u2 _ v2 ds ca qa H0.isl' H1.isl' H2.isl' hx hy hd _ rfl⟩

end Go.Proofs.Ytgagbhkidponnac
