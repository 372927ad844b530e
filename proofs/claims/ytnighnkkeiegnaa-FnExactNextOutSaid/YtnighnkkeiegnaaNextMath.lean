/-
  CanSend as data; who is blocked, who goes next.
-/
import Derived.Test.YtnighnkkeiegnaaPassImpl
import Derived.Test.YtnighnkkeiegnaaCrd
import Derived.Test.YtnighnkkeiegnaaGreg
import Derived.Deep.RegionHeld3
import Derived.Test.YtnighnkkeiegnaaBPost0
import Derived.Test.YtnighnkkeiegnaaShelfRev
import Derived.Test.YtnighnkkeiegnaaPlainRow
import Derived.Test.YtnighnkkeiegnaaPassMath
import Derived.Test.YtnighnkkeiegnaaQQueue
namespace Go.Proofs.Ytnighnkkeiegnaa
open Go Go.RowKit
set_option linter.unusedVariables false

theorem ClsOf.ok {k f t a l g s : Int} {xs : List Int} {ca : Int} (h : ClsOf k f t a l g s xs ca) (h0 : 0 ≤ ca) : PkOk k f t a l g s xs := by
  rcases h with ⟨q, _⟩ | ⟨_, rfl⟩
  · exact q
  · omega
/-- are there credits for a packet of the class ca that needs u units -/
def CanP (xs ys : List Int) (ca u : Int) : Prop := CrdOk xs ys ∧ 0 ≤ ca ∧ 1 ≤ xs.getD ca.toNat 0 ∧ u ≤ ys.getD ca.toNat 0
instance (xs ys : List Int) (ca u : Int) : Decidable (CanP xs ys ca u) := by unfold CanP; infer_instance

set_option maxRecDepth 8000 in
set_option maxHeartbeats 4000000 in
theorem specCan_any (W : World) (a0 : Option Addr) (n0 c0 : Nat) (a1 : Option Addr) (n1 c1 : Nat) (xs ys : List Int) (k f t a l g s : Int) (d : Option Addr) (n c : Nat) (ds : List Int) (ca : Int) (qa : ClsOf k f t a l g s ds ca) (H0 : ISl W a0 n0 xs) (H1 : ISl W a1 n1 ys) (H2 : ISl W d n ds) (hl0 : n0 ≤ 1048576) (hl1 : n1 ≤ 1048576) (hl2 : n ≤ 1048576) (u : Int) (hu : u = (((n + 3) / 4 : Nat) : Int)) :
    Calls Try.prog 61 #[crV a0 n0 c0 a1 n1 c1, pgV k f t a l g s d n c] W (AnsN (.bool (decide (CanP xs ys ca u))) W) := by
  have HA := Lib.hid H0
  have HB := Lib.hid H1
  have HD := Lib.hid H2
  have QA := Lib.hid qa
  obtain ⟨ra, ra'⟩ := qa.rng
  clear H0 H1 H2
  unfold crV pgV
  by_cases hcr : CrdOk xs ys
  · have hbc : decide (CrdOk xs ys) = true := decide_eq_true hcr
    by_cases h0 : 0 ≤ ca
    · obtain ⟨m, rfl⟩ : ∃ m : Nat, ca = (m : Int) := ⟨ca.toNat, by omega⟩
      have e0 : n0 = 3 := HA.out.1.trans hcr.1.1
      have e1 : n1 = 3 := HB.out.1.trans hcr.2.1
      obtain ⟨b, off, rfl, hcell⟩ := HA.out.2.resolve_left (by omega)
      obtain ⟨b2, off2, rfl, hcell2⟩ := HB.out.2.resolve_left (by omega)
      have hc0 := hcell m (by omega)
      have hc1 := hcell2 m (by omega)
      have htn : ((m : Int)).toNat = m := by omega
      have m1 : (m : Int) < (n0 : Int) := by omega
      have m2 : (m : Int) < (n1 : Int) := by omega
      have hdef : CanP xs ys (m : Int) u ↔ 1 ≤ xs.getD m 0 ∧ u ≤ ys.getD m 0 := by
        unfold CanP
        rw [htn]
        exact ⟨fun h => h.2.2, fun h => ⟨hcr, by omega, h⟩⟩
      obtain ⟨x, hx⟩ : ∃ x, x = xs.getD m 0 := ⟨_, rfl⟩
      obtain ⟨y, hy⟩ : ∃ y, y = ys.getD m 0 := ⟨_, rfl⟩
      rw [← hx] at hc0
      rw [← hy] at hc1
      rw [← hx, ← hy] at hdef
      have HC0 := Lib.hid hc0
      have HC1 := Lib.hid hc1
      clear hcell hcell2 hc0 hc1 hx hy e0 e1
      have HCR := Lib.hid (fun (w' : World) (gg : W.grownBy w' none) => show Calls Try.prog 73 #[.agg #[.slice (some ⟨b, off, none⟩) n0 c0, .slice (some ⟨b2, off2, none⟩) n1 c1]] w' (AnsN (.bool true) w') from hbc ▸ specCr_any w' _ n0 c0 _ n1 c1 xs ys (HA.out.kept gg) (HB.out.kept gg) hl0 hl1)
      have HPU := Lib.hid (fun (w' : World) (gg : W.grownBy w' none) => show Calls Try.prog 76 #[.agg #[.int .i64 k, .int .i64 f, .int .i64 t, .int .i64 a, .int .i64 l, .int .i64 g, .int .i64 s, .slice d n c]] w' (AnsG (.int .i64 u) w') from hu ▸ specPacketUnits_in k w' f t a l g s d n c ds (HD.out.kept gg) hl2 (QA.out.ok (by omega)))
      clear hbc hu qa
      
      by_cases h1 : 1 ≤ x
      · by_cases h2 : u ≤ y
        · have why : decide (CanP xs ys (m : Int) u) = true := decide_eq_true (hdef.2 ⟨h1, h2⟩)
          clear hdef hcr
          go_enter Try.func61, Try.ntmps61
          go_wp2_with fail
          go_at_call 75
          refine (specCls_any _ _ _ _ QA.out (HD.out.kept (gby_alloc (gby_alloc (gby_refl _ _) _) _)) hl2).mono ?_
          rintro e w1 ⟨rfl, g1⟩
          have hm := row_held g1 (W := (W.alloc _).alloc _) (b := W.heap.size) (by rw [heap_alloc_old _ _ (by simp)]; exact heap_alloc_new W _)
          have hp := row_held g1 (W := (W.alloc _).alloc _) (b := W.heap.size + 1) (heap_pair W _ _)
          have G1 := Lib.hid (gby_trans (gby_alloc (gby_alloc (gby_refl W none) _) _) g1)
          clear g1
          obtain ⟨m0, m1⟩ := cr_row hm
          obtain ⟨p0, p1, p2, p3, p4, p5, p6, p7⟩ := pg_row hp
          have HM := Lib.hid hm
          have HP := Lib.hid hp
          clear hm hp
          have hx0 := G1.out.cell HC0.out (by simp)
          have hx1 := G1.out.cell HC1.out (by simp)
          go_wp2_with fail
          refine wp_region_grow (by kernel_rfl) (by kernel_rfl) ?_
          repeat (first
            | (refine gq_no (by rfl) ?_; (try simp only [Act.put, List.setIfInBounds_toArray, List.set_cons_zero, List.set_cons_succ]))
            | (refine gq_yes (by rfl) ?_ (fun wq hq => ?_) ?_; rotate_left; (· (go_simp; go_at_call 73; refine (HCR.out _ (gby_trans G1.out hq)).mono ?_; rintro e wr ⟨rfl, gr⟩; refine And.intro ?_ (gby_trans hq gr); rfl)); (try simp only [Act.put, List.setIfInBounds_toArray, List.set_cons_zero, List.set_cons_succ]))
            | (refine gq_yes (by rfl) ?_ (fun wq hq => ?_) ?_; rotate_left; (· (go_simp; go_at_call 76; refine (HPU.out _ (gby_trans G1.out hq)).mono ?_; rintro e wr ⟨rfl, gr⟩; refine And.intro ?_ (gby_trans hq gr); rfl)); (try simp only [Act.put, List.setIfInBounds_toArray, List.set_cons_zero, List.set_cons_succ]))
            | (refine gq_yes (by rfl) ?_ (fun wq hq => ?_) ?_; rotate_left; (· (have y0 := hq.cell m0 (by simp); have y1 := hq.cell m1 (by simp); have y2 := hq.cell p0 (by simp); have y3 := hq.cell p1 (by simp); have y4 := hq.cell p2 (by simp); have y5 := hq.cell p3 (by simp); have y6 := hq.cell p4 (by simp); have y7 := hq.cell p5 (by simp); have y8 := hq.cell p6 (by simp); have y9 := hq.cell p7 (by simp); have y10 := hq.cell hx0 (by simp); have y11 := hq.cell hx1 (by simp); go_simp; (try rfl))); (try simp only [Act.put, List.setIfInBounds_toArray, List.set_cons_zero, List.set_cons_succ])))
          refine gq_nil ?_
          intro wr2 gz
          have G2 := Lib.hid (gby_trans G1.out gz)
          clear gz m0 m1 p0 p1 p2 p3 p4 p5 p6 p7 hx0 hx1 HM HP
          go_wp2
          go_ret
          exact ⟨ret_bool (by rw [why]; first | done | rfl | (simp; omega) | simp), G2.out⟩
        · have why : decide (CanP xs ys (m : Int) u) = false := decide_eq_false (fun h => h2 (hdef.1 h).2)
          clear hdef hcr
          go_enter Try.func61, Try.ntmps61
          go_wp2_with fail
          go_at_call 75
          refine (specCls_any _ _ _ _ QA.out (HD.out.kept (gby_alloc (gby_alloc (gby_refl _ _) _) _)) hl2).mono ?_
          rintro e w1 ⟨rfl, g1⟩
          have hm := row_held g1 (W := (W.alloc _).alloc _) (b := W.heap.size) (by rw [heap_alloc_old _ _ (by simp)]; exact heap_alloc_new W _)
          have hp := row_held g1 (W := (W.alloc _).alloc _) (b := W.heap.size + 1) (heap_pair W _ _)
          have G1 := Lib.hid (gby_trans (gby_alloc (gby_alloc (gby_refl W none) _) _) g1)
          clear g1
          obtain ⟨m0, m1⟩ := cr_row hm
          obtain ⟨p0, p1, p2, p3, p4, p5, p6, p7⟩ := pg_row hp
          have HM := Lib.hid hm
          have HP := Lib.hid hp
          clear hm hp
          have hx0 := G1.out.cell HC0.out (by simp)
          have hx1 := G1.out.cell HC1.out (by simp)
          go_wp2_with fail
          refine wp_region_grow (by kernel_rfl) (by kernel_rfl) ?_
          repeat (first
            | (refine gq_no (by rfl) ?_; (try simp only [Act.put, List.setIfInBounds_toArray, List.set_cons_zero, List.set_cons_succ]))
            | (refine gq_yes (by rfl) ?_ (fun wq hq => ?_) ?_; rotate_left; (· (go_simp; go_at_call 73; refine (HCR.out _ (gby_trans G1.out hq)).mono ?_; rintro e wr ⟨rfl, gr⟩; refine And.intro ?_ (gby_trans hq gr); rfl)); (try simp only [Act.put, List.setIfInBounds_toArray, List.set_cons_zero, List.set_cons_succ]))
            | (refine gq_yes (by rfl) ?_ (fun wq hq => ?_) ?_; rotate_left; (· (go_simp; go_at_call 76; refine (HPU.out _ (gby_trans G1.out hq)).mono ?_; rintro e wr ⟨rfl, gr⟩; refine And.intro ?_ (gby_trans hq gr); rfl)); (try simp only [Act.put, List.setIfInBounds_toArray, List.set_cons_zero, List.set_cons_succ]))
            | (refine gq_yes (by rfl) ?_ (fun wq hq => ?_) ?_; rotate_left; (· (have y0 := hq.cell m0 (by simp); have y1 := hq.cell m1 (by simp); have y2 := hq.cell p0 (by simp); have y3 := hq.cell p1 (by simp); have y4 := hq.cell p2 (by simp); have y5 := hq.cell p3 (by simp); have y6 := hq.cell p4 (by simp); have y7 := hq.cell p5 (by simp); have y8 := hq.cell p6 (by simp); have y9 := hq.cell p7 (by simp); have y10 := hq.cell hx0 (by simp); have y11 := hq.cell hx1 (by simp); go_simp; (try rfl))); (try simp only [Act.put, List.setIfInBounds_toArray, List.set_cons_zero, List.set_cons_succ])))
          refine gq_nil ?_
          intro wr2 gz
          have G2 := Lib.hid (gby_trans G1.out gz)
          clear gz m0 m1 p0 p1 p2 p3 p4 p5 p6 p7 hx0 hx1 HM HP
          go_wp2
          go_ret
          exact ⟨ret_bool (by rw [why]; first | done | rfl | (simp; omega) | simp), G2.out⟩
      · have why : decide (CanP xs ys (m : Int) u) = false := decide_eq_false (fun h => h1 (hdef.1 h).1)
        skip
        have hd1 : decide (1 ≤ x) = false := decide_eq_false h1
        clear hdef hcr
        go_enter Try.func61, Try.ntmps61
        go_wp2_with fail
        go_at_call 75
        refine (specCls_any _ _ _ _ QA.out (HD.out.kept (gby_alloc (gby_alloc (gby_refl _ _) _) _)) hl2).mono ?_
        rintro e w1 ⟨rfl, g1⟩
        have hm := row_held g1 (W := (W.alloc _).alloc _) (b := W.heap.size) (by rw [heap_alloc_old _ _ (by simp)]; exact heap_alloc_new W _)
        have hp := row_held g1 (W := (W.alloc _).alloc _) (b := W.heap.size + 1) (heap_pair W _ _)
        have G1 := Lib.hid (gby_trans (gby_alloc (gby_alloc (gby_refl W none) _) _) g1)
        clear g1
        obtain ⟨m0, m1⟩ := cr_row hm
        obtain ⟨p0, p1, p2, p3, p4, p5, p6, p7⟩ := pg_row hp
        have HM := Lib.hid hm
        have HP := Lib.hid hp
        clear hm hp
        have hx0 := G1.out.cell HC0.out (by simp)
        have hx1 := G1.out.cell HC1.out (by simp)
        go_wp2_with fail
        refine wp_region_grow (by kernel_rfl) (by kernel_rfl) ?_
        repeat (first
          | (refine gq_no (by rfl) ?_; (try simp only [Act.put, List.setIfInBounds_toArray, List.set_cons_zero, List.set_cons_succ]))
          | (refine gq_yes (by rfl) ?_ (fun wq hq => ?_) ?_; rotate_left; (· (go_simp; go_at_call 73; refine (HCR.out _ (gby_trans G1.out hq)).mono ?_; rintro e wr ⟨rfl, gr⟩; refine And.intro ?_ (gby_trans hq gr); rfl)); (try simp only [Act.put, List.setIfInBounds_toArray, List.set_cons_zero, List.set_cons_succ]))
          | (refine gq_yes (by rfl) ?_ (fun wq hq => ?_) ?_; rotate_left; (· (have y0 := hq.cell m0 (by simp); have y1 := hq.cell m1 (by simp); have y2 := hq.cell p0 (by simp); have y3 := hq.cell p1 (by simp); have y4 := hq.cell p2 (by simp); have y5 := hq.cell p3 (by simp); have y6 := hq.cell p4 (by simp); have y7 := hq.cell p5 (by simp); have y8 := hq.cell p6 (by simp); have y9 := hq.cell p7 (by simp); have y10 := hq.cell hx0 (by simp); have y11 := hq.cell hx1 (by simp); go_simp; (try rfl))); (try simp only [Act.put, List.setIfInBounds_toArray, List.set_cons_zero, List.set_cons_succ])))
        refine gq_nil ?_
        intro wr2 gz
        have G2 := Lib.hid (gby_trans G1.out gz)
        clear gz m0 m1 p0 p1 p2 p3 p4 p5 p6 p7 hx0 hx1 HM HP
        go_wp2
        go_ret
        exact ⟨ret_bool (by rw [why]; first | done | rfl | (simp; omega) | simp), G2.out⟩
    · have why : decide (CanP xs ys ca u) = false := decide_eq_false (fun h => h0 h.2.1)
      skip
      have hd0 : decide (0 ≤ ca) = false := decide_eq_false h0
      have HCR := Lib.hid (fun (w' : World) (gg : W.grownBy w' none) => show Calls Try.prog 73 #[.agg #[.slice a0 n0 c0, .slice a1 n1 c1]] w' (AnsN (.bool true) w') from hbc ▸ specCr_any w' _ n0 c0 _ n1 c1 xs ys (HA.out.kept gg) (HB.out.kept gg) hl0 hl1)
      
      clear hbc hcr qa hu
      go_enter Try.func61, Try.ntmps61
      go_wp2_with fail
      go_at_call 75
      refine (specCls_any _ _ _ _ QA.out (HD.out.kept (gby_alloc (gby_alloc (gby_refl _ _) _) _)) hl2).mono ?_
      rintro e w1 ⟨rfl, g1⟩
      have hm := row_held g1 (W := (W.alloc _).alloc _) (b := W.heap.size) (by rw [heap_alloc_old _ _ (by simp)]; exact heap_alloc_new W _)
      have hp := row_held g1 (W := (W.alloc _).alloc _) (b := W.heap.size + 1) (heap_pair W _ _)
      have G1 := Lib.hid (gby_trans (gby_alloc (gby_alloc (gby_refl W none) _) _) g1)
      clear g1
      obtain ⟨m0, m1⟩ := cr_row hm
      obtain ⟨p0, p1, p2, p3, p4, p5, p6, p7⟩ := pg_row hp
      have HM := Lib.hid hm
      have HP := Lib.hid hp
      clear hm hp
      go_wp2_with fail
      refine wp_region_grow (by kernel_rfl) (by kernel_rfl) ?_
      repeat (first
        | (refine gq_no (by rfl) ?_; (try simp only [Act.put, List.setIfInBounds_toArray, List.set_cons_zero, List.set_cons_succ]))
        | (refine gq_yes (by rfl) ?_ (fun wq hq => ?_) ?_; rotate_left; (· (go_simp; go_at_call 73; refine (HCR.out _ (gby_trans G1.out hq)).mono ?_; rintro e wr ⟨rfl, gr⟩; refine And.intro ?_ (gby_trans hq gr); rfl)); (try simp only [Act.put, List.setIfInBounds_toArray, List.set_cons_zero, List.set_cons_succ]))
        | (refine gq_yes (by rfl) ?_ (fun wq hq => ?_) ?_; rotate_left; (· (have y0 := hq.cell m0 (by simp); have y1 := hq.cell m1 (by simp); have y2 := hq.cell p0 (by simp); have y3 := hq.cell p1 (by simp); have y4 := hq.cell p2 (by simp); have y5 := hq.cell p3 (by simp); have y6 := hq.cell p4 (by simp); have y7 := hq.cell p5 (by simp); have y8 := hq.cell p6 (by simp); have y9 := hq.cell p7 (by simp); go_simp; (try rfl))); (try simp only [Act.put, List.setIfInBounds_toArray, List.set_cons_zero, List.set_cons_succ])))
      refine gq_nil ?_
      intro wr2 gz
      have G2 := Lib.hid (gby_trans G1.out gz)
      clear gz m0 m1 p0 p1 p2 p3 p4 p5 p6 p7 HM HP
      go_wp2
      go_ret
      exact ⟨ret_bool (by rw [why]; first | done | rfl | (simp; omega) | simp), G2.out⟩
  · have hbc : decide (CrdOk xs ys) = false := decide_eq_false hcr
    have why : decide (CanP xs ys ca u) = false := decide_eq_false (fun h => hcr h.1)
    have HCR := Lib.hid (fun (w' : World) (gg : W.grownBy w' none) => show Calls Try.prog 73 #[.agg #[.slice a0 n0 c0, .slice a1 n1 c1]] w' (AnsN (.bool false) w') from hbc ▸ specCr_any w' _ n0 c0 _ n1 c1 xs ys (HA.out.kept gg) (HB.out.kept gg) hl0 hl1)
    
    clear hbc hcr qa hu
    go_enter Try.func61, Try.ntmps61
    go_wp2_with fail
    go_at_call 75
    refine (specCls_any _ _ _ _ QA.out (HD.out.kept (gby_alloc (gby_alloc (gby_refl _ _) _) _)) hl2).mono ?_
    rintro e w1 ⟨rfl, g1⟩
    have hm := row_held g1 (W := (W.alloc _).alloc _) (b := W.heap.size) (by rw [heap_alloc_old _ _ (by simp)]; exact heap_alloc_new W _)
    have hp := row_held g1 (W := (W.alloc _).alloc _) (b := W.heap.size + 1) (heap_pair W _ _)
    have G1 := Lib.hid (gby_trans (gby_alloc (gby_alloc (gby_refl W none) _) _) g1)
    clear g1
    obtain ⟨m0, m1⟩ := cr_row hm
    obtain ⟨p0, p1, p2, p3, p4, p5, p6, p7⟩ := pg_row hp
    have HM := Lib.hid hm
    have HP := Lib.hid hp
    clear hm hp
    go_wp2_with fail
    refine wp_region_grow (by kernel_rfl) (by kernel_rfl) ?_
    repeat (first
      | (refine gq_no (by rfl) ?_; (try simp only [Act.put, List.setIfInBounds_toArray, List.set_cons_zero, List.set_cons_succ]))
      | (refine gq_yes (by rfl) ?_ (fun wq hq => ?_) ?_; rotate_left; (· (go_simp; go_at_call 73; refine (HCR.out _ (gby_trans G1.out hq)).mono ?_; rintro e wr ⟨rfl, gr⟩; refine And.intro ?_ (gby_trans hq gr); rfl)); (try simp only [Act.put, List.setIfInBounds_toArray, List.set_cons_zero, List.set_cons_succ]))
      | (refine gq_yes (by rfl) ?_ (fun wq hq => ?_) ?_; rotate_left; (· (have y0 := hq.cell m0 (by simp); have y1 := hq.cell m1 (by simp); have y2 := hq.cell p0 (by simp); have y3 := hq.cell p1 (by simp); have y4 := hq.cell p2 (by simp); have y5 := hq.cell p3 (by simp); have y6 := hq.cell p4 (by simp); have y7 := hq.cell p5 (by simp); have y8 := hq.cell p6 (by simp); have y9 := hq.cell p7 (by simp); go_simp; (try rfl))); (try simp only [Act.put, List.setIfInBounds_toArray, List.set_cons_zero, List.set_cons_succ])))
    refine gq_nil ?_
    intro wr2 gz
    have G2 := Lib.hid (gby_trans G1.out gz)
    clear gz m0 m1 p0 p1 p2 p3 p4 p5 p6 p7 HM HP
    go_wp2
    go_ret
    exact ⟨ret_bool (by rw [why]; first | done | rfl | (simp; omega) | simp), G2.out⟩

set_option maxRecDepth 8000 in
set_option maxHeartbeats 4000000 in
theorem cover_any (W : World) (a0 : Option Addr) (n0 c0 : Nat) (a1 : Option Addr) (n1 c1 : Nat) (xs ys : List Int) (k f t a l g s : Int) (d : Option Addr) (n c : Nat) (ds : List Int) (ca : Int) (qa : ClsOf k f t a l g s ds ca) (H0 : ISl W a0 n0 xs) (H1 : ISl W a1 n1 ys) (H2 : ISl W d n ds) (hl0 : n0 ≤ 1048576) (hl1 : n1 ≤ 1048576) (hl2 : n ≤ 1048576) (u : Int) (hu : u = (((n + 3) / 4 : Nat) : Int)) (hcr : CrdOk xs ys) (h0 : 0 ≤ ca) :
    Calls Try.prog 109 #[crV a0 n0 c0 a1 n1 c1, pgV k f t a l g s d n c] W (AnsN (.bool (decide (CanP xs ys ca u))) W) := by
  have HA := Lib.hid H0
  have HB := Lib.hid H1
  have HD := Lib.hid H2
  have QA := Lib.hid qa
  obtain ⟨ra, ra'⟩ := qa.rng
  clear H0 H1 H2
  unfold crV pgV
  obtain ⟨m, rfl⟩ : ∃ m : Nat, ca = (m : Int) := ⟨ca.toNat, by omega⟩
  have e0 : n0 = 3 := HA.out.1.trans hcr.1.1
  have e1 : n1 = 3 := HB.out.1.trans hcr.2.1
  obtain ⟨b, off, rfl, hcell⟩ := HA.out.2.resolve_left (by omega)
  obtain ⟨b2, off2, rfl, hcell2⟩ := HB.out.2.resolve_left (by omega)
  have hc0 := hcell m (by omega)
  have hc1 := hcell2 m (by omega)
  have htn : ((m : Int)).toNat = m := by omega
  have m1 : (m : Int) < (n0 : Int) := by omega
  have m2 : (m : Int) < (n1 : Int) := by omega
  have hdef : CanP xs ys (m : Int) u ↔ 1 ≤ xs.getD m 0 ∧ u ≤ ys.getD m 0 := by
    unfold CanP
    rw [htn]
    exact ⟨fun h => h.2.2, fun h => ⟨hcr, by omega, h⟩⟩
  obtain ⟨x, hx⟩ : ∃ x, x = xs.getD m 0 := ⟨_, rfl⟩
  obtain ⟨y, hy⟩ : ∃ y, y = ys.getD m 0 := ⟨_, rfl⟩
  rw [← hx] at hc0
  rw [← hy] at hc1
  rw [← hx, ← hy] at hdef
  have HC0 := Lib.hid hc0
  have HC1 := Lib.hid hc1
  clear hcell hcell2 hc0 hc1 hx hy e0 e1
  have HPU := Lib.hid (fun (w' : World) (gg : W.grownBy w' none) => show Calls Try.prog 117 #[.agg #[.int .i64 k, .int .i64 f, .int .i64 t, .int .i64 a, .int .i64 l, .int .i64 g, .int .i64 s, .slice d n c]] w' (AnsG (.int .i64 u) w') from hu ▸ implPacketUnits_in k w' f t a l g s d n c ds (HD.out.kept gg) hl2 (QA.out.ok (by omega)))
  clear hu qa
  by_cases h1 : 1 ≤ x
  · by_cases h2 : u ≤ y
    · have why : decide (CanP xs ys (m : Int) u) = true := decide_eq_true (hdef.2 ⟨h1, h2⟩)
      clear hdef hcr
      go_enter Try.func109, Try.ntmps109
      go_wp2_with fail
      go_at_call 113
      refine (implCls_any _ _ _ _ QA.out (HD.out.kept (gby_alloc (gby_alloc (gby_refl _ _) _) _)) hl2).mono ?_
      rintro e w1 ⟨rfl, g1⟩
      have hm := row_held g1 (W := (W.alloc _).alloc _) (b := W.heap.size) (by rw [heap_alloc_old _ _ (by simp)]; exact heap_alloc_new W _)
      have hp := row_held g1 (W := (W.alloc _).alloc _) (b := W.heap.size + 1) (heap_pair W _ _)
      have G1 := Lib.hid (gby_trans (gby_alloc (gby_alloc (gby_refl W none) _) _) g1)
      clear g1
      obtain ⟨m0, m1⟩ := cr_row hm
      obtain ⟨p0, p1, p2, p3, p4, p5, p6, p7⟩ := pg_row hp
      have HM := Lib.hid hm
      have HP := Lib.hid hp
      clear hm hp
      have hx0 := G1.out.cell HC0.out (by simp)
      have hx1 := G1.out.cell HC1.out (by simp)
      go_wp2_with fail
      refine wp_region_grow (by kernel_rfl) (by kernel_rfl) ?_
      repeat (first
        | (refine gq_no (by rfl) ?_; (try simp only [Act.put, List.setIfInBounds_toArray, List.set_cons_zero, List.set_cons_succ]))
        | (refine gq_yes (by rfl) ?_ (fun wq hq => ?_) ?_; rotate_left; (· (go_simp; go_at_call 117; refine (HPU.out _ (gby_trans G1.out hq)).mono ?_; rintro e wr ⟨rfl, gr⟩; refine And.intro ?_ (gby_trans hq gr); rfl)); (try simp only [Act.put, List.setIfInBounds_toArray, List.set_cons_zero, List.set_cons_succ]))
        | (refine gq_yes (by rfl) ?_ (fun wq hq => ?_) ?_; rotate_left; (· (have y0 := hq.cell m0 (by simp); have y1 := hq.cell m1 (by simp); have y2 := hq.cell p0 (by simp); have y3 := hq.cell p1 (by simp); have y4 := hq.cell p2 (by simp); have y5 := hq.cell p3 (by simp); have y6 := hq.cell p4 (by simp); have y7 := hq.cell p5 (by simp); have y8 := hq.cell p6 (by simp); have y9 := hq.cell p7 (by simp); have y10 := hq.cell hx0 (by simp); have y11 := hq.cell hx1 (by simp); go_simp; (try rfl))); (try simp only [Act.put, List.setIfInBounds_toArray, List.set_cons_zero, List.set_cons_succ])))
      refine gq_nil ?_
      intro wr2 gz
      have G2 := Lib.hid (gby_trans G1.out gz)
      clear gz m0 m1 p0 p1 p2 p3 p4 p5 p6 p7 hx0 hx1 HM HP
      go_wp2
      go_ret
      exact ⟨ret_bool (by rw [why]; first | done | rfl | (simp; omega) | simp), G2.out⟩
    · have why : decide (CanP xs ys (m : Int) u) = false := decide_eq_false (fun h => h2 (hdef.1 h).2)
      clear hdef hcr
      go_enter Try.func109, Try.ntmps109
      go_wp2_with fail
      go_at_call 113
      refine (implCls_any _ _ _ _ QA.out (HD.out.kept (gby_alloc (gby_alloc (gby_refl _ _) _) _)) hl2).mono ?_
      rintro e w1 ⟨rfl, g1⟩
      have hm := row_held g1 (W := (W.alloc _).alloc _) (b := W.heap.size) (by rw [heap_alloc_old _ _ (by simp)]; exact heap_alloc_new W _)
      have hp := row_held g1 (W := (W.alloc _).alloc _) (b := W.heap.size + 1) (heap_pair W _ _)
      have G1 := Lib.hid (gby_trans (gby_alloc (gby_alloc (gby_refl W none) _) _) g1)
      clear g1
      obtain ⟨m0, m1⟩ := cr_row hm
      obtain ⟨p0, p1, p2, p3, p4, p5, p6, p7⟩ := pg_row hp
      have HM := Lib.hid hm
      have HP := Lib.hid hp
      clear hm hp
      have hx0 := G1.out.cell HC0.out (by simp)
      have hx1 := G1.out.cell HC1.out (by simp)
      go_wp2_with fail
      refine wp_region_grow (by kernel_rfl) (by kernel_rfl) ?_
      repeat (first
        | (refine gq_no (by rfl) ?_; (try simp only [Act.put, List.setIfInBounds_toArray, List.set_cons_zero, List.set_cons_succ]))
        | (refine gq_yes (by rfl) ?_ (fun wq hq => ?_) ?_; rotate_left; (· (go_simp; go_at_call 117; refine (HPU.out _ (gby_trans G1.out hq)).mono ?_; rintro e wr ⟨rfl, gr⟩; refine And.intro ?_ (gby_trans hq gr); rfl)); (try simp only [Act.put, List.setIfInBounds_toArray, List.set_cons_zero, List.set_cons_succ]))
        | (refine gq_yes (by rfl) ?_ (fun wq hq => ?_) ?_; rotate_left; (· (have y0 := hq.cell m0 (by simp); have y1 := hq.cell m1 (by simp); have y2 := hq.cell p0 (by simp); have y3 := hq.cell p1 (by simp); have y4 := hq.cell p2 (by simp); have y5 := hq.cell p3 (by simp); have y6 := hq.cell p4 (by simp); have y7 := hq.cell p5 (by simp); have y8 := hq.cell p6 (by simp); have y9 := hq.cell p7 (by simp); have y10 := hq.cell hx0 (by simp); have y11 := hq.cell hx1 (by simp); go_simp; (try rfl))); (try simp only [Act.put, List.setIfInBounds_toArray, List.set_cons_zero, List.set_cons_succ])))
      refine gq_nil ?_
      intro wr2 gz
      have G2 := Lib.hid (gby_trans G1.out gz)
      clear gz m0 m1 p0 p1 p2 p3 p4 p5 p6 p7 hx0 hx1 HM HP
      go_wp2
      go_ret
      exact ⟨ret_bool (by rw [why]; first | done | rfl | (simp; omega) | simp), G2.out⟩
  · have why : decide (CanP xs ys (m : Int) u) = false := decide_eq_false (fun h => h1 (hdef.1 h).1)
    skip
    have hd1 : decide (1 ≤ x) = false := decide_eq_false h1
    clear hdef hcr
    go_enter Try.func109, Try.ntmps109
    go_wp2_with fail
    go_at_call 113
    refine (implCls_any _ _ _ _ QA.out (HD.out.kept (gby_alloc (gby_alloc (gby_refl _ _) _) _)) hl2).mono ?_
    rintro e w1 ⟨rfl, g1⟩
    have hm := row_held g1 (W := (W.alloc _).alloc _) (b := W.heap.size) (by rw [heap_alloc_old _ _ (by simp)]; exact heap_alloc_new W _)
    have hp := row_held g1 (W := (W.alloc _).alloc _) (b := W.heap.size + 1) (heap_pair W _ _)
    have G1 := Lib.hid (gby_trans (gby_alloc (gby_alloc (gby_refl W none) _) _) g1)
    clear g1
    obtain ⟨m0, m1⟩ := cr_row hm
    obtain ⟨p0, p1, p2, p3, p4, p5, p6, p7⟩ := pg_row hp
    have HM := Lib.hid hm
    have HP := Lib.hid hp
    clear hm hp
    have hx0 := G1.out.cell HC0.out (by simp)
    have hx1 := G1.out.cell HC1.out (by simp)
    go_wp2_with fail
    try go_quiet (fail)
    go_wp2
    go_ret
    exact ⟨ret_bool (by rw [why]; first | done | rfl | (simp; omega) | simp), by first | exact G1.out | exact gby_drewN G1.out _⟩

set_option maxRecDepth 8000 in
set_option maxHeartbeats 4000000 in
theorem implCan_any (W : World) (a0 : Option Addr) (n0 c0 : Nat) (a1 : Option Addr) (n1 c1 : Nat) (xs ys : List Int) (k f t a l g s : Int) (d : Option Addr) (n c : Nat) (ds : List Int) (ca : Int) (qa : ClsOf k f t a l g s ds ca) (H0 : ISl W a0 n0 xs) (H1 : ISl W a1 n1 ys) (H2 : ISl W d n ds) (hl0 : n0 ≤ 1048576) (hl1 : n1 ≤ 1048576) (hl2 : n ≤ 1048576) (u : Int) (hu : u = (((n + 3) / 4 : Nat) : Int)) :
    Calls Try.prog 67 #[crV a0 n0 c0 a1 n1 c1, pgV k f t a l g s d n c] W (AnsN (.bool (decide (CanP xs ys ca u))) W) := by
  have HA := Lib.hid H0
  have HB := Lib.hid H1
  have HD := Lib.hid H2
  have QA := Lib.hid qa
  obtain ⟨ra, ra'⟩ := qa.rng
  clear H0 H1 H2
  by_cases hcr : CrdOk xs ys
  · have hbc : decide (CrdOk xs ys) = true := decide_eq_true hcr
    have HCR := Lib.hid (fun (w' : World) (gg : W.grownBy w' none) => show Calls Try.prog 78 #[.agg #[.slice a0 n0 c0, .slice a1 n1 c1]] w' (AnsN (.bool true) w') from hbc ▸ implCr_any w' _ n0 c0 _ n1 c1 xs ys (HA.out.kept gg) (HB.out.kept gg) hl0 hl1)
    
    by_cases h0 : 0 ≤ ca
    · obtain ⟨z, why⟩ : ∃ z, decide (CanP xs ys ca u) = z := ⟨_, rfl⟩
      have HCV := Lib.hid (fun (w' : World) (gg : W.grownBy w' none) => show Calls Try.prog 109 #[crV a0 n0 c0 a1 n1 c1, pgV k f t a l g s d n c] w' (AnsN (.bool z) w') from why ▸ cover_any w' a0 n0 c0 a1 n1 c1 xs ys k f t a l g s d n c ds ca qa (HA.out.kept gg) (HB.out.kept gg) (HD.out.kept gg) hl0 hl1 hl2 u hu hcr h0)
      rw [why]
      have why : z = z := rfl
      unfold crV pgV
      clear hbc hcr hu qa
      go_enter Try.func67, Try.ntmps67
      go_wp2_with fail
      go_at_call 78
      refine (HCR.out _ (gby_alloc (gby_alloc (gby_refl _ _) _) _)).mono ?_
      rintro e w1 ⟨rfl, g1⟩
      have hm := row_held g1 (W := (W.alloc _).alloc _) (b := W.heap.size) (by rw [heap_alloc_old _ _ (by simp)]; exact heap_alloc_new W _)
      have hp := row_held g1 (W := (W.alloc _).alloc _) (b := W.heap.size + 1) (heap_pair W _ _)
      have G1 := Lib.hid (gby_trans (gby_alloc (gby_alloc (gby_refl W none) _) _) g1)
      clear g1
      obtain ⟨m0, m1⟩ := cr_row hm
      obtain ⟨p0, p1, p2, p3, p4, p5, p6, p7⟩ := pg_row hp
      have HM := Lib.hid hm
      have HP := Lib.hid hp
      clear hm hp
      go_wp2_with fail
      go_at_call 107
      refine (implPk_yes _ _ _ _ QA.out (by omega) (HD.out.kept G1.out) hl2).mono ?_
      rintro e w2 ⟨rfl, g1⟩
      have hm := row_held g1 HM.out
      have hp := row_held g1 HP.out
      have G2 := Lib.hid (gby_trans G1.out g1)
      clear g1 m0 m1 p0 p1 p2 p3 p4 p5 p6 p7 HM HP
      obtain ⟨m0, m1⟩ := cr_row hm
      obtain ⟨p0, p1, p2, p3, p4, p5, p6, p7⟩ := pg_row hp
      have HM := Lib.hid hm
      have HP := Lib.hid hp
      clear hm hp
      go_wp2_with fail
      go_at_call 109
      refine (HCV.out _ G2.out).mono ?_
      rintro e w3 ⟨rfl, g1⟩
      have hm := row_held g1 HM.out
      have hp := row_held g1 HP.out
      have G3 := Lib.hid (gby_trans G2.out g1)
      clear g1 m0 m1 p0 p1 p2 p3 p4 p5 p6 p7 HM HP
      obtain ⟨m0, m1⟩ := cr_row hm
      obtain ⟨p0, p1, p2, p3, p4, p5, p6, p7⟩ := pg_row hp
      have HM := Lib.hid hm
      have HP := Lib.hid hp
      clear hm hp
      go_wp2
      go_ret
      exact ⟨rfl, G3.out⟩
    · have why : decide (CanP xs ys ca u) = false := decide_eq_false (fun h => h0 h.2.1)
      skip
      have hd0 : decide (0 ≤ ca) = false := decide_eq_false h0
      unfold crV pgV
      clear hbc hcr hu qa
      go_enter Try.func67, Try.ntmps67
      go_wp2_with fail
      go_at_call 78
      refine (HCR.out _ (gby_alloc (gby_alloc (gby_refl _ _) _) _)).mono ?_
      rintro e w1 ⟨rfl, g1⟩
      have hm := row_held g1 (W := (W.alloc _).alloc _) (b := W.heap.size) (by rw [heap_alloc_old _ _ (by simp)]; exact heap_alloc_new W _)
      have hp := row_held g1 (W := (W.alloc _).alloc _) (b := W.heap.size + 1) (heap_pair W _ _)
      have G1 := Lib.hid (gby_trans (gby_alloc (gby_alloc (gby_refl W none) _) _) g1)
      clear g1
      obtain ⟨m0, m1⟩ := cr_row hm
      obtain ⟨p0, p1, p2, p3, p4, p5, p6, p7⟩ := pg_row hp
      have HM := Lib.hid hm
      have HP := Lib.hid hp
      clear hm hp
      go_wp2_with fail
      go_at_call 107
      refine (implPk_no _ _ _ _ QA.out (by omega) (HD.out.kept G1.out) hl2).mono ?_
      rintro e w2 ⟨rfl, g1⟩
      have hm := row_held g1 HM.out
      have hp := row_held g1 HP.out
      have G2 := Lib.hid (gby_trans G1.out g1)
      clear g1 m0 m1 p0 p1 p2 p3 p4 p5 p6 p7 HM HP
      obtain ⟨m0, m1⟩ := cr_row hm
      obtain ⟨p0, p1, p2, p3, p4, p5, p6, p7⟩ := pg_row hp
      have HM := Lib.hid hm
      have HP := Lib.hid hp
      clear hm hp
      go_wp2
      go_ret
      exact ⟨ret_bool (by rw [why]), G2.out⟩
  · have hbc : decide (CrdOk xs ys) = false := decide_eq_false hcr
    have why : decide (CanP xs ys ca u) = false := decide_eq_false (fun h => hcr h.1)
    have HCR := Lib.hid (fun (w' : World) (gg : W.grownBy w' none) => show Calls Try.prog 78 #[.agg #[.slice a0 n0 c0, .slice a1 n1 c1]] w' (AnsN (.bool false) w') from hbc ▸ implCr_any w' _ n0 c0 _ n1 c1 xs ys (HA.out.kept gg) (HB.out.kept gg) hl0 hl1)
    
    unfold crV pgV
    clear hbc hcr hu qa
    go_enter Try.func67, Try.ntmps67
    go_wp2_with fail
    go_at_call 78
    refine (HCR.out _ (gby_alloc (gby_alloc (gby_refl _ _) _) _)).mono ?_
    rintro e w1 ⟨rfl, g1⟩
    have hm := row_held g1 (W := (W.alloc _).alloc _) (b := W.heap.size) (by rw [heap_alloc_old _ _ (by simp)]; exact heap_alloc_new W _)
    have hp := row_held g1 (W := (W.alloc _).alloc _) (b := W.heap.size + 1) (heap_pair W _ _)
    have G1 := Lib.hid (gby_trans (gby_alloc (gby_alloc (gby_refl W none) _) _) g1)
    clear g1
    obtain ⟨m0, m1⟩ := cr_row hm
    obtain ⟨p0, p1, p2, p3, p4, p5, p6, p7⟩ := pg_row hp
    have HM := Lib.hid hm
    have HP := Lib.hid hp
    clear hm hp
    go_wp2
    go_ret
    exact ⟨ret_bool (by rw [why]), G1.out⟩

theorem can_both (xs ys : List Int) (k f t a l g s : Int) (ds : List Int) (hx : xs.length ≤ 1048576) (hy : ys.length ≤ 1048576) (hd : ds.length ≤ 1048576) : ∃ b : Bool,
    (∀ (W : World) (u0 u1 u2 : Option Addr) (v0 v1 v2 : Nat), RdI W (.slice u0 xs.length v0) xs → RdI W (.slice u1 ys.length v1) ys → RdI W (.slice u2 ds.length v2) ds → Calls Try.prog 61 #[crV u0 xs.length v0 u1 ys.length v1, pgV k f t a l g s u2 ds.length v2] W (AnsN (.bool b) W)) ∧
    ∀ (W : World) (u0 u1 u2 : Option Addr) (v0 v1 v2 : Nat), RdI W (.slice u0 xs.length v0) xs → RdI W (.slice u1 ys.length v1) ys → RdI W (.slice u2 ds.length v2) ds → Calls Try.prog 67 #[crV u0 xs.length v0 u1 ys.length v1, pgV k f t a l g s u2 ds.length v2] W (AnsN (.bool b) W) := by
  obtain ⟨ca, qa⟩ := clsOf_ex k f t a l g s ds
  exact ⟨_, fun W u0 u1 u2 v0 v1 v2 H0 H1 H2 => specCan_any W u0 _ v0 u1 _ v1 xs ys k f t a l g s u2 _ v2 ds ca qa H0.isl' H1.isl' H2.isl' hx hy hd _ rfl,
    fun W u0 u1 u2 v0 v1 v2 H0 H1 H2 => implCan_any W u0 _ v0 u1 _ v1 xs ys k f t a l g s u2 _ v2 ds ca qa H0.isl' H1.isl' H2.isl' hx hy hd _ rfl⟩

end Go.Proofs.Ytnighnkkeiegnaa

namespace Go.Proofs.Ytnighnkkeiegnaa
open Go Go.RowKit
set_option linter.unusedVariables false

theorem iff_no' {p : Prop} (h : ¬ p) : false = true ↔ p := ⟨fun q => (by cases q), fun q => absurd q h⟩
theorem iff_yes' {p : Prop} (h : p) : true = true ↔ p := ⟨fun _ => h, fun _ => rfl⟩
theorem mem_at {ys : List Int} {x : Int} : x ∈ ys ↔ ∃ k, k < ys.length ∧ ys.getD k 0 = x := by
  rw [List.mem_iff_getElem?]
  constructor
  · rintro ⟨k, hk⟩
    obtain ⟨h1, h2⟩ := List.getElem?_eq_some_iff.1 hk
    exact ⟨k, h1, by rw [List.getD_eq_getElem?_getD, hk]; rfl⟩
  · rintro ⟨k, h1, h2⟩
    exact ⟨k, by rw [List.getElem?_eq_getElem h1]; rw [List.getD_eq_getElem?_getD, List.getElem?_eq_getElem h1] at h2; exact congrArg some h2⟩

theorem contains_any (W : World) (v : Value) (ys : List Int) (x : Int) (H : RdL shI W v ys) (hl : ys.length ≤ 1048576) : Calls Try.prog 68 #[v, .int .i64 x] W (BPost (x ∈ ys) W) := by
  obtain ⟨a0, cap, rfl, hcap, hi⟩ := rdI1_in H
  rcases hi with h0 | ⟨b, off, rfl, hc⟩
  · obtain rfl : ys = [] := List.eq_nil_of_length_eq_zero h0
    exact (Try.slices_Contains_int_empty a0 cap x W).mono (by rintro e w' ⟨rfl, rfl⟩; exact ⟨false, rfl, iff_no' (by simp), gby_refl _ _⟩)
  · exact (Try.slices_Contains_int b off ys.length cap ys x W (Nat.le_refl _) (by omega) hc).mono (by rintro e w' ⟨rfl, rfl⟩; exact ⟨_, rfl, by simp, gby_refl _ _⟩)

end Go.Proofs.Ytnighnkkeiegnaa

namespace Go.Proofs.Ytnighnkkeiegnaa
open Go Go.RowKit
set_option linter.unusedVariables false

def canD (hs us : List Int) (p : DPacket) : Bool := decide (CanP hs us (clsD p) (untD p))
theorem canD_ok {hs us : List Int} {p : DPacket} (h : canD hs us p = true) : CrdOk hs us ∧ 0 ≤ clsD p := by
  have h := of_decide_eq_true h
  exact ⟨h.1, h.2.1⟩
/-- the last of the first n can be sent, and does not go -/
def lastB (hs us : List Int) (xs : List DPacket) (n : Nat) : Bool := canD hs us (xs.getD n default) && !goesP xs n
def blkN (hs us : List Int) (xs : List DPacket) : Nat → Nat
  | 0 => 0
  | n + 1 => if lastB hs us xs n = true then blkN hs us xs n + 1 else blkN hs us xs n
theorem blkN_le (hs us : List Int) (xs : List DPacket) : ∀ n, blkN hs us xs n ≤ n
  | 0 => Nat.le_refl _
  | n + 1 => by
    have := blkN_le hs us xs n
    unfold blkN
    split <;> omega
theorem passL_mem (xs : List DPacket) (k : Int) : ∀ n : Nat, k ∈ passL xs n ↔ 0 ≤ k ∧ k < (n : Int) ∧ goesP xs k.toNat = true
  | 0 => by constructor
            · intro h; exact absurd h List.not_mem_nil
            · rintro ⟨h1, h2, _⟩; omega
  | n + 1 => by
    have ih := passL_mem xs k n
    show k ∈ (if goesP xs n = true then passL xs n ++ [(n : Int)] else passL xs n) ↔ _
    by_cases hg : goesP xs n = true
    · rw [if_pos hg, List.mem_append, ih, List.mem_singleton]
      constructor
      · rintro (⟨a, b, c⟩ | rfl)
        · exact ⟨a, by omega, c⟩
        · exact ⟨by omega, by omega, by rw [show ((n : Int)).toNat = n by omega]; exact hg⟩
      · rintro ⟨a, b, c⟩
        by_cases e : k = (n : Int)
        · exact .inr e
        · exact .inl ⟨a, by omega, c⟩
    · rw [if_neg hg, ih]
      constructor
      · rintro ⟨a, b, c⟩; exact ⟨a, by omega, c⟩
      · rintro ⟨a, b, c⟩
        refine ⟨a, ?_, c⟩
        by_cases e : k = (n : Int)
        · subst e
          rw [show ((n : Int)).toNat = n by omega] at c
          exact absurd c hg
        · omega
theorem passL_goes (xs : List DPacket) (n k : Nat) (h : k < n) : ((k : Int) ∈ passL xs n) ↔ goesP xs k = true := by
  rw [passL_mem]
  constructor
  · rintro ⟨_, _, c⟩; rwa [show ((k : Int)).toNat = k by omega] at c
  · intro c; exact ⟨by omega, by omega, by rw [show ((k : Int)).toNat = k by omega]; exact c⟩
/-- the first of these that can be sent -/
def nextIn (hs us : List Int) (xs : List DPacket) : List Int → Int
  | [] => -1
  | i :: r => if canD hs us (xs.getD i.toNat default) = true then i else nextIn hs us xs r
theorem nextIn_none (hs us : List Int) (xs : List DPacket) : ∀ l : List Int, (∀ i ∈ l, canD hs us (xs.getD i.toNat default) = false) → nextIn hs us xs l = -1
  | [], _ => rfl
  | i :: r, h => by
    unfold nextIn
    rw [if_neg (by rw [h i List.mem_cons_self]; decide)]
    exact nextIn_none hs us xs r (fun j hj => h j (List.mem_cons_of_mem _ hj))
theorem nextIn_first (hs us : List Int) (xs : List DPacket) : ∀ (l : List Int) (k : Nat), k < l.length → (∀ j, j < k → canD hs us (xs.getD (l.getD j 0).toNat default) = false) → canD hs us (xs.getD (l.getD k 0).toNat default) = true → nextIn hs us xs l = l.getD k 0
  | [], k, h, _, _ => absurd h (Nat.not_lt_zero _)
  | i :: r, 0, _, _, h2 => by
    have h2 : canD hs us (xs.getD i.toNat default) = true := h2
    unfold nextIn
    rw [if_pos h2]; rfl
  | i :: r, k + 1, hk, h1, h2 => by
    have h0 : canD hs us (xs.getD i.toNat default) = false := h1 0 (by omega)
    unfold nextIn
    rw [if_neg (by rw [h0]; decide)]
    exact nextIn_first hs us xs r k (by simpa using hk) (fun j hj => h1 (j + 1) (by omega)) h2
theorem passL_split (xs : List DPacket) (k n : Nat) (h : k < n) (hg : goesP xs k = true) : ∃ r, passL xs n = passL xs k ++ (k : Int) :: r := by
  induction n with
  | zero => omega
  | succ n ih =>
    by_cases e : k = n
    · subst e
      exact ⟨[], by show (if _ then _ else _) = _; rw [if_pos hg]⟩
    · obtain ⟨r, hr⟩ := ih (by omega)
      by_cases hn : goesP xs n = true
      · exact ⟨r ++ [(n : Int)], by show (if _ then _ else _) = _; rw [if_pos hn, hr]; simp⟩
      · exact ⟨r, by show (if _ then _ else _) = _; rw [if_neg hn, hr]⟩
/-- who goes next, told by the packets themselves -/
theorem next_at (hs us : List Int) (xs : List DPacket) (n k : Nat) (h : k < n) (h0 : ∀ j, j < k → goesP xs j = true → canD hs us (xs.getD j default) = false) (hg : goesP xs k = true) (hc : canD hs us (xs.getD k default) = true) : nextIn hs us xs (passL xs n) = (k : Int) := by
  obtain ⟨r, hr⟩ := passL_split xs k n h hg
  rw [hr]
  have e : ((passL xs k ++ (k : Int) :: r).getD (passL xs k).length 0) = (k : Int) := by
    rw [List.getD_eq_getElem?_getD, List.getElem?_append_right (Nat.le_refl _)]; simp
  have q := nextIn_first hs us xs (passL xs k ++ (k : Int) :: r) (passL xs k).length (by simp) (fun j hj => ?_) (by rw [e, show ((k : Int)).toNat = k by omega]; exact hc)
  · rw [q, e]
  · have hm : (passL xs k ++ (k : Int) :: r).getD j 0 ∈ passL xs k := by
      rw [List.getD_eq_getElem?_getD, List.getElem?_append_left hj, List.getElem?_eq_getElem hj]
      exact List.getElem_mem hj
    obtain ⟨a, b, c⟩ := (passL_mem xs _ k).1 hm
    exact h0 _ (by omega) c
theorem next_no (hs us : List Int) (xs : List DPacket) (n : Nat) (h0 : ∀ j, j < n → goesP xs j = true → canD hs us (xs.getD j default) = false) : nextIn hs us xs (passL xs n) = -1 :=
  nextIn_none hs us xs _ (fun i hi => by
    obtain ⟨a, b, c⟩ := (passL_mem xs i n).1 hi
    exact h0 _ (by omega) c)

theorem specCanD (W : World) (hs us : List Int) (p : DPacket) (v0 v1 v : Value) (H0 : RdL shI W v0 hs) (H1 : RdL shI W v1 us) (H : RdL shI W v p.f7) (hl0 : szL shI hs ≤ 1048576) (hl1 : szL shI us ≤ 1048576) (hl : szL shI p.f7 ≤ 1048576) (b : Bool) (hb : b = canD hs us p) : Calls Try.prog 61 #[.agg #[v0, v1], vPacket p.f0 p.f1 p.f2 p.f3 p.f4 p.f5 p.f6 v] W (AnsN (.bool b) W) := by
  rw [szL_I] at hl0 hl1 hl
  obtain ⟨a0, c0, rfl, hi0, _⟩ := rdI_in H0
  obtain ⟨a1, c1, rfl, hi1, _⟩ := rdI_in H1
  obtain ⟨a, c, rfl, hi, _⟩ := rdI_in H
  rw [hb]
  exact specCan_any W a0 _ c0 a1 _ c1 hs us _ _ _ _ _ _ _ a _ c _ _ (clsD_of p) hi0 hi1 hi hl0 hl1 hl _ rfl

theorem implCanD (W : World) (hs us : List Int) (p : DPacket) (v0 v1 v : Value) (H0 : RdL shI W v0 hs) (H1 : RdL shI W v1 us) (H : RdL shI W v p.f7) (hl0 : szL shI hs ≤ 1048576) (hl1 : szL shI us ≤ 1048576) (hl : szL shI p.f7 ≤ 1048576) (b : Bool) (hb : b = canD hs us p) : Calls Try.prog 67 #[.agg #[v0, v1], vPacket p.f0 p.f1 p.f2 p.f3 p.f4 p.f5 p.f6 v] W (AnsN (.bool b) W) := by
  rw [szL_I] at hl0 hl1 hl
  obtain ⟨a0, c0, rfl, hi0, _⟩ := rdI_in H0
  obtain ⟨a1, c1, rfl, hi1, _⟩ := rdI_in H1
  obtain ⟨a, c, rfl, hi, _⟩ := rdI_in H
  rw [hb]
  exact implCan_any W a0 _ c0 a1 _ c1 hs us _ _ _ _ _ _ _ a _ c _ _ (clsD_of p) hi0 hi1 hi hl0 hl1 hl _ rfl

end Go.Proofs.Ytnighnkkeiegnaa
