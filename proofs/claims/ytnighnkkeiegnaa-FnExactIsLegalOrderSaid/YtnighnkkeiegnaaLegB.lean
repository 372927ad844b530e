/-
  IsLegalOrder, on both sides.
-/
import Derived.Test.YtnighnkkeiegnaaLegMath
import Derived.Test.YtnighnkkeiegnaaRIsLegalOrder
import Derived.Deep.RegionHeld3
namespace Go.Proofs.Ytnighnkkeiegnaa
open Go Go.RowKit
set_option linter.unusedVariables false

set_option maxRecDepth 8000 in
set_option maxHeartbeats 4000000 in
theorem specLeg_len (W : World) (v u : Value) (xs : List DPacket) (os : List Int) (H : RdL shPacket W v xs) (HO_ : RdL shI W u os) (hl : szL shPacket xs ≤ 1048576) (hlo : szL shI os ≤ 1048576) (hp : ¬ os.length = xs.length) : Calls Try.prog 22 #[v, u] W (BPost (LegalP xs os) W) := by
  have HS := Lib.hid hl
  obtain ⟨a0, cap0, rfl, hcap, _, H⟩ := H
  have HC := Lib.hid H
  obtain ⟨n0, hn0⟩ : ∃ n, n = xs.length := ⟨_, rfl⟩
  have HE := Lib.hid hn0
  have hlx : n0 ≤ 1048576 := by have := szL_len shPacket xs; omega
  rw [← hn0] at HC ⊢
  clear H hcap hl hn0
  obtain ⟨i1_, hi1_, hz0_, hz1_, hz2_⟩ := info_parts infoBool
  have hlo1_ : os.length ≤ 1048576 := by rw [szL_I] at hlo; exact hlo
  obtain ⟨a1, cap1, rfl, hcap1, hi1⟩ := rdI1_in HO_
  have hcp1 := hcap1.2
  have HA1 := Lib.hid hi1
  obtain ⟨n1, hn1⟩ : ∃ n, n = os.length := ⟨_, rfl⟩
  have HE1 := Lib.hid hn1
  unfold RdN1 at HA1
  rw [← hn1] at hlo1_ hcp1 HA1 ⊢
  clear HO_ hi1 hn1 hcap1 hlo
  have hne_ : ¬ n1 = n0 := by rw [HE1.out, HE.out]; exact hp
  clear hp
  have hnz_ : ((n1 : Int) == (n0 : Int)) = false := beq_eq_false_iff_ne.2 (by omega)
  go_enter Try.func22, Try.ntmps22
  go_wp2
  go_ret
  exact ⟨false, rfl, iff_noL (fun q => hne_ (by rw [HE.out, HE1.out]; exact q.1)), (gby_refl _ _)⟩

set_option maxRecDepth 8000 in
set_option maxHeartbeats 4000000 in
theorem specLeg_yes (W : World) (v u : Value) (xs : List DPacket) (os : List Int) (H : RdL shPacket W v xs) (HO_ : RdL shI W u os) (hl : szL shPacket xs ≤ 1048576) (hlo : szL shI os ≤ 1048576) (hp : os.length = xs.length) : Calls Try.prog 22 #[v, u] W (BPost (LegalP xs os) W) := by
  have HS := Lib.hid hl
  obtain ⟨a0, cap0, rfl, hcap, _, H⟩ := H
  have HC := Lib.hid H
  obtain ⟨n0, hn0⟩ : ∃ n, n = xs.length := ⟨_, rfl⟩
  have HE := Lib.hid hn0
  have hlx : n0 ≤ 1048576 := by have := szL_len shPacket xs; omega
  rw [← hn0] at HC ⊢
  clear H hcap hl hn0
  obtain ⟨i1_, hi1_, hz0_, hz1_, hz2_⟩ := info_parts infoBool
  have hlo1_ : os.length ≤ 1048576 := by rw [szL_I] at hlo; exact hlo
  obtain ⟨a1, cap1, rfl, hcap1, hi1⟩ := rdI1_in HO_
  have hcp1 := hcap1.2
  have HA1 := Lib.hid hi1
  obtain ⟨n1, hn1⟩ : ∃ n, n = os.length := ⟨_, rfl⟩
  have HE1 := Lib.hid hn1
  unfold RdN1 at HA1
  rw [← hn1] at hlo1_ hcp1 HA1 ⊢
  clear HO_ hi1 hn1 hcap1 hlo
  obtain ⟨n, hnn_⟩ : ∃ n, n = n0 := ⟨_, rfl⟩
  have hee_ : n = n1 := by rw [HE1.out, hnn_, HE.out]; exact hp.symm
  clear hp
  subst hnn_
  subst hee_
  go_enter Try.func22, Try.ntmps22
  go_wp2_with (at_make; refine wpList_make_full _ rfl _ _ 85 rfl W.heap.size 4 i1_ (.bool false) 1 Try.underlying85 hi1_ hz0_ hz1_ .i64 .i64 _ _ n rfl rfl rfl rfl (by rw [hz2_]; omega) (by unfold maxLen; omega) (Nat.le_refl _) ?_; intro w0 hown0 hgrow0; have HO0 := Lib.hid (ownB_made (by omega) hown0); have HG0 := Lib.hid hgrow0; clear hown0 hgrow0)
  have sz0_ := HG0.out.size
  have G1_ := Lib.hid (show (W).grownBy (w0) none from gby_trans (gby_refl _ _) HG0.out)
  go_wp2
  go_loopw [6, 7] (fun i y6 wr => ∃ (m : Nat) (bs : List Bool), i = .int .i64 (m : Int) ∧ m ≤ n ∧ (∃ q, y6 = q) ∧ bs.length = n ∧ GoodTo os n m ∧ SeenIs os m bs ∧ (∀ i k, i < k → k < m → PairOk xs os i k) ∧ OwL shB wr W.heap.size wr.heap.size (.slice (some ⟨W.heap.size, 0, none⟩) n n) bs ∧ W.grownBy wr none) (fun i _ _ => n - (intOf i).toNat)
  case atStart => exact ⟨0, List.replicate n false, rfl, by omega, ⟨_, rfl⟩, by simp, good_zero _ _, seen_zero _ _, fun i k _ hk => absurd hk (Nat.not_lt_zero _), HO0.out, G1_.out⟩
  case round =>
    obtain ⟨m, bs, rfl, hm, ⟨y6, rfl⟩, hbl_, hgd_, hse_, hpr_, hob_, hg⟩ := hrel
    have HGD := Lib.hid hgd_
    have HSE := Lib.hid hse_
    have HOB := Lib.hid hob_
    have HBL := Lib.hid hbl_
    have HPR := Lib.hid hpr_
    clear hgd_ hse_ hob_ hbl_ hpr_ HO0
    have G2_ := Lib.hid (show (W).grownBy (wr) none from hg)
    clear hg
    have hm0_ : (0 : Int) ≤ (m : Int) := by omega
    have htm : ((m : Int)).toNat = m := by omega
    by_cases hlm : m < n
    rotate_left
    · obtain rfl : m = n := by omega
      have hmi : ¬ (m : Int) < (m : Int) := by omega
      go_wp2
      go_ret
      exact ⟨true, rfl, iff_yesL ⟨by rw [← HE.out, ← HE1.out], by rw [← HE.out, ← HE1.out]; exact HGD.out, fun i k h1 h2 => HPR.out i k h1 (by rw [HE1.out]; exact h2)⟩, G2_.out⟩
    have hmi : (m : Int) < (n : Int) := by omega
    obtain ⟨b1, o1, rfl, hc1_⟩ := HA1.out.resolve_left (by omega)
    have hy_ := hc1_ m hlm
    have HC1 := Lib.hid hc1_
    clear hc1_
    obtain ⟨y, hye_⟩ : ∃ y, y = os.getD m 0 := ⟨_, rfl⟩
    rw [← hye_] at hy_
    have HY := Lib.hid hye_
    have HYC := Lib.hid hy_
    clear hye_ hy_
    have yc_ := (G2_.out).cell HYC.out (by simp)
    have hwm_ : IntKind.i64.wrap ((n : Int) - 1) = (n : Int) - 1 := IntWalk.i64_in _ (by omega)
    rcases (show (0 ≤ y ∧ y ≤ (n : Int) - 1) ∨ (y < 0 ∨ (n : Int) - 1 < y) by omega) with ⟨hy1_, hy2_⟩ | hyo_
    rotate_left
    · skip
      go_wp2_with fail
      go_at_call 69
      refine (in_no _ _ _ _ hyo_).mono ?_
      rintro e w1_ ⟨rfl, rfl⟩
      go_wp2
      go_ret
      exact ⟨false, rfl, iff_noL (fun q => good_out (n := n) (m := m) (k := os.length) (by rw [← HE1.out]; exact hlm) (by rw [← HY.out]; exact hyo_) (by rw [HE.out]; exact q.2.1)), G2_.out⟩
    obtain ⟨j, rfl⟩ : ∃ j : Nat, y = (j : Int) := ⟨y.toNat, by omega⟩
    have hjn_ : j < n := by omega
    have hjt_ : ((j : Int)).toNat = j := by omega
    have hji_ : (j : Int) < (n : Int) := by omega
    obtain ⟨bz, oz, cz, hvz_, hbz1_, hbz2_, hcz_, hfz_, hsz_⟩ := owB_at HOB.out j (by have := HBL.out; omega)
    injection hvz_ with ez1_ ez2_ ez3_
    injection ez1_ with ez1_
    injection ez1_ with ez4_ ez5_
    subst ez4_ ez5_
    obtain ⟨bj, hbj_⟩ : ∃ b, b = bs.getD j false := ⟨_, rfl⟩
    rw [← hbj_] at hcz_
    have HBJ := Lib.hid hbj_
    have HSZ := Lib.hid (hsz_ true)
    clear hbj_ hsz_ ez2_ ez3_
    cases bj
    rotate_left
    · rw [Nat.zero_add] at hcz_ hfz_
      go_wp2_with fail
      go_at_call 69
      refine (in_yes _ _ _ _ hy1_ hy2_).mono ?_
      rintro e w1_ ⟨rfl, rfl⟩
      go_wp2
      go_ret
      exact ⟨false, rfl, iff_noL (fun q => good_twice (n := n) (m := m) (k := os.length) (by rw [← HE1.out]; exact hlm) HSE.out (by rw [HBL.out]; exact hjn_) HY.out.symm HBJ.out.symm (by rw [HE.out]; exact q.2.1)), G2_.out⟩
    rw [Nat.zero_add] at hcz_ hfz_
    go_wp2_with fail
    go_at_call 69
    refine (in_yes _ _ _ _ hy1_ hy2_).mono ?_
    rintro e w1_ ⟨rfl, rfl⟩
    have HOB2 := Lib.hid (show OwL shB (wr.setCell ⟨W.heap.size, j, none⟩ (.bool true)) W.heap.size (wr.setCell ⟨W.heap.size, j, none⟩ (.bool true)).heap.size (.slice (some ⟨W.heap.size, 0, none⟩) n n) (bs.set j true) from by
      have q := HSZ.out.1
      rw [Nat.zero_add] at q
      exact OwL.wide q (Nat.le_refl _) (by simp only [World.size_setCell]; omega))
    have HGS := Lib.hid (show W.grownBy (wr.setCell ⟨W.heap.size, j, none⟩ (.bool true)) none from gby_setnew G2_.out _ (by dsimp only; omega) _)
    have HGD2 := Lib.hid (good_next HGD.out HSE.out HBL.out hjn_ HY.out.symm HBJ.out.symm)
    have HSE2 := Lib.hid (seen_next HSE.out (by rw [HBL.out]; exact hjn_) HY.out.symm)
    clear HSZ HOB
    go_wp2
    clear yc_
    clear hcz_ hfz_
    generalize (wr.setCell ⟨W.heap.size, j, none⟩ (.bool true)) = ws at HOB2 HGS ⊢
    have G3_ := Lib.hid (show (W).grownBy (ws) none from HGS.out)
    have yc_ := (G3_.out).cell HYC.out (by simp)
    go_loopw [7] (fun i wr => ∃ t : Nat, i = .int .i64 (t : Int) ∧ t ≤ m ∧ (∀ i, i < t → PairOk xs os i m) ∧ (ws).grownBy wr none) (fun i _ => m - (intOf i).toNat)
    case atStart => exact ⟨0, rfl, by omega, fun j hj => absurd hj (Nat.not_lt_zero _), gby_refl _ _⟩
    case round =>
      clear yc_
      obtain ⟨t, rfl, ht_, hk_, hg⟩ := hrel
      have szrwr := hg.size
      try simp only [World.size_alloc] at szrwr
      try simp only [World.size_setCell] at szrwr
      have szr_ := szrwr
      have G4_ := Lib.hid (show (W).grownBy (wr) none from gby_trans G3_.out hg)
      have HTI_ := Lib.hid hg
      clear hg
      have yc_ := (G4_.out).cell HYC.out (by simp)
      have HK := Lib.hid hk_
      clear hk_
      have ht0_ : (0 : Int) ≤ (t : Int) := by omega
      have htt : ((t : Int)).toNat = t := by omega
      by_cases hlt : t < m
      rotate_left
      · obtain rfl : t = m := by omega
        have hti : ¬ (t : Int) < (t : Int) := by omega
        go_wp2
        refine ⟨⟨t + 1, bs.set j true, by go_num, by omega, ⟨_, rfl⟩, by rw [List.length_set]; exact HBL.out, HGD2.out, HSE2.out, fun i k h1 h2 => ?_, ?_, G4_.out⟩, by simp [intOf]; omega⟩
        · by_cases e : k = t
          · subst e; exact HK.out i h1
          · exact HPR.out i k h1 (by omega)
        · have q := OwL.grow HOB2.out HTI_.out
          exact OwL.wide q (Nat.le_refl _) (HTI_.out).size
      have hti : (t : Int) < (m : Int) := by omega
      have htl_ : t < n := by omega
      have htl2_ : (t : Int) < (n : Int) := by omega
      obtain ⟨p, hpe_⟩ : ∃ z9 : Nat, (z9 : Int) = os.getD t 0 := ⟨(os.getD t 0).toNat, by have := HGD2.out.1 t (by omega); omega⟩
      have hpn_ : p < n := by have := HGD2.out.1 t (by omega); omega
      have hpi_ : (p : Int) < (n : Int) := by omega
      have hpt_ : ((p : Int)).toNat = p := by omega
      have hp0_ : (0 : Int) ≤ (p : Int) := by omega
      have HpC := Lib.hid (show W.cell? ⟨b1, o1 + t, none⟩ = some (.int .i64 (p : Int)) from by rw [hpe_]; exact HC1.out t (by omega))
      have HpE := Lib.hid hpe_
      clear hpe_
      obtain ⟨ab, ao, rfl, hcell_⟩ := HC.out.resolve_left (by omega)
      have HCE := Lib.hid hcell_
      clear hcell_
      have pc_ := (G4_.out).cell HpC.out (by simp)
      by_cases hqp : j < p
      rotate_left
      · have hqi_ : ¬ (j : Int) < (p : Int) := by omega
        go_wp2_with fail
        refine wp_region_held_drew (S := fun w' => w'.cell? ⟨b1, o1 + m, none⟩ = some (.int .i64 (j : Int)) ∧ w'.cell? ⟨b1, o1 + t, none⟩ = some (.int .i64 (p : Int))) (by kernel_rfl) (by (try dsimp only); exact ⟨yc_, pc_⟩) (fun hHeld => ?_)
        refine wpAnyH_take (i := 0) (oi := { dst := some 51, op := Op.move (Operand.tmp 1), type := 23, pos := "l16_order.go:43", after := #[], guard := none }) (v := ?v0_r4_1) rfl (by kernel_rfl) (by kernel_rfl) (by kernel_rfl) (fun _ _ _ h => h) (Or.inl ⟨by rfl, ?y0_r4_1⟩) (by assumption) ?r0_r4_1
        case y0_r4_1 => (intro w hSw; (try dsimp only at hSw); go_simp; all_goals (with_reducible rfl))
        try simp only [Act.put, List.setIfInBounds_toArray, List.set_cons_zero, List.set_cons_succ]
        refine wpAnyH_take (i := 1) (oi := { dst := some 52, op := Op.move (Operand.tmp 6), type := 3, pos := "l16_order.go:43", after := #[], guard := none }) (v := ?v1_r4_2) rfl (by kernel_rfl) (by kernel_rfl) (by kernel_rfl) (fun _ _ _ h => h) (Or.inl ⟨by rfl, ?y1_r4_2⟩) (by assumption) ?r1_r4_2
        case y1_r4_2 => (intro w hSw; (try dsimp only at hSw); go_simp; all_goals (with_reducible rfl))
        try simp only [Act.put, List.setIfInBounds_toArray, List.set_cons_zero, List.set_cons_succ]
        refine wpAnyH_take (i := 2) (oi := { dst := some 53, op := Op.indexAddr 23 (Operand.tmp 51) (Operand.tmp 52), type := 0, pos := "l16_order.go:43", after := #[{ on := 0, ground := Ground.data }, { on := 1, ground := Ground.data }], guard := none }) (v := ?v2_r4_3) rfl (by kernel_rfl) (by kernel_rfl) (by kernel_rfl) (fun _ _ _ h => h) (Or.inl ⟨by rfl, ?y2_r4_3⟩) (by assumption) ?r2_r4_3
        case y2_r4_3 => (intro w hSw; (try dsimp only at hSw); go_simp; all_goals (with_reducible rfl))
        try simp only [Act.put, List.setIfInBounds_toArray, List.set_cons_zero, List.set_cons_succ]
        refine wpAnyH_take (i := 3) (oi := { dst := some 54, op := Op.load 3 (Operand.tmp 53), type := 3, pos := "l16_order.go:43", after := #[{ on := 2, ground := Ground.data }], guard := none }) (v := ?v3_r4_4) rfl (by kernel_rfl) (by kernel_rfl) (by kernel_rfl) (fun _ _ _ h => h) (Or.inl ⟨by rfl, ?y3_r4_4⟩) (by assumption) ?r3_r4_4
        case y3_r4_4 => (intro w hSw; (try dsimp only at hSw); go_simp; all_goals (with_reducible rfl))
        try simp only [Act.put, List.setIfInBounds_toArray, List.set_cons_zero, List.set_cons_succ]
        refine wpAnyH_take (i := 4) (oi := { dst := some 55, op := Op.move (Operand.tmp 1), type := 23, pos := "l16_order.go:43", after := #[], guard := none }) (v := ?v4_r4_5) rfl (by kernel_rfl) (by kernel_rfl) (by kernel_rfl) (fun _ _ _ h => h) (Or.inl ⟨by rfl, ?y4_r4_5⟩) (by assumption) ?r4_r4_5
        case y4_r4_5 => (intro w hSw; (try dsimp only at hSw); go_simp; all_goals (with_reducible rfl))
        try simp only [Act.put, List.setIfInBounds_toArray, List.set_cons_zero, List.set_cons_succ]
        refine wpAnyH_take (i := 5) (oi := { dst := some 56, op := Op.move (Operand.tmp 7), type := 3, pos := "l16_order.go:43", after := #[], guard := none }) (v := ?v5_r4_6) rfl (by kernel_rfl) (by kernel_rfl) (by kernel_rfl) (fun _ _ _ h => h) (Or.inl ⟨by rfl, ?y5_r4_6⟩) (by assumption) ?r5_r4_6
        case y5_r4_6 => (intro w hSw; (try dsimp only at hSw); go_simp; all_goals (with_reducible rfl))
        try simp only [Act.put, List.setIfInBounds_toArray, List.set_cons_zero, List.set_cons_succ]
        refine wpAnyH_take (i := 6) (oi := { dst := some 57, op := Op.indexAddr 23 (Operand.tmp 55) (Operand.tmp 56), type := 0, pos := "l16_order.go:43", after := #[{ on := 4, ground := Ground.data }, { on := 5, ground := Ground.data }], guard := none }) (v := ?v6_r4_7) rfl (by kernel_rfl) (by kernel_rfl) (by kernel_rfl) (fun _ _ _ h => h) (Or.inl ⟨by rfl, ?y6_r4_7⟩) (by assumption) ?r6_r4_7
        case y6_r4_7 => (intro w hSw; (try dsimp only at hSw); go_simp; all_goals (with_reducible rfl))
        try simp only [Act.put, List.setIfInBounds_toArray, List.set_cons_zero, List.set_cons_succ]
        refine wpAnyH_take (i := 7) (oi := { dst := some 58, op := Op.load 3 (Operand.tmp 57), type := 3, pos := "l16_order.go:43", after := #[{ on := 6, ground := Ground.data }], guard := none }) (v := ?v7_r4_8) rfl (by kernel_rfl) (by kernel_rfl) (by kernel_rfl) (fun _ _ _ h => h) (Or.inl ⟨by rfl, ?y7_r4_8⟩) (by assumption) ?r7_r4_8
        case y7_r4_8 => (intro w hSw; (try dsimp only at hSw); go_simp; all_goals (with_reducible rfl))
        try simp only [Act.put, List.setIfInBounds_toArray, List.set_cons_zero, List.set_cons_succ]
        refine wpAnyH_take (i := 8) (oi := { dst := some 59, op := Op.binOp BinOp.lss 3 (Operand.tmp 54) (Operand.tmp 58) 3, type := 4, pos := "l16_order.go:43", after := #[{ on := 3, ground := Ground.data }, { on := 7, ground := Ground.data }], guard := none }) (v := ?v8_r4_9) rfl (by kernel_rfl) (by kernel_rfl) (by kernel_rfl) (fun _ _ _ h => h) (Or.inl ⟨by rfl, ?y8_r4_9⟩) (by assumption) ?r8_r4_9
        case y8_r4_9 => (intro w hSw; (try dsimp only at hSw); go_simp; all_goals (with_reducible rfl))
        try simp only [Act.put, List.setIfInBounds_toArray, List.set_cons_zero, List.set_cons_succ]
        refine wpAnyH_take (i := 9) (oi := { dst := some 60, op := Op.move (Operand.tmp 59), type := 4, pos := "l16_order.go:43", after := #[{ on := 8, ground := Ground.data }], guard := none }) (v := ?v9_r4_10) rfl (by kernel_rfl) (by kernel_rfl) (by kernel_rfl) (fun _ _ _ h => h) (Or.inl ⟨by rfl, ?y9_r4_10⟩) (by assumption) ?r9_r4_10
        case y9_r4_10 => (intro w hSw; (try dsimp only at hSw); go_simp; all_goals (with_reducible rfl))
        try simp only [Act.put, List.setIfInBounds_toArray, List.set_cons_zero, List.set_cons_succ]
        refine wpAnyH_take (i := 10) (oi := { dst := some 61, op := Op.move (Operand.tmp 0), type := 30, pos := "l16_order.go:43", after := #[{ on := 9, ground := Ground.guard }], guard := some (9, true) }) (v := undef) rfl (by kernel_rfl) (by kernel_rfl) (by kernel_rfl) (fun _ _ _ h => h) (Or.inr ⟨by rfl, rfl⟩) (by assumption) ?r10_r4_11
        try simp only [Act.put, List.setIfInBounds_toArray, List.set_cons_zero, List.set_cons_succ]
        refine wpAnyH_take (i := 11) (oi := { dst := some 62, op := Op.move (Operand.tmp 1), type := 23, pos := "l16_order.go:43", after := #[{ on := 9, ground := Ground.guard }], guard := some (9, true) }) (v := undef) rfl (by kernel_rfl) (by kernel_rfl) (by kernel_rfl) (fun _ _ _ h => h) (Or.inr ⟨by rfl, rfl⟩) (by assumption) ?r11_r4_12
        try simp only [Act.put, List.setIfInBounds_toArray, List.set_cons_zero, List.set_cons_succ]
        refine wpAnyH_take (i := 12) (oi := { dst := some 63, op := Op.move (Operand.tmp 7), type := 3, pos := "l16_order.go:43", after := #[{ on := 9, ground := Ground.guard }], guard := some (9, true) }) (v := undef) rfl (by kernel_rfl) (by kernel_rfl) (by kernel_rfl) (fun _ _ _ h => h) (Or.inr ⟨by rfl, rfl⟩) (by assumption) ?r12_r4_13
        try simp only [Act.put, List.setIfInBounds_toArray, List.set_cons_zero, List.set_cons_succ]
        refine wpAnyH_take (i := 13) (oi := { dst := some 64, op := Op.indexAddr 23 (Operand.tmp 62) (Operand.tmp 63), type := 0, pos := "l16_order.go:43", after := #[{ on := 11, ground := Ground.data }, { on := 12, ground := Ground.data }, { on := 9, ground := Ground.guard }], guard := some (9, true) }) (v := undef) rfl (by kernel_rfl) (by kernel_rfl) (by kernel_rfl) (fun _ _ _ h => h) (Or.inr ⟨by rfl, rfl⟩) (by assumption) ?r13_r4_14
        try simp only [Act.put, List.setIfInBounds_toArray, List.set_cons_zero, List.set_cons_succ]
        refine wpAnyH_take (i := 14) (oi := { dst := some 65, op := Op.load 3 (Operand.tmp 64), type := 3, pos := "l16_order.go:43", after := #[{ on := 13, ground := Ground.data }, { on := 9, ground := Ground.guard }], guard := some (9, true) }) (v := undef) rfl (by kernel_rfl) (by kernel_rfl) (by kernel_rfl) (fun _ _ _ h => h) (Or.inr ⟨by rfl, rfl⟩) (by assumption) ?r14_r4_15
        try simp only [Act.put, List.setIfInBounds_toArray, List.set_cons_zero, List.set_cons_succ]
        refine wpAnyH_take (i := 15) (oi := { dst := some 66, op := Op.indexAddr 30 (Operand.tmp 61) (Operand.tmp 65), type := 0, pos := "l16_order.go:43", after := #[{ on := 10, ground := Ground.data }, { on := 14, ground := Ground.data }, { on := 9, ground := Ground.guard }], guard := some (9, true) }) (v := undef) rfl (by kernel_rfl) (by kernel_rfl) (by kernel_rfl) (fun _ _ _ h => h) (Or.inr ⟨by rfl, rfl⟩) (by assumption) ?r15_r4_16
        try simp only [Act.put, List.setIfInBounds_toArray, List.set_cons_zero, List.set_cons_succ]
        refine wpAnyH_take (i := 16) (oi := { dst := some 67, op := Op.load 60 (Operand.tmp 66), type := 60, pos := "l16_order.go:43", after := #[{ on := 15, ground := Ground.data }, { on := 9, ground := Ground.guard }], guard := some (9, true) }) (v := undef) rfl (by kernel_rfl) (by kernel_rfl) (by kernel_rfl) (fun _ _ _ h => h) (Or.inr ⟨by rfl, rfl⟩) (by assumption) ?r16_r4_17
        try simp only [Act.put, List.setIfInBounds_toArray, List.set_cons_zero, List.set_cons_succ]
        refine wpAnyH_take (i := 17) (oi := { dst := some 68, op := Op.move (Operand.tmp 0), type := 30, pos := "l16_order.go:43", after := #[{ on := 9, ground := Ground.guard }], guard := some (9, true) }) (v := undef) rfl (by kernel_rfl) (by kernel_rfl) (by kernel_rfl) (fun _ _ _ h => h) (Or.inr ⟨by rfl, rfl⟩) (by assumption) ?r17_r4_18
        try simp only [Act.put, List.setIfInBounds_toArray, List.set_cons_zero, List.set_cons_succ]
        refine wpAnyH_take (i := 18) (oi := { dst := some 69, op := Op.move (Operand.tmp 1), type := 23, pos := "l16_order.go:43", after := #[{ on := 9, ground := Ground.guard }], guard := some (9, true) }) (v := undef) rfl (by kernel_rfl) (by kernel_rfl) (by kernel_rfl) (fun _ _ _ h => h) (Or.inr ⟨by rfl, rfl⟩) (by assumption) ?r18_r4_19
        try simp only [Act.put, List.setIfInBounds_toArray, List.set_cons_zero, List.set_cons_succ]
        refine wpAnyH_take (i := 19) (oi := { dst := some 70, op := Op.move (Operand.tmp 6), type := 3, pos := "l16_order.go:43", after := #[{ on := 9, ground := Ground.guard }], guard := some (9, true) }) (v := undef) rfl (by kernel_rfl) (by kernel_rfl) (by kernel_rfl) (fun _ _ _ h => h) (Or.inr ⟨by rfl, rfl⟩) (by assumption) ?r19_r4_20
        try simp only [Act.put, List.setIfInBounds_toArray, List.set_cons_zero, List.set_cons_succ]
        refine wpAnyH_take (i := 20) (oi := { dst := some 71, op := Op.indexAddr 23 (Operand.tmp 69) (Operand.tmp 70), type := 0, pos := "l16_order.go:43", after := #[{ on := 18, ground := Ground.data }, { on := 19, ground := Ground.data }, { on := 9, ground := Ground.guard }], guard := some (9, true) }) (v := undef) rfl (by kernel_rfl) (by kernel_rfl) (by kernel_rfl) (fun _ _ _ h => h) (Or.inr ⟨by rfl, rfl⟩) (by assumption) ?r20_r4_21
        try simp only [Act.put, List.setIfInBounds_toArray, List.set_cons_zero, List.set_cons_succ]
        refine wpAnyH_take (i := 21) (oi := { dst := some 72, op := Op.load 3 (Operand.tmp 71), type := 3, pos := "l16_order.go:43", after := #[{ on := 20, ground := Ground.data }, { on := 9, ground := Ground.guard }], guard := some (9, true) }) (v := undef) rfl (by kernel_rfl) (by kernel_rfl) (by kernel_rfl) (fun _ _ _ h => h) (Or.inr ⟨by rfl, rfl⟩) (by assumption) ?r21_r4_22
        try simp only [Act.put, List.setIfInBounds_toArray, List.set_cons_zero, List.set_cons_succ]
        refine wpAnyH_take (i := 22) (oi := { dst := some 73, op := Op.indexAddr 30 (Operand.tmp 68) (Operand.tmp 72), type := 0, pos := "l16_order.go:43", after := #[{ on := 17, ground := Ground.data }, { on := 21, ground := Ground.data }, { on := 9, ground := Ground.guard }], guard := some (9, true) }) (v := undef) rfl (by kernel_rfl) (by kernel_rfl) (by kernel_rfl) (fun _ _ _ h => h) (Or.inr ⟨by rfl, rfl⟩) (by assumption) ?r22_r4_23
        try simp only [Act.put, List.setIfInBounds_toArray, List.set_cons_zero, List.set_cons_succ]
        refine wpAnyH_take (i := 23) (oi := { dst := some 74, op := Op.load 60 (Operand.tmp 73), type := 60, pos := "l16_order.go:43", after := #[{ on := 22, ground := Ground.data }, { on := 9, ground := Ground.guard }], guard := some (9, true) }) (v := undef) rfl (by kernel_rfl) (by kernel_rfl) (by kernel_rfl) (fun _ _ _ h => h) (Or.inr ⟨by rfl, rfl⟩) (by assumption) ?r23_r4_24
        try simp only [Act.put, List.setIfInBounds_toArray, List.set_cons_zero, List.set_cons_succ]
        refine wpAnyH_take (i := 24) (oi := { dst := some 75, op := Op.call { callee := Callee.value (Operand.func 70), args := #[Operand.tmp 67, Operand.tmp 74], argTypes := #[60, 60] }, type := 4, pos := "l16_order.go:43", after := #[{ on := 16, ground := Ground.data }, { on := 23, ground := Ground.data }, { on := 9, ground := Ground.chain }, { on := 9, ground := Ground.guard }], guard := some (9, true) }) (v := undef) rfl (by kernel_rfl) (by kernel_rfl) (by kernel_rfl) (fun _ _ _ h => h) (Or.inr ⟨by rfl, rfl⟩) (by assumption) ?r24_r4_25
        try simp only [Act.put, List.setIfInBounds_toArray, List.set_cons_zero, List.set_cons_succ]
        refine wpAnyH_take (i := 25) (oi := { dst := some 76, op := Op.unOp UnOp.not 4 (Operand.tmp 75), type := 4, pos := "l16_order.go:43", after := #[{ on := 24, ground := Ground.data }, { on := 9, ground := Ground.guard }], guard := some (9, true) }) (v := undef) rfl (by kernel_rfl) (by kernel_rfl) (by kernel_rfl) (fun _ _ _ h => h) (Or.inr ⟨by rfl, rfl⟩) (by assumption) ?r25_r4_26
        try simp only [Act.put, List.setIfInBounds_toArray, List.set_cons_zero, List.set_cons_succ]
        refine wpAnyH_take (i := 26) (oi := { dst := some 77, op := Op.pick (Operand.tmp 60) (Operand.tmp 76) (Operand.const (Value.bool false)), type := 4, pos := "l16_order.go:43", after := #[{ on := 9, ground := Ground.data }, { on := 25, ground := Ground.data }], guard := none }) (v := ?v26_r4_27) rfl (by kernel_rfl) (by kernel_rfl) (by kernel_rfl) (fun _ _ _ h => h) (Or.inl ⟨by rfl, ?y26_r4_27⟩) (by assumption) ?r26_r4_27
        case y26_r4_27 => (intro w hSw; (try dsimp only at hSw); go_simp; all_goals (with_reducible rfl))
        try simp only [Act.put, List.setIfInBounds_toArray, List.set_cons_zero, List.set_cons_succ]
        refine wpAnyH_done (by kernel_rfl) ?_ _
        have gR_ : (wr).grownBy ((wr).drew) none := (gby_drew (gby_refl _ none))
        clear yc_ pc_
        have G5_ := Lib.hid (show (W).grownBy ((wr).drew) none from gby_trans G4_.out gR_)
        have HTI6_ := Lib.hid (show (ws).grownBy ((wr).drew) none from gby_trans HTI_.out gR_)
        clear HTI_
        clear gR_
        have szd_ : ((wr).drew).heap.size = (wr).heap.size := rfl
        go_wp2
        refine ⟨⟨t + 1, by go_num, by omega, fun i hi => ?_, HTI6_.out⟩, by simp [intOf]; omega⟩
        by_cases e : i = t
        · subst e; intro h; rw [← HpE.out, ← HY.out] at h; omega
        · exact HK.out i (by omega)
      have hqi_ : (j : Int) < (p : Int) := by omega
      have hq_ : p < n := (by omega)
      obtain ⟨cs_, hat_, hrd_⟩ := HCE.out p (by omega)
      obtain ⟨xk, hx_⟩ : ∃ x, x = xs.getD p default := ⟨_, rfl⟩
      rw [← hx_] at hrd_
      have hzk_ : szL shI xk.f7 ≤ 1048576 := by have q1 := szL_at shPacket xs p (by have := HE.out; omega); rw [← hx_] at q1; exact Nat.le_trans q1 HS.out
      have HXk := Lib.hid hx_
      obtain ⟨v7_, rfl, r7_⟩ := hrd_
      obtain ⟨pk, nk, ck, hv_⟩ := RdL.form r7_
      subst hv_
      have Rk := Lib.hid r7_
      have HEk0 := Lib.hid (show W.cell? ⟨ab, ao + p * 8, none⟩ = some (.int .i64 xk.f0) from at_cell (j := 0) hat_ rfl)
      have HEk1 := Lib.hid (show W.cell? ⟨ab, ao + p * 8 + 1, none⟩ = some (.int .i64 xk.f1) from at_cell (j := 1) hat_ rfl)
      have HEk2 := Lib.hid (show W.cell? ⟨ab, ao + p * 8 + 2, none⟩ = some (.int .i64 xk.f2) from at_cell (j := 2) hat_ rfl)
      have HEk3 := Lib.hid (show W.cell? ⟨ab, ao + p * 8 + 3, none⟩ = some (.int .i64 xk.f3) from at_cell (j := 3) hat_ rfl)
      have HEk4 := Lib.hid (show W.cell? ⟨ab, ao + p * 8 + 4, none⟩ = some (.int .i64 xk.f4) from at_cell (j := 4) hat_ rfl)
      have HEk5 := Lib.hid (show W.cell? ⟨ab, ao + p * 8 + 5, none⟩ = some (.int .i64 xk.f5) from at_cell (j := 5) hat_ rfl)
      have HEk6 := Lib.hid (show W.cell? ⟨ab, ao + p * 8 + 6, none⟩ = some (.int .i64 xk.f6) from at_cell (j := 6) hat_ rfl)
      have HEk7 := Lib.hid (show W.cell? ⟨ab, ao + p * 8 + 7, none⟩ = some (.slice pk nk ck) from at_cell (j := 7) hat_ rfl)
      clear hat_ r7_ hx_ hq_
      have ek0_ := (G4_.out).cell HEk0.out (by simp)
      have ek1_ := (G4_.out).cell HEk1.out (by simp)
      have ek2_ := (G4_.out).cell HEk2.out (by simp)
      have ek3_ := (G4_.out).cell HEk3.out (by simp)
      have ek4_ := (G4_.out).cell HEk4.out (by simp)
      have ek5_ := (G4_.out).cell HEk5.out (by simp)
      have ek6_ := (G4_.out).cell HEk6.out (by simp)
      have ek7_ := (G4_.out).cell HEk7.out (by simp)
      have hq_ : j < n := (by omega)
      obtain ⟨cs_, hat_, hrd_⟩ := HCE.out j (by omega)
      obtain ⟨xi, hx_⟩ : ∃ x, x = xs.getD j default := ⟨_, rfl⟩
      rw [← hx_] at hrd_
      have hzi_ : szL shI xi.f7 ≤ 1048576 := by have q1 := szL_at shPacket xs j (by have := HE.out; omega); rw [← hx_] at q1; exact Nat.le_trans q1 HS.out
      have HXi := Lib.hid hx_
      obtain ⟨v7_, rfl, r7_⟩ := hrd_
      obtain ⟨pi, ni, ci, hv_⟩ := RdL.form r7_
      subst hv_
      have Ri := Lib.hid r7_
      have HEi0 := Lib.hid (show W.cell? ⟨ab, ao + j * 8, none⟩ = some (.int .i64 xi.f0) from at_cell (j := 0) hat_ rfl)
      have HEi1 := Lib.hid (show W.cell? ⟨ab, ao + j * 8 + 1, none⟩ = some (.int .i64 xi.f1) from at_cell (j := 1) hat_ rfl)
      have HEi2 := Lib.hid (show W.cell? ⟨ab, ao + j * 8 + 2, none⟩ = some (.int .i64 xi.f2) from at_cell (j := 2) hat_ rfl)
      have HEi3 := Lib.hid (show W.cell? ⟨ab, ao + j * 8 + 3, none⟩ = some (.int .i64 xi.f3) from at_cell (j := 3) hat_ rfl)
      have HEi4 := Lib.hid (show W.cell? ⟨ab, ao + j * 8 + 4, none⟩ = some (.int .i64 xi.f4) from at_cell (j := 4) hat_ rfl)
      have HEi5 := Lib.hid (show W.cell? ⟨ab, ao + j * 8 + 5, none⟩ = some (.int .i64 xi.f5) from at_cell (j := 5) hat_ rfl)
      have HEi6 := Lib.hid (show W.cell? ⟨ab, ao + j * 8 + 6, none⟩ = some (.int .i64 xi.f6) from at_cell (j := 6) hat_ rfl)
      have HEi7 := Lib.hid (show W.cell? ⟨ab, ao + j * 8 + 7, none⟩ = some (.slice pi ni ci) from at_cell (j := 7) hat_ rfl)
      clear hat_ r7_ hx_ hq_
      have ei0_ := (G4_.out).cell HEi0.out (by simp)
      have ei1_ := (G4_.out).cell HEi1.out (by simp)
      have ei2_ := (G4_.out).cell HEi2.out (by simp)
      have ei3_ := (G4_.out).cell HEi3.out (by simp)
      have ei4_ := (G4_.out).cell HEi4.out (by simp)
      have ei5_ := (G4_.out).cell HEi5.out (by simp)
      have ei6_ := (G4_.out).cell HEi6.out (by simp)
      have ei7_ := (G4_.out).cell HEi7.out (by simp)
      obtain ⟨mb_, hmb_⟩ : ∃ b, b = mayD xk xi := ⟨_, rfl⟩
      have HMB := Lib.hid hmb_
      clear hmb_
      have HMAY := Lib.hid (show ∀ w : World, RdL shI w (.slice pk nk ck) xk.f7 → RdL shI w (.slice pi ni ci) xi.f7 → Calls Try.prog 70 #[.agg #[.int .i64 xk.f0, .int .i64 xk.f1, .int .i64 xk.f2, .int .i64 xk.f3, .int .i64 xk.f4, .int .i64 xk.f5, .int .i64 xk.f6, .slice pk nk ck], .agg #[.int .i64 xi.f0, .int .i64 xi.f1, .int .i64 xi.f2, .int .i64 xi.f3, .int .i64 xi.f4, .int .i64 xi.f5, .int .i64 xi.f6, .slice pi ni ci]] w (AnsN (.bool mb_) w) from by rw [HMB.out]; exact fun w h1 h2 => specMayD w xk xi _ _ h1 h2 hzk_ hzi_)
      have HPO := Lib.hid (show PairOk xs os t m ↔ mb_ = true from by unfold PairOk; rw [← HpE.out, ← HY.out, hpt_, hjt_, ← HXk.out, ← HXi.out, HMB.out]; exact ⟨fun h => h hqi_, fun h _ => h⟩)
      cases mb_
      · skip
        go_wp2_with fail
        refine wp_region_held_drew (S := fun w' => w'.cell? ⟨b1, o1 + m, none⟩ = some (.int .i64 (j : Int)) ∧ w'.cell? ⟨b1, o1 + t, none⟩ = some (.int .i64 (p : Int)) ∧ w'.cell? ⟨ab, ao + p * 8, none⟩ = some (.int .i64 xk.f0) ∧ w'.cell? ⟨ab, ao + p * 8 + 1, none⟩ = some (.int .i64 xk.f1) ∧ w'.cell? ⟨ab, ao + p * 8 + 2, none⟩ = some (.int .i64 xk.f2) ∧ w'.cell? ⟨ab, ao + p * 8 + 3, none⟩ = some (.int .i64 xk.f3) ∧ w'.cell? ⟨ab, ao + p * 8 + 4, none⟩ = some (.int .i64 xk.f4) ∧ w'.cell? ⟨ab, ao + p * 8 + 5, none⟩ = some (.int .i64 xk.f5) ∧ w'.cell? ⟨ab, ao + p * 8 + 6, none⟩ = some (.int .i64 xk.f6) ∧ w'.cell? ⟨ab, ao + p * 8 + 7, none⟩ = some (.slice pk nk ck) ∧ w'.cell? ⟨ab, ao + j * 8, none⟩ = some (.int .i64 xi.f0) ∧ w'.cell? ⟨ab, ao + j * 8 + 1, none⟩ = some (.int .i64 xi.f1) ∧ w'.cell? ⟨ab, ao + j * 8 + 2, none⟩ = some (.int .i64 xi.f2) ∧ w'.cell? ⟨ab, ao + j * 8 + 3, none⟩ = some (.int .i64 xi.f3) ∧ w'.cell? ⟨ab, ao + j * 8 + 4, none⟩ = some (.int .i64 xi.f4) ∧ w'.cell? ⟨ab, ao + j * 8 + 5, none⟩ = some (.int .i64 xi.f5) ∧ w'.cell? ⟨ab, ao + j * 8 + 6, none⟩ = some (.int .i64 xi.f6) ∧ w'.cell? ⟨ab, ao + j * 8 + 7, none⟩ = some (.slice pi ni ci)) (by kernel_rfl) (by (try dsimp only); exact ⟨yc_, pc_, ek0_, ek1_, ek2_, ek3_, ek4_, ek5_, ek6_, ek7_, ei0_, ei1_, ei2_, ei3_, ei4_, ei5_, ei6_, ei7_⟩) (fun hHeld => ?_)
        refine wpAnyH_take (i := 0) (oi := { dst := some 51, op := Op.move (Operand.tmp 1), type := 23, pos := "l16_order.go:43", after := #[], guard := none }) (v := ?v0_r5_1) rfl (by kernel_rfl) (by kernel_rfl) (by kernel_rfl) (fun _ _ _ h => h) (Or.inl ⟨by rfl, ?y0_r5_1⟩) (by assumption) ?r0_r5_1
        case y0_r5_1 => (intro w hSw; (try dsimp only at hSw); go_simp; all_goals (with_reducible rfl))
        try simp only [Act.put, List.setIfInBounds_toArray, List.set_cons_zero, List.set_cons_succ]
        refine wpAnyH_take (i := 1) (oi := { dst := some 52, op := Op.move (Operand.tmp 6), type := 3, pos := "l16_order.go:43", after := #[], guard := none }) (v := ?v1_r5_2) rfl (by kernel_rfl) (by kernel_rfl) (by kernel_rfl) (fun _ _ _ h => h) (Or.inl ⟨by rfl, ?y1_r5_2⟩) (by assumption) ?r1_r5_2
        case y1_r5_2 => (intro w hSw; (try dsimp only at hSw); go_simp; all_goals (with_reducible rfl))
        try simp only [Act.put, List.setIfInBounds_toArray, List.set_cons_zero, List.set_cons_succ]
        refine wpAnyH_take (i := 2) (oi := { dst := some 53, op := Op.indexAddr 23 (Operand.tmp 51) (Operand.tmp 52), type := 0, pos := "l16_order.go:43", after := #[{ on := 0, ground := Ground.data }, { on := 1, ground := Ground.data }], guard := none }) (v := ?v2_r5_3) rfl (by kernel_rfl) (by kernel_rfl) (by kernel_rfl) (fun _ _ _ h => h) (Or.inl ⟨by rfl, ?y2_r5_3⟩) (by assumption) ?r2_r5_3
        case y2_r5_3 => (intro w hSw; (try dsimp only at hSw); go_simp; all_goals (with_reducible rfl))
        try simp only [Act.put, List.setIfInBounds_toArray, List.set_cons_zero, List.set_cons_succ]
        refine wpAnyH_take (i := 3) (oi := { dst := some 54, op := Op.load 3 (Operand.tmp 53), type := 3, pos := "l16_order.go:43", after := #[{ on := 2, ground := Ground.data }], guard := none }) (v := ?v3_r5_4) rfl (by kernel_rfl) (by kernel_rfl) (by kernel_rfl) (fun _ _ _ h => h) (Or.inl ⟨by rfl, ?y3_r5_4⟩) (by assumption) ?r3_r5_4
        case y3_r5_4 => (intro w hSw; (try dsimp only at hSw); go_simp; all_goals (with_reducible rfl))
        try simp only [Act.put, List.setIfInBounds_toArray, List.set_cons_zero, List.set_cons_succ]
        refine wpAnyH_take (i := 4) (oi := { dst := some 55, op := Op.move (Operand.tmp 1), type := 23, pos := "l16_order.go:43", after := #[], guard := none }) (v := ?v4_r5_5) rfl (by kernel_rfl) (by kernel_rfl) (by kernel_rfl) (fun _ _ _ h => h) (Or.inl ⟨by rfl, ?y4_r5_5⟩) (by assumption) ?r4_r5_5
        case y4_r5_5 => (intro w hSw; (try dsimp only at hSw); go_simp; all_goals (with_reducible rfl))
        try simp only [Act.put, List.setIfInBounds_toArray, List.set_cons_zero, List.set_cons_succ]
        refine wpAnyH_take (i := 5) (oi := { dst := some 56, op := Op.move (Operand.tmp 7), type := 3, pos := "l16_order.go:43", after := #[], guard := none }) (v := ?v5_r5_6) rfl (by kernel_rfl) (by kernel_rfl) (by kernel_rfl) (fun _ _ _ h => h) (Or.inl ⟨by rfl, ?y5_r5_6⟩) (by assumption) ?r5_r5_6
        case y5_r5_6 => (intro w hSw; (try dsimp only at hSw); go_simp; all_goals (with_reducible rfl))
        try simp only [Act.put, List.setIfInBounds_toArray, List.set_cons_zero, List.set_cons_succ]
        refine wpAnyH_take (i := 6) (oi := { dst := some 57, op := Op.indexAddr 23 (Operand.tmp 55) (Operand.tmp 56), type := 0, pos := "l16_order.go:43", after := #[{ on := 4, ground := Ground.data }, { on := 5, ground := Ground.data }], guard := none }) (v := ?v6_r5_7) rfl (by kernel_rfl) (by kernel_rfl) (by kernel_rfl) (fun _ _ _ h => h) (Or.inl ⟨by rfl, ?y6_r5_7⟩) (by assumption) ?r6_r5_7
        case y6_r5_7 => (intro w hSw; (try dsimp only at hSw); go_simp; all_goals (with_reducible rfl))
        try simp only [Act.put, List.setIfInBounds_toArray, List.set_cons_zero, List.set_cons_succ]
        refine wpAnyH_take (i := 7) (oi := { dst := some 58, op := Op.load 3 (Operand.tmp 57), type := 3, pos := "l16_order.go:43", after := #[{ on := 6, ground := Ground.data }], guard := none }) (v := ?v7_r5_8) rfl (by kernel_rfl) (by kernel_rfl) (by kernel_rfl) (fun _ _ _ h => h) (Or.inl ⟨by rfl, ?y7_r5_8⟩) (by assumption) ?r7_r5_8
        case y7_r5_8 => (intro w hSw; (try dsimp only at hSw); go_simp; all_goals (with_reducible rfl))
        try simp only [Act.put, List.setIfInBounds_toArray, List.set_cons_zero, List.set_cons_succ]
        refine wpAnyH_take (i := 8) (oi := { dst := some 59, op := Op.binOp BinOp.lss 3 (Operand.tmp 54) (Operand.tmp 58) 3, type := 4, pos := "l16_order.go:43", after := #[{ on := 3, ground := Ground.data }, { on := 7, ground := Ground.data }], guard := none }) (v := ?v8_r5_9) rfl (by kernel_rfl) (by kernel_rfl) (by kernel_rfl) (fun _ _ _ h => h) (Or.inl ⟨by rfl, ?y8_r5_9⟩) (by assumption) ?r8_r5_9
        case y8_r5_9 => (intro w hSw; (try dsimp only at hSw); go_simp; all_goals (with_reducible rfl))
        try simp only [Act.put, List.setIfInBounds_toArray, List.set_cons_zero, List.set_cons_succ]
        refine wpAnyH_take (i := 9) (oi := { dst := some 60, op := Op.move (Operand.tmp 59), type := 4, pos := "l16_order.go:43", after := #[{ on := 8, ground := Ground.data }], guard := none }) (v := ?v9_r5_10) rfl (by kernel_rfl) (by kernel_rfl) (by kernel_rfl) (fun _ _ _ h => h) (Or.inl ⟨by rfl, ?y9_r5_10⟩) (by assumption) ?r9_r5_10
        case y9_r5_10 => (intro w hSw; (try dsimp only at hSw); go_simp; all_goals (with_reducible rfl))
        try simp only [Act.put, List.setIfInBounds_toArray, List.set_cons_zero, List.set_cons_succ]
        refine wpAnyH_take (i := 10) (oi := { dst := some 61, op := Op.move (Operand.tmp 0), type := 30, pos := "l16_order.go:43", after := #[{ on := 9, ground := Ground.guard }], guard := some (9, true) }) (v := ?v10_r5_11) rfl (by kernel_rfl) (by kernel_rfl) (by kernel_rfl) (fun _ _ _ h => h) (Or.inl ⟨by rfl, ?y10_r5_11⟩) (by assumption) ?r10_r5_11
        case y10_r5_11 => (intro w hSw; (try dsimp only at hSw); go_simp; all_goals (with_reducible rfl))
        try simp only [Act.put, List.setIfInBounds_toArray, List.set_cons_zero, List.set_cons_succ]
        refine wpAnyH_take (i := 11) (oi := { dst := some 62, op := Op.move (Operand.tmp 1), type := 23, pos := "l16_order.go:43", after := #[{ on := 9, ground := Ground.guard }], guard := some (9, true) }) (v := ?v11_r5_12) rfl (by kernel_rfl) (by kernel_rfl) (by kernel_rfl) (fun _ _ _ h => h) (Or.inl ⟨by rfl, ?y11_r5_12⟩) (by assumption) ?r11_r5_12
        case y11_r5_12 => (intro w hSw; (try dsimp only at hSw); go_simp; all_goals (with_reducible rfl))
        try simp only [Act.put, List.setIfInBounds_toArray, List.set_cons_zero, List.set_cons_succ]
        refine wpAnyH_take (i := 12) (oi := { dst := some 63, op := Op.move (Operand.tmp 7), type := 3, pos := "l16_order.go:43", after := #[{ on := 9, ground := Ground.guard }], guard := some (9, true) }) (v := ?v12_r5_13) rfl (by kernel_rfl) (by kernel_rfl) (by kernel_rfl) (fun _ _ _ h => h) (Or.inl ⟨by rfl, ?y12_r5_13⟩) (by assumption) ?r12_r5_13
        case y12_r5_13 => (intro w hSw; (try dsimp only at hSw); go_simp; all_goals (with_reducible rfl))
        try simp only [Act.put, List.setIfInBounds_toArray, List.set_cons_zero, List.set_cons_succ]
        refine wpAnyH_take (i := 13) (oi := { dst := some 64, op := Op.indexAddr 23 (Operand.tmp 62) (Operand.tmp 63), type := 0, pos := "l16_order.go:43", after := #[{ on := 11, ground := Ground.data }, { on := 12, ground := Ground.data }, { on := 9, ground := Ground.guard }], guard := some (9, true) }) (v := ?v13_r5_14) rfl (by kernel_rfl) (by kernel_rfl) (by kernel_rfl) (fun _ _ _ h => h) (Or.inl ⟨by rfl, ?y13_r5_14⟩) (by assumption) ?r13_r5_14
        case y13_r5_14 => (intro w hSw; (try dsimp only at hSw); go_simp; all_goals (with_reducible rfl))
        try simp only [Act.put, List.setIfInBounds_toArray, List.set_cons_zero, List.set_cons_succ]
        refine wpAnyH_take (i := 14) (oi := { dst := some 65, op := Op.load 3 (Operand.tmp 64), type := 3, pos := "l16_order.go:43", after := #[{ on := 13, ground := Ground.data }, { on := 9, ground := Ground.guard }], guard := some (9, true) }) (v := ?v14_r5_15) rfl (by kernel_rfl) (by kernel_rfl) (by kernel_rfl) (fun _ _ _ h => h) (Or.inl ⟨by rfl, ?y14_r5_15⟩) (by assumption) ?r14_r5_15
        case y14_r5_15 => (intro w hSw; (try dsimp only at hSw); go_simp; all_goals (with_reducible rfl))
        try simp only [Act.put, List.setIfInBounds_toArray, List.set_cons_zero, List.set_cons_succ]
        refine wpAnyH_take (i := 15) (oi := { dst := some 66, op := Op.indexAddr 30 (Operand.tmp 61) (Operand.tmp 65), type := 0, pos := "l16_order.go:43", after := #[{ on := 10, ground := Ground.data }, { on := 14, ground := Ground.data }, { on := 9, ground := Ground.guard }], guard := some (9, true) }) (v := ?v15_r5_16) rfl (by kernel_rfl) (by kernel_rfl) (by kernel_rfl) (fun _ _ _ h => h) (Or.inl ⟨by rfl, ?y15_r5_16⟩) (by assumption) ?r15_r5_16
        case y15_r5_16 => (intro w hSw; (try dsimp only at hSw); go_simp; all_goals (with_reducible rfl))
        try simp only [Act.put, List.setIfInBounds_toArray, List.set_cons_zero, List.set_cons_succ]
        refine wpAnyH_take (i := 16) (oi := { dst := some 67, op := Op.load 60 (Operand.tmp 66), type := 60, pos := "l16_order.go:43", after := #[{ on := 15, ground := Ground.data }, { on := 9, ground := Ground.guard }], guard := some (9, true) }) (v := ?v16_r5_17) rfl (by kernel_rfl) (by kernel_rfl) (by kernel_rfl) (fun _ _ _ h => h) (Or.inl ⟨by rfl, ?y16_r5_17⟩) (by assumption) ?r16_r5_17
        case y16_r5_17 => (intro w hSw; (try dsimp only at hSw); go_simp; all_goals (with_reducible rfl))
        try simp only [Act.put, List.setIfInBounds_toArray, List.set_cons_zero, List.set_cons_succ]
        refine wpAnyH_take (i := 17) (oi := { dst := some 68, op := Op.move (Operand.tmp 0), type := 30, pos := "l16_order.go:43", after := #[{ on := 9, ground := Ground.guard }], guard := some (9, true) }) (v := ?v17_r5_18) rfl (by kernel_rfl) (by kernel_rfl) (by kernel_rfl) (fun _ _ _ h => h) (Or.inl ⟨by rfl, ?y17_r5_18⟩) (by assumption) ?r17_r5_18
        case y17_r5_18 => (intro w hSw; (try dsimp only at hSw); go_simp; all_goals (with_reducible rfl))
        try simp only [Act.put, List.setIfInBounds_toArray, List.set_cons_zero, List.set_cons_succ]
        refine wpAnyH_take (i := 18) (oi := { dst := some 69, op := Op.move (Operand.tmp 1), type := 23, pos := "l16_order.go:43", after := #[{ on := 9, ground := Ground.guard }], guard := some (9, true) }) (v := ?v18_r5_19) rfl (by kernel_rfl) (by kernel_rfl) (by kernel_rfl) (fun _ _ _ h => h) (Or.inl ⟨by rfl, ?y18_r5_19⟩) (by assumption) ?r18_r5_19
        case y18_r5_19 => (intro w hSw; (try dsimp only at hSw); go_simp; all_goals (with_reducible rfl))
        try simp only [Act.put, List.setIfInBounds_toArray, List.set_cons_zero, List.set_cons_succ]
        refine wpAnyH_take (i := 19) (oi := { dst := some 70, op := Op.move (Operand.tmp 6), type := 3, pos := "l16_order.go:43", after := #[{ on := 9, ground := Ground.guard }], guard := some (9, true) }) (v := ?v19_r5_20) rfl (by kernel_rfl) (by kernel_rfl) (by kernel_rfl) (fun _ _ _ h => h) (Or.inl ⟨by rfl, ?y19_r5_20⟩) (by assumption) ?r19_r5_20
        case y19_r5_20 => (intro w hSw; (try dsimp only at hSw); go_simp; all_goals (with_reducible rfl))
        try simp only [Act.put, List.setIfInBounds_toArray, List.set_cons_zero, List.set_cons_succ]
        refine wpAnyH_take (i := 20) (oi := { dst := some 71, op := Op.indexAddr 23 (Operand.tmp 69) (Operand.tmp 70), type := 0, pos := "l16_order.go:43", after := #[{ on := 18, ground := Ground.data }, { on := 19, ground := Ground.data }, { on := 9, ground := Ground.guard }], guard := some (9, true) }) (v := ?v20_r5_21) rfl (by kernel_rfl) (by kernel_rfl) (by kernel_rfl) (fun _ _ _ h => h) (Or.inl ⟨by rfl, ?y20_r5_21⟩) (by assumption) ?r20_r5_21
        case y20_r5_21 => (intro w hSw; (try dsimp only at hSw); go_simp; all_goals (with_reducible rfl))
        try simp only [Act.put, List.setIfInBounds_toArray, List.set_cons_zero, List.set_cons_succ]
        refine wpAnyH_take (i := 21) (oi := { dst := some 72, op := Op.load 3 (Operand.tmp 71), type := 3, pos := "l16_order.go:43", after := #[{ on := 20, ground := Ground.data }, { on := 9, ground := Ground.guard }], guard := some (9, true) }) (v := ?v21_r5_22) rfl (by kernel_rfl) (by kernel_rfl) (by kernel_rfl) (fun _ _ _ h => h) (Or.inl ⟨by rfl, ?y21_r5_22⟩) (by assumption) ?r21_r5_22
        case y21_r5_22 => (intro w hSw; (try dsimp only at hSw); go_simp; all_goals (with_reducible rfl))
        try simp only [Act.put, List.setIfInBounds_toArray, List.set_cons_zero, List.set_cons_succ]
        refine wpAnyH_take (i := 22) (oi := { dst := some 73, op := Op.indexAddr 30 (Operand.tmp 68) (Operand.tmp 72), type := 0, pos := "l16_order.go:43", after := #[{ on := 17, ground := Ground.data }, { on := 21, ground := Ground.data }, { on := 9, ground := Ground.guard }], guard := some (9, true) }) (v := ?v22_r5_23) rfl (by kernel_rfl) (by kernel_rfl) (by kernel_rfl) (fun _ _ _ h => h) (Or.inl ⟨by rfl, ?y22_r5_23⟩) (by assumption) ?r22_r5_23
        case y22_r5_23 => (intro w hSw; (try dsimp only at hSw); go_simp; all_goals (with_reducible rfl))
        try simp only [Act.put, List.setIfInBounds_toArray, List.set_cons_zero, List.set_cons_succ]
        refine wpAnyH_take (i := 23) (oi := { dst := some 74, op := Op.load 60 (Operand.tmp 73), type := 60, pos := "l16_order.go:43", after := #[{ on := 22, ground := Ground.data }, { on := 9, ground := Ground.guard }], guard := some (9, true) }) (v := ?v23_r5_24) rfl (by kernel_rfl) (by kernel_rfl) (by kernel_rfl) (fun _ _ _ h => h) (Or.inl ⟨by rfl, ?y23_r5_24⟩) (by assumption) ?r23_r5_24
        case y23_r5_24 => (intro w hSw; (try dsimp only at hSw); go_simp; all_goals (with_reducible rfl))
        try simp only [Act.put, List.setIfInBounds_toArray, List.set_cons_zero, List.set_cons_succ]
        refine wpAnyH_ready (rs := [24]) (by kernel_rfl) (by simp) ?_
        refine AllReadyH.cons (o := { dst := some 75, op := Op.call { callee := Callee.value (Operand.func 70), args := #[Operand.tmp 67, Operand.tmp 74], argTypes := #[60, 60] }, type := 4, pos := "l16_order.go:43", after := #[{ on := 16, ground := Ground.data }, { on := 23, ground := Ground.data }, { on := 9, ground := Ground.chain }, { on := 9, ground := Ground.guard }], guard := some (9, true) }) rfl (fun K hK => ?_) AllReadyH.nil
        go_simp
        go_at_call 70
        refine (HMAY.out _ (Rk.out.grow (gby_trans G4_.out (gby_drew (gby_refl _ none)))) (Ri.out.grow (gby_trans G4_.out (gby_drew (gby_refl _ none))))).mono ?_
        rintro e wH25_r5 ⟨rfl, gH25_r5⟩
        have m25_yc_ : wH25_r5.cell? _ = some _ := gH25_r5.cell yc_ (by simp); have m25_pc_ : wH25_r5.cell? _ = some _ := gH25_r5.cell pc_ (by simp); have m25_ek0_ : wH25_r5.cell? _ = some _ := gH25_r5.cell ek0_ (by simp); have m25_ek1_ : wH25_r5.cell? _ = some _ := gH25_r5.cell ek1_ (by simp); have m25_ek2_ : wH25_r5.cell? _ = some _ := gH25_r5.cell ek2_ (by simp); have m25_ek3_ : wH25_r5.cell? _ = some _ := gH25_r5.cell ek3_ (by simp); have m25_ek4_ : wH25_r5.cell? _ = some _ := gH25_r5.cell ek4_ (by simp); have m25_ek5_ : wH25_r5.cell? _ = some _ := gH25_r5.cell ek5_ (by simp); have m25_ek6_ : wH25_r5.cell? _ = some _ := gH25_r5.cell ek6_ (by simp); have m25_ek7_ : wH25_r5.cell? _ = some _ := gH25_r5.cell ek7_ (by simp); have m25_ei0_ : wH25_r5.cell? _ = some _ := gH25_r5.cell ei0_ (by simp); have m25_ei1_ : wH25_r5.cell? _ = some _ := gH25_r5.cell ei1_ (by simp); have m25_ei2_ : wH25_r5.cell? _ = some _ := gH25_r5.cell ei2_ (by simp); have m25_ei3_ : wH25_r5.cell? _ = some _ := gH25_r5.cell ei3_ (by simp); have m25_ei4_ : wH25_r5.cell? _ = some _ := gH25_r5.cell ei4_ (by simp); have m25_ei5_ : wH25_r5.cell? _ = some _ := gH25_r5.cell ei5_ (by simp); have m25_ei6_ : wH25_r5.cell? _ = some _ := gH25_r5.cell ei6_ (by simp); have m25_ei7_ : wH25_r5.cell? _ = some _ := gH25_r5.cell ei7_ (by simp)
        go_wp2_with fail
        clear hHeld
        refine hK.out _ _ ?s24_r5_25 (fun hHeld => ?_)
        case s24_r5_25 => exact ⟨m25_yc_, m25_pc_, m25_ek0_, m25_ek1_, m25_ek2_, m25_ek3_, m25_ek4_, m25_ek5_, m25_ek6_, m25_ek7_, m25_ei0_, m25_ei1_, m25_ei2_, m25_ei3_, m25_ei4_, m25_ei5_, m25_ei6_, m25_ei7_⟩
        clear hK K
        try simp only [Act.put, List.setIfInBounds_toArray, List.set_cons_zero, List.set_cons_succ]
        refine wpAnyH_take (i := 25) (oi := { dst := some 76, op := Op.unOp UnOp.not 4 (Operand.tmp 75), type := 4, pos := "l16_order.go:43", after := #[{ on := 24, ground := Ground.data }, { on := 9, ground := Ground.guard }], guard := some (9, true) }) (v := ?v25_r5_26) rfl (by kernel_rfl) (by kernel_rfl) (by kernel_rfl) (fun _ _ _ h => h) (Or.inl ⟨by rfl, ?y25_r5_26⟩) (by assumption) ?r25_r5_26
        case y25_r5_26 => (intro w hSw; (try dsimp only at hSw); go_simp; all_goals (with_reducible rfl))
        try simp only [Act.put, List.setIfInBounds_toArray, List.set_cons_zero, List.set_cons_succ]
        refine wpAnyH_take (i := 26) (oi := { dst := some 77, op := Op.pick (Operand.tmp 60) (Operand.tmp 76) (Operand.const (Value.bool false)), type := 4, pos := "l16_order.go:43", after := #[{ on := 9, ground := Ground.data }, { on := 25, ground := Ground.data }], guard := none }) (v := ?v26_r5_27) rfl (by kernel_rfl) (by kernel_rfl) (by kernel_rfl) (fun _ _ _ h => h) (Or.inl ⟨by rfl, ?y26_r5_27⟩) (by assumption) ?r26_r5_27
        case y26_r5_27 => (intro w hSw; (try dsimp only at hSw); go_simp; all_goals (with_reducible rfl))
        try simp only [Act.put, List.setIfInBounds_toArray, List.set_cons_zero, List.set_cons_succ]
        refine wpAnyH_done (by kernel_rfl) ?_ _
        have gR_ : (wr).grownBy (wH25_r5) none := (gby_trans (gby_drew (gby_refl _ none)) gH25_r5)
        have szwH25_r5 := gR_.size
        try simp only [World.size_alloc] at szwH25_r5
        clear yc_ pc_ ek0_ ek1_ ek2_ ek3_ ek4_ ek5_ ek6_ ek7_ ei0_ ei1_ ei2_ ei3_ ei4_ ei5_ ei6_ ei7_
        have G5_ := Lib.hid (show (W).grownBy (wH25_r5) none from gby_trans G4_.out gR_)
        have HTI6_ := Lib.hid (show (ws).grownBy (wH25_r5) none from gby_trans HTI_.out gR_)
        clear HTI_
        clear gR_
        go_wp2
        go_ret
        exact ⟨false, rfl, iff_noL (fun h => by simpa using HPO.out.1 (h.2.2 t m (by omega) (by rw [← HE1.out]; exact hlm))), G5_.out⟩
      · skip
        go_wp2_with fail
        refine wp_region_held_drew (S := fun w' => w'.cell? ⟨b1, o1 + m, none⟩ = some (.int .i64 (j : Int)) ∧ w'.cell? ⟨b1, o1 + t, none⟩ = some (.int .i64 (p : Int)) ∧ w'.cell? ⟨ab, ao + p * 8, none⟩ = some (.int .i64 xk.f0) ∧ w'.cell? ⟨ab, ao + p * 8 + 1, none⟩ = some (.int .i64 xk.f1) ∧ w'.cell? ⟨ab, ao + p * 8 + 2, none⟩ = some (.int .i64 xk.f2) ∧ w'.cell? ⟨ab, ao + p * 8 + 3, none⟩ = some (.int .i64 xk.f3) ∧ w'.cell? ⟨ab, ao + p * 8 + 4, none⟩ = some (.int .i64 xk.f4) ∧ w'.cell? ⟨ab, ao + p * 8 + 5, none⟩ = some (.int .i64 xk.f5) ∧ w'.cell? ⟨ab, ao + p * 8 + 6, none⟩ = some (.int .i64 xk.f6) ∧ w'.cell? ⟨ab, ao + p * 8 + 7, none⟩ = some (.slice pk nk ck) ∧ w'.cell? ⟨ab, ao + j * 8, none⟩ = some (.int .i64 xi.f0) ∧ w'.cell? ⟨ab, ao + j * 8 + 1, none⟩ = some (.int .i64 xi.f1) ∧ w'.cell? ⟨ab, ao + j * 8 + 2, none⟩ = some (.int .i64 xi.f2) ∧ w'.cell? ⟨ab, ao + j * 8 + 3, none⟩ = some (.int .i64 xi.f3) ∧ w'.cell? ⟨ab, ao + j * 8 + 4, none⟩ = some (.int .i64 xi.f4) ∧ w'.cell? ⟨ab, ao + j * 8 + 5, none⟩ = some (.int .i64 xi.f5) ∧ w'.cell? ⟨ab, ao + j * 8 + 6, none⟩ = some (.int .i64 xi.f6) ∧ w'.cell? ⟨ab, ao + j * 8 + 7, none⟩ = some (.slice pi ni ci)) (by kernel_rfl) (by (try dsimp only); exact ⟨yc_, pc_, ek0_, ek1_, ek2_, ek3_, ek4_, ek5_, ek6_, ek7_, ei0_, ei1_, ei2_, ei3_, ei4_, ei5_, ei6_, ei7_⟩) (fun hHeld => ?_)
        refine wpAnyH_take (i := 0) (oi := { dst := some 51, op := Op.move (Operand.tmp 1), type := 23, pos := "l16_order.go:43", after := #[], guard := none }) (v := ?v0_r6_1) rfl (by kernel_rfl) (by kernel_rfl) (by kernel_rfl) (fun _ _ _ h => h) (Or.inl ⟨by rfl, ?y0_r6_1⟩) (by assumption) ?r0_r6_1
        case y0_r6_1 => (intro w hSw; (try dsimp only at hSw); go_simp; all_goals (with_reducible rfl))
        try simp only [Act.put, List.setIfInBounds_toArray, List.set_cons_zero, List.set_cons_succ]
        refine wpAnyH_take (i := 1) (oi := { dst := some 52, op := Op.move (Operand.tmp 6), type := 3, pos := "l16_order.go:43", after := #[], guard := none }) (v := ?v1_r6_2) rfl (by kernel_rfl) (by kernel_rfl) (by kernel_rfl) (fun _ _ _ h => h) (Or.inl ⟨by rfl, ?y1_r6_2⟩) (by assumption) ?r1_r6_2
        case y1_r6_2 => (intro w hSw; (try dsimp only at hSw); go_simp; all_goals (with_reducible rfl))
        try simp only [Act.put, List.setIfInBounds_toArray, List.set_cons_zero, List.set_cons_succ]
        refine wpAnyH_take (i := 2) (oi := { dst := some 53, op := Op.indexAddr 23 (Operand.tmp 51) (Operand.tmp 52), type := 0, pos := "l16_order.go:43", after := #[{ on := 0, ground := Ground.data }, { on := 1, ground := Ground.data }], guard := none }) (v := ?v2_r6_3) rfl (by kernel_rfl) (by kernel_rfl) (by kernel_rfl) (fun _ _ _ h => h) (Or.inl ⟨by rfl, ?y2_r6_3⟩) (by assumption) ?r2_r6_3
        case y2_r6_3 => (intro w hSw; (try dsimp only at hSw); go_simp; all_goals (with_reducible rfl))
        try simp only [Act.put, List.setIfInBounds_toArray, List.set_cons_zero, List.set_cons_succ]
        refine wpAnyH_take (i := 3) (oi := { dst := some 54, op := Op.load 3 (Operand.tmp 53), type := 3, pos := "l16_order.go:43", after := #[{ on := 2, ground := Ground.data }], guard := none }) (v := ?v3_r6_4) rfl (by kernel_rfl) (by kernel_rfl) (by kernel_rfl) (fun _ _ _ h => h) (Or.inl ⟨by rfl, ?y3_r6_4⟩) (by assumption) ?r3_r6_4
        case y3_r6_4 => (intro w hSw; (try dsimp only at hSw); go_simp; all_goals (with_reducible rfl))
        try simp only [Act.put, List.setIfInBounds_toArray, List.set_cons_zero, List.set_cons_succ]
        refine wpAnyH_take (i := 4) (oi := { dst := some 55, op := Op.move (Operand.tmp 1), type := 23, pos := "l16_order.go:43", after := #[], guard := none }) (v := ?v4_r6_5) rfl (by kernel_rfl) (by kernel_rfl) (by kernel_rfl) (fun _ _ _ h => h) (Or.inl ⟨by rfl, ?y4_r6_5⟩) (by assumption) ?r4_r6_5
        case y4_r6_5 => (intro w hSw; (try dsimp only at hSw); go_simp; all_goals (with_reducible rfl))
        try simp only [Act.put, List.setIfInBounds_toArray, List.set_cons_zero, List.set_cons_succ]
        refine wpAnyH_take (i := 5) (oi := { dst := some 56, op := Op.move (Operand.tmp 7), type := 3, pos := "l16_order.go:43", after := #[], guard := none }) (v := ?v5_r6_6) rfl (by kernel_rfl) (by kernel_rfl) (by kernel_rfl) (fun _ _ _ h => h) (Or.inl ⟨by rfl, ?y5_r6_6⟩) (by assumption) ?r5_r6_6
        case y5_r6_6 => (intro w hSw; (try dsimp only at hSw); go_simp; all_goals (with_reducible rfl))
        try simp only [Act.put, List.setIfInBounds_toArray, List.set_cons_zero, List.set_cons_succ]
        refine wpAnyH_take (i := 6) (oi := { dst := some 57, op := Op.indexAddr 23 (Operand.tmp 55) (Operand.tmp 56), type := 0, pos := "l16_order.go:43", after := #[{ on := 4, ground := Ground.data }, { on := 5, ground := Ground.data }], guard := none }) (v := ?v6_r6_7) rfl (by kernel_rfl) (by kernel_rfl) (by kernel_rfl) (fun _ _ _ h => h) (Or.inl ⟨by rfl, ?y6_r6_7⟩) (by assumption) ?r6_r6_7
        case y6_r6_7 => (intro w hSw; (try dsimp only at hSw); go_simp; all_goals (with_reducible rfl))
        try simp only [Act.put, List.setIfInBounds_toArray, List.set_cons_zero, List.set_cons_succ]
        refine wpAnyH_take (i := 7) (oi := { dst := some 58, op := Op.load 3 (Operand.tmp 57), type := 3, pos := "l16_order.go:43", after := #[{ on := 6, ground := Ground.data }], guard := none }) (v := ?v7_r6_8) rfl (by kernel_rfl) (by kernel_rfl) (by kernel_rfl) (fun _ _ _ h => h) (Or.inl ⟨by rfl, ?y7_r6_8⟩) (by assumption) ?r7_r6_8
        case y7_r6_8 => (intro w hSw; (try dsimp only at hSw); go_simp; all_goals (with_reducible rfl))
        try simp only [Act.put, List.setIfInBounds_toArray, List.set_cons_zero, List.set_cons_succ]
        refine wpAnyH_take (i := 8) (oi := { dst := some 59, op := Op.binOp BinOp.lss 3 (Operand.tmp 54) (Operand.tmp 58) 3, type := 4, pos := "l16_order.go:43", after := #[{ on := 3, ground := Ground.data }, { on := 7, ground := Ground.data }], guard := none }) (v := ?v8_r6_9) rfl (by kernel_rfl) (by kernel_rfl) (by kernel_rfl) (fun _ _ _ h => h) (Or.inl ⟨by rfl, ?y8_r6_9⟩) (by assumption) ?r8_r6_9
        case y8_r6_9 => (intro w hSw; (try dsimp only at hSw); go_simp; all_goals (with_reducible rfl))
        try simp only [Act.put, List.setIfInBounds_toArray, List.set_cons_zero, List.set_cons_succ]
        refine wpAnyH_take (i := 9) (oi := { dst := some 60, op := Op.move (Operand.tmp 59), type := 4, pos := "l16_order.go:43", after := #[{ on := 8, ground := Ground.data }], guard := none }) (v := ?v9_r6_10) rfl (by kernel_rfl) (by kernel_rfl) (by kernel_rfl) (fun _ _ _ h => h) (Or.inl ⟨by rfl, ?y9_r6_10⟩) (by assumption) ?r9_r6_10
        case y9_r6_10 => (intro w hSw; (try dsimp only at hSw); go_simp; all_goals (with_reducible rfl))
        try simp only [Act.put, List.setIfInBounds_toArray, List.set_cons_zero, List.set_cons_succ]
        refine wpAnyH_take (i := 10) (oi := { dst := some 61, op := Op.move (Operand.tmp 0), type := 30, pos := "l16_order.go:43", after := #[{ on := 9, ground := Ground.guard }], guard := some (9, true) }) (v := ?v10_r6_11) rfl (by kernel_rfl) (by kernel_rfl) (by kernel_rfl) (fun _ _ _ h => h) (Or.inl ⟨by rfl, ?y10_r6_11⟩) (by assumption) ?r10_r6_11
        case y10_r6_11 => (intro w hSw; (try dsimp only at hSw); go_simp; all_goals (with_reducible rfl))
        try simp only [Act.put, List.setIfInBounds_toArray, List.set_cons_zero, List.set_cons_succ]
        refine wpAnyH_take (i := 11) (oi := { dst := some 62, op := Op.move (Operand.tmp 1), type := 23, pos := "l16_order.go:43", after := #[{ on := 9, ground := Ground.guard }], guard := some (9, true) }) (v := ?v11_r6_12) rfl (by kernel_rfl) (by kernel_rfl) (by kernel_rfl) (fun _ _ _ h => h) (Or.inl ⟨by rfl, ?y11_r6_12⟩) (by assumption) ?r11_r6_12
        case y11_r6_12 => (intro w hSw; (try dsimp only at hSw); go_simp; all_goals (with_reducible rfl))
        try simp only [Act.put, List.setIfInBounds_toArray, List.set_cons_zero, List.set_cons_succ]
        refine wpAnyH_take (i := 12) (oi := { dst := some 63, op := Op.move (Operand.tmp 7), type := 3, pos := "l16_order.go:43", after := #[{ on := 9, ground := Ground.guard }], guard := some (9, true) }) (v := ?v12_r6_13) rfl (by kernel_rfl) (by kernel_rfl) (by kernel_rfl) (fun _ _ _ h => h) (Or.inl ⟨by rfl, ?y12_r6_13⟩) (by assumption) ?r12_r6_13
        case y12_r6_13 => (intro w hSw; (try dsimp only at hSw); go_simp; all_goals (with_reducible rfl))
        try simp only [Act.put, List.setIfInBounds_toArray, List.set_cons_zero, List.set_cons_succ]
        refine wpAnyH_take (i := 13) (oi := { dst := some 64, op := Op.indexAddr 23 (Operand.tmp 62) (Operand.tmp 63), type := 0, pos := "l16_order.go:43", after := #[{ on := 11, ground := Ground.data }, { on := 12, ground := Ground.data }, { on := 9, ground := Ground.guard }], guard := some (9, true) }) (v := ?v13_r6_14) rfl (by kernel_rfl) (by kernel_rfl) (by kernel_rfl) (fun _ _ _ h => h) (Or.inl ⟨by rfl, ?y13_r6_14⟩) (by assumption) ?r13_r6_14
        case y13_r6_14 => (intro w hSw; (try dsimp only at hSw); go_simp; all_goals (with_reducible rfl))
        try simp only [Act.put, List.setIfInBounds_toArray, List.set_cons_zero, List.set_cons_succ]
        refine wpAnyH_take (i := 14) (oi := { dst := some 65, op := Op.load 3 (Operand.tmp 64), type := 3, pos := "l16_order.go:43", after := #[{ on := 13, ground := Ground.data }, { on := 9, ground := Ground.guard }], guard := some (9, true) }) (v := ?v14_r6_15) rfl (by kernel_rfl) (by kernel_rfl) (by kernel_rfl) (fun _ _ _ h => h) (Or.inl ⟨by rfl, ?y14_r6_15⟩) (by assumption) ?r14_r6_15
        case y14_r6_15 => (intro w hSw; (try dsimp only at hSw); go_simp; all_goals (with_reducible rfl))
        try simp only [Act.put, List.setIfInBounds_toArray, List.set_cons_zero, List.set_cons_succ]
        refine wpAnyH_take (i := 15) (oi := { dst := some 66, op := Op.indexAddr 30 (Operand.tmp 61) (Operand.tmp 65), type := 0, pos := "l16_order.go:43", after := #[{ on := 10, ground := Ground.data }, { on := 14, ground := Ground.data }, { on := 9, ground := Ground.guard }], guard := some (9, true) }) (v := ?v15_r6_16) rfl (by kernel_rfl) (by kernel_rfl) (by kernel_rfl) (fun _ _ _ h => h) (Or.inl ⟨by rfl, ?y15_r6_16⟩) (by assumption) ?r15_r6_16
        case y15_r6_16 => (intro w hSw; (try dsimp only at hSw); go_simp; all_goals (with_reducible rfl))
        try simp only [Act.put, List.setIfInBounds_toArray, List.set_cons_zero, List.set_cons_succ]
        refine wpAnyH_take (i := 16) (oi := { dst := some 67, op := Op.load 60 (Operand.tmp 66), type := 60, pos := "l16_order.go:43", after := #[{ on := 15, ground := Ground.data }, { on := 9, ground := Ground.guard }], guard := some (9, true) }) (v := ?v16_r6_17) rfl (by kernel_rfl) (by kernel_rfl) (by kernel_rfl) (fun _ _ _ h => h) (Or.inl ⟨by rfl, ?y16_r6_17⟩) (by assumption) ?r16_r6_17
        case y16_r6_17 => (intro w hSw; (try dsimp only at hSw); go_simp; all_goals (with_reducible rfl))
        try simp only [Act.put, List.setIfInBounds_toArray, List.set_cons_zero, List.set_cons_succ]
        refine wpAnyH_take (i := 17) (oi := { dst := some 68, op := Op.move (Operand.tmp 0), type := 30, pos := "l16_order.go:43", after := #[{ on := 9, ground := Ground.guard }], guard := some (9, true) }) (v := ?v17_r6_18) rfl (by kernel_rfl) (by kernel_rfl) (by kernel_rfl) (fun _ _ _ h => h) (Or.inl ⟨by rfl, ?y17_r6_18⟩) (by assumption) ?r17_r6_18
        case y17_r6_18 => (intro w hSw; (try dsimp only at hSw); go_simp; all_goals (with_reducible rfl))
        try simp only [Act.put, List.setIfInBounds_toArray, List.set_cons_zero, List.set_cons_succ]
        refine wpAnyH_take (i := 18) (oi := { dst := some 69, op := Op.move (Operand.tmp 1), type := 23, pos := "l16_order.go:43", after := #[{ on := 9, ground := Ground.guard }], guard := some (9, true) }) (v := ?v18_r6_19) rfl (by kernel_rfl) (by kernel_rfl) (by kernel_rfl) (fun _ _ _ h => h) (Or.inl ⟨by rfl, ?y18_r6_19⟩) (by assumption) ?r18_r6_19
        case y18_r6_19 => (intro w hSw; (try dsimp only at hSw); go_simp; all_goals (with_reducible rfl))
        try simp only [Act.put, List.setIfInBounds_toArray, List.set_cons_zero, List.set_cons_succ]
        refine wpAnyH_take (i := 19) (oi := { dst := some 70, op := Op.move (Operand.tmp 6), type := 3, pos := "l16_order.go:43", after := #[{ on := 9, ground := Ground.guard }], guard := some (9, true) }) (v := ?v19_r6_20) rfl (by kernel_rfl) (by kernel_rfl) (by kernel_rfl) (fun _ _ _ h => h) (Or.inl ⟨by rfl, ?y19_r6_20⟩) (by assumption) ?r19_r6_20
        case y19_r6_20 => (intro w hSw; (try dsimp only at hSw); go_simp; all_goals (with_reducible rfl))
        try simp only [Act.put, List.setIfInBounds_toArray, List.set_cons_zero, List.set_cons_succ]
        refine wpAnyH_take (i := 20) (oi := { dst := some 71, op := Op.indexAddr 23 (Operand.tmp 69) (Operand.tmp 70), type := 0, pos := "l16_order.go:43", after := #[{ on := 18, ground := Ground.data }, { on := 19, ground := Ground.data }, { on := 9, ground := Ground.guard }], guard := some (9, true) }) (v := ?v20_r6_21) rfl (by kernel_rfl) (by kernel_rfl) (by kernel_rfl) (fun _ _ _ h => h) (Or.inl ⟨by rfl, ?y20_r6_21⟩) (by assumption) ?r20_r6_21
        case y20_r6_21 => (intro w hSw; (try dsimp only at hSw); go_simp; all_goals (with_reducible rfl))
        try simp only [Act.put, List.setIfInBounds_toArray, List.set_cons_zero, List.set_cons_succ]
        refine wpAnyH_take (i := 21) (oi := { dst := some 72, op := Op.load 3 (Operand.tmp 71), type := 3, pos := "l16_order.go:43", after := #[{ on := 20, ground := Ground.data }, { on := 9, ground := Ground.guard }], guard := some (9, true) }) (v := ?v21_r6_22) rfl (by kernel_rfl) (by kernel_rfl) (by kernel_rfl) (fun _ _ _ h => h) (Or.inl ⟨by rfl, ?y21_r6_22⟩) (by assumption) ?r21_r6_22
        case y21_r6_22 => (intro w hSw; (try dsimp only at hSw); go_simp; all_goals (with_reducible rfl))
        try simp only [Act.put, List.setIfInBounds_toArray, List.set_cons_zero, List.set_cons_succ]
        refine wpAnyH_take (i := 22) (oi := { dst := some 73, op := Op.indexAddr 30 (Operand.tmp 68) (Operand.tmp 72), type := 0, pos := "l16_order.go:43", after := #[{ on := 17, ground := Ground.data }, { on := 21, ground := Ground.data }, { on := 9, ground := Ground.guard }], guard := some (9, true) }) (v := ?v22_r6_23) rfl (by kernel_rfl) (by kernel_rfl) (by kernel_rfl) (fun _ _ _ h => h) (Or.inl ⟨by rfl, ?y22_r6_23⟩) (by assumption) ?r22_r6_23
        case y22_r6_23 => (intro w hSw; (try dsimp only at hSw); go_simp; all_goals (with_reducible rfl))
        try simp only [Act.put, List.setIfInBounds_toArray, List.set_cons_zero, List.set_cons_succ]
        refine wpAnyH_take (i := 23) (oi := { dst := some 74, op := Op.load 60 (Operand.tmp 73), type := 60, pos := "l16_order.go:43", after := #[{ on := 22, ground := Ground.data }, { on := 9, ground := Ground.guard }], guard := some (9, true) }) (v := ?v23_r6_24) rfl (by kernel_rfl) (by kernel_rfl) (by kernel_rfl) (fun _ _ _ h => h) (Or.inl ⟨by rfl, ?y23_r6_24⟩) (by assumption) ?r23_r6_24
        case y23_r6_24 => (intro w hSw; (try dsimp only at hSw); go_simp; all_goals (with_reducible rfl))
        try simp only [Act.put, List.setIfInBounds_toArray, List.set_cons_zero, List.set_cons_succ]
        refine wpAnyH_ready (rs := [24]) (by kernel_rfl) (by simp) ?_
        refine AllReadyH.cons (o := { dst := some 75, op := Op.call { callee := Callee.value (Operand.func 70), args := #[Operand.tmp 67, Operand.tmp 74], argTypes := #[60, 60] }, type := 4, pos := "l16_order.go:43", after := #[{ on := 16, ground := Ground.data }, { on := 23, ground := Ground.data }, { on := 9, ground := Ground.chain }, { on := 9, ground := Ground.guard }], guard := some (9, true) }) rfl (fun K hK => ?_) AllReadyH.nil
        go_simp
        go_at_call 70
        refine (HMAY.out _ (Rk.out.grow (gby_trans G4_.out (gby_drew (gby_refl _ none)))) (Ri.out.grow (gby_trans G4_.out (gby_drew (gby_refl _ none))))).mono ?_
        rintro e wH25_r6 ⟨rfl, gH25_r6⟩
        have m25_yc_ : wH25_r6.cell? _ = some _ := gH25_r6.cell yc_ (by simp); have m25_pc_ : wH25_r6.cell? _ = some _ := gH25_r6.cell pc_ (by simp); have m25_ek0_ : wH25_r6.cell? _ = some _ := gH25_r6.cell ek0_ (by simp); have m25_ek1_ : wH25_r6.cell? _ = some _ := gH25_r6.cell ek1_ (by simp); have m25_ek2_ : wH25_r6.cell? _ = some _ := gH25_r6.cell ek2_ (by simp); have m25_ek3_ : wH25_r6.cell? _ = some _ := gH25_r6.cell ek3_ (by simp); have m25_ek4_ : wH25_r6.cell? _ = some _ := gH25_r6.cell ek4_ (by simp); have m25_ek5_ : wH25_r6.cell? _ = some _ := gH25_r6.cell ek5_ (by simp); have m25_ek6_ : wH25_r6.cell? _ = some _ := gH25_r6.cell ek6_ (by simp); have m25_ek7_ : wH25_r6.cell? _ = some _ := gH25_r6.cell ek7_ (by simp); have m25_ei0_ : wH25_r6.cell? _ = some _ := gH25_r6.cell ei0_ (by simp); have m25_ei1_ : wH25_r6.cell? _ = some _ := gH25_r6.cell ei1_ (by simp); have m25_ei2_ : wH25_r6.cell? _ = some _ := gH25_r6.cell ei2_ (by simp); have m25_ei3_ : wH25_r6.cell? _ = some _ := gH25_r6.cell ei3_ (by simp); have m25_ei4_ : wH25_r6.cell? _ = some _ := gH25_r6.cell ei4_ (by simp); have m25_ei5_ : wH25_r6.cell? _ = some _ := gH25_r6.cell ei5_ (by simp); have m25_ei6_ : wH25_r6.cell? _ = some _ := gH25_r6.cell ei6_ (by simp); have m25_ei7_ : wH25_r6.cell? _ = some _ := gH25_r6.cell ei7_ (by simp)
        go_wp2_with fail
        clear hHeld
        refine hK.out _ _ ?s24_r6_25 (fun hHeld => ?_)
        case s24_r6_25 => exact ⟨m25_yc_, m25_pc_, m25_ek0_, m25_ek1_, m25_ek2_, m25_ek3_, m25_ek4_, m25_ek5_, m25_ek6_, m25_ek7_, m25_ei0_, m25_ei1_, m25_ei2_, m25_ei3_, m25_ei4_, m25_ei5_, m25_ei6_, m25_ei7_⟩
        clear hK K
        try simp only [Act.put, List.setIfInBounds_toArray, List.set_cons_zero, List.set_cons_succ]
        refine wpAnyH_take (i := 25) (oi := { dst := some 76, op := Op.unOp UnOp.not 4 (Operand.tmp 75), type := 4, pos := "l16_order.go:43", after := #[{ on := 24, ground := Ground.data }, { on := 9, ground := Ground.guard }], guard := some (9, true) }) (v := ?v25_r6_26) rfl (by kernel_rfl) (by kernel_rfl) (by kernel_rfl) (fun _ _ _ h => h) (Or.inl ⟨by rfl, ?y25_r6_26⟩) (by assumption) ?r25_r6_26
        case y25_r6_26 => (intro w hSw; (try dsimp only at hSw); go_simp; all_goals (with_reducible rfl))
        try simp only [Act.put, List.setIfInBounds_toArray, List.set_cons_zero, List.set_cons_succ]
        refine wpAnyH_take (i := 26) (oi := { dst := some 77, op := Op.pick (Operand.tmp 60) (Operand.tmp 76) (Operand.const (Value.bool false)), type := 4, pos := "l16_order.go:43", after := #[{ on := 9, ground := Ground.data }, { on := 25, ground := Ground.data }], guard := none }) (v := ?v26_r6_27) rfl (by kernel_rfl) (by kernel_rfl) (by kernel_rfl) (fun _ _ _ h => h) (Or.inl ⟨by rfl, ?y26_r6_27⟩) (by assumption) ?r26_r6_27
        case y26_r6_27 => (intro w hSw; (try dsimp only at hSw); go_simp; all_goals (with_reducible rfl))
        try simp only [Act.put, List.setIfInBounds_toArray, List.set_cons_zero, List.set_cons_succ]
        refine wpAnyH_done (by kernel_rfl) ?_ _
        have gR_ : (wr).grownBy (wH25_r6) none := (gby_trans (gby_drew (gby_refl _ none)) gH25_r6)
        have szwH25_r6 := gR_.size
        try simp only [World.size_alloc] at szwH25_r6
        clear yc_ pc_ ek0_ ek1_ ek2_ ek3_ ek4_ ek5_ ek6_ ek7_ ei0_ ei1_ ei2_ ei3_ ei4_ ei5_ ei6_ ei7_
        have G5_ := Lib.hid (show (W).grownBy (wH25_r6) none from gby_trans G4_.out gR_)
        have HTI6_ := Lib.hid (show (ws).grownBy (wH25_r6) none from gby_trans HTI_.out gR_)
        clear HTI_
        clear gR_
        go_wp2
        refine ⟨⟨t + 1, by go_num, by omega, fun i hi => ?_, HTI6_.out⟩, by simp [intOf]; omega⟩
        by_cases e : i = t
        · subst e; exact HPO.out.2 (by first | trivial | rfl)
        · exact HK.out i (by omega)

end Go.Proofs.Ytnighnkkeiegnaa

namespace Go.Proofs.Ytnighnkkeiegnaa
open Go Go.RowKit
set_option linter.unusedVariables false

set_option maxRecDepth 8000 in
set_option maxHeartbeats 4000000 in
theorem perm_any (W : World) (u : Value) (os : List Int) (n : Nat) (HO_ : RdL shI W u os) (hlo : szL shI os ≤ 1048576) (hnl_ : n ≤ 1048576) : Calls Try.prog 71 #[u, .int .i64 (n : Int)] W (BPost (PermP os n) W) := by
  obtain ⟨i1_, hi1_, hz0_, hz1_, hz2_⟩ := info_parts infoBool
  have hlo1_ : os.length ≤ 1048576 := by rw [szL_I] at hlo; exact hlo
  obtain ⟨a1, cap1, rfl, hcap1, hi1⟩ := rdI1_in HO_
  have hcp1 := hcap1.2
  have HA1 := Lib.hid hi1
  obtain ⟨n1, hn1⟩ : ∃ n, n = os.length := ⟨_, rfl⟩
  have HE1 := Lib.hid hn1
  unfold RdN1 at HA1
  rw [← hn1] at hlo1_ hcp1 HA1 ⊢
  clear HO_ hi1 hn1 hcap1 hlo
  go_enter Try.func71, Try.ntmps71
  go_wp2_with (at_make; refine wpList_make_full _ rfl _ _ 85 rfl W.heap.size 4 i1_ (.bool false) 1 Try.underlying85 hi1_ hz0_ hz1_ .i64 .i64 _ _ n rfl rfl rfl rfl (by rw [hz2_]; omega) (by unfold maxLen; omega) (Nat.le_refl _) ?_; intro w0 hown0 hgrow0; have HO0 := Lib.hid (ownB_made (by omega) hown0); have HG0 := Lib.hid hgrow0; clear hown0 hgrow0)
  have sz0_ := HG0.out.size
  have G1_ := Lib.hid (show (W).grownBy (w0) none from gby_trans (gby_refl _ _) HG0.out)
  go_wp2
  go_loopw [7, 12] (fun y5 i wr => ∃ (m : Nat) (bs : List Bool), i = .int .i64 (m : Int) ∧ m ≤ n1 ∧ (∃ q, y5 = q) ∧ bs.length = n ∧ GoodTo os n m ∧ SeenIs os m bs ∧ OwL shB wr W.heap.size wr.heap.size (.slice (some ⟨W.heap.size, 0, none⟩) n n) bs ∧ W.grownBy wr none) (fun _ i _ => n1 - (intOf i).toNat)
  case atStart => exact ⟨0, List.replicate n false, rfl, by omega, ⟨_, rfl⟩, by simp, good_zero _ _, seen_zero _ _, HO0.out, G1_.out⟩
  case round =>
    obtain ⟨m, bs, rfl, hm, ⟨y5, rfl⟩, hbl_, hgd_, hse_, hob_, hg⟩ := hrel
    have HGD := Lib.hid hgd_
    have HSE := Lib.hid hse_
    have HOB := Lib.hid hob_
    have HBL := Lib.hid hbl_
    clear hgd_ hse_ hob_ hbl_ HO0
    have G2_ := Lib.hid (show (W).grownBy (wr) none from hg)
    clear hg
    have hm0_ : (0 : Int) ≤ (m : Int) := by omega
    have htm : ((m : Int)).toNat = m := by omega
    by_cases hlm : m < n1
    rotate_left
    · obtain rfl : m = n1 := by omega
      have hmi : ¬ (m : Int) < (m : Int) := by omega
      by_cases hmn : m = n
      · subst hmn
        go_wp2
        go_ret
        exact ⟨true, rfl, iff_yesL ⟨HE1.out.symm, by rw [← HE1.out]; exact HGD.out⟩, G2_.out⟩
      · have hmz_ : ((m : Int) == (n : Int)) = false := beq_eq_false_iff_ne.2 (by omega)
        go_wp2
        go_ret
        exact ⟨false, rfl, iff_noL (fun q => hmn (by rw [HE1.out]; exact q.1)), G2_.out⟩
    have hmi : (m : Int) < (n1 : Int) := by omega
    obtain ⟨b1, o1, rfl, hc1_⟩ := HA1.out.resolve_left (by omega)
    have hy_ := hc1_ m hlm
    have HC1 := Lib.hid hc1_
    clear hc1_
    obtain ⟨y, hye_⟩ : ∃ y, y = os.getD m 0 := ⟨_, rfl⟩
    rw [← hye_] at hy_
    have HY := Lib.hid hye_
    have HYC := Lib.hid hy_
    clear hye_ hy_
    have yc_ := (G2_.out).cell HYC.out (by simp)
    have hwm_ : IntKind.i64.wrap ((n : Int) - 1) = (n : Int) - 1 := IntWalk.i64_in _ (by omega)
    rcases (show (0 ≤ y ∧ y ≤ (n : Int) - 1) ∨ (y < 0 ∨ (n : Int) - 1 < y) by omega) with ⟨hy1_, hy2_⟩ | hyo_
    rotate_left
    · skip
      go_wp2_with fail
      go_at_call 111
      refine (rng_no _ _ _ _ hyo_).mono ?_
      rintro e w1_ ⟨rfl, rfl⟩
      go_wp2
      go_ret
      exact ⟨false, rfl, iff_noL (fun q => good_out (m := m) (k := os.length) (by rw [← HE1.out]; exact hlm) (by rw [← HY.out]; exact hyo_) q.2), G2_.out⟩
    obtain ⟨j, rfl⟩ : ∃ j : Nat, y = (j : Int) := ⟨y.toNat, by omega⟩
    have hjn_ : j < n := by omega
    have hjt_ : ((j : Int)).toNat = j := by omega
    have hji_ : (j : Int) < (n : Int) := by omega
    obtain ⟨bz, oz, cz, hvz_, hbz1_, hbz2_, hcz_, hfz_, hsz_⟩ := owB_at HOB.out j (by have := HBL.out; omega)
    injection hvz_ with ez1_ ez2_ ez3_
    injection ez1_ with ez1_
    injection ez1_ with ez4_ ez5_
    subst ez4_ ez5_
    obtain ⟨bj, hbj_⟩ : ∃ b, b = bs.getD j false := ⟨_, rfl⟩
    rw [← hbj_] at hcz_
    have HBJ := Lib.hid hbj_
    have HSZ := Lib.hid (hsz_ true)
    clear hbj_ hsz_ ez2_ ez3_
    cases bj
    · rw [Nat.zero_add] at hcz_ hfz_
      go_wp2_with fail
      go_at_call 111
      refine (rng_yes _ _ _ _ hy1_ hy2_).mono ?_
      rintro e w1_ ⟨rfl, rfl⟩
      go_wp2
      refine ⟨⟨m + 1, bs.set j true, by go_num, by omega, ⟨_, rfl⟩, by rw [List.length_set]; exact HBL.out, good_next HGD.out HSE.out HBL.out hjn_ HY.out.symm HBJ.out.symm, seen_next HSE.out (by rw [HBL.out]; exact hjn_) HY.out.symm, ?_, ?_⟩, by simp [intOf]; omega⟩
      · have q := HSZ.out.1
        rw [Nat.zero_add] at q
        exact OwL.wide q (Nat.le_refl _) (by simp only [World.size_setCell]; omega)
      · exact gby_setnew G2_.out _ (by dsimp only; omega) _
    · rw [Nat.zero_add] at hcz_ hfz_
      go_wp2_with fail
      go_at_call 111
      refine (rng_yes _ _ _ _ hy1_ hy2_).mono ?_
      rintro e w1_ ⟨rfl, rfl⟩
      go_wp2
      go_ret
      exact ⟨false, rfl, iff_noL (fun q => good_twice (m := m) (k := os.length) (by rw [← HE1.out]; exact hlm) HSE.out (by rw [HBL.out]; exact hjn_) HY.out.symm HBJ.out.symm q.2), G2_.out⟩

set_option maxRecDepth 8000 in
set_option maxHeartbeats 2000000 in
theorem implLeg_no (W : World) (v u : Value) (xs : List DPacket) (os : List Int) (H : RdL shPacket W v xs) (HO_ : RdL shI W u os) (hl : szL shPacket xs ≤ 1048576) (hlo : szL shI os ≤ 1048576) (hp : ¬ PermP os xs.length) : Calls Try.prog 25 #[v, u] W (BPost (LegalP xs os) W) := by
  have HOR := Lib.hid HO_
  have HHL := Lib.hid hlo
  have HS := Lib.hid hl
  obtain ⟨a0, cap0, rfl, hcap, _, H⟩ := H
  have HC := Lib.hid H
  obtain ⟨n0, hn0⟩ : ∃ n, n = xs.length := ⟨_, rfl⟩
  have HE := Lib.hid hn0
  have hlx : n0 ≤ 1048576 := by have := szL_len shPacket xs; omega
  rw [← hn0] at HC ⊢
  clear H hcap hl hn0
  obtain ⟨i1_, hi1_, hz0_, hz1_, hz2_⟩ := info_parts infoBool
  have hlo1_ : os.length ≤ 1048576 := by rw [szL_I] at hlo; exact hlo
  obtain ⟨a1, cap1, rfl, hcap1, hi1⟩ := rdI1_in HO_
  have hcp1 := hcap1.2
  have HA1 := Lib.hid hi1
  obtain ⟨n1, hn1⟩ : ∃ n, n = os.length := ⟨_, rfl⟩
  have HE1 := Lib.hid hn1
  unfold RdN1 at HA1
  rw [← hn1] at hlo1_ hcp1 HA1 ⊢
  clear HO_ hi1 hn1 hcap1 hlo
  rw [← HE.out] at hp
  have HOR2 := Lib.hid (show RdL shI W (.slice a1 n1 cap1) os from by rw [HE1.out]; exact HOR.out)
  clear HOR
  have HPE := Lib.hid hp
  clear hp
  go_enter Try.func25, Try.ntmps25
  go_wp2_with fail
  go_at_call 71
  refine ((perm_any _ _ os n0 (HOR2.out.grow (gby_refl _ _)) HHL.out hlx).mono (bpost_no HPE.out)).mono ?_
  rintro e w1 ⟨rfl, g⟩
  have szw1 := g.size
  try simp only [World.size_alloc] at szw1
  try simp only [World.size_setCell] at szw1
  have G1_ := Lib.hid (show (W).grownBy (w1) none from gby_trans (gby_refl _ _) g)
  clear g
  go_wp2
  go_ret
  exact ⟨false, rfl, iff_noL (fun q => HPE.out ⟨by rw [HE.out]; exact q.1, by rw [HE.out]; exact q.2.1⟩), G1_.out⟩

set_option maxRecDepth 8000 in
set_option maxHeartbeats 4000000 in
theorem implLeg_yes (W : World) (v u : Value) (xs : List DPacket) (os : List Int) (H : RdL shPacket W v xs) (HO_ : RdL shI W u os) (hl : szL shPacket xs ≤ 1048576) (hlo : szL shI os ≤ 1048576) (hp : PermP os xs.length) : Calls Try.prog 25 #[v, u] W (BPost (LegalP xs os) W) := by
  have HOR := Lib.hid HO_
  have HHL := Lib.hid hlo
  have HS := Lib.hid hl
  obtain ⟨a0, cap0, rfl, hcap, _, H⟩ := H
  have HC := Lib.hid H
  obtain ⟨n0, hn0⟩ : ∃ n, n = xs.length := ⟨_, rfl⟩
  have HE := Lib.hid hn0
  have hlx : n0 ≤ 1048576 := by have := szL_len shPacket xs; omega
  rw [← hn0] at HC ⊢
  clear H hcap hl hn0
  obtain ⟨i1_, hi1_, hz0_, hz1_, hz2_⟩ := info_parts infoBool
  have hlo1_ : os.length ≤ 1048576 := by rw [szL_I] at hlo; exact hlo
  obtain ⟨a1, cap1, rfl, hcap1, hi1⟩ := rdI1_in HO_
  have hcp1 := hcap1.2
  have HA1 := Lib.hid hi1
  obtain ⟨n1, hn1⟩ : ∃ n, n = os.length := ⟨_, rfl⟩
  have HE1 := Lib.hid hn1
  unfold RdN1 at HA1
  rw [← hn1] at hlo1_ hcp1 HA1 ⊢
  clear HO_ hi1 hn1 hcap1 hlo
  rw [← HE.out] at hp
  have HOR2 := Lib.hid (show RdL shI W (.slice a1 n1 cap1) os from by rw [HE1.out]; exact HOR.out)
  clear HOR
  have HPE := Lib.hid hp
  clear hp
  go_enter Try.func25, Try.ntmps25
  go_wp2_with fail
  go_at_call 71
  refine ((perm_any _ _ os n0 (HOR2.out.grow (gby_refl _ _)) HHL.out hlx).mono (bpost_yes HPE.out)).mono ?_
  rintro e w1 ⟨rfl, g⟩
  have szw1 := g.size
  try simp only [World.size_alloc] at szw1
  try simp only [World.size_setCell] at szw1
  have G1_ := Lib.hid (show (W).grownBy (w1) none from gby_trans (gby_refl _ _) g)
  clear g
  go_wp2
  go_loopw [16] (fun k wr => ∃ n : Nat, k = .int .i64 (n : Int) ∧ n ≤ n1 ∧ (∀ i j, i < n → i < j → j < n1 → PairOk xs os i j) ∧ (w1).grownBy wr none) (fun k _ => n1 - (intOf k).toNat)
  case atStart => exact ⟨0, rfl, by omega, fun i j hi => absurd hi (Nat.not_lt_zero _), gby_refl _ _⟩
  case round =>
    obtain ⟨wo, hwo_⟩ : ∃ w_, w_ = wr := ⟨_, rfl⟩
    subst hwo_
    obtain ⟨n, rfl, hn, hj_, hg⟩ := hrel
    have szrwo := hg.size
    try simp only [World.size_alloc] at szrwo
    try simp only [World.size_setCell] at szrwo
    have szr_ := szrwo
    have G2_ := Lib.hid (show (W).grownBy (wo) none from gby_trans G1_.out hg)
    have HTB_ := Lib.hid hg
    clear hg
    have HJ := Lib.hid hj_
    clear hj_
    have hn0_ : (0 : Int) ≤ (n : Int) := by omega
    have htn : ((n : Int)).toNat = n := by omega
    by_cases hlt : n < n1
    rotate_left
    · obtain rfl : n = n1 := by omega
      have hki : ¬ (n : Int) < (n : Int) := by omega
      go_wp2
      go_ret
      exact ⟨true, rfl, iff_yesL ⟨by rw [← HE.out]; exact HPE.out.1, by rw [← HE.out]; exact HPE.out.2, fun i k h1 h2 => HJ.out i k (by have := HE1.out; omega) h1 (by have := HE1.out; omega)⟩, G2_.out⟩
    have hki : (n : Int) < (n1 : Int) := by omega
    obtain ⟨b1, o1, rfl, hc1_⟩ := HA1.out.resolve_left (by omega)
    have HC1 := Lib.hid hc1_
    clear hc1_
    obtain ⟨p, hpe_⟩ : ∃ z9 : Nat, (z9 : Int) = os.getD n 0 := ⟨(os.getD n 0).toNat, by have := HPE.out.2.1 n (by have := HE1.out; omega); omega⟩
    have hpn_ : p < n0 := by have := HPE.out.2.1 n (by have := HE1.out; omega); omega
    have hpi_ : (p : Int) < (n0 : Int) := by omega
    have hpt_ : ((p : Int)).toNat = p := by omega
    have hp0_ : (0 : Int) ≤ (p : Int) := by omega
    have HpC := Lib.hid (show W.cell? ⟨b1, o1 + n, none⟩ = some (.int .i64 (p : Int)) from by rw [hpe_]; exact HC1.out n hlt)
    have HpE := Lib.hid hpe_
    clear hpe_
    obtain ⟨ab, ao, rfl, hcell_⟩ := HC.out.resolve_left (by omega)
    have HCE := Lib.hid hcell_
    clear hcell_
    have pc_ := (G2_.out).cell HpC.out (by simp)
    have hcc1_ : (n : Int) + 1 ≤ (n1 : Int) := by omega
    have hcc2_ : (n1 : Int) ≤ (cap1 : Int) := by omega
    have hcc3_ : (0 : Int) ≤ (n : Int) + 1 := by omega
    have hcc4_ : ((n : Int) + 1).toNat = n + 1 := by omega
    go_wp2
    all_goals
      go_loopw [26] (fun i wr => ∃ m : Nat, i = .int .i64 (m : Int) ∧ m ≤ (n1 - (n + 1)) ∧ (∀ j, j < m → PairOk xs os n (n + 1 + j)) ∧ (wo).grownBy wr none) (fun i _ => (n1 - (n + 1)) - (intOf i).toNat)
      case atStart => exact ⟨0, rfl, by omega, fun j hj => absurd hj (Nat.not_lt_zero _), gby_refl _ _⟩
      case round =>
        clear pc_
        obtain ⟨m, rfl, hm, hk_, hg⟩ := hrel
        have szrwr := hg.size
        try simp only [World.size_alloc] at szrwr
        try simp only [World.size_setCell] at szrwr
        have szr_ := szrwr
        have G3_ := Lib.hid (show (W).grownBy (wr) none from gby_trans G2_.out hg)
        have HTB4_ := Lib.hid (show (w1).grownBy (wr) none from gby_trans HTB_.out hg)
        clear HTB_
        have HTI_ := Lib.hid hg
        clear hg
        have pc_ := (G3_.out).cell HpC.out (by simp)
        have HK := Lib.hid hk_
        clear hk_
        have hm0_ : (0 : Int) ≤ (m : Int) := by omega
        have htm : ((m : Int)).toNat = m := by omega
        by_cases hlm : m < (n1 - (n + 1))
        rotate_left
        · obtain rfl : m = (n1 - (n + 1)) := by omega
          have hmi : ¬ (((n1 - (n + 1)) : Nat) : Int) < (((n1 - (n + 1)) : Nat) : Int) := by omega
          go_wp2
          first
            | refine ⟨⟨n + 1, by go_num, by omega, ?_, HTB4_.out⟩, by simp [intOf]; omega⟩
            | (refine ⟨⟨_, _, _, _, _, ?_, rfl, rfl, rfl, rfl, rfl⟩, by simp [intOf]; omega⟩
               refine ⟨n + 1, by go_num, by omega, ?_, HTB4_.out⟩)
          intro i j hi hj hj2
          by_cases e : i = n
          · subst e
            have := HK.out (j - (i + 1)) (by omega)
            rwa [show i + 1 + (j - (i + 1)) = j by omega] at this
          · exact HJ.out i j (by omega) hj hj2
        first
          | (exfalso; omega)
          | (skip
             have hmi : (m : Int) < (((n1 - (n + 1)) : Nat) : Int) := by omega
             have hnz_ : ¬ cap1 = n + 1 := by omega
             obtain ⟨q, hqe_⟩ : ∃ z9 : Nat, (z9 : Int) = os.getD (n + 1 + m) 0 := ⟨(os.getD (n + 1 + m) 0).toNat, by have := HPE.out.2.1 (n + 1 + m) (by have := HE1.out; omega); omega⟩
             have hqn_ : q < n0 := by have := HPE.out.2.1 (n + 1 + m) (by have := HE1.out; omega); omega
             have hqi_ : (q : Int) < (n0 : Int) := by omega
             have hqt_ : ((q : Int)).toNat = q := by omega
             have hq0_ : (0 : Int) ≤ (q : Int) := by omega
             have HqC := Lib.hid (show W.cell? ⟨b1, o1 + (n + 1 + m), none⟩ = some (.int .i64 (q : Int)) from by rw [hqe_]; exact HC1.out (n + 1 + m) (by omega))
             have HqE := Lib.hid hqe_
             clear hqe_
             have HqC2 := Lib.hid (show W.cell? ⟨b1, o1 + (n + 1) + m, none⟩ = some (.int .i64 (q : Int)) from by rw [Nat.add_assoc]; exact HqC.out)
             have qc_ := (G3_.out).cell HqC2.out (by simp)
             by_cases hqp : q < p
             rotate_left
             · have hqi_ : ¬ (q : Int) < (p : Int) := by omega
               go_wp2_with fail
               refine wp_region_held_drew (S := fun w' => True) (by kernel_rfl) (by trivial) (fun hHeld => ?_)
               refine wpAnyH_take (i := 0) (oi := { dst := some 30, op := Op.move (Operand.tmp 8), type := 3, pos := "l16_order.go:46", after := #[], guard := none }) (v := ?v0_r1_1) rfl (by kernel_rfl) (by kernel_rfl) (by kernel_rfl) (fun _ _ _ h => h) (Or.inl ⟨by rfl, ?y0_r1_1⟩) (by assumption) ?r0_r1_1
               case y0_r1_1 => (intro w hSw; (try dsimp only at hSw); go_simp; all_goals (with_reducible rfl))
               try simp only [Act.put, List.setIfInBounds_toArray, List.set_cons_zero, List.set_cons_succ]
               refine wpAnyH_take (i := 1) (oi := { dst := some 31, op := Op.move (Operand.tmp 6), type := 3, pos := "l16_order.go:46", after := #[], guard := none }) (v := ?v1_r1_2) rfl (by kernel_rfl) (by kernel_rfl) (by kernel_rfl) (fun _ _ _ h => h) (Or.inl ⟨by rfl, ?y1_r1_2⟩) (by assumption) ?r1_r1_2
               case y1_r1_2 => (intro w hSw; (try dsimp only at hSw); go_simp; all_goals (with_reducible rfl))
               try simp only [Act.put, List.setIfInBounds_toArray, List.set_cons_zero, List.set_cons_succ]
               refine wpAnyH_take (i := 2) (oi := { dst := some 32, op := Op.binOp BinOp.lss 3 (Operand.tmp 30) (Operand.tmp 31) 3, type := 4, pos := "l16_order.go:46", after := #[{ on := 0, ground := Ground.data }, { on := 1, ground := Ground.data }], guard := none }) (v := ?v2_r1_3) rfl (by kernel_rfl) (by kernel_rfl) (by kernel_rfl) (fun _ _ _ h => h) (Or.inl ⟨by rfl, ?y2_r1_3⟩) (by assumption) ?r2_r1_3
               case y2_r1_3 => (intro w hSw; (try dsimp only at hSw); go_simp; all_goals (with_reducible rfl))
               try simp only [Act.put, List.setIfInBounds_toArray, List.set_cons_zero, List.set_cons_succ]
               refine wpAnyH_take (i := 3) (oi := { dst := some 33, op := Op.move (Operand.tmp 32), type := 4, pos := "l16_order.go:46", after := #[{ on := 2, ground := Ground.data }], guard := none }) (v := ?v3_r1_4) rfl (by kernel_rfl) (by kernel_rfl) (by kernel_rfl) (fun _ _ _ h => h) (Or.inl ⟨by rfl, ?y3_r1_4⟩) (by assumption) ?r3_r1_4
               case y3_r1_4 => (intro w hSw; (try dsimp only at hSw); go_simp; all_goals (with_reducible rfl))
               try simp only [Act.put, List.setIfInBounds_toArray, List.set_cons_zero, List.set_cons_succ]
               refine wpAnyH_take (i := 4) (oi := { dst := some 34, op := Op.move (Operand.tmp 0), type := 30, pos := "l16_order.go:46", after := #[{ on := 3, ground := Ground.guard }], guard := some (3, true) }) (v := undef) rfl (by kernel_rfl) (by kernel_rfl) (by kernel_rfl) (fun _ _ _ h => h) (Or.inr ⟨by rfl, rfl⟩) (by assumption) ?r4_r1_5
               try simp only [Act.put, List.setIfInBounds_toArray, List.set_cons_zero, List.set_cons_succ]
               refine wpAnyH_take (i := 5) (oi := { dst := some 35, op := Op.move (Operand.tmp 6), type := 3, pos := "l16_order.go:46", after := #[{ on := 3, ground := Ground.guard }], guard := some (3, true) }) (v := undef) rfl (by kernel_rfl) (by kernel_rfl) (by kernel_rfl) (fun _ _ _ h => h) (Or.inr ⟨by rfl, rfl⟩) (by assumption) ?r5_r1_6
               try simp only [Act.put, List.setIfInBounds_toArray, List.set_cons_zero, List.set_cons_succ]
               refine wpAnyH_take (i := 6) (oi := { dst := some 36, op := Op.indexAddr 30 (Operand.tmp 34) (Operand.tmp 35), type := 0, pos := "l16_order.go:46", after := #[{ on := 4, ground := Ground.data }, { on := 5, ground := Ground.data }, { on := 3, ground := Ground.guard }], guard := some (3, true) }) (v := undef) rfl (by kernel_rfl) (by kernel_rfl) (by kernel_rfl) (fun _ _ _ h => h) (Or.inr ⟨by rfl, rfl⟩) (by assumption) ?r6_r1_7
               try simp only [Act.put, List.setIfInBounds_toArray, List.set_cons_zero, List.set_cons_succ]
               refine wpAnyH_take (i := 7) (oi := { dst := some 37, op := Op.load 60 (Operand.tmp 36), type := 60, pos := "l16_order.go:46", after := #[{ on := 6, ground := Ground.data }, { on := 3, ground := Ground.guard }], guard := some (3, true) }) (v := undef) rfl (by kernel_rfl) (by kernel_rfl) (by kernel_rfl) (fun _ _ _ h => h) (Or.inr ⟨by rfl, rfl⟩) (by assumption) ?r7_r1_8
               try simp only [Act.put, List.setIfInBounds_toArray, List.set_cons_zero, List.set_cons_succ]
               refine wpAnyH_take (i := 8) (oi := { dst := some 38, op := Op.move (Operand.tmp 0), type := 30, pos := "l16_order.go:46", after := #[{ on := 3, ground := Ground.guard }], guard := some (3, true) }) (v := undef) rfl (by kernel_rfl) (by kernel_rfl) (by kernel_rfl) (fun _ _ _ h => h) (Or.inr ⟨by rfl, rfl⟩) (by assumption) ?r8_r1_9
               try simp only [Act.put, List.setIfInBounds_toArray, List.set_cons_zero, List.set_cons_succ]
               refine wpAnyH_take (i := 9) (oi := { dst := some 39, op := Op.move (Operand.tmp 8), type := 3, pos := "l16_order.go:46", after := #[{ on := 3, ground := Ground.guard }], guard := some (3, true) }) (v := undef) rfl (by kernel_rfl) (by kernel_rfl) (by kernel_rfl) (fun _ _ _ h => h) (Or.inr ⟨by rfl, rfl⟩) (by assumption) ?r9_r1_10
               try simp only [Act.put, List.setIfInBounds_toArray, List.set_cons_zero, List.set_cons_succ]
               refine wpAnyH_take (i := 10) (oi := { dst := some 40, op := Op.indexAddr 30 (Operand.tmp 38) (Operand.tmp 39), type := 0, pos := "l16_order.go:46", after := #[{ on := 8, ground := Ground.data }, { on := 9, ground := Ground.data }, { on := 3, ground := Ground.guard }], guard := some (3, true) }) (v := undef) rfl (by kernel_rfl) (by kernel_rfl) (by kernel_rfl) (fun _ _ _ h => h) (Or.inr ⟨by rfl, rfl⟩) (by assumption) ?r10_r1_11
               try simp only [Act.put, List.setIfInBounds_toArray, List.set_cons_zero, List.set_cons_succ]
               refine wpAnyH_take (i := 11) (oi := { dst := some 41, op := Op.load 60 (Operand.tmp 40), type := 60, pos := "l16_order.go:46", after := #[{ on := 10, ground := Ground.data }, { on := 3, ground := Ground.guard }], guard := some (3, true) }) (v := undef) rfl (by kernel_rfl) (by kernel_rfl) (by kernel_rfl) (fun _ _ _ h => h) (Or.inr ⟨by rfl, rfl⟩) (by assumption) ?r11_r1_12
               try simp only [Act.put, List.setIfInBounds_toArray, List.set_cons_zero, List.set_cons_succ]
               refine wpAnyH_take (i := 12) (oi := { dst := some 42, op := Op.call { callee := Callee.value (Operand.func 72), args := #[Operand.tmp 37, Operand.tmp 41], argTypes := #[60, 60] }, type := 4, pos := "l16_order.go:46", after := #[{ on := 7, ground := Ground.data }, { on := 11, ground := Ground.data }, { on := 3, ground := Ground.chain }, { on := 3, ground := Ground.guard }], guard := some (3, true) }) (v := undef) rfl (by kernel_rfl) (by kernel_rfl) (by kernel_rfl) (fun _ _ _ h => h) (Or.inr ⟨by rfl, rfl⟩) (by assumption) ?r12_r1_13
               try simp only [Act.put, List.setIfInBounds_toArray, List.set_cons_zero, List.set_cons_succ]
               refine wpAnyH_take (i := 13) (oi := { dst := some 43, op := Op.unOp UnOp.not 4 (Operand.tmp 42), type := 4, pos := "l16_order.go:46", after := #[{ on := 12, ground := Ground.data }, { on := 3, ground := Ground.guard }], guard := some (3, true) }) (v := undef) rfl (by kernel_rfl) (by kernel_rfl) (by kernel_rfl) (fun _ _ _ h => h) (Or.inr ⟨by rfl, rfl⟩) (by assumption) ?r13_r1_14
               try simp only [Act.put, List.setIfInBounds_toArray, List.set_cons_zero, List.set_cons_succ]
               refine wpAnyH_take (i := 14) (oi := { dst := some 44, op := Op.pick (Operand.tmp 33) (Operand.tmp 43) (Operand.const (Value.bool false)), type := 4, pos := "l16_order.go:46", after := #[{ on := 3, ground := Ground.data }, { on := 13, ground := Ground.data }], guard := none }) (v := ?v14_r1_15) rfl (by kernel_rfl) (by kernel_rfl) (by kernel_rfl) (fun _ _ _ h => h) (Or.inl ⟨by rfl, ?y14_r1_15⟩) (by assumption) ?r14_r1_15
               case y14_r1_15 => (intro w hSw; (try dsimp only at hSw); go_simp; all_goals (with_reducible rfl))
               try simp only [Act.put, List.setIfInBounds_toArray, List.set_cons_zero, List.set_cons_succ]
               refine wpAnyH_done (by kernel_rfl) ?_ _
               have gR_ : (wr).grownBy ((wr).drew) none := (gby_drew (gby_refl _ none))
               clear pc_ qc_
               have G5_ := Lib.hid (show (W).grownBy ((wr).drew) none from gby_trans G3_.out gR_)
               have HTB6_ := Lib.hid (show (w1).grownBy ((wr).drew) none from gby_trans HTB4_.out gR_)
               clear HTB4_
               have HTI7_ := Lib.hid (show (wo).grownBy ((wr).drew) none from gby_trans HTI_.out gR_)
               clear HTI_
               clear gR_
               have szd_ : ((wr).drew).heap.size = (wr).heap.size := rfl
               go_wp2
               refine ⟨⟨m + 1, by go_num, by omega, fun j hj => ?_, HTI7_.out⟩, by simp [intOf]; omega⟩
               by_cases e : j = m
               · subst e; intro h; rw [← HpE.out, ← HqE.out] at h; omega
               · exact HK.out j (by omega)
             have hqi_ : (q : Int) < (p : Int) := by omega
             have hq_ : p < n0 := hpn_
             obtain ⟨cs_, hat_, hrd_⟩ := HCE.out p (by omega)
             obtain ⟨xk, hx_⟩ : ∃ x, x = xs.getD p default := ⟨_, rfl⟩
             rw [← hx_] at hrd_
             have hzk_ : szL shI xk.f7 ≤ 1048576 := by have q1 := szL_at shPacket xs p (by have := HE.out; omega); rw [← hx_] at q1; exact Nat.le_trans q1 HS.out
             have HXk := Lib.hid hx_
             obtain ⟨v7_, rfl, r7_⟩ := hrd_
             obtain ⟨pk, nk, ck, hv_⟩ := RdL.form r7_
             subst hv_
             have Rk := Lib.hid r7_
             have HEk0 := Lib.hid (show W.cell? ⟨ab, ao + p * 8, none⟩ = some (.int .i64 xk.f0) from at_cell (j := 0) hat_ rfl)
             have HEk1 := Lib.hid (show W.cell? ⟨ab, ao + p * 8 + 1, none⟩ = some (.int .i64 xk.f1) from at_cell (j := 1) hat_ rfl)
             have HEk2 := Lib.hid (show W.cell? ⟨ab, ao + p * 8 + 2, none⟩ = some (.int .i64 xk.f2) from at_cell (j := 2) hat_ rfl)
             have HEk3 := Lib.hid (show W.cell? ⟨ab, ao + p * 8 + 3, none⟩ = some (.int .i64 xk.f3) from at_cell (j := 3) hat_ rfl)
             have HEk4 := Lib.hid (show W.cell? ⟨ab, ao + p * 8 + 4, none⟩ = some (.int .i64 xk.f4) from at_cell (j := 4) hat_ rfl)
             have HEk5 := Lib.hid (show W.cell? ⟨ab, ao + p * 8 + 5, none⟩ = some (.int .i64 xk.f5) from at_cell (j := 5) hat_ rfl)
             have HEk6 := Lib.hid (show W.cell? ⟨ab, ao + p * 8 + 6, none⟩ = some (.int .i64 xk.f6) from at_cell (j := 6) hat_ rfl)
             have HEk7 := Lib.hid (show W.cell? ⟨ab, ao + p * 8 + 7, none⟩ = some (.slice pk nk ck) from at_cell (j := 7) hat_ rfl)
             clear hat_ r7_ hx_ hq_
             have ek0_ := (G3_.out).cell HEk0.out (by simp)
             have ek1_ := (G3_.out).cell HEk1.out (by simp)
             have ek2_ := (G3_.out).cell HEk2.out (by simp)
             have ek3_ := (G3_.out).cell HEk3.out (by simp)
             have ek4_ := (G3_.out).cell HEk4.out (by simp)
             have ek5_ := (G3_.out).cell HEk5.out (by simp)
             have ek6_ := (G3_.out).cell HEk6.out (by simp)
             have ek7_ := (G3_.out).cell HEk7.out (by simp)
             have hq_ : q < n0 := hqn_
             obtain ⟨cs_, hat_, hrd_⟩ := HCE.out q (by omega)
             obtain ⟨xi, hx_⟩ : ∃ x, x = xs.getD q default := ⟨_, rfl⟩
             rw [← hx_] at hrd_
             have hzi_ : szL shI xi.f7 ≤ 1048576 := by have q1 := szL_at shPacket xs q (by have := HE.out; omega); rw [← hx_] at q1; exact Nat.le_trans q1 HS.out
             have HXi := Lib.hid hx_
             obtain ⟨v7_, rfl, r7_⟩ := hrd_
             obtain ⟨pi, ni, ci, hv_⟩ := RdL.form r7_
             subst hv_
             have Ri := Lib.hid r7_
             have HEi0 := Lib.hid (show W.cell? ⟨ab, ao + q * 8, none⟩ = some (.int .i64 xi.f0) from at_cell (j := 0) hat_ rfl)
             have HEi1 := Lib.hid (show W.cell? ⟨ab, ao + q * 8 + 1, none⟩ = some (.int .i64 xi.f1) from at_cell (j := 1) hat_ rfl)
             have HEi2 := Lib.hid (show W.cell? ⟨ab, ao + q * 8 + 2, none⟩ = some (.int .i64 xi.f2) from at_cell (j := 2) hat_ rfl)
             have HEi3 := Lib.hid (show W.cell? ⟨ab, ao + q * 8 + 3, none⟩ = some (.int .i64 xi.f3) from at_cell (j := 3) hat_ rfl)
             have HEi4 := Lib.hid (show W.cell? ⟨ab, ao + q * 8 + 4, none⟩ = some (.int .i64 xi.f4) from at_cell (j := 4) hat_ rfl)
             have HEi5 := Lib.hid (show W.cell? ⟨ab, ao + q * 8 + 5, none⟩ = some (.int .i64 xi.f5) from at_cell (j := 5) hat_ rfl)
             have HEi6 := Lib.hid (show W.cell? ⟨ab, ao + q * 8 + 6, none⟩ = some (.int .i64 xi.f6) from at_cell (j := 6) hat_ rfl)
             have HEi7 := Lib.hid (show W.cell? ⟨ab, ao + q * 8 + 7, none⟩ = some (.slice pi ni ci) from at_cell (j := 7) hat_ rfl)
             clear hat_ r7_ hx_ hq_
             have ei0_ := (G3_.out).cell HEi0.out (by simp)
             have ei1_ := (G3_.out).cell HEi1.out (by simp)
             have ei2_ := (G3_.out).cell HEi2.out (by simp)
             have ei3_ := (G3_.out).cell HEi3.out (by simp)
             have ei4_ := (G3_.out).cell HEi4.out (by simp)
             have ei5_ := (G3_.out).cell HEi5.out (by simp)
             have ei6_ := (G3_.out).cell HEi6.out (by simp)
             have ei7_ := (G3_.out).cell HEi7.out (by simp)
             obtain ⟨mb_, hmb_⟩ : ∃ b, b = mayD xk xi := ⟨_, rfl⟩
             have HMB := Lib.hid hmb_
             clear hmb_
             have HMAY := Lib.hid (show ∀ w : World, RdL shI w (.slice pk nk ck) xk.f7 → RdL shI w (.slice pi ni ci) xi.f7 → Calls Try.prog 72 #[.agg #[.int .i64 xk.f0, .int .i64 xk.f1, .int .i64 xk.f2, .int .i64 xk.f3, .int .i64 xk.f4, .int .i64 xk.f5, .int .i64 xk.f6, .slice pk nk ck], .agg #[.int .i64 xi.f0, .int .i64 xi.f1, .int .i64 xi.f2, .int .i64 xi.f3, .int .i64 xi.f4, .int .i64 xi.f5, .int .i64 xi.f6, .slice pi ni ci]] w (AnsN (.bool mb_) w) from by rw [HMB.out]; exact fun w h1 h2 => implMayD w xk xi _ _ h1 h2 hzk_ hzi_)
             have HPO := Lib.hid (show PairOk xs os n (n + 1 + m) ↔ mb_ = true from by unfold PairOk; rw [← HpE.out, ← HqE.out, hpt_, hqt_, ← HXk.out, ← HXi.out, HMB.out]; exact ⟨fun h => h hqi_, fun h _ => h⟩)
             cases mb_
             · skip
               go_wp2_with fail
               refine wp_region_held_drew (S := fun w' => w'.cell? ⟨ab, ao + p * 8, none⟩ = some (.int .i64 xk.f0) ∧ w'.cell? ⟨ab, ao + p * 8 + 1, none⟩ = some (.int .i64 xk.f1) ∧ w'.cell? ⟨ab, ao + p * 8 + 2, none⟩ = some (.int .i64 xk.f2) ∧ w'.cell? ⟨ab, ao + p * 8 + 3, none⟩ = some (.int .i64 xk.f3) ∧ w'.cell? ⟨ab, ao + p * 8 + 4, none⟩ = some (.int .i64 xk.f4) ∧ w'.cell? ⟨ab, ao + p * 8 + 5, none⟩ = some (.int .i64 xk.f5) ∧ w'.cell? ⟨ab, ao + p * 8 + 6, none⟩ = some (.int .i64 xk.f6) ∧ w'.cell? ⟨ab, ao + p * 8 + 7, none⟩ = some (.slice pk nk ck) ∧ w'.cell? ⟨ab, ao + q * 8, none⟩ = some (.int .i64 xi.f0) ∧ w'.cell? ⟨ab, ao + q * 8 + 1, none⟩ = some (.int .i64 xi.f1) ∧ w'.cell? ⟨ab, ao + q * 8 + 2, none⟩ = some (.int .i64 xi.f2) ∧ w'.cell? ⟨ab, ao + q * 8 + 3, none⟩ = some (.int .i64 xi.f3) ∧ w'.cell? ⟨ab, ao + q * 8 + 4, none⟩ = some (.int .i64 xi.f4) ∧ w'.cell? ⟨ab, ao + q * 8 + 5, none⟩ = some (.int .i64 xi.f5) ∧ w'.cell? ⟨ab, ao + q * 8 + 6, none⟩ = some (.int .i64 xi.f6) ∧ w'.cell? ⟨ab, ao + q * 8 + 7, none⟩ = some (.slice pi ni ci)) (by kernel_rfl) (by (try dsimp only); exact ⟨ek0_, ek1_, ek2_, ek3_, ek4_, ek5_, ek6_, ek7_, ei0_, ei1_, ei2_, ei3_, ei4_, ei5_, ei6_, ei7_⟩) (fun hHeld => ?_)
               refine wpAnyH_take (i := 0) (oi := { dst := some 30, op := Op.move (Operand.tmp 8), type := 3, pos := "l16_order.go:46", after := #[], guard := none }) (v := ?v0_r2_1) rfl (by kernel_rfl) (by kernel_rfl) (by kernel_rfl) (fun _ _ _ h => h) (Or.inl ⟨by rfl, ?y0_r2_1⟩) (by assumption) ?r0_r2_1
               case y0_r2_1 => (intro w hSw; (try dsimp only at hSw); go_simp; all_goals (with_reducible rfl))
               try simp only [Act.put, List.setIfInBounds_toArray, List.set_cons_zero, List.set_cons_succ]
               refine wpAnyH_take (i := 1) (oi := { dst := some 31, op := Op.move (Operand.tmp 6), type := 3, pos := "l16_order.go:46", after := #[], guard := none }) (v := ?v1_r2_2) rfl (by kernel_rfl) (by kernel_rfl) (by kernel_rfl) (fun _ _ _ h => h) (Or.inl ⟨by rfl, ?y1_r2_2⟩) (by assumption) ?r1_r2_2
               case y1_r2_2 => (intro w hSw; (try dsimp only at hSw); go_simp; all_goals (with_reducible rfl))
               try simp only [Act.put, List.setIfInBounds_toArray, List.set_cons_zero, List.set_cons_succ]
               refine wpAnyH_take (i := 2) (oi := { dst := some 32, op := Op.binOp BinOp.lss 3 (Operand.tmp 30) (Operand.tmp 31) 3, type := 4, pos := "l16_order.go:46", after := #[{ on := 0, ground := Ground.data }, { on := 1, ground := Ground.data }], guard := none }) (v := ?v2_r2_3) rfl (by kernel_rfl) (by kernel_rfl) (by kernel_rfl) (fun _ _ _ h => h) (Or.inl ⟨by rfl, ?y2_r2_3⟩) (by assumption) ?r2_r2_3
               case y2_r2_3 => (intro w hSw; (try dsimp only at hSw); go_simp; all_goals (with_reducible rfl))
               try simp only [Act.put, List.setIfInBounds_toArray, List.set_cons_zero, List.set_cons_succ]
               refine wpAnyH_take (i := 3) (oi := { dst := some 33, op := Op.move (Operand.tmp 32), type := 4, pos := "l16_order.go:46", after := #[{ on := 2, ground := Ground.data }], guard := none }) (v := ?v3_r2_4) rfl (by kernel_rfl) (by kernel_rfl) (by kernel_rfl) (fun _ _ _ h => h) (Or.inl ⟨by rfl, ?y3_r2_4⟩) (by assumption) ?r3_r2_4
               case y3_r2_4 => (intro w hSw; (try dsimp only at hSw); go_simp; all_goals (with_reducible rfl))
               try simp only [Act.put, List.setIfInBounds_toArray, List.set_cons_zero, List.set_cons_succ]
               refine wpAnyH_take (i := 4) (oi := { dst := some 34, op := Op.move (Operand.tmp 0), type := 30, pos := "l16_order.go:46", after := #[{ on := 3, ground := Ground.guard }], guard := some (3, true) }) (v := ?v4_r2_5) rfl (by kernel_rfl) (by kernel_rfl) (by kernel_rfl) (fun _ _ _ h => h) (Or.inl ⟨by rfl, ?y4_r2_5⟩) (by assumption) ?r4_r2_5
               case y4_r2_5 => (intro w hSw; (try dsimp only at hSw); go_simp; all_goals (with_reducible rfl))
               try simp only [Act.put, List.setIfInBounds_toArray, List.set_cons_zero, List.set_cons_succ]
               refine wpAnyH_take (i := 5) (oi := { dst := some 35, op := Op.move (Operand.tmp 6), type := 3, pos := "l16_order.go:46", after := #[{ on := 3, ground := Ground.guard }], guard := some (3, true) }) (v := ?v5_r2_6) rfl (by kernel_rfl) (by kernel_rfl) (by kernel_rfl) (fun _ _ _ h => h) (Or.inl ⟨by rfl, ?y5_r2_6⟩) (by assumption) ?r5_r2_6
               case y5_r2_6 => (intro w hSw; (try dsimp only at hSw); go_simp; all_goals (with_reducible rfl))
               try simp only [Act.put, List.setIfInBounds_toArray, List.set_cons_zero, List.set_cons_succ]
               refine wpAnyH_take (i := 6) (oi := { dst := some 36, op := Op.indexAddr 30 (Operand.tmp 34) (Operand.tmp 35), type := 0, pos := "l16_order.go:46", after := #[{ on := 4, ground := Ground.data }, { on := 5, ground := Ground.data }, { on := 3, ground := Ground.guard }], guard := some (3, true) }) (v := ?v6_r2_7) rfl (by kernel_rfl) (by kernel_rfl) (by kernel_rfl) (fun _ _ _ h => h) (Or.inl ⟨by rfl, ?y6_r2_7⟩) (by assumption) ?r6_r2_7
               case y6_r2_7 => (intro w hSw; (try dsimp only at hSw); go_simp; all_goals (with_reducible rfl))
               try simp only [Act.put, List.setIfInBounds_toArray, List.set_cons_zero, List.set_cons_succ]
               refine wpAnyH_take (i := 7) (oi := { dst := some 37, op := Op.load 60 (Operand.tmp 36), type := 60, pos := "l16_order.go:46", after := #[{ on := 6, ground := Ground.data }, { on := 3, ground := Ground.guard }], guard := some (3, true) }) (v := ?v7_r2_8) rfl (by kernel_rfl) (by kernel_rfl) (by kernel_rfl) (fun _ _ _ h => h) (Or.inl ⟨by rfl, ?y7_r2_8⟩) (by assumption) ?r7_r2_8
               case y7_r2_8 => (intro w hSw; (try dsimp only at hSw); go_simp; all_goals (with_reducible rfl))
               try simp only [Act.put, List.setIfInBounds_toArray, List.set_cons_zero, List.set_cons_succ]
               refine wpAnyH_take (i := 8) (oi := { dst := some 38, op := Op.move (Operand.tmp 0), type := 30, pos := "l16_order.go:46", after := #[{ on := 3, ground := Ground.guard }], guard := some (3, true) }) (v := ?v8_r2_9) rfl (by kernel_rfl) (by kernel_rfl) (by kernel_rfl) (fun _ _ _ h => h) (Or.inl ⟨by rfl, ?y8_r2_9⟩) (by assumption) ?r8_r2_9
               case y8_r2_9 => (intro w hSw; (try dsimp only at hSw); go_simp; all_goals (with_reducible rfl))
               try simp only [Act.put, List.setIfInBounds_toArray, List.set_cons_zero, List.set_cons_succ]
               refine wpAnyH_take (i := 9) (oi := { dst := some 39, op := Op.move (Operand.tmp 8), type := 3, pos := "l16_order.go:46", after := #[{ on := 3, ground := Ground.guard }], guard := some (3, true) }) (v := ?v9_r2_10) rfl (by kernel_rfl) (by kernel_rfl) (by kernel_rfl) (fun _ _ _ h => h) (Or.inl ⟨by rfl, ?y9_r2_10⟩) (by assumption) ?r9_r2_10
               case y9_r2_10 => (intro w hSw; (try dsimp only at hSw); go_simp; all_goals (with_reducible rfl))
               try simp only [Act.put, List.setIfInBounds_toArray, List.set_cons_zero, List.set_cons_succ]
               refine wpAnyH_take (i := 10) (oi := { dst := some 40, op := Op.indexAddr 30 (Operand.tmp 38) (Operand.tmp 39), type := 0, pos := "l16_order.go:46", after := #[{ on := 8, ground := Ground.data }, { on := 9, ground := Ground.data }, { on := 3, ground := Ground.guard }], guard := some (3, true) }) (v := ?v10_r2_11) rfl (by kernel_rfl) (by kernel_rfl) (by kernel_rfl) (fun _ _ _ h => h) (Or.inl ⟨by rfl, ?y10_r2_11⟩) (by assumption) ?r10_r2_11
               case y10_r2_11 => (intro w hSw; (try dsimp only at hSw); go_simp; all_goals (with_reducible rfl))
               try simp only [Act.put, List.setIfInBounds_toArray, List.set_cons_zero, List.set_cons_succ]
               refine wpAnyH_take (i := 11) (oi := { dst := some 41, op := Op.load 60 (Operand.tmp 40), type := 60, pos := "l16_order.go:46", after := #[{ on := 10, ground := Ground.data }, { on := 3, ground := Ground.guard }], guard := some (3, true) }) (v := ?v11_r2_12) rfl (by kernel_rfl) (by kernel_rfl) (by kernel_rfl) (fun _ _ _ h => h) (Or.inl ⟨by rfl, ?y11_r2_12⟩) (by assumption) ?r11_r2_12
               case y11_r2_12 => (intro w hSw; (try dsimp only at hSw); go_simp; all_goals (with_reducible rfl))
               try simp only [Act.put, List.setIfInBounds_toArray, List.set_cons_zero, List.set_cons_succ]
               refine wpAnyH_ready (rs := [12]) (by kernel_rfl) (by simp) ?_
               refine AllReadyH.cons (o := { dst := some 42, op := Op.call { callee := Callee.value (Operand.func 72), args := #[Operand.tmp 37, Operand.tmp 41], argTypes := #[60, 60] }, type := 4, pos := "l16_order.go:46", after := #[{ on := 7, ground := Ground.data }, { on := 11, ground := Ground.data }, { on := 3, ground := Ground.chain }, { on := 3, ground := Ground.guard }], guard := some (3, true) }) rfl (fun K hK => ?_) AllReadyH.nil
               go_simp
               go_at_call 72
               refine (HMAY.out _ (Rk.out.grow (gby_trans G3_.out (gby_drew (gby_refl _ none)))) (Ri.out.grow (gby_trans G3_.out (gby_drew (gby_refl _ none))))).mono ?_
               rintro e wH13_r2 ⟨rfl, gH13_r2⟩
               have m13_ek0_ : wH13_r2.cell? _ = some _ := gH13_r2.cell ek0_ (by simp); have m13_ek1_ : wH13_r2.cell? _ = some _ := gH13_r2.cell ek1_ (by simp); have m13_ek2_ : wH13_r2.cell? _ = some _ := gH13_r2.cell ek2_ (by simp); have m13_ek3_ : wH13_r2.cell? _ = some _ := gH13_r2.cell ek3_ (by simp); have m13_ek4_ : wH13_r2.cell? _ = some _ := gH13_r2.cell ek4_ (by simp); have m13_ek5_ : wH13_r2.cell? _ = some _ := gH13_r2.cell ek5_ (by simp); have m13_ek6_ : wH13_r2.cell? _ = some _ := gH13_r2.cell ek6_ (by simp); have m13_ek7_ : wH13_r2.cell? _ = some _ := gH13_r2.cell ek7_ (by simp); have m13_ei0_ : wH13_r2.cell? _ = some _ := gH13_r2.cell ei0_ (by simp); have m13_ei1_ : wH13_r2.cell? _ = some _ := gH13_r2.cell ei1_ (by simp); have m13_ei2_ : wH13_r2.cell? _ = some _ := gH13_r2.cell ei2_ (by simp); have m13_ei3_ : wH13_r2.cell? _ = some _ := gH13_r2.cell ei3_ (by simp); have m13_ei4_ : wH13_r2.cell? _ = some _ := gH13_r2.cell ei4_ (by simp); have m13_ei5_ : wH13_r2.cell? _ = some _ := gH13_r2.cell ei5_ (by simp); have m13_ei6_ : wH13_r2.cell? _ = some _ := gH13_r2.cell ei6_ (by simp); have m13_ei7_ : wH13_r2.cell? _ = some _ := gH13_r2.cell ei7_ (by simp)
               go_wp2_with fail
               clear hHeld
               refine hK.out _ _ ?s12_r2_13 (fun hHeld => ?_)
               case s12_r2_13 => exact ⟨m13_ek0_, m13_ek1_, m13_ek2_, m13_ek3_, m13_ek4_, m13_ek5_, m13_ek6_, m13_ek7_, m13_ei0_, m13_ei1_, m13_ei2_, m13_ei3_, m13_ei4_, m13_ei5_, m13_ei6_, m13_ei7_⟩
               clear hK K
               try simp only [Act.put, List.setIfInBounds_toArray, List.set_cons_zero, List.set_cons_succ]
               refine wpAnyH_take (i := 13) (oi := { dst := some 43, op := Op.unOp UnOp.not 4 (Operand.tmp 42), type := 4, pos := "l16_order.go:46", after := #[{ on := 12, ground := Ground.data }, { on := 3, ground := Ground.guard }], guard := some (3, true) }) (v := ?v13_r2_14) rfl (by kernel_rfl) (by kernel_rfl) (by kernel_rfl) (fun _ _ _ h => h) (Or.inl ⟨by rfl, ?y13_r2_14⟩) (by assumption) ?r13_r2_14
               case y13_r2_14 => (intro w hSw; (try dsimp only at hSw); go_simp; all_goals (with_reducible rfl))
               try simp only [Act.put, List.setIfInBounds_toArray, List.set_cons_zero, List.set_cons_succ]
               refine wpAnyH_take (i := 14) (oi := { dst := some 44, op := Op.pick (Operand.tmp 33) (Operand.tmp 43) (Operand.const (Value.bool false)), type := 4, pos := "l16_order.go:46", after := #[{ on := 3, ground := Ground.data }, { on := 13, ground := Ground.data }], guard := none }) (v := ?v14_r2_15) rfl (by kernel_rfl) (by kernel_rfl) (by kernel_rfl) (fun _ _ _ h => h) (Or.inl ⟨by rfl, ?y14_r2_15⟩) (by assumption) ?r14_r2_15
               case y14_r2_15 => (intro w hSw; (try dsimp only at hSw); go_simp; all_goals (with_reducible rfl))
               try simp only [Act.put, List.setIfInBounds_toArray, List.set_cons_zero, List.set_cons_succ]
               refine wpAnyH_done (by kernel_rfl) ?_ _
               have gR_ : (wr).grownBy (wH13_r2) none := (gby_trans (gby_drew (gby_refl _ none)) gH13_r2)
               have szwH13_r2 := gR_.size
               try simp only [World.size_alloc] at szwH13_r2
               clear pc_ qc_ ek0_ ek1_ ek2_ ek3_ ek4_ ek5_ ek6_ ek7_ ei0_ ei1_ ei2_ ei3_ ei4_ ei5_ ei6_ ei7_
               have G5_ := Lib.hid (show (W).grownBy (wH13_r2) none from gby_trans G3_.out gR_)
               have HTB6_ := Lib.hid (show (w1).grownBy (wH13_r2) none from gby_trans HTB4_.out gR_)
               clear HTB4_
               have HTI7_ := Lib.hid (show (wo).grownBy (wH13_r2) none from gby_trans HTI_.out gR_)
               clear HTI_
               clear gR_
               go_wp2
               go_ret
               exact ⟨false, rfl, iff_noL (fun h => by simpa using HPO.out.1 (h.2.2 n (n + 1 + m) (by omega) (by have := HE1.out; omega))), G5_.out⟩
             · skip
               go_wp2_with fail
               refine wp_region_held_drew (S := fun w' => w'.cell? ⟨ab, ao + p * 8, none⟩ = some (.int .i64 xk.f0) ∧ w'.cell? ⟨ab, ao + p * 8 + 1, none⟩ = some (.int .i64 xk.f1) ∧ w'.cell? ⟨ab, ao + p * 8 + 2, none⟩ = some (.int .i64 xk.f2) ∧ w'.cell? ⟨ab, ao + p * 8 + 3, none⟩ = some (.int .i64 xk.f3) ∧ w'.cell? ⟨ab, ao + p * 8 + 4, none⟩ = some (.int .i64 xk.f4) ∧ w'.cell? ⟨ab, ao + p * 8 + 5, none⟩ = some (.int .i64 xk.f5) ∧ w'.cell? ⟨ab, ao + p * 8 + 6, none⟩ = some (.int .i64 xk.f6) ∧ w'.cell? ⟨ab, ao + p * 8 + 7, none⟩ = some (.slice pk nk ck) ∧ w'.cell? ⟨ab, ao + q * 8, none⟩ = some (.int .i64 xi.f0) ∧ w'.cell? ⟨ab, ao + q * 8 + 1, none⟩ = some (.int .i64 xi.f1) ∧ w'.cell? ⟨ab, ao + q * 8 + 2, none⟩ = some (.int .i64 xi.f2) ∧ w'.cell? ⟨ab, ao + q * 8 + 3, none⟩ = some (.int .i64 xi.f3) ∧ w'.cell? ⟨ab, ao + q * 8 + 4, none⟩ = some (.int .i64 xi.f4) ∧ w'.cell? ⟨ab, ao + q * 8 + 5, none⟩ = some (.int .i64 xi.f5) ∧ w'.cell? ⟨ab, ao + q * 8 + 6, none⟩ = some (.int .i64 xi.f6) ∧ w'.cell? ⟨ab, ao + q * 8 + 7, none⟩ = some (.slice pi ni ci)) (by kernel_rfl) (by (try dsimp only); exact ⟨ek0_, ek1_, ek2_, ek3_, ek4_, ek5_, ek6_, ek7_, ei0_, ei1_, ei2_, ei3_, ei4_, ei5_, ei6_, ei7_⟩) (fun hHeld => ?_)
               refine wpAnyH_take (i := 0) (oi := { dst := some 30, op := Op.move (Operand.tmp 8), type := 3, pos := "l16_order.go:46", after := #[], guard := none }) (v := ?v0_r3_1) rfl (by kernel_rfl) (by kernel_rfl) (by kernel_rfl) (fun _ _ _ h => h) (Or.inl ⟨by rfl, ?y0_r3_1⟩) (by assumption) ?r0_r3_1
               case y0_r3_1 => (intro w hSw; (try dsimp only at hSw); go_simp; all_goals (with_reducible rfl))
               try simp only [Act.put, List.setIfInBounds_toArray, List.set_cons_zero, List.set_cons_succ]
               refine wpAnyH_take (i := 1) (oi := { dst := some 31, op := Op.move (Operand.tmp 6), type := 3, pos := "l16_order.go:46", after := #[], guard := none }) (v := ?v1_r3_2) rfl (by kernel_rfl) (by kernel_rfl) (by kernel_rfl) (fun _ _ _ h => h) (Or.inl ⟨by rfl, ?y1_r3_2⟩) (by assumption) ?r1_r3_2
               case y1_r3_2 => (intro w hSw; (try dsimp only at hSw); go_simp; all_goals (with_reducible rfl))
               try simp only [Act.put, List.setIfInBounds_toArray, List.set_cons_zero, List.set_cons_succ]
               refine wpAnyH_take (i := 2) (oi := { dst := some 32, op := Op.binOp BinOp.lss 3 (Operand.tmp 30) (Operand.tmp 31) 3, type := 4, pos := "l16_order.go:46", after := #[{ on := 0, ground := Ground.data }, { on := 1, ground := Ground.data }], guard := none }) (v := ?v2_r3_3) rfl (by kernel_rfl) (by kernel_rfl) (by kernel_rfl) (fun _ _ _ h => h) (Or.inl ⟨by rfl, ?y2_r3_3⟩) (by assumption) ?r2_r3_3
               case y2_r3_3 => (intro w hSw; (try dsimp only at hSw); go_simp; all_goals (with_reducible rfl))
               try simp only [Act.put, List.setIfInBounds_toArray, List.set_cons_zero, List.set_cons_succ]
               refine wpAnyH_take (i := 3) (oi := { dst := some 33, op := Op.move (Operand.tmp 32), type := 4, pos := "l16_order.go:46", after := #[{ on := 2, ground := Ground.data }], guard := none }) (v := ?v3_r3_4) rfl (by kernel_rfl) (by kernel_rfl) (by kernel_rfl) (fun _ _ _ h => h) (Or.inl ⟨by rfl, ?y3_r3_4⟩) (by assumption) ?r3_r3_4
               case y3_r3_4 => (intro w hSw; (try dsimp only at hSw); go_simp; all_goals (with_reducible rfl))
               try simp only [Act.put, List.setIfInBounds_toArray, List.set_cons_zero, List.set_cons_succ]
               refine wpAnyH_take (i := 4) (oi := { dst := some 34, op := Op.move (Operand.tmp 0), type := 30, pos := "l16_order.go:46", after := #[{ on := 3, ground := Ground.guard }], guard := some (3, true) }) (v := ?v4_r3_5) rfl (by kernel_rfl) (by kernel_rfl) (by kernel_rfl) (fun _ _ _ h => h) (Or.inl ⟨by rfl, ?y4_r3_5⟩) (by assumption) ?r4_r3_5
               case y4_r3_5 => (intro w hSw; (try dsimp only at hSw); go_simp; all_goals (with_reducible rfl))
               try simp only [Act.put, List.setIfInBounds_toArray, List.set_cons_zero, List.set_cons_succ]
               refine wpAnyH_take (i := 5) (oi := { dst := some 35, op := Op.move (Operand.tmp 6), type := 3, pos := "l16_order.go:46", after := #[{ on := 3, ground := Ground.guard }], guard := some (3, true) }) (v := ?v5_r3_6) rfl (by kernel_rfl) (by kernel_rfl) (by kernel_rfl) (fun _ _ _ h => h) (Or.inl ⟨by rfl, ?y5_r3_6⟩) (by assumption) ?r5_r3_6
               case y5_r3_6 => (intro w hSw; (try dsimp only at hSw); go_simp; all_goals (with_reducible rfl))
               try simp only [Act.put, List.setIfInBounds_toArray, List.set_cons_zero, List.set_cons_succ]
               refine wpAnyH_take (i := 6) (oi := { dst := some 36, op := Op.indexAddr 30 (Operand.tmp 34) (Operand.tmp 35), type := 0, pos := "l16_order.go:46", after := #[{ on := 4, ground := Ground.data }, { on := 5, ground := Ground.data }, { on := 3, ground := Ground.guard }], guard := some (3, true) }) (v := ?v6_r3_7) rfl (by kernel_rfl) (by kernel_rfl) (by kernel_rfl) (fun _ _ _ h => h) (Or.inl ⟨by rfl, ?y6_r3_7⟩) (by assumption) ?r6_r3_7
               case y6_r3_7 => (intro w hSw; (try dsimp only at hSw); go_simp; all_goals (with_reducible rfl))
               try simp only [Act.put, List.setIfInBounds_toArray, List.set_cons_zero, List.set_cons_succ]
               refine wpAnyH_take (i := 7) (oi := { dst := some 37, op := Op.load 60 (Operand.tmp 36), type := 60, pos := "l16_order.go:46", after := #[{ on := 6, ground := Ground.data }, { on := 3, ground := Ground.guard }], guard := some (3, true) }) (v := ?v7_r3_8) rfl (by kernel_rfl) (by kernel_rfl) (by kernel_rfl) (fun _ _ _ h => h) (Or.inl ⟨by rfl, ?y7_r3_8⟩) (by assumption) ?r7_r3_8
               case y7_r3_8 => (intro w hSw; (try dsimp only at hSw); go_simp; all_goals (with_reducible rfl))
               try simp only [Act.put, List.setIfInBounds_toArray, List.set_cons_zero, List.set_cons_succ]
               refine wpAnyH_take (i := 8) (oi := { dst := some 38, op := Op.move (Operand.tmp 0), type := 30, pos := "l16_order.go:46", after := #[{ on := 3, ground := Ground.guard }], guard := some (3, true) }) (v := ?v8_r3_9) rfl (by kernel_rfl) (by kernel_rfl) (by kernel_rfl) (fun _ _ _ h => h) (Or.inl ⟨by rfl, ?y8_r3_9⟩) (by assumption) ?r8_r3_9
               case y8_r3_9 => (intro w hSw; (try dsimp only at hSw); go_simp; all_goals (with_reducible rfl))
               try simp only [Act.put, List.setIfInBounds_toArray, List.set_cons_zero, List.set_cons_succ]
               refine wpAnyH_take (i := 9) (oi := { dst := some 39, op := Op.move (Operand.tmp 8), type := 3, pos := "l16_order.go:46", after := #[{ on := 3, ground := Ground.guard }], guard := some (3, true) }) (v := ?v9_r3_10) rfl (by kernel_rfl) (by kernel_rfl) (by kernel_rfl) (fun _ _ _ h => h) (Or.inl ⟨by rfl, ?y9_r3_10⟩) (by assumption) ?r9_r3_10
               case y9_r3_10 => (intro w hSw; (try dsimp only at hSw); go_simp; all_goals (with_reducible rfl))
               try simp only [Act.put, List.setIfInBounds_toArray, List.set_cons_zero, List.set_cons_succ]
               refine wpAnyH_take (i := 10) (oi := { dst := some 40, op := Op.indexAddr 30 (Operand.tmp 38) (Operand.tmp 39), type := 0, pos := "l16_order.go:46", after := #[{ on := 8, ground := Ground.data }, { on := 9, ground := Ground.data }, { on := 3, ground := Ground.guard }], guard := some (3, true) }) (v := ?v10_r3_11) rfl (by kernel_rfl) (by kernel_rfl) (by kernel_rfl) (fun _ _ _ h => h) (Or.inl ⟨by rfl, ?y10_r3_11⟩) (by assumption) ?r10_r3_11
               case y10_r3_11 => (intro w hSw; (try dsimp only at hSw); go_simp; all_goals (with_reducible rfl))
               try simp only [Act.put, List.setIfInBounds_toArray, List.set_cons_zero, List.set_cons_succ]
               refine wpAnyH_take (i := 11) (oi := { dst := some 41, op := Op.load 60 (Operand.tmp 40), type := 60, pos := "l16_order.go:46", after := #[{ on := 10, ground := Ground.data }, { on := 3, ground := Ground.guard }], guard := some (3, true) }) (v := ?v11_r3_12) rfl (by kernel_rfl) (by kernel_rfl) (by kernel_rfl) (fun _ _ _ h => h) (Or.inl ⟨by rfl, ?y11_r3_12⟩) (by assumption) ?r11_r3_12
               case y11_r3_12 => (intro w hSw; (try dsimp only at hSw); go_simp; all_goals (with_reducible rfl))
               try simp only [Act.put, List.setIfInBounds_toArray, List.set_cons_zero, List.set_cons_succ]
               refine wpAnyH_ready (rs := [12]) (by kernel_rfl) (by simp) ?_
               refine AllReadyH.cons (o := { dst := some 42, op := Op.call { callee := Callee.value (Operand.func 72), args := #[Operand.tmp 37, Operand.tmp 41], argTypes := #[60, 60] }, type := 4, pos := "l16_order.go:46", after := #[{ on := 7, ground := Ground.data }, { on := 11, ground := Ground.data }, { on := 3, ground := Ground.chain }, { on := 3, ground := Ground.guard }], guard := some (3, true) }) rfl (fun K hK => ?_) AllReadyH.nil
               go_simp
               go_at_call 72
               refine (HMAY.out _ (Rk.out.grow (gby_trans G3_.out (gby_drew (gby_refl _ none)))) (Ri.out.grow (gby_trans G3_.out (gby_drew (gby_refl _ none))))).mono ?_
               rintro e wH13_r3 ⟨rfl, gH13_r3⟩
               have m13_ek0_ : wH13_r3.cell? _ = some _ := gH13_r3.cell ek0_ (by simp); have m13_ek1_ : wH13_r3.cell? _ = some _ := gH13_r3.cell ek1_ (by simp); have m13_ek2_ : wH13_r3.cell? _ = some _ := gH13_r3.cell ek2_ (by simp); have m13_ek3_ : wH13_r3.cell? _ = some _ := gH13_r3.cell ek3_ (by simp); have m13_ek4_ : wH13_r3.cell? _ = some _ := gH13_r3.cell ek4_ (by simp); have m13_ek5_ : wH13_r3.cell? _ = some _ := gH13_r3.cell ek5_ (by simp); have m13_ek6_ : wH13_r3.cell? _ = some _ := gH13_r3.cell ek6_ (by simp); have m13_ek7_ : wH13_r3.cell? _ = some _ := gH13_r3.cell ek7_ (by simp); have m13_ei0_ : wH13_r3.cell? _ = some _ := gH13_r3.cell ei0_ (by simp); have m13_ei1_ : wH13_r3.cell? _ = some _ := gH13_r3.cell ei1_ (by simp); have m13_ei2_ : wH13_r3.cell? _ = some _ := gH13_r3.cell ei2_ (by simp); have m13_ei3_ : wH13_r3.cell? _ = some _ := gH13_r3.cell ei3_ (by simp); have m13_ei4_ : wH13_r3.cell? _ = some _ := gH13_r3.cell ei4_ (by simp); have m13_ei5_ : wH13_r3.cell? _ = some _ := gH13_r3.cell ei5_ (by simp); have m13_ei6_ : wH13_r3.cell? _ = some _ := gH13_r3.cell ei6_ (by simp); have m13_ei7_ : wH13_r3.cell? _ = some _ := gH13_r3.cell ei7_ (by simp)
               go_wp2_with fail
               clear hHeld
               refine hK.out _ _ ?s12_r3_13 (fun hHeld => ?_)
               case s12_r3_13 => exact ⟨m13_ek0_, m13_ek1_, m13_ek2_, m13_ek3_, m13_ek4_, m13_ek5_, m13_ek6_, m13_ek7_, m13_ei0_, m13_ei1_, m13_ei2_, m13_ei3_, m13_ei4_, m13_ei5_, m13_ei6_, m13_ei7_⟩
               clear hK K
               try simp only [Act.put, List.setIfInBounds_toArray, List.set_cons_zero, List.set_cons_succ]
               refine wpAnyH_take (i := 13) (oi := { dst := some 43, op := Op.unOp UnOp.not 4 (Operand.tmp 42), type := 4, pos := "l16_order.go:46", after := #[{ on := 12, ground := Ground.data }, { on := 3, ground := Ground.guard }], guard := some (3, true) }) (v := ?v13_r3_14) rfl (by kernel_rfl) (by kernel_rfl) (by kernel_rfl) (fun _ _ _ h => h) (Or.inl ⟨by rfl, ?y13_r3_14⟩) (by assumption) ?r13_r3_14
               case y13_r3_14 => (intro w hSw; (try dsimp only at hSw); go_simp; all_goals (with_reducible rfl))
               try simp only [Act.put, List.setIfInBounds_toArray, List.set_cons_zero, List.set_cons_succ]
               refine wpAnyH_take (i := 14) (oi := { dst := some 44, op := Op.pick (Operand.tmp 33) (Operand.tmp 43) (Operand.const (Value.bool false)), type := 4, pos := "l16_order.go:46", after := #[{ on := 3, ground := Ground.data }, { on := 13, ground := Ground.data }], guard := none }) (v := ?v14_r3_15) rfl (by kernel_rfl) (by kernel_rfl) (by kernel_rfl) (fun _ _ _ h => h) (Or.inl ⟨by rfl, ?y14_r3_15⟩) (by assumption) ?r14_r3_15
               case y14_r3_15 => (intro w hSw; (try dsimp only at hSw); go_simp; all_goals (with_reducible rfl))
               try simp only [Act.put, List.setIfInBounds_toArray, List.set_cons_zero, List.set_cons_succ]
               refine wpAnyH_done (by kernel_rfl) ?_ _
               have gR_ : (wr).grownBy (wH13_r3) none := (gby_trans (gby_drew (gby_refl _ none)) gH13_r3)
               have szwH13_r3 := gR_.size
               try simp only [World.size_alloc] at szwH13_r3
               clear pc_ qc_ ek0_ ek1_ ek2_ ek3_ ek4_ ek5_ ek6_ ek7_ ei0_ ei1_ ei2_ ei3_ ei4_ ei5_ ei6_ ei7_
               have G5_ := Lib.hid (show (W).grownBy (wH13_r3) none from gby_trans G3_.out gR_)
               have HTB6_ := Lib.hid (show (w1).grownBy (wH13_r3) none from gby_trans HTB4_.out gR_)
               clear HTB4_
               have HTI7_ := Lib.hid (show (wo).grownBy (wH13_r3) none from gby_trans HTI_.out gR_)
               clear HTI_
               clear gR_
               go_wp2
               refine ⟨⟨m + 1, by go_num, by omega, fun j hj => ?_, HTI7_.out⟩, by simp [intOf]; omega⟩
               by_cases e : j = m
               · subst e; exact HPO.out.2 (by first | trivial | rfl)
               · exact HK.out j (by omega))

end Go.Proofs.Ytnighnkkeiegnaa

namespace Go.Proofs.Ytnighnkkeiegnaa
open Go Go.RowKit
set_option linter.unusedVariables false

theorem isLegalOrder_both (xs0 : List DPacket) (xs1 : List Int) (h0 : szL shPacket xs0 ≤ 1048576) (h1 : szL shI xs1 ≤ 1048576) : ∃ br0 : Bool, (∀ (W : World), ∀ u0 u1, RdL shPacket W u0 xs0 → RdL shI W u1 xs1 → Calls Try.prog 22 #[u0, u1] W (ResSIsLegalOrder br0 W)) ∧ ∀ (W : World), ∀ u0 u1, RdL shPacket W u0 xs0 → RdL shI W u1 xs1 → Calls Try.prog 25 #[u0, u1] W (ResIIsLegalOrder br0 W) := by
  have hS : ∀ (W : World), ∀ u0 u1, RdL shPacket W u0 xs0 → RdL shI W u1 xs1 → Calls Try.prog 22 #[u0, u1] W (BPost (LegalP xs0 xs1) W) := fun W u0 u1 H0 H1 => by
    by_cases e : xs1.length = xs0.length
    · exact specLeg_yes W u0 u1 xs0 xs1 H0 H1 h0 h1 e
    · exact specLeg_len W u0 u1 xs0 xs1 H0 H1 h0 h1 e
  have hI : ∀ (W : World), ∀ u0 u1, RdL shPacket W u0 xs0 → RdL shI W u1 xs1 → Calls Try.prog 25 #[u0, u1] W (BPost (LegalP xs0 xs1) W) := fun W u0 u1 H0 H1 => by
    by_cases e : PermP xs1 xs0.length
    · exact implLeg_yes W u0 u1 xs0 xs1 H0 H1 h0 h1 e
    · exact implLeg_no W u0 u1 xs0 xs1 H0 H1 h0 h1 e
  by_cases h : LegalP xs0 xs1
  · exact ⟨true, fun W u0 u1 H0 H1 => (hS W u0 u1 H0 H1).mono (bpost_yes h), fun W u0 u1 H0 H1 => (hI W u0 u1 H0 H1).mono (bpost_yes h)⟩
  · exact ⟨false, fun W u0 u1 H0 H1 => (hS W u0 u1 H0 H1).mono (bpost_no h), fun W u0 u1 H0 H1 => (hI W u0 u1 H0 H1).mono (bpost_no h)⟩

end Go.Proofs.Ytnighnkkeiegnaa
