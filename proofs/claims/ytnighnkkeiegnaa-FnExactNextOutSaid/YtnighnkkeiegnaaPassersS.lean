/-
  PassersOf, the model.
-/
import Derived.Test.YtnighnkkeiegnaaPassMath
import Derived.Test.YtnighnkkeiegnaaRPassersOf
import Derived.Test.YtnighnkkeiegnaaStepApp
import Derived.Test.YtnighnkkeiegnaaAppP
import Derived.Deep.RegionHeld3
namespace Go.Proofs.Ytnighnkkeiegnaa
open Go Go.RowKit
set_option linter.unusedVariables false

set_option maxRecDepth 8000 in
set_option maxHeartbeats 4000000 in
theorem specPassers_any (W : World) (v : Value) (xs : List DPacket) (H : RdL shPacket W v xs) (hl : szL shPacket xs ≤ 1048576) : Calls Try.prog 60 #[v] W (ResIPassersOf (passL xs xs.length) W) := by
  obtain ⟨i1_, hi1_, hz0_, hz1_, hz2_⟩ := info_parts infoInt
  have HS := Lib.hid hl
  have HRD := Lib.hid H
  obtain ⟨a0, cap0, rfl, hcap, _, H⟩ := H
  have HC := Lib.hid H
  have hcap2 := hcap.2
  obtain ⟨n0, hn0⟩ : ∃ n, n = xs.length := ⟨_, rfl⟩
  have HE := Lib.hid hn0
  have hlx : n0 ≤ 1048576 := by have := szL_len shPacket xs; omega
  rw [← hn0] at hcap2 ⊢
  rw [← hn0] at HRD HC
  clear H hcap hl hn0
  go_enter Try.func60, Try.ntmps60
  have HTM1_ := Lib.hid (gby_refl (W) none)
  have MG2_ := Lib.hid (show (W).grownBy (W) none from (gby_refl _ _))
  have al_ : (W).grownBy ((W).alloc (.cells #[] 3)) none := gby_alloc (gby_refl _ _) _
  have G3_ := Lib.hid (show (W).grownBy ((W.alloc (.cells #[] 3))) none from gby_trans (gby_refl _ _) al_)
  have HTM4_ := Lib.hid (show (W).grownBy ((W.alloc (.cells #[] 3))) none from gby_trans HTM1_.out al_)
  clear HTM1_
  have rO5_ := Lib.hid (show ((W.alloc (.cells #[] 3))).heap[W.heap.size]? = some (.cells #[] 3 (0, 0)) from by first | exact heap_alloc_new _ _ | exact heap_pair _ _ _ | exact heap_trip _ _ _ _)
  clear al_
  have hst_ : ((W.alloc (.cells #[] 3))).ownsRow (W.heap.size) 3 1 (.slice (some ⟨W.heap.size, 0, none⟩) 0 0) ([] : List Int).length (i64s []) := own_emptyP (e := 3) (n := 1) rO5_.out (Nat.le_refl _)
  go_wp2
  go_loopw [3, 4, 5, 6] (fun v k y5 y6 wr => ∃ n : Nat, k = .int .i64 (n : Int) ∧ n ≤ n0 ∧ (∃ q, y5 = q) ∧ (∃ q, y6 = q) ∧ wr.ownsRow (W.heap.size) 3 1 v (passL xs n).length (i64s (passL xs n)) ∧ (W).grownBy wr none) (fun _ k _ _ _ => n0 - (intOf k).toNat)
  case atStart => exact ⟨0, rfl, by omega, ⟨_, rfl⟩, ⟨_, rfl⟩, hst_, HTM4_.out⟩
  case round =>
    clear rO5_
    clear HTM4_
    obtain ⟨n, rfl, hn, ⟨y5, rfl⟩, ⟨y6, rfl⟩, hown, hg⟩ := hrel
    have szr_ := hg.size
    try simp only [World.size_alloc] at szr_
    try simp only [World.size_setCell] at szr_
    have G6_ := Lib.hid (show (W).grownBy (wr) none from gby_trans MG2_.out hg)
    have HTM7_ := Lib.hid hg
    clear hg
    obtain ⟨wo, hwo_⟩ : ∃ w_, w_ = wr := ⟨_, rfl⟩
    subst hwo_
    have HTR8_ := Lib.hid (gby_refl (wo) none)
    have MG9_ := Lib.hid (show (W).grownBy (wo) none from G6_.out)
    clear hst_
    have HO := Lib.hid hown
    clear hown
    have hn0_ : (0 : Int) ≤ (n : Int) := by omega
    have htn : ((n : Int)).toNat = n := by omega
    by_cases hlt : n < n0
    rotate_left
    · obtain rfl : n = n0 := by omega
      have hki : ¬ (n : Int) < (n : Int) := by omega
      have ef_ : passL xs n = passL xs xs.length := by rw [HE.out]
      go_wp2
      go_ret
      exact ⟨_, rfl, OwU.one (OwL.wide (owI_out (by have := passL_len xs xs.length; have := HE.out; omega) (owI_row (by rw [← ef_]; exact HO.out))) (by have := gby_sizeP MG2_.out; (try simp only [World.size_alloc] at this); omega) (Nat.le_refl _)), G6_.out⟩
    have hki : (n : Int) < (n0 : Int) := by omega
    obtain ⟨ab, ao, rfl, hcell_⟩ := HC.out.resolve_left (by omega)
    have HCE := Lib.hid hcell_
    clear hcell_
    have hq_ : n < n0 := hlt
    obtain ⟨cs_, hat_, hrd_⟩ := HCE.out n (by omega)
    obtain ⟨xk, hx_⟩ : ∃ x, x = xs.getD n default := ⟨_, rfl⟩
    rw [← hx_] at hrd_
    have hzk_ : szL shI xk.f7 ≤ 1048576 := by have q1 := szL_at shPacket xs n (by have := HE.out; omega); rw [← hx_] at q1; exact Nat.le_trans q1 HS.out
    have HXk := Lib.hid hx_
    obtain ⟨v7_, rfl, r7_⟩ := hrd_
    obtain ⟨pk, nk, ck, hv_⟩ := RdL.form r7_
    subst hv_
    have Rk := Lib.hid r7_
    have HEk0 := Lib.hid (show W.cell? ⟨ab, ao + n * 8, none⟩ = some (.int .i64 xk.f0) from at_cell (j := 0) hat_ rfl)
    have HEk1 := Lib.hid (show W.cell? ⟨ab, ao + n * 8 + 1, none⟩ = some (.int .i64 xk.f1) from at_cell (j := 1) hat_ rfl)
    have HEk2 := Lib.hid (show W.cell? ⟨ab, ao + n * 8 + 2, none⟩ = some (.int .i64 xk.f2) from at_cell (j := 2) hat_ rfl)
    have HEk3 := Lib.hid (show W.cell? ⟨ab, ao + n * 8 + 3, none⟩ = some (.int .i64 xk.f3) from at_cell (j := 3) hat_ rfl)
    have HEk4 := Lib.hid (show W.cell? ⟨ab, ao + n * 8 + 4, none⟩ = some (.int .i64 xk.f4) from at_cell (j := 4) hat_ rfl)
    have HEk5 := Lib.hid (show W.cell? ⟨ab, ao + n * 8 + 5, none⟩ = some (.int .i64 xk.f5) from at_cell (j := 5) hat_ rfl)
    have HEk6 := Lib.hid (show W.cell? ⟨ab, ao + n * 8 + 6, none⟩ = some (.int .i64 xk.f6) from at_cell (j := 6) hat_ rfl)
    have HEk7 := Lib.hid (show W.cell? ⟨ab, ao + n * 8 + 7, none⟩ = some (.slice pk nk ck) from at_cell (j := 7) hat_ rfl)
    clear hat_ r7_ hx_ hq_
    have ek0_ := (G6_.out).cell HEk0.out (by simp)
    have ek1_ := (G6_.out).cell HEk1.out (by simp)
    have ek2_ := (G6_.out).cell HEk2.out (by simp)
    have ek3_ := (G6_.out).cell HEk3.out (by simp)
    have ek4_ := (G6_.out).cell HEk4.out (by simp)
    have ek5_ := (G6_.out).cell HEk5.out (by simp)
    have ek6_ := (G6_.out).cell HEk6.out (by simp)
    have ek7_ := (G6_.out).cell HEk7.out (by simp)
    obtain ⟨ok_, hok_⟩ : ∃ b, b = okP xk := ⟨_, rfl⟩
    have HOK := Lib.hid hok_
    clear hok_
    go_wp2_with fail
    go_at_call 98
    refine (specPkD _ xk _ (Rk.out.grow G6_.out) hzk_ ok_ HOK.out).mono ?_
    rintro e w1 ⟨rfl, g⟩
    have szw1 := g.size
    try simp only [World.size_alloc] at szw1
    try simp only [World.size_setCell] at szw1
    clear ek0_ ek1_ ek2_ ek3_ ek4_ ek5_ ek6_ ek7_
    have G10_ := Lib.hid (show (W).grownBy (w1) none from gby_trans G6_.out g)
    have HTM11_ := Lib.hid (show (W).grownBy (w1) none from gby_trans HTM7_.out g)
    clear HTM7_
    have HTR12_ := Lib.hid (show (wo).grownBy (w1) none from gby_trans HTR8_.out g)
    clear HTR8_
    clear g
    have ek0_ := (G10_.out).cell HEk0.out (by simp)
    have ek1_ := (G10_.out).cell HEk1.out (by simp)
    have ek2_ := (G10_.out).cell HEk2.out (by simp)
    have ek3_ := (G10_.out).cell HEk3.out (by simp)
    have ek4_ := (G10_.out).cell HEk4.out (by simp)
    have ek5_ := (G10_.out).cell HEk5.out (by simp)
    have ek6_ := (G10_.out).cell HEk6.out (by simp)
    have ek7_ := (G10_.out).cell HEk7.out (by simp)
    go_wp2
    go_loopw [5, 6] (fun o i wr => ∃ m : Nat, i = .int .i64 (m : Int) ∧ m ≤ n ∧ o = .bool (ok_ && clearOf xk xs m) ∧ (w1).grownBy wr none) (fun _ i _ => n - (intOf i).toNat)
    case atStart => exact ⟨0, rfl, by omega, (by simp [clearOf]), gby_refl _ _⟩
    case round =>
      clear ek0_ ek1_ ek2_ ek3_ ek4_ ek5_ ek6_ ek7_
      obtain ⟨m, rfl, hm, rfl, hg⟩ := hrel
      have szrwr := hg.size
      try simp only [World.size_alloc] at szrwr
      try simp only [World.size_setCell] at szrwr
      have szr_ := szrwr
      have G13_ := Lib.hid (show (W).grownBy (wr) none from gby_trans G10_.out hg)
      have HTM14_ := Lib.hid (show (W).grownBy (wr) none from gby_trans HTM11_.out hg)
      clear HTM11_
      have HTR15_ := Lib.hid (show (wo).grownBy (wr) none from gby_trans HTR12_.out hg)
      clear HTR12_
      have HTI_ := Lib.hid hg
      clear hg
      have ek0_ := (G13_.out).cell HEk0.out (by simp)
      have ek1_ := (G13_.out).cell HEk1.out (by simp)
      have ek2_ := (G13_.out).cell HEk2.out (by simp)
      have ek3_ := (G13_.out).cell HEk3.out (by simp)
      have ek4_ := (G13_.out).cell HEk4.out (by simp)
      have ek5_ := (G13_.out).cell HEk5.out (by simp)
      have ek6_ := (G13_.out).cell HEk6.out (by simp)
      have ek7_ := (G13_.out).cell HEk7.out (by simp)
      have hm0_ : (0 : Int) ≤ (m : Int) := by omega
      have htm : ((m : Int)).toNat = m := by omega
      obtain ⟨ob, hob_⟩ : ∃ b, b = (ok_ && clearOf xk xs m) := ⟨_, rfl⟩
      rw [← hob_]
      have HOB := Lib.hid hob_
      clear hob_
      by_cases hlm : m < n
      rotate_left
      · obtain rfl : m = n := by omega
        have hmi : ¬ (m : Int) < (m : Int) := by omega
        have HGO := Lib.hid (show goesP xs m = ob from by unfold goesP; rw [← HXk.out, HOB.out, HOK.out])
        cases ob
        · skip
          have ep_ : passL xs (m + 1) = passL xs m := by show (if _ then _ else _) = _; rw [if_neg (by rw [HGO.out]; decide)]
          go_wp2
          refine ⟨⟨m + 1, by go_num, by omega, ⟨_, rfl⟩, ⟨_, rfl⟩, by rw [ep_]; exact HO.out.grown HTR15_.out, HTM14_.out⟩, by simp [intOf]; omega⟩
        · skip
          have HO2_ := Lib.hid (HO.out.grown HTR15_.out)
          have hb_ : (passL xs m).length ≤ 1048576 := by have := passL_len xs m; omega
          have ep_ : passL xs (m + 1) = passL xs m ++ [(m : Int)] := by show (if _ then _ else _) = _; rw [if_pos HGO.out]
          obtain ⟨m16, hm16⟩ : ∃ ml_, ml_ = (passL xs m).length := ⟨_, rfl⟩
          have HO16 := Lib.hid (show (wr).ownsRow (W.heap.size) 3 1 _ m16 (i64s (passL xs m)) from by rw [hm16]; exact HO2_.out)
          have hb16 : m16 ≤ 1048576 := by rw [hm16]; exact hb_
          have HM16 := Lib.hid hm16
          clear hm16 hb_
          go_wp2_with (at_builtin; refine wpList_append_lies _ (by rfl) _ _ _ (by rfl) (W.heap.size) 3 i1_ _ 1 8 Try.underlying23 hi1_ hz0_ hz1_ hz2_ rfl (by omega) _ m16 (i64s (passL xs m)) (by rfl) (HO16.out.alloc _) ⟨(wr).heap.size, 0, none⟩ 1 1 _ (by rfl) (by rfl) (World.news_of_block (t := 3) (fr := (0, 0)) (heap_alloc_new (wr) _)) (by simp [Value.oneCell']) (by omega) (by unfold maxLen; omega) (by omega) (by simp; omega) ((wr).heap.size + 1) (by simp) ?_; intro gg16 cap16 wa16 hown_ hgr_ hat_ hlt_; have HP16 := Lib.hid hown_; have HQ16 := Lib.hid hgr_; clear hown_ hgr_ hat_ hlt_)
          refine ⟨⟨m + 1, by go_num, by omega, ⟨_, rfl⟩, ⟨_, rfl⟩, ?_, ?_⟩, by simp [intOf]; omega⟩
          · rw [ep_, List.length_append, List.length_singleton, ← HM16.out, i64s_append]; exact HP16.out
          · exact gby_new (gby_alloc HTM14_.out _) HQ16.out (fun b hb => by have := own_from HO16.out b hb; have := gby_sizeP MG2_.out; (try simp only [World.size_alloc] at *); omega)
      have hmi : (m : Int) < (n : Int) := by omega
      have hmj : (m : Int) < (n0 : Int) := by omega
      have hmk : m < n0 := by omega
      cases ob
      · skip
        go_wp2_with fail
        refine wp_region_held_drew (S := fun w' => True) (by kernel_rfl) (by trivial) (fun hHeld => ?_)
        refine wpAnyH_take (i := 0) (oi := { dst := some 24, op := Op.move (Operand.tmp 5), type := 4, pos := "l16_order.go:23", after := #[], guard := none }) (v := ?v0_r1_1) rfl (by kernel_rfl) (by kernel_rfl) (by kernel_rfl) (fun _ _ _ h => h) (Or.inl ⟨by rfl, ?y0_r1_1⟩) (by assumption) ?r0_r1_1
        case y0_r1_1 => (intro w hSw; (try dsimp only at hSw); go_simp; all_goals (with_reducible rfl))
        try simp only [Act.put, List.setIfInBounds_toArray, List.set_cons_zero, List.set_cons_succ]
        refine wpAnyH_take (i := 1) (oi := { dst := some 25, op := Op.move (Operand.tmp 24), type := 4, pos := "l16_order.go:23", after := #[{ on := 0, ground := Ground.data }], guard := none }) (v := ?v1_r1_2) rfl (by kernel_rfl) (by kernel_rfl) (by kernel_rfl) (fun _ _ _ h => h) (Or.inl ⟨by rfl, ?y1_r1_2⟩) (by assumption) ?r1_r1_2
        case y1_r1_2 => (intro w hSw; (try dsimp only at hSw); go_simp; all_goals (with_reducible rfl))
        try simp only [Act.put, List.setIfInBounds_toArray, List.set_cons_zero, List.set_cons_succ]
        refine wpAnyH_take (i := 2) (oi := { dst := some 26, op := Op.move (Operand.tmp 0), type := 30, pos := "l16_order.go:23", after := #[{ on := 1, ground := Ground.guard }], guard := some (1, true) }) (v := undef) rfl (by kernel_rfl) (by kernel_rfl) (by kernel_rfl) (fun _ _ _ h => h) (Or.inr ⟨by rfl, rfl⟩) (by assumption) ?r2_r1_3
        try simp only [Act.put, List.setIfInBounds_toArray, List.set_cons_zero, List.set_cons_succ]
        refine wpAnyH_take (i := 3) (oi := { dst := some 27, op := Op.move (Operand.tmp 6), type := 3, pos := "l16_order.go:23", after := #[{ on := 1, ground := Ground.guard }], guard := some (1, true) }) (v := undef) rfl (by kernel_rfl) (by kernel_rfl) (by kernel_rfl) (fun _ _ _ h => h) (Or.inr ⟨by rfl, rfl⟩) (by assumption) ?r3_r1_4
        try simp only [Act.put, List.setIfInBounds_toArray, List.set_cons_zero, List.set_cons_succ]
        refine wpAnyH_take (i := 4) (oi := { dst := some 28, op := Op.indexAddr 30 (Operand.tmp 26) (Operand.tmp 27), type := 0, pos := "l16_order.go:23", after := #[{ on := 2, ground := Ground.data }, { on := 3, ground := Ground.data }, { on := 1, ground := Ground.guard }], guard := some (1, true) }) (v := undef) rfl (by kernel_rfl) (by kernel_rfl) (by kernel_rfl) (fun _ _ _ h => h) (Or.inr ⟨by rfl, rfl⟩) (by assumption) ?r4_r1_5
        try simp only [Act.put, List.setIfInBounds_toArray, List.set_cons_zero, List.set_cons_succ]
        refine wpAnyH_take (i := 5) (oi := { dst := some 29, op := Op.load 60 (Operand.tmp 28), type := 60, pos := "l16_order.go:23", after := #[{ on := 4, ground := Ground.data }, { on := 1, ground := Ground.guard }], guard := some (1, true) }) (v := undef) rfl (by kernel_rfl) (by kernel_rfl) (by kernel_rfl) (fun _ _ _ h => h) (Or.inr ⟨by rfl, rfl⟩) (by assumption) ?r5_r1_6
        try simp only [Act.put, List.setIfInBounds_toArray, List.set_cons_zero, List.set_cons_succ]
        refine wpAnyH_take (i := 6) (oi := { dst := some 30, op := Op.call { callee := Callee.value (Operand.func 98), args := #[Operand.tmp 29], argTypes := #[60] }, type := 4, pos := "l16_order.go:23", after := #[{ on := 5, ground := Ground.data }, { on := 1, ground := Ground.chain }, { on := 1, ground := Ground.guard }], guard := some (1, true) }) (v := undef) rfl (by kernel_rfl) (by kernel_rfl) (by kernel_rfl) (fun _ _ _ h => h) (Or.inr ⟨by rfl, rfl⟩) (by assumption) ?r6_r1_7
        try simp only [Act.put, List.setIfInBounds_toArray, List.set_cons_zero, List.set_cons_succ]
        refine wpAnyH_take (i := 7) (oi := { dst := some 31, op := Op.unOp UnOp.not 4 (Operand.tmp 30), type := 4, pos := "l16_order.go:23", after := #[{ on := 6, ground := Ground.data }, { on := 1, ground := Ground.guard }], guard := some (1, true) }) (v := undef) rfl (by kernel_rfl) (by kernel_rfl) (by kernel_rfl) (fun _ _ _ h => h) (Or.inr ⟨by rfl, rfl⟩) (by assumption) ?r7_r1_8
        try simp only [Act.put, List.setIfInBounds_toArray, List.set_cons_zero, List.set_cons_succ]
        refine wpAnyH_take (i := 8) (oi := { dst := some 32, op := Op.move (Operand.tmp 31), type := 4, pos := "l16_order.go:23", after := #[{ on := 7, ground := Ground.data }, { on := 6, ground := Ground.chain }, { on := 1, ground := Ground.guard }], guard := some (1, true) }) (v := undef) rfl (by kernel_rfl) (by kernel_rfl) (by kernel_rfl) (fun _ _ _ h => h) (Or.inr ⟨by rfl, rfl⟩) (by assumption) ?r8_r1_9
        try simp only [Act.put, List.setIfInBounds_toArray, List.set_cons_zero, List.set_cons_succ]
        refine wpAnyH_take (i := 9) (oi := { dst := some 33, op := Op.move (Operand.tmp 0), type := 30, pos := "l16_order.go:23", after := #[{ on := 8, ground := Ground.guard }], guard := some (8, false) }) (v := undef) rfl (by kernel_rfl) (by kernel_rfl) (by kernel_rfl) (fun _ _ _ h => h) (Or.inr ⟨by rfl, rfl⟩) (by assumption) ?r9_r1_10
        try simp only [Act.put, List.setIfInBounds_toArray, List.set_cons_zero, List.set_cons_succ]
        refine wpAnyH_take (i := 10) (oi := { dst := some 34, op := Op.move (Operand.tmp 4), type := 3, pos := "l16_order.go:23", after := #[{ on := 8, ground := Ground.guard }], guard := some (8, false) }) (v := undef) rfl (by kernel_rfl) (by kernel_rfl) (by kernel_rfl) (fun _ _ _ h => h) (Or.inr ⟨by rfl, rfl⟩) (by assumption) ?r10_r1_11
        try simp only [Act.put, List.setIfInBounds_toArray, List.set_cons_zero, List.set_cons_succ]
        refine wpAnyH_take (i := 11) (oi := { dst := some 35, op := Op.indexAddr 30 (Operand.tmp 33) (Operand.tmp 34), type := 0, pos := "l16_order.go:23", after := #[{ on := 9, ground := Ground.data }, { on := 10, ground := Ground.data }, { on := 8, ground := Ground.guard }], guard := some (8, false) }) (v := undef) rfl (by kernel_rfl) (by kernel_rfl) (by kernel_rfl) (fun _ _ _ h => h) (Or.inr ⟨by rfl, rfl⟩) (by assumption) ?r11_r1_12
        try simp only [Act.put, List.setIfInBounds_toArray, List.set_cons_zero, List.set_cons_succ]
        refine wpAnyH_take (i := 12) (oi := { dst := some 36, op := Op.load 60 (Operand.tmp 35), type := 60, pos := "l16_order.go:23", after := #[{ on := 11, ground := Ground.data }, { on := 8, ground := Ground.guard }], guard := some (8, false) }) (v := undef) rfl (by kernel_rfl) (by kernel_rfl) (by kernel_rfl) (fun _ _ _ h => h) (Or.inr ⟨by rfl, rfl⟩) (by assumption) ?r12_r1_13
        try simp only [Act.put, List.setIfInBounds_toArray, List.set_cons_zero, List.set_cons_succ]
        refine wpAnyH_take (i := 13) (oi := { dst := some 37, op := Op.move (Operand.tmp 0), type := 30, pos := "l16_order.go:23", after := #[{ on := 8, ground := Ground.guard }], guard := some (8, false) }) (v := undef) rfl (by kernel_rfl) (by kernel_rfl) (by kernel_rfl) (fun _ _ _ h => h) (Or.inr ⟨by rfl, rfl⟩) (by assumption) ?r13_r1_14
        try simp only [Act.put, List.setIfInBounds_toArray, List.set_cons_zero, List.set_cons_succ]
        refine wpAnyH_take (i := 14) (oi := { dst := some 38, op := Op.move (Operand.tmp 6), type := 3, pos := "l16_order.go:23", after := #[{ on := 8, ground := Ground.guard }], guard := some (8, false) }) (v := undef) rfl (by kernel_rfl) (by kernel_rfl) (by kernel_rfl) (fun _ _ _ h => h) (Or.inr ⟨by rfl, rfl⟩) (by assumption) ?r14_r1_15
        try simp only [Act.put, List.setIfInBounds_toArray, List.set_cons_zero, List.set_cons_succ]
        refine wpAnyH_take (i := 15) (oi := { dst := some 39, op := Op.indexAddr 30 (Operand.tmp 37) (Operand.tmp 38), type := 0, pos := "l16_order.go:23", after := #[{ on := 13, ground := Ground.data }, { on := 14, ground := Ground.data }, { on := 8, ground := Ground.guard }], guard := some (8, false) }) (v := undef) rfl (by kernel_rfl) (by kernel_rfl) (by kernel_rfl) (fun _ _ _ h => h) (Or.inr ⟨by rfl, rfl⟩) (by assumption) ?r15_r1_16
        try simp only [Act.put, List.setIfInBounds_toArray, List.set_cons_zero, List.set_cons_succ]
        refine wpAnyH_take (i := 16) (oi := { dst := some 40, op := Op.load 60 (Operand.tmp 39), type := 60, pos := "l16_order.go:23", after := #[{ on := 15, ground := Ground.data }, { on := 8, ground := Ground.guard }], guard := some (8, false) }) (v := undef) rfl (by kernel_rfl) (by kernel_rfl) (by kernel_rfl) (fun _ _ _ h => h) (Or.inr ⟨by rfl, rfl⟩) (by assumption) ?r16_r1_17
        try simp only [Act.put, List.setIfInBounds_toArray, List.set_cons_zero, List.set_cons_succ]
        refine wpAnyH_take (i := 17) (oi := { dst := some 41, op := Op.call { callee := Callee.value (Operand.func 70), args := #[Operand.tmp 36, Operand.tmp 40], argTypes := #[60, 60] }, type := 4, pos := "l16_order.go:23", after := #[{ on := 12, ground := Ground.data }, { on := 16, ground := Ground.data }, { on := 8, ground := Ground.chain }, { on := 8, ground := Ground.guard }], guard := some (8, false) }) (v := undef) rfl (by kernel_rfl) (by kernel_rfl) (by kernel_rfl) (fun _ _ _ h => h) (Or.inr ⟨by rfl, rfl⟩) (by assumption) ?r17_r1_18
        try simp only [Act.put, List.setIfInBounds_toArray, List.set_cons_zero, List.set_cons_succ]
        refine wpAnyH_take (i := 18) (oi := { dst := some 42, op := Op.pick (Operand.tmp 32) (Operand.const (Value.bool true)) (Operand.tmp 41), type := 4, pos := "l16_order.go:23", after := #[{ on := 8, ground := Ground.data }, { on := 17, ground := Ground.data }, { on := 1, ground := Ground.guard }], guard := some (1, true) }) (v := undef) rfl (by kernel_rfl) (by kernel_rfl) (by kernel_rfl) (fun _ _ _ h => h) (Or.inr ⟨by rfl, rfl⟩) (by assumption) ?r18_r1_19
        try simp only [Act.put, List.setIfInBounds_toArray, List.set_cons_zero, List.set_cons_succ]
        refine wpAnyH_take (i := 19) (oi := { dst := some 43, op := Op.pick (Operand.tmp 25) (Operand.tmp 42) (Operand.const (Value.bool false)), type := 4, pos := "l16_order.go:23", after := #[{ on := 1, ground := Ground.data }, { on := 18, ground := Ground.data }], guard := none }) (v := ?v19_r1_20) rfl (by kernel_rfl) (by kernel_rfl) (by kernel_rfl) (fun _ _ _ h => h) (Or.inl ⟨by rfl, ?y19_r1_20⟩) (by assumption) ?r19_r1_20
        case y19_r1_20 => (intro w hSw; (try dsimp only at hSw); go_simp; all_goals (with_reducible rfl))
        try simp only [Act.put, List.setIfInBounds_toArray, List.set_cons_zero, List.set_cons_succ]
        refine wpAnyH_take (i := 20) (oi := { dst := some 5, op := Op.assign (Operand.tmp 43), type := 4, pos := "l16_order.go:23", after := #[{ on := 19, ground := Ground.data }, { on := 17, ground := Ground.chain }, { on := 0, ground := Ground.phase }, { on := 1, ground := Ground.phase }, { on := 2, ground := Ground.phase }, { on := 3, ground := Ground.phase }, { on := 4, ground := Ground.phase }, { on := 5, ground := Ground.phase }, { on := 6, ground := Ground.phase }, { on := 7, ground := Ground.phase }, { on := 8, ground := Ground.phase }, { on := 9, ground := Ground.phase }, { on := 10, ground := Ground.phase }, { on := 11, ground := Ground.phase }, { on := 12, ground := Ground.phase }, { on := 13, ground := Ground.phase }, { on := 14, ground := Ground.phase }, { on := 15, ground := Ground.phase }, { on := 16, ground := Ground.phase }, { on := 17, ground := Ground.phase }, { on := 18, ground := Ground.phase }, { on := 19, ground := Ground.phase }], guard := none }) (v := ?v20_r1_21) rfl (by kernel_rfl) (by kernel_rfl) (by kernel_rfl) (fun _ _ _ h => h) (Or.inl ⟨by rfl, ?y20_r1_21⟩) (by assumption) ?r20_r1_21
        case y20_r1_21 => (intro w hSw; (try dsimp only at hSw); go_simp; all_goals (with_reducible rfl))
        try simp only [Act.put, List.setIfInBounds_toArray, List.set_cons_zero, List.set_cons_succ]
        refine wpAnyH_done (by kernel_rfl) ?_ _
        have gR_ : (wr).grownBy ((wr).drew) none := (gby_drew (gby_refl _ none))
        clear ek0_ ek1_ ek2_ ek3_ ek4_ ek5_ ek6_ ek7_
        have G16_ := Lib.hid (show (W).grownBy ((wr).drew) none from gby_trans G13_.out gR_)
        have HTM17_ := Lib.hid (show (W).grownBy ((wr).drew) none from gby_trans HTM14_.out gR_)
        clear HTM14_
        have HTR18_ := Lib.hid (show (wo).grownBy ((wr).drew) none from gby_trans HTR15_.out gR_)
        clear HTR15_
        have HTI19_ := Lib.hid (show (w1).grownBy ((wr).drew) none from gby_trans HTI_.out gR_)
        clear HTI_
        clear gR_
        have szd_ : ((wr).drew).heap.size = (wr).heap.size := rfl
        go_wp2
        refine ⟨⟨m + 1, by go_num, by omega, congrArg Value.bool (no_goes HOB.out), HTI19_.out⟩, by simp [intOf]; omega⟩
      · skip
        have hq_ : m < n0 := hmk
        obtain ⟨cs_, hat_, hrd_⟩ := HCE.out m (by omega)
        obtain ⟨xi, hx_⟩ : ∃ x, x = xs.getD m default := ⟨_, rfl⟩
        rw [← hx_] at hrd_
        have hzi_ : szL shI xi.f7 ≤ 1048576 := by have q1 := szL_at shPacket xs m (by have := HE.out; omega); rw [← hx_] at q1; exact Nat.le_trans q1 HS.out
        have HXi := Lib.hid hx_
        obtain ⟨v7_, rfl, r7_⟩ := hrd_
        obtain ⟨pi, ni, ci, hv_⟩ := RdL.form r7_
        subst hv_
        have Ri := Lib.hid r7_
        have HEi0 := Lib.hid (show W.cell? ⟨ab, ao + m * 8, none⟩ = some (.int .i64 xi.f0) from at_cell (j := 0) hat_ rfl)
        have HEi1 := Lib.hid (show W.cell? ⟨ab, ao + m * 8 + 1, none⟩ = some (.int .i64 xi.f1) from at_cell (j := 1) hat_ rfl)
        have HEi2 := Lib.hid (show W.cell? ⟨ab, ao + m * 8 + 2, none⟩ = some (.int .i64 xi.f2) from at_cell (j := 2) hat_ rfl)
        have HEi3 := Lib.hid (show W.cell? ⟨ab, ao + m * 8 + 3, none⟩ = some (.int .i64 xi.f3) from at_cell (j := 3) hat_ rfl)
        have HEi4 := Lib.hid (show W.cell? ⟨ab, ao + m * 8 + 4, none⟩ = some (.int .i64 xi.f4) from at_cell (j := 4) hat_ rfl)
        have HEi5 := Lib.hid (show W.cell? ⟨ab, ao + m * 8 + 5, none⟩ = some (.int .i64 xi.f5) from at_cell (j := 5) hat_ rfl)
        have HEi6 := Lib.hid (show W.cell? ⟨ab, ao + m * 8 + 6, none⟩ = some (.int .i64 xi.f6) from at_cell (j := 6) hat_ rfl)
        have HEi7 := Lib.hid (show W.cell? ⟨ab, ao + m * 8 + 7, none⟩ = some (.slice pi ni ci) from at_cell (j := 7) hat_ rfl)
        clear hat_ r7_ hx_ hq_
        have ei0_ := (G13_.out).cell HEi0.out (by simp)
        have ei1_ := (G13_.out).cell HEi1.out (by simp)
        have ei2_ := (G13_.out).cell HEi2.out (by simp)
        have ei3_ := (G13_.out).cell HEi3.out (by simp)
        have ei4_ := (G13_.out).cell HEi4.out (by simp)
        have ei5_ := (G13_.out).cell HEi5.out (by simp)
        have ei6_ := (G13_.out).cell HEi6.out (by simp)
        have ei7_ := (G13_.out).cell HEi7.out (by simp)
        obtain ⟨oi_, hoi_⟩ : ∃ b, b = okP xi := ⟨_, rfl⟩
        have HOI := Lib.hid hoi_
        clear hoi_
        cases oi_
        · skip
          go_wp2_with fail
          refine wp_region_held_drew (S := fun w' => w'.cell? ⟨ab, ao + m * 8, none⟩ = some (.int .i64 xi.f0) ∧ w'.cell? ⟨ab, ao + m * 8 + 1, none⟩ = some (.int .i64 xi.f1) ∧ w'.cell? ⟨ab, ao + m * 8 + 2, none⟩ = some (.int .i64 xi.f2) ∧ w'.cell? ⟨ab, ao + m * 8 + 3, none⟩ = some (.int .i64 xi.f3) ∧ w'.cell? ⟨ab, ao + m * 8 + 4, none⟩ = some (.int .i64 xi.f4) ∧ w'.cell? ⟨ab, ao + m * 8 + 5, none⟩ = some (.int .i64 xi.f5) ∧ w'.cell? ⟨ab, ao + m * 8 + 6, none⟩ = some (.int .i64 xi.f6) ∧ w'.cell? ⟨ab, ao + m * 8 + 7, none⟩ = some (.slice pi ni ci) ∧ w'.cell? ⟨ab, ao + n * 8, none⟩ = some (.int .i64 xk.f0) ∧ w'.cell? ⟨ab, ao + n * 8 + 1, none⟩ = some (.int .i64 xk.f1) ∧ w'.cell? ⟨ab, ao + n * 8 + 2, none⟩ = some (.int .i64 xk.f2) ∧ w'.cell? ⟨ab, ao + n * 8 + 3, none⟩ = some (.int .i64 xk.f3) ∧ w'.cell? ⟨ab, ao + n * 8 + 4, none⟩ = some (.int .i64 xk.f4) ∧ w'.cell? ⟨ab, ao + n * 8 + 5, none⟩ = some (.int .i64 xk.f5) ∧ w'.cell? ⟨ab, ao + n * 8 + 6, none⟩ = some (.int .i64 xk.f6) ∧ w'.cell? ⟨ab, ao + n * 8 + 7, none⟩ = some (.slice pk nk ck)) (by kernel_rfl) (by (try dsimp only); exact ⟨ei0_, ei1_, ei2_, ei3_, ei4_, ei5_, ei6_, ei7_, ek0_, ek1_, ek2_, ek3_, ek4_, ek5_, ek6_, ek7_⟩) (fun hHeld => ?_)
          refine wpAnyH_take (i := 0) (oi := { dst := some 24, op := Op.move (Operand.tmp 5), type := 4, pos := "l16_order.go:23", after := #[], guard := none }) (v := ?v0_r2_1) rfl (by kernel_rfl) (by kernel_rfl) (by kernel_rfl) (fun _ _ _ h => h) (Or.inl ⟨by rfl, ?y0_r2_1⟩) (by assumption) ?r0_r2_1
          case y0_r2_1 => (intro w hSw; (try dsimp only at hSw); go_simp; all_goals (with_reducible rfl))
          try simp only [Act.put, List.setIfInBounds_toArray, List.set_cons_zero, List.set_cons_succ]
          refine wpAnyH_take (i := 1) (oi := { dst := some 25, op := Op.move (Operand.tmp 24), type := 4, pos := "l16_order.go:23", after := #[{ on := 0, ground := Ground.data }], guard := none }) (v := ?v1_r2_2) rfl (by kernel_rfl) (by kernel_rfl) (by kernel_rfl) (fun _ _ _ h => h) (Or.inl ⟨by rfl, ?y1_r2_2⟩) (by assumption) ?r1_r2_2
          case y1_r2_2 => (intro w hSw; (try dsimp only at hSw); go_simp; all_goals (with_reducible rfl))
          try simp only [Act.put, List.setIfInBounds_toArray, List.set_cons_zero, List.set_cons_succ]
          refine wpAnyH_take (i := 2) (oi := { dst := some 26, op := Op.move (Operand.tmp 0), type := 30, pos := "l16_order.go:23", after := #[{ on := 1, ground := Ground.guard }], guard := some (1, true) }) (v := ?v2_r2_3) rfl (by kernel_rfl) (by kernel_rfl) (by kernel_rfl) (fun _ _ _ h => h) (Or.inl ⟨by rfl, ?y2_r2_3⟩) (by assumption) ?r2_r2_3
          case y2_r2_3 => (intro w hSw; (try dsimp only at hSw); go_simp; all_goals (with_reducible rfl))
          try simp only [Act.put, List.setIfInBounds_toArray, List.set_cons_zero, List.set_cons_succ]
          refine wpAnyH_take (i := 3) (oi := { dst := some 27, op := Op.move (Operand.tmp 6), type := 3, pos := "l16_order.go:23", after := #[{ on := 1, ground := Ground.guard }], guard := some (1, true) }) (v := ?v3_r2_4) rfl (by kernel_rfl) (by kernel_rfl) (by kernel_rfl) (fun _ _ _ h => h) (Or.inl ⟨by rfl, ?y3_r2_4⟩) (by assumption) ?r3_r2_4
          case y3_r2_4 => (intro w hSw; (try dsimp only at hSw); go_simp; all_goals (with_reducible rfl))
          try simp only [Act.put, List.setIfInBounds_toArray, List.set_cons_zero, List.set_cons_succ]
          refine wpAnyH_take (i := 4) (oi := { dst := some 28, op := Op.indexAddr 30 (Operand.tmp 26) (Operand.tmp 27), type := 0, pos := "l16_order.go:23", after := #[{ on := 2, ground := Ground.data }, { on := 3, ground := Ground.data }, { on := 1, ground := Ground.guard }], guard := some (1, true) }) (v := ?v4_r2_5) rfl (by kernel_rfl) (by kernel_rfl) (by kernel_rfl) (fun _ _ _ h => h) (Or.inl ⟨by rfl, ?y4_r2_5⟩) (by assumption) ?r4_r2_5
          case y4_r2_5 => (intro w hSw; (try dsimp only at hSw); go_simp; all_goals (with_reducible rfl))
          try simp only [Act.put, List.setIfInBounds_toArray, List.set_cons_zero, List.set_cons_succ]
          refine wpAnyH_take (i := 5) (oi := { dst := some 29, op := Op.load 60 (Operand.tmp 28), type := 60, pos := "l16_order.go:23", after := #[{ on := 4, ground := Ground.data }, { on := 1, ground := Ground.guard }], guard := some (1, true) }) (v := ?v5_r2_6) rfl (by kernel_rfl) (by kernel_rfl) (by kernel_rfl) (fun _ _ _ h => h) (Or.inl ⟨by rfl, ?y5_r2_6⟩) (by assumption) ?r5_r2_6
          case y5_r2_6 => (intro w hSw; (try dsimp only at hSw); go_simp; all_goals (with_reducible rfl))
          try simp only [Act.put, List.setIfInBounds_toArray, List.set_cons_zero, List.set_cons_succ]
          refine wpAnyH_ready (rs := [6]) (by kernel_rfl) (by simp) ?_
          refine AllReadyH.cons (o := { dst := some 30, op := Op.call { callee := Callee.value (Operand.func 98), args := #[Operand.tmp 29], argTypes := #[60] }, type := 4, pos := "l16_order.go:23", after := #[{ on := 5, ground := Ground.data }, { on := 1, ground := Ground.chain }, { on := 1, ground := Ground.guard }], guard := some (1, true) }) rfl (fun K hK => ?_) AllReadyH.nil
          go_simp
          go_at_call 98
          refine (specPkD _ xi _ (Ri.out.grow (gby_trans G13_.out (gby_drew (gby_refl _ none)))) hzi_ false HOI.out).mono ?_
          rintro e wH7_r2 ⟨rfl, gH7_r2⟩
          have m7_ei0_ : wH7_r2.cell? _ = some _ := gH7_r2.cell ei0_ (by simp); have m7_ei1_ : wH7_r2.cell? _ = some _ := gH7_r2.cell ei1_ (by simp); have m7_ei2_ : wH7_r2.cell? _ = some _ := gH7_r2.cell ei2_ (by simp); have m7_ei3_ : wH7_r2.cell? _ = some _ := gH7_r2.cell ei3_ (by simp); have m7_ei4_ : wH7_r2.cell? _ = some _ := gH7_r2.cell ei4_ (by simp); have m7_ei5_ : wH7_r2.cell? _ = some _ := gH7_r2.cell ei5_ (by simp); have m7_ei6_ : wH7_r2.cell? _ = some _ := gH7_r2.cell ei6_ (by simp); have m7_ei7_ : wH7_r2.cell? _ = some _ := gH7_r2.cell ei7_ (by simp); have m7_ek0_ : wH7_r2.cell? _ = some _ := gH7_r2.cell ek0_ (by simp); have m7_ek1_ : wH7_r2.cell? _ = some _ := gH7_r2.cell ek1_ (by simp); have m7_ek2_ : wH7_r2.cell? _ = some _ := gH7_r2.cell ek2_ (by simp); have m7_ek3_ : wH7_r2.cell? _ = some _ := gH7_r2.cell ek3_ (by simp); have m7_ek4_ : wH7_r2.cell? _ = some _ := gH7_r2.cell ek4_ (by simp); have m7_ek5_ : wH7_r2.cell? _ = some _ := gH7_r2.cell ek5_ (by simp); have m7_ek6_ : wH7_r2.cell? _ = some _ := gH7_r2.cell ek6_ (by simp); have m7_ek7_ : wH7_r2.cell? _ = some _ := gH7_r2.cell ek7_ (by simp)
          go_wp2_with fail
          clear hHeld
          refine hK.out _ _ ?s6_r2_7 (fun hHeld => ?_)
          case s6_r2_7 => exact ⟨m7_ei0_, m7_ei1_, m7_ei2_, m7_ei3_, m7_ei4_, m7_ei5_, m7_ei6_, m7_ei7_, m7_ek0_, m7_ek1_, m7_ek2_, m7_ek3_, m7_ek4_, m7_ek5_, m7_ek6_, m7_ek7_⟩
          clear hK K
          try simp only [Act.put, List.setIfInBounds_toArray, List.set_cons_zero, List.set_cons_succ]
          refine wpAnyH_take (i := 7) (oi := { dst := some 31, op := Op.unOp UnOp.not 4 (Operand.tmp 30), type := 4, pos := "l16_order.go:23", after := #[{ on := 6, ground := Ground.data }, { on := 1, ground := Ground.guard }], guard := some (1, true) }) (v := ?v7_r2_8) rfl (by kernel_rfl) (by kernel_rfl) (by kernel_rfl) (fun _ _ _ h => h) (Or.inl ⟨by rfl, ?y7_r2_8⟩) (by assumption) ?r7_r2_8
          case y7_r2_8 => (intro w hSw; (try dsimp only at hSw); go_simp; all_goals (with_reducible rfl))
          try simp only [Act.put, List.setIfInBounds_toArray, List.set_cons_zero, List.set_cons_succ]
          refine wpAnyH_take (i := 8) (oi := { dst := some 32, op := Op.move (Operand.tmp 31), type := 4, pos := "l16_order.go:23", after := #[{ on := 7, ground := Ground.data }, { on := 6, ground := Ground.chain }, { on := 1, ground := Ground.guard }], guard := some (1, true) }) (v := ?v8_r2_9) rfl (by kernel_rfl) (by kernel_rfl) (by kernel_rfl) (fun _ _ _ h => h) (Or.inl ⟨by rfl, ?y8_r2_9⟩) (by assumption) ?r8_r2_9
          case y8_r2_9 => (intro w hSw; (try dsimp only at hSw); go_simp; all_goals (with_reducible rfl))
          try simp only [Act.put, List.setIfInBounds_toArray, List.set_cons_zero, List.set_cons_succ]
          refine wpAnyH_take (i := 9) (oi := { dst := some 33, op := Op.move (Operand.tmp 0), type := 30, pos := "l16_order.go:23", after := #[{ on := 8, ground := Ground.guard }], guard := some (8, false) }) (v := undef) rfl (by kernel_rfl) (by kernel_rfl) (by kernel_rfl) (fun _ _ _ h => h) (Or.inr ⟨by rfl, rfl⟩) (by assumption) ?r9_r2_10
          try simp only [Act.put, List.setIfInBounds_toArray, List.set_cons_zero, List.set_cons_succ]
          refine wpAnyH_take (i := 10) (oi := { dst := some 34, op := Op.move (Operand.tmp 4), type := 3, pos := "l16_order.go:23", after := #[{ on := 8, ground := Ground.guard }], guard := some (8, false) }) (v := undef) rfl (by kernel_rfl) (by kernel_rfl) (by kernel_rfl) (fun _ _ _ h => h) (Or.inr ⟨by rfl, rfl⟩) (by assumption) ?r10_r2_11
          try simp only [Act.put, List.setIfInBounds_toArray, List.set_cons_zero, List.set_cons_succ]
          refine wpAnyH_take (i := 11) (oi := { dst := some 35, op := Op.indexAddr 30 (Operand.tmp 33) (Operand.tmp 34), type := 0, pos := "l16_order.go:23", after := #[{ on := 9, ground := Ground.data }, { on := 10, ground := Ground.data }, { on := 8, ground := Ground.guard }], guard := some (8, false) }) (v := undef) rfl (by kernel_rfl) (by kernel_rfl) (by kernel_rfl) (fun _ _ _ h => h) (Or.inr ⟨by rfl, rfl⟩) (by assumption) ?r11_r2_12
          try simp only [Act.put, List.setIfInBounds_toArray, List.set_cons_zero, List.set_cons_succ]
          refine wpAnyH_take (i := 12) (oi := { dst := some 36, op := Op.load 60 (Operand.tmp 35), type := 60, pos := "l16_order.go:23", after := #[{ on := 11, ground := Ground.data }, { on := 8, ground := Ground.guard }], guard := some (8, false) }) (v := undef) rfl (by kernel_rfl) (by kernel_rfl) (by kernel_rfl) (fun _ _ _ h => h) (Or.inr ⟨by rfl, rfl⟩) (by assumption) ?r12_r2_13
          try simp only [Act.put, List.setIfInBounds_toArray, List.set_cons_zero, List.set_cons_succ]
          refine wpAnyH_take (i := 13) (oi := { dst := some 37, op := Op.move (Operand.tmp 0), type := 30, pos := "l16_order.go:23", after := #[{ on := 8, ground := Ground.guard }], guard := some (8, false) }) (v := undef) rfl (by kernel_rfl) (by kernel_rfl) (by kernel_rfl) (fun _ _ _ h => h) (Or.inr ⟨by rfl, rfl⟩) (by assumption) ?r13_r2_14
          try simp only [Act.put, List.setIfInBounds_toArray, List.set_cons_zero, List.set_cons_succ]
          refine wpAnyH_take (i := 14) (oi := { dst := some 38, op := Op.move (Operand.tmp 6), type := 3, pos := "l16_order.go:23", after := #[{ on := 8, ground := Ground.guard }], guard := some (8, false) }) (v := undef) rfl (by kernel_rfl) (by kernel_rfl) (by kernel_rfl) (fun _ _ _ h => h) (Or.inr ⟨by rfl, rfl⟩) (by assumption) ?r14_r2_15
          try simp only [Act.put, List.setIfInBounds_toArray, List.set_cons_zero, List.set_cons_succ]
          refine wpAnyH_take (i := 15) (oi := { dst := some 39, op := Op.indexAddr 30 (Operand.tmp 37) (Operand.tmp 38), type := 0, pos := "l16_order.go:23", after := #[{ on := 13, ground := Ground.data }, { on := 14, ground := Ground.data }, { on := 8, ground := Ground.guard }], guard := some (8, false) }) (v := undef) rfl (by kernel_rfl) (by kernel_rfl) (by kernel_rfl) (fun _ _ _ h => h) (Or.inr ⟨by rfl, rfl⟩) (by assumption) ?r15_r2_16
          try simp only [Act.put, List.setIfInBounds_toArray, List.set_cons_zero, List.set_cons_succ]
          refine wpAnyH_take (i := 16) (oi := { dst := some 40, op := Op.load 60 (Operand.tmp 39), type := 60, pos := "l16_order.go:23", after := #[{ on := 15, ground := Ground.data }, { on := 8, ground := Ground.guard }], guard := some (8, false) }) (v := undef) rfl (by kernel_rfl) (by kernel_rfl) (by kernel_rfl) (fun _ _ _ h => h) (Or.inr ⟨by rfl, rfl⟩) (by assumption) ?r16_r2_17
          try simp only [Act.put, List.setIfInBounds_toArray, List.set_cons_zero, List.set_cons_succ]
          refine wpAnyH_take (i := 17) (oi := { dst := some 41, op := Op.call { callee := Callee.value (Operand.func 70), args := #[Operand.tmp 36, Operand.tmp 40], argTypes := #[60, 60] }, type := 4, pos := "l16_order.go:23", after := #[{ on := 12, ground := Ground.data }, { on := 16, ground := Ground.data }, { on := 8, ground := Ground.chain }, { on := 8, ground := Ground.guard }], guard := some (8, false) }) (v := undef) rfl (by kernel_rfl) (by kernel_rfl) (by kernel_rfl) (fun _ _ _ h => h) (Or.inr ⟨by rfl, rfl⟩) (by assumption) ?r17_r2_18
          try simp only [Act.put, List.setIfInBounds_toArray, List.set_cons_zero, List.set_cons_succ]
          refine wpAnyH_take (i := 18) (oi := { dst := some 42, op := Op.pick (Operand.tmp 32) (Operand.const (Value.bool true)) (Operand.tmp 41), type := 4, pos := "l16_order.go:23", after := #[{ on := 8, ground := Ground.data }, { on := 17, ground := Ground.data }, { on := 1, ground := Ground.guard }], guard := some (1, true) }) (v := ?v18_r2_19) rfl (by kernel_rfl) (by kernel_rfl) (by kernel_rfl) (fun _ _ _ h => h) (Or.inl ⟨by rfl, ?y18_r2_19⟩) (by assumption) ?r18_r2_19
          case y18_r2_19 => (intro w hSw; (try dsimp only at hSw); go_simp; all_goals (with_reducible rfl))
          try simp only [Act.put, List.setIfInBounds_toArray, List.set_cons_zero, List.set_cons_succ]
          refine wpAnyH_take (i := 19) (oi := { dst := some 43, op := Op.pick (Operand.tmp 25) (Operand.tmp 42) (Operand.const (Value.bool false)), type := 4, pos := "l16_order.go:23", after := #[{ on := 1, ground := Ground.data }, { on := 18, ground := Ground.data }], guard := none }) (v := ?v19_r2_20) rfl (by kernel_rfl) (by kernel_rfl) (by kernel_rfl) (fun _ _ _ h => h) (Or.inl ⟨by rfl, ?y19_r2_20⟩) (by assumption) ?r19_r2_20
          case y19_r2_20 => (intro w hSw; (try dsimp only at hSw); go_simp; all_goals (with_reducible rfl))
          try simp only [Act.put, List.setIfInBounds_toArray, List.set_cons_zero, List.set_cons_succ]
          refine wpAnyH_take (i := 20) (oi := { dst := some 5, op := Op.assign (Operand.tmp 43), type := 4, pos := "l16_order.go:23", after := #[{ on := 19, ground := Ground.data }, { on := 17, ground := Ground.chain }, { on := 0, ground := Ground.phase }, { on := 1, ground := Ground.phase }, { on := 2, ground := Ground.phase }, { on := 3, ground := Ground.phase }, { on := 4, ground := Ground.phase }, { on := 5, ground := Ground.phase }, { on := 6, ground := Ground.phase }, { on := 7, ground := Ground.phase }, { on := 8, ground := Ground.phase }, { on := 9, ground := Ground.phase }, { on := 10, ground := Ground.phase }, { on := 11, ground := Ground.phase }, { on := 12, ground := Ground.phase }, { on := 13, ground := Ground.phase }, { on := 14, ground := Ground.phase }, { on := 15, ground := Ground.phase }, { on := 16, ground := Ground.phase }, { on := 17, ground := Ground.phase }, { on := 18, ground := Ground.phase }, { on := 19, ground := Ground.phase }], guard := none }) (v := ?v20_r2_21) rfl (by kernel_rfl) (by kernel_rfl) (by kernel_rfl) (fun _ _ _ h => h) (Or.inl ⟨by rfl, ?y20_r2_21⟩) (by assumption) ?r20_r2_21
          case y20_r2_21 => (intro w hSw; (try dsimp only at hSw); go_simp; all_goals (with_reducible rfl))
          try simp only [Act.put, List.setIfInBounds_toArray, List.set_cons_zero, List.set_cons_succ]
          refine wpAnyH_done (by kernel_rfl) ?_ _
          have gR_ : (wr).grownBy (wH7_r2) none := (gby_trans (gby_drew (gby_refl _ none)) gH7_r2)
          have szwH7_r2 := gR_.size
          try simp only [World.size_alloc] at szwH7_r2
          clear ek0_ ek1_ ek2_ ek3_ ek4_ ek5_ ek6_ ek7_ ei0_ ei1_ ei2_ ei3_ ei4_ ei5_ ei6_ ei7_
          have G16_ := Lib.hid (show (W).grownBy (wH7_r2) none from gby_trans G13_.out gR_)
          have HTM17_ := Lib.hid (show (W).grownBy (wH7_r2) none from gby_trans HTM14_.out gR_)
          clear HTM14_
          have HTR18_ := Lib.hid (show (wo).grownBy (wH7_r2) none from gby_trans HTR15_.out gR_)
          clear HTR15_
          have HTI19_ := Lib.hid (show (w1).grownBy (wH7_r2) none from gby_trans HTI_.out gR_)
          clear HTI_
          clear gR_
          go_wp2
          refine ⟨⟨m + 1, by go_num, by omega, congrArg Value.bool (go_on (a := false) HOB.out (by rw [← HXi.out]; exact HOI.out) rfl), HTI19_.out⟩, by simp [intOf]; omega⟩
        · skip
          obtain ⟨mb_, hmb_⟩ : ∃ b, b = mayD xk xi := ⟨_, rfl⟩
          have HMB := Lib.hid hmb_
          clear hmb_
          have HMAY := Lib.hid (show ∀ w : World, RdL shI w (.slice pk nk ck) xk.f7 → RdL shI w (.slice pi ni ci) xi.f7 → Calls Try.prog 70 #[.agg #[.int .i64 xk.f0, .int .i64 xk.f1, .int .i64 xk.f2, .int .i64 xk.f3, .int .i64 xk.f4, .int .i64 xk.f5, .int .i64 xk.f6, .slice pk nk ck], .agg #[.int .i64 xi.f0, .int .i64 xi.f1, .int .i64 xi.f2, .int .i64 xi.f3, .int .i64 xi.f4, .int .i64 xi.f5, .int .i64 xi.f6, .slice pi ni ci]] w (AnsN (.bool mb_) w) from by rw [HMB.out]; exact fun w h1 h2 => specMayD w xk xi _ _ h1 h2 hzk_ hzi_)
          go_wp2_with fail
          refine wp_region_held_drew (S := fun w' => w'.cell? ⟨ab, ao + m * 8, none⟩ = some (.int .i64 xi.f0) ∧ w'.cell? ⟨ab, ao + m * 8 + 1, none⟩ = some (.int .i64 xi.f1) ∧ w'.cell? ⟨ab, ao + m * 8 + 2, none⟩ = some (.int .i64 xi.f2) ∧ w'.cell? ⟨ab, ao + m * 8 + 3, none⟩ = some (.int .i64 xi.f3) ∧ w'.cell? ⟨ab, ao + m * 8 + 4, none⟩ = some (.int .i64 xi.f4) ∧ w'.cell? ⟨ab, ao + m * 8 + 5, none⟩ = some (.int .i64 xi.f5) ∧ w'.cell? ⟨ab, ao + m * 8 + 6, none⟩ = some (.int .i64 xi.f6) ∧ w'.cell? ⟨ab, ao + m * 8 + 7, none⟩ = some (.slice pi ni ci) ∧ w'.cell? ⟨ab, ao + n * 8, none⟩ = some (.int .i64 xk.f0) ∧ w'.cell? ⟨ab, ao + n * 8 + 1, none⟩ = some (.int .i64 xk.f1) ∧ w'.cell? ⟨ab, ao + n * 8 + 2, none⟩ = some (.int .i64 xk.f2) ∧ w'.cell? ⟨ab, ao + n * 8 + 3, none⟩ = some (.int .i64 xk.f3) ∧ w'.cell? ⟨ab, ao + n * 8 + 4, none⟩ = some (.int .i64 xk.f4) ∧ w'.cell? ⟨ab, ao + n * 8 + 5, none⟩ = some (.int .i64 xk.f5) ∧ w'.cell? ⟨ab, ao + n * 8 + 6, none⟩ = some (.int .i64 xk.f6) ∧ w'.cell? ⟨ab, ao + n * 8 + 7, none⟩ = some (.slice pk nk ck)) (by kernel_rfl) (by (try dsimp only); exact ⟨ei0_, ei1_, ei2_, ei3_, ei4_, ei5_, ei6_, ei7_, ek0_, ek1_, ek2_, ek3_, ek4_, ek5_, ek6_, ek7_⟩) (fun hHeld => ?_)
          refine wpAnyH_take (i := 0) (oi := { dst := some 24, op := Op.move (Operand.tmp 5), type := 4, pos := "l16_order.go:23", after := #[], guard := none }) (v := ?v0_r3_1) rfl (by kernel_rfl) (by kernel_rfl) (by kernel_rfl) (fun _ _ _ h => h) (Or.inl ⟨by rfl, ?y0_r3_1⟩) (by assumption) ?r0_r3_1
          case y0_r3_1 => (intro w hSw; (try dsimp only at hSw); go_simp; all_goals (with_reducible rfl))
          try simp only [Act.put, List.setIfInBounds_toArray, List.set_cons_zero, List.set_cons_succ]
          refine wpAnyH_take (i := 1) (oi := { dst := some 25, op := Op.move (Operand.tmp 24), type := 4, pos := "l16_order.go:23", after := #[{ on := 0, ground := Ground.data }], guard := none }) (v := ?v1_r3_2) rfl (by kernel_rfl) (by kernel_rfl) (by kernel_rfl) (fun _ _ _ h => h) (Or.inl ⟨by rfl, ?y1_r3_2⟩) (by assumption) ?r1_r3_2
          case y1_r3_2 => (intro w hSw; (try dsimp only at hSw); go_simp; all_goals (with_reducible rfl))
          try simp only [Act.put, List.setIfInBounds_toArray, List.set_cons_zero, List.set_cons_succ]
          refine wpAnyH_take (i := 2) (oi := { dst := some 26, op := Op.move (Operand.tmp 0), type := 30, pos := "l16_order.go:23", after := #[{ on := 1, ground := Ground.guard }], guard := some (1, true) }) (v := ?v2_r3_3) rfl (by kernel_rfl) (by kernel_rfl) (by kernel_rfl) (fun _ _ _ h => h) (Or.inl ⟨by rfl, ?y2_r3_3⟩) (by assumption) ?r2_r3_3
          case y2_r3_3 => (intro w hSw; (try dsimp only at hSw); go_simp; all_goals (with_reducible rfl))
          try simp only [Act.put, List.setIfInBounds_toArray, List.set_cons_zero, List.set_cons_succ]
          refine wpAnyH_take (i := 3) (oi := { dst := some 27, op := Op.move (Operand.tmp 6), type := 3, pos := "l16_order.go:23", after := #[{ on := 1, ground := Ground.guard }], guard := some (1, true) }) (v := ?v3_r3_4) rfl (by kernel_rfl) (by kernel_rfl) (by kernel_rfl) (fun _ _ _ h => h) (Or.inl ⟨by rfl, ?y3_r3_4⟩) (by assumption) ?r3_r3_4
          case y3_r3_4 => (intro w hSw; (try dsimp only at hSw); go_simp; all_goals (with_reducible rfl))
          try simp only [Act.put, List.setIfInBounds_toArray, List.set_cons_zero, List.set_cons_succ]
          refine wpAnyH_take (i := 4) (oi := { dst := some 28, op := Op.indexAddr 30 (Operand.tmp 26) (Operand.tmp 27), type := 0, pos := "l16_order.go:23", after := #[{ on := 2, ground := Ground.data }, { on := 3, ground := Ground.data }, { on := 1, ground := Ground.guard }], guard := some (1, true) }) (v := ?v4_r3_5) rfl (by kernel_rfl) (by kernel_rfl) (by kernel_rfl) (fun _ _ _ h => h) (Or.inl ⟨by rfl, ?y4_r3_5⟩) (by assumption) ?r4_r3_5
          case y4_r3_5 => (intro w hSw; (try dsimp only at hSw); go_simp; all_goals (with_reducible rfl))
          try simp only [Act.put, List.setIfInBounds_toArray, List.set_cons_zero, List.set_cons_succ]
          refine wpAnyH_take (i := 5) (oi := { dst := some 29, op := Op.load 60 (Operand.tmp 28), type := 60, pos := "l16_order.go:23", after := #[{ on := 4, ground := Ground.data }, { on := 1, ground := Ground.guard }], guard := some (1, true) }) (v := ?v5_r3_6) rfl (by kernel_rfl) (by kernel_rfl) (by kernel_rfl) (fun _ _ _ h => h) (Or.inl ⟨by rfl, ?y5_r3_6⟩) (by assumption) ?r5_r3_6
          case y5_r3_6 => (intro w hSw; (try dsimp only at hSw); go_simp; all_goals (with_reducible rfl))
          try simp only [Act.put, List.setIfInBounds_toArray, List.set_cons_zero, List.set_cons_succ]
          refine wpAnyH_ready (rs := [6]) (by kernel_rfl) (by simp) ?_
          refine AllReadyH.cons (o := { dst := some 30, op := Op.call { callee := Callee.value (Operand.func 98), args := #[Operand.tmp 29], argTypes := #[60] }, type := 4, pos := "l16_order.go:23", after := #[{ on := 5, ground := Ground.data }, { on := 1, ground := Ground.chain }, { on := 1, ground := Ground.guard }], guard := some (1, true) }) rfl (fun K hK => ?_) AllReadyH.nil
          go_simp
          go_at_call 98
          refine (specPkD _ xi _ (Ri.out.grow (gby_trans G13_.out (gby_drew (gby_refl _ none)))) hzi_ true HOI.out).mono ?_
          rintro e wH7_r3 ⟨rfl, gH7_r3⟩
          have m7_ei0_ : wH7_r3.cell? _ = some _ := gH7_r3.cell ei0_ (by simp); have m7_ei1_ : wH7_r3.cell? _ = some _ := gH7_r3.cell ei1_ (by simp); have m7_ei2_ : wH7_r3.cell? _ = some _ := gH7_r3.cell ei2_ (by simp); have m7_ei3_ : wH7_r3.cell? _ = some _ := gH7_r3.cell ei3_ (by simp); have m7_ei4_ : wH7_r3.cell? _ = some _ := gH7_r3.cell ei4_ (by simp); have m7_ei5_ : wH7_r3.cell? _ = some _ := gH7_r3.cell ei5_ (by simp); have m7_ei6_ : wH7_r3.cell? _ = some _ := gH7_r3.cell ei6_ (by simp); have m7_ei7_ : wH7_r3.cell? _ = some _ := gH7_r3.cell ei7_ (by simp); have m7_ek0_ : wH7_r3.cell? _ = some _ := gH7_r3.cell ek0_ (by simp); have m7_ek1_ : wH7_r3.cell? _ = some _ := gH7_r3.cell ek1_ (by simp); have m7_ek2_ : wH7_r3.cell? _ = some _ := gH7_r3.cell ek2_ (by simp); have m7_ek3_ : wH7_r3.cell? _ = some _ := gH7_r3.cell ek3_ (by simp); have m7_ek4_ : wH7_r3.cell? _ = some _ := gH7_r3.cell ek4_ (by simp); have m7_ek5_ : wH7_r3.cell? _ = some _ := gH7_r3.cell ek5_ (by simp); have m7_ek6_ : wH7_r3.cell? _ = some _ := gH7_r3.cell ek6_ (by simp); have m7_ek7_ : wH7_r3.cell? _ = some _ := gH7_r3.cell ek7_ (by simp)
          go_wp2_with fail
          clear hHeld
          refine hK.out _ _ ?s6_r3_7 (fun hHeld => ?_)
          case s6_r3_7 => exact ⟨m7_ei0_, m7_ei1_, m7_ei2_, m7_ei3_, m7_ei4_, m7_ei5_, m7_ei6_, m7_ei7_, m7_ek0_, m7_ek1_, m7_ek2_, m7_ek3_, m7_ek4_, m7_ek5_, m7_ek6_, m7_ek7_⟩
          clear hK K
          try simp only [Act.put, List.setIfInBounds_toArray, List.set_cons_zero, List.set_cons_succ]
          refine wpAnyH_take (i := 7) (oi := { dst := some 31, op := Op.unOp UnOp.not 4 (Operand.tmp 30), type := 4, pos := "l16_order.go:23", after := #[{ on := 6, ground := Ground.data }, { on := 1, ground := Ground.guard }], guard := some (1, true) }) (v := ?v7_r3_8) rfl (by kernel_rfl) (by kernel_rfl) (by kernel_rfl) (fun _ _ _ h => h) (Or.inl ⟨by rfl, ?y7_r3_8⟩) (by assumption) ?r7_r3_8
          case y7_r3_8 => (intro w hSw; (try dsimp only at hSw); go_simp; all_goals (with_reducible rfl))
          try simp only [Act.put, List.setIfInBounds_toArray, List.set_cons_zero, List.set_cons_succ]
          refine wpAnyH_take (i := 8) (oi := { dst := some 32, op := Op.move (Operand.tmp 31), type := 4, pos := "l16_order.go:23", after := #[{ on := 7, ground := Ground.data }, { on := 6, ground := Ground.chain }, { on := 1, ground := Ground.guard }], guard := some (1, true) }) (v := ?v8_r3_9) rfl (by kernel_rfl) (by kernel_rfl) (by kernel_rfl) (fun _ _ _ h => h) (Or.inl ⟨by rfl, ?y8_r3_9⟩) (by assumption) ?r8_r3_9
          case y8_r3_9 => (intro w hSw; (try dsimp only at hSw); go_simp; all_goals (with_reducible rfl))
          try simp only [Act.put, List.setIfInBounds_toArray, List.set_cons_zero, List.set_cons_succ]
          refine wpAnyH_take (i := 9) (oi := { dst := some 33, op := Op.move (Operand.tmp 0), type := 30, pos := "l16_order.go:23", after := #[{ on := 8, ground := Ground.guard }], guard := some (8, false) }) (v := ?v9_r3_10) rfl (by kernel_rfl) (by kernel_rfl) (by kernel_rfl) (fun _ _ _ h => h) (Or.inl ⟨by rfl, ?y9_r3_10⟩) (by assumption) ?r9_r3_10
          case y9_r3_10 => (intro w hSw; (try dsimp only at hSw); go_simp; all_goals (with_reducible rfl))
          try simp only [Act.put, List.setIfInBounds_toArray, List.set_cons_zero, List.set_cons_succ]
          refine wpAnyH_take (i := 10) (oi := { dst := some 34, op := Op.move (Operand.tmp 4), type := 3, pos := "l16_order.go:23", after := #[{ on := 8, ground := Ground.guard }], guard := some (8, false) }) (v := ?v10_r3_11) rfl (by kernel_rfl) (by kernel_rfl) (by kernel_rfl) (fun _ _ _ h => h) (Or.inl ⟨by rfl, ?y10_r3_11⟩) (by assumption) ?r10_r3_11
          case y10_r3_11 => (intro w hSw; (try dsimp only at hSw); go_simp; all_goals (with_reducible rfl))
          try simp only [Act.put, List.setIfInBounds_toArray, List.set_cons_zero, List.set_cons_succ]
          refine wpAnyH_take (i := 11) (oi := { dst := some 35, op := Op.indexAddr 30 (Operand.tmp 33) (Operand.tmp 34), type := 0, pos := "l16_order.go:23", after := #[{ on := 9, ground := Ground.data }, { on := 10, ground := Ground.data }, { on := 8, ground := Ground.guard }], guard := some (8, false) }) (v := ?v11_r3_12) rfl (by kernel_rfl) (by kernel_rfl) (by kernel_rfl) (fun _ _ _ h => h) (Or.inl ⟨by rfl, ?y11_r3_12⟩) (by assumption) ?r11_r3_12
          case y11_r3_12 => (intro w hSw; (try dsimp only at hSw); go_simp; all_goals (with_reducible rfl))
          try simp only [Act.put, List.setIfInBounds_toArray, List.set_cons_zero, List.set_cons_succ]
          refine wpAnyH_take (i := 12) (oi := { dst := some 36, op := Op.load 60 (Operand.tmp 35), type := 60, pos := "l16_order.go:23", after := #[{ on := 11, ground := Ground.data }, { on := 8, ground := Ground.guard }], guard := some (8, false) }) (v := ?v12_r3_13) rfl (by kernel_rfl) (by kernel_rfl) (by kernel_rfl) (fun _ _ _ h => h) (Or.inl ⟨by rfl, ?y12_r3_13⟩) (by assumption) ?r12_r3_13
          case y12_r3_13 => (intro w hSw; (try dsimp only at hSw); go_simp; all_goals (with_reducible rfl))
          try simp only [Act.put, List.setIfInBounds_toArray, List.set_cons_zero, List.set_cons_succ]
          refine wpAnyH_take (i := 13) (oi := { dst := some 37, op := Op.move (Operand.tmp 0), type := 30, pos := "l16_order.go:23", after := #[{ on := 8, ground := Ground.guard }], guard := some (8, false) }) (v := ?v13_r3_14) rfl (by kernel_rfl) (by kernel_rfl) (by kernel_rfl) (fun _ _ _ h => h) (Or.inl ⟨by rfl, ?y13_r3_14⟩) (by assumption) ?r13_r3_14
          case y13_r3_14 => (intro w hSw; (try dsimp only at hSw); go_simp; all_goals (with_reducible rfl))
          try simp only [Act.put, List.setIfInBounds_toArray, List.set_cons_zero, List.set_cons_succ]
          refine wpAnyH_take (i := 14) (oi := { dst := some 38, op := Op.move (Operand.tmp 6), type := 3, pos := "l16_order.go:23", after := #[{ on := 8, ground := Ground.guard }], guard := some (8, false) }) (v := ?v14_r3_15) rfl (by kernel_rfl) (by kernel_rfl) (by kernel_rfl) (fun _ _ _ h => h) (Or.inl ⟨by rfl, ?y14_r3_15⟩) (by assumption) ?r14_r3_15
          case y14_r3_15 => (intro w hSw; (try dsimp only at hSw); go_simp; all_goals (with_reducible rfl))
          try simp only [Act.put, List.setIfInBounds_toArray, List.set_cons_zero, List.set_cons_succ]
          refine wpAnyH_take (i := 15) (oi := { dst := some 39, op := Op.indexAddr 30 (Operand.tmp 37) (Operand.tmp 38), type := 0, pos := "l16_order.go:23", after := #[{ on := 13, ground := Ground.data }, { on := 14, ground := Ground.data }, { on := 8, ground := Ground.guard }], guard := some (8, false) }) (v := ?v15_r3_16) rfl (by kernel_rfl) (by kernel_rfl) (by kernel_rfl) (fun _ _ _ h => h) (Or.inl ⟨by rfl, ?y15_r3_16⟩) (by assumption) ?r15_r3_16
          case y15_r3_16 => (intro w hSw; (try dsimp only at hSw); go_simp; all_goals (with_reducible rfl))
          try simp only [Act.put, List.setIfInBounds_toArray, List.set_cons_zero, List.set_cons_succ]
          refine wpAnyH_take (i := 16) (oi := { dst := some 40, op := Op.load 60 (Operand.tmp 39), type := 60, pos := "l16_order.go:23", after := #[{ on := 15, ground := Ground.data }, { on := 8, ground := Ground.guard }], guard := some (8, false) }) (v := ?v16_r3_17) rfl (by kernel_rfl) (by kernel_rfl) (by kernel_rfl) (fun _ _ _ h => h) (Or.inl ⟨by rfl, ?y16_r3_17⟩) (by assumption) ?r16_r3_17
          case y16_r3_17 => (intro w hSw; (try dsimp only at hSw); go_simp; all_goals (with_reducible rfl))
          try simp only [Act.put, List.setIfInBounds_toArray, List.set_cons_zero, List.set_cons_succ]
          refine wpAnyH_ready (rs := [17]) (by kernel_rfl) (by simp) ?_
          refine AllReadyH.cons (o := { dst := some 41, op := Op.call { callee := Callee.value (Operand.func 70), args := #[Operand.tmp 36, Operand.tmp 40], argTypes := #[60, 60] }, type := 4, pos := "l16_order.go:23", after := #[{ on := 12, ground := Ground.data }, { on := 16, ground := Ground.data }, { on := 8, ground := Ground.chain }, { on := 8, ground := Ground.guard }], guard := some (8, false) }) rfl (fun K hK => ?_) AllReadyH.nil
          go_simp
          go_at_call 70
          refine (HMAY.out _ (Rk.out.grow (gby_trans G13_.out (gby_trans (gby_drew (gby_refl _ none)) gH7_r3))) (Ri.out.grow (gby_trans G13_.out (gby_trans (gby_drew (gby_refl _ none)) gH7_r3)))).mono ?_
          rintro e wH18_r3 ⟨rfl, gH18_r3⟩
          have m18_ei0_ : wH18_r3.cell? _ = some _ := gH18_r3.cell m7_ei0_ (by simp); have m18_ei1_ : wH18_r3.cell? _ = some _ := gH18_r3.cell m7_ei1_ (by simp); have m18_ei2_ : wH18_r3.cell? _ = some _ := gH18_r3.cell m7_ei2_ (by simp); have m18_ei3_ : wH18_r3.cell? _ = some _ := gH18_r3.cell m7_ei3_ (by simp); have m18_ei4_ : wH18_r3.cell? _ = some _ := gH18_r3.cell m7_ei4_ (by simp); have m18_ei5_ : wH18_r3.cell? _ = some _ := gH18_r3.cell m7_ei5_ (by simp); have m18_ei6_ : wH18_r3.cell? _ = some _ := gH18_r3.cell m7_ei6_ (by simp); have m18_ei7_ : wH18_r3.cell? _ = some _ := gH18_r3.cell m7_ei7_ (by simp); have m18_ek0_ : wH18_r3.cell? _ = some _ := gH18_r3.cell m7_ek0_ (by simp); have m18_ek1_ : wH18_r3.cell? _ = some _ := gH18_r3.cell m7_ek1_ (by simp); have m18_ek2_ : wH18_r3.cell? _ = some _ := gH18_r3.cell m7_ek2_ (by simp); have m18_ek3_ : wH18_r3.cell? _ = some _ := gH18_r3.cell m7_ek3_ (by simp); have m18_ek4_ : wH18_r3.cell? _ = some _ := gH18_r3.cell m7_ek4_ (by simp); have m18_ek5_ : wH18_r3.cell? _ = some _ := gH18_r3.cell m7_ek5_ (by simp); have m18_ek6_ : wH18_r3.cell? _ = some _ := gH18_r3.cell m7_ek6_ (by simp); have m18_ek7_ : wH18_r3.cell? _ = some _ := gH18_r3.cell m7_ek7_ (by simp)
          go_wp2_with fail
          clear hHeld
          refine hK.out _ _ ?s17_r3_18 (fun hHeld => ?_)
          case s17_r3_18 => exact ⟨m18_ei0_, m18_ei1_, m18_ei2_, m18_ei3_, m18_ei4_, m18_ei5_, m18_ei6_, m18_ei7_, m18_ek0_, m18_ek1_, m18_ek2_, m18_ek3_, m18_ek4_, m18_ek5_, m18_ek6_, m18_ek7_⟩
          clear hK K
          try simp only [Act.put, List.setIfInBounds_toArray, List.set_cons_zero, List.set_cons_succ]
          refine wpAnyH_take (i := 18) (oi := { dst := some 42, op := Op.pick (Operand.tmp 32) (Operand.const (Value.bool true)) (Operand.tmp 41), type := 4, pos := "l16_order.go:23", after := #[{ on := 8, ground := Ground.data }, { on := 17, ground := Ground.data }, { on := 1, ground := Ground.guard }], guard := some (1, true) }) (v := ?v18_r3_19) rfl (by kernel_rfl) (by kernel_rfl) (by kernel_rfl) (fun _ _ _ h => h) (Or.inl ⟨by rfl, ?y18_r3_19⟩) (by assumption) ?r18_r3_19
          case y18_r3_19 => (intro w hSw; (try dsimp only at hSw); go_simp; all_goals (with_reducible rfl))
          try simp only [Act.put, List.setIfInBounds_toArray, List.set_cons_zero, List.set_cons_succ]
          refine wpAnyH_take (i := 19) (oi := { dst := some 43, op := Op.pick (Operand.tmp 25) (Operand.tmp 42) (Operand.const (Value.bool false)), type := 4, pos := "l16_order.go:23", after := #[{ on := 1, ground := Ground.data }, { on := 18, ground := Ground.data }], guard := none }) (v := ?v19_r3_20) rfl (by kernel_rfl) (by kernel_rfl) (by kernel_rfl) (fun _ _ _ h => h) (Or.inl ⟨by rfl, ?y19_r3_20⟩) (by assumption) ?r19_r3_20
          case y19_r3_20 => (intro w hSw; (try dsimp only at hSw); go_simp; all_goals (with_reducible rfl))
          try simp only [Act.put, List.setIfInBounds_toArray, List.set_cons_zero, List.set_cons_succ]
          refine wpAnyH_take (i := 20) (oi := { dst := some 5, op := Op.assign (Operand.tmp 43), type := 4, pos := "l16_order.go:23", after := #[{ on := 19, ground := Ground.data }, { on := 17, ground := Ground.chain }, { on := 0, ground := Ground.phase }, { on := 1, ground := Ground.phase }, { on := 2, ground := Ground.phase }, { on := 3, ground := Ground.phase }, { on := 4, ground := Ground.phase }, { on := 5, ground := Ground.phase }, { on := 6, ground := Ground.phase }, { on := 7, ground := Ground.phase }, { on := 8, ground := Ground.phase }, { on := 9, ground := Ground.phase }, { on := 10, ground := Ground.phase }, { on := 11, ground := Ground.phase }, { on := 12, ground := Ground.phase }, { on := 13, ground := Ground.phase }, { on := 14, ground := Ground.phase }, { on := 15, ground := Ground.phase }, { on := 16, ground := Ground.phase }, { on := 17, ground := Ground.phase }, { on := 18, ground := Ground.phase }, { on := 19, ground := Ground.phase }], guard := none }) (v := ?v20_r3_21) rfl (by kernel_rfl) (by kernel_rfl) (by kernel_rfl) (fun _ _ _ h => h) (Or.inl ⟨by rfl, ?y20_r3_21⟩) (by assumption) ?r20_r3_21
          case y20_r3_21 => (intro w hSw; (try dsimp only at hSw); go_simp; all_goals (with_reducible rfl))
          try simp only [Act.put, List.setIfInBounds_toArray, List.set_cons_zero, List.set_cons_succ]
          refine wpAnyH_done (by kernel_rfl) ?_ _
          have gR_ : (wr).grownBy (wH18_r3) none := (gby_trans (gby_trans (gby_drew (gby_refl _ none)) gH7_r3) gH18_r3)
          have szwH18_r3 := gR_.size
          try simp only [World.size_alloc] at szwH18_r3
          clear ek0_ ek1_ ek2_ ek3_ ek4_ ek5_ ek6_ ek7_ ei0_ ei1_ ei2_ ei3_ ei4_ ei5_ ei6_ ei7_
          have G16_ := Lib.hid (show (W).grownBy (wH18_r3) none from gby_trans G13_.out gR_)
          have HTM17_ := Lib.hid (show (W).grownBy (wH18_r3) none from gby_trans HTM14_.out gR_)
          clear HTM14_
          have HTR18_ := Lib.hid (show (wo).grownBy (wH18_r3) none from gby_trans HTR15_.out gR_)
          clear HTR15_
          have HTI19_ := Lib.hid (show (w1).grownBy (wH18_r3) none from gby_trans HTI_.out gR_)
          clear HTI_
          clear gR_
          go_wp2
          refine ⟨⟨m + 1, by go_num, by omega, congrArg Value.bool (go_on (a := true) HOB.out (by rw [← HXi.out]; exact HOI.out) (by rw [← HXi.out, ← HMB.out]; rfl)), HTI19_.out⟩, by simp [intOf]; omega⟩

end Go.Proofs.Ytnighnkkeiegnaa
