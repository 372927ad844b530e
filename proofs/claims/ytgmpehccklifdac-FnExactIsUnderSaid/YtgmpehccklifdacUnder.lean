/-
  IsUnder on both sides.
-/
import Derived.Test.YtgmpehccklifdacKNumbers
import Derived.Test.YtgmpehccklifdacArb
namespace Go.Proofs.Ytgmpehccklifdac
open Go Go.RowKit
set_option linter.unusedVariables false

/-- is a bus one of those below a bridge -/
def undr (ys zs : List Int) (k bus : Int) : Prop := 0 ≤ k ∧ k < ys.length ∧ k < zs.length ∧ 0 ≤ ys.getD k.toNat 0 ∧ ys.getD k.toNat 0 ≤ bus ∧ bus ≤ zs.getD k.toNat 0
instance (ys zs : List Int) (k bus : Int) : Decidable (undr ys zs k bus) := by unfold undr; infer_instance

set_option maxRecDepth 8000 in
set_option maxHeartbeats 4000000 in
theorem specUn_any (W : World) (a0 : Option Addr) (n0 c0 : Nat) (a1 : Option Addr) (n1 c1 : Nat) (a2 : Option Addr) (n2 c2 : Nat) (ys zs : List Int) (k bus : Int) (H1 : ISl W a1 n1 ys) (H2 : ISl W a2 n2 zs) (hl1 : n1 ≤ 1048576) (hl2 : n2 ≤ 1048576) :
    Calls Try.prog 41 #[nbV a0 n0 c0 a1 n1 c1 a2 n2 c2, .int .i64 k, .int .i64 bus] W (AnsN (.bool (decide (undr ys zs k bus))) W) := by
  obtain ⟨e1, H1⟩ := H1
  obtain ⟨e2, H2⟩ := H2
  unfold nbV
  by_cases hle : (n1 : Int) ≤ (n2 : Int)
  · have hmin : (if (n2 : Int) < (n1 : Int) then (n2 : Int) else (n1 : Int)) = (n1 : Int) := by split <;> omega
    by_cases hk : 0 ≤ k ∧ k ≤ (n1 : Int) - 1
    · obtain ⟨k0, k1⟩ := hk
      obtain ⟨m, rfl⟩ : ∃ m : Nat, k = (m : Int) := ⟨k.toNat, by omega⟩
      obtain ⟨b, off, rfl, hcell⟩ := H1.resolve_left (by omega)
      obtain ⟨b2, off2, rfl, hcell2⟩ := H2.resolve_left (by omega)
      have hc := (gby_alloc (gby_refl W none) (.cells #[.slice a0 n0 c0, .slice (some ⟨b, off, none⟩) n1 c1, .slice (some ⟨b2, off2, none⟩) n2 c2] 56)).cell (hcell m (by omega)) (by simp)
      have hc2 := (gby_alloc (gby_refl W none) (.cells #[.slice a0 n0 c0, .slice (some ⟨b, off, none⟩) n1 c1, .slice (some ⟨b2, off2, none⟩) n2 c2] 56)).cell (hcell2 m (by omega)) (by simp)
      clear hcell hcell2 H1 H2
      have htn : ((m : Int)).toNat = m := by omega
      have m1 : (m : Int) < (n1 : Int) := by omega
      have m2 : (m : Int) < (n2 : Int) := by omega
      have hdef : undr ys zs (m : Int) bus ↔ 0 ≤ ys.getD m 0 ∧ ys.getD m 0 ≤ bus ∧ bus ≤ zs.getD m 0 := by
        unfold undr
        rw [htn]
        exact ⟨fun h => h.2.2.2, fun h => ⟨k0, by omega, by omega, h⟩⟩
      generalize ys.getD m 0 = x at *
      generalize zs.getD m 0 = y at *
      by_cases hx : 0 ≤ x
      · by_cases hb : x ≤ bus ∧ bus ≤ y
        · have why : decide (undr ys zs (m : Int) bus) = true := decide_eq_true (hdef.2 ⟨hx, hb⟩)
          obtain ⟨hb1, hb2⟩ := hb
          clear hdef e1 e2
          go_enter Try.func41, Try.ntmps41
          go_wp2_with fail
          go_quiet ((go_at_call 58; first | exact ans_quiet (inq_yes (by omega) (by omega)) | exact ans_quiet_at (inq_yes (by omega) (by omega))))
          go_wp2
          go_ret
          exact ⟨ret_bool (by rw [why]), by first | exact gby_alloc (gby_refl _ _) _ | exact gby_drewN (gby_alloc (gby_refl _ _) _) _⟩
        · have why : decide (undr ys zs (m : Int) bus) = false := decide_eq_false (fun h => hb (hdef.1 h).2)
          have HB := Lib.hid hb
          clear hdef e1 e2 hb
          go_enter Try.func41, Try.ntmps41
          go_wp2_with fail
          go_quiet ((go_at_call 58; first | exact ans_quiet (inq_yes (by omega) (by omega)) | exact ans_quiet_at (inq_yes (by omega) (by omega)) | exact ans_quiet (inq_no (by have := HB.out; omega)) | exact ans_quiet_at (inq_no (by have := HB.out; omega))))
          go_wp2
          go_ret
          exact ⟨ret_bool (by rw [why]), by first | exact gby_alloc (gby_refl _ _) _ | exact gby_drewN (gby_alloc (gby_refl _ _) _) _⟩
      · have why : decide (undr ys zs (m : Int) bus) = false := decide_eq_false (fun h => hx (hdef.1 h).1)
        have hd1 : decide (0 ≤ x) = false := decide_eq_false hx
        have hd2 : x < 0 := by omega
        clear hdef e1 e2 hx
        go_enter Try.func41, Try.ntmps41
        go_wp2_with fail
        go_quiet ((go_at_call 58; first | exact ans_quiet (inq_yes (by omega) (by omega)) | exact ans_quiet_at (inq_yes (by omega) (by omega))))
        go_wp2
        go_ret
        exact ⟨ret_bool (by rw [why]), by first | exact gby_alloc (gby_refl _ _) _ | exact gby_drewN (gby_alloc (gby_refl _ _) _) _⟩
    · have why : decide (undr ys zs k bus) = false := decide_eq_false (fun h => hk ⟨h.1, by have := h.2.1; have := h.2.2.1; omega⟩)
      have HK := Lib.hid hk
      clear hk e1 e2 H1 H2
      go_enter Try.func41, Try.ntmps41
      go_wp2_with fail
      go_quiet ((go_at_call 58; first | exact ans_quiet (inq_no (by have := HK.out; omega)) | exact ans_quiet_at (inq_no (by have := HK.out; omega))))
      go_wp2
      go_ret
      exact ⟨ret_bool (by rw [why]), by first | exact gby_alloc (gby_refl _ _) _ | exact gby_drewN (gby_alloc (gby_refl _ _) _) _⟩
  · have hmin : (if (n2 : Int) < (n1 : Int) then (n2 : Int) else (n1 : Int)) = (n2 : Int) := by split <;> omega
    by_cases hk : 0 ≤ k ∧ k ≤ (n2 : Int) - 1
    · obtain ⟨k0, k1⟩ := hk
      obtain ⟨m, rfl⟩ : ∃ m : Nat, k = (m : Int) := ⟨k.toNat, by omega⟩
      obtain ⟨b, off, rfl, hcell⟩ := H1.resolve_left (by omega)
      obtain ⟨b2, off2, rfl, hcell2⟩ := H2.resolve_left (by omega)
      have hc := (gby_alloc (gby_refl W none) (.cells #[.slice a0 n0 c0, .slice (some ⟨b, off, none⟩) n1 c1, .slice (some ⟨b2, off2, none⟩) n2 c2] 56)).cell (hcell m (by omega)) (by simp)
      have hc2 := (gby_alloc (gby_refl W none) (.cells #[.slice a0 n0 c0, .slice (some ⟨b, off, none⟩) n1 c1, .slice (some ⟨b2, off2, none⟩) n2 c2] 56)).cell (hcell2 m (by omega)) (by simp)
      clear hcell hcell2 H1 H2
      have htn : ((m : Int)).toNat = m := by omega
      have m1 : (m : Int) < (n1 : Int) := by omega
      have m2 : (m : Int) < (n2 : Int) := by omega
      have hdef : undr ys zs (m : Int) bus ↔ 0 ≤ ys.getD m 0 ∧ ys.getD m 0 ≤ bus ∧ bus ≤ zs.getD m 0 := by
        unfold undr
        rw [htn]
        exact ⟨fun h => h.2.2.2, fun h => ⟨k0, by omega, by omega, h⟩⟩
      generalize ys.getD m 0 = x at *
      generalize zs.getD m 0 = y at *
      by_cases hx : 0 ≤ x
      · by_cases hb : x ≤ bus ∧ bus ≤ y
        · have why : decide (undr ys zs (m : Int) bus) = true := decide_eq_true (hdef.2 ⟨hx, hb⟩)
          obtain ⟨hb1, hb2⟩ := hb
          clear hdef e1 e2
          go_enter Try.func41, Try.ntmps41
          go_wp2_with fail
          go_quiet ((go_at_call 58; first | exact ans_quiet (inq_yes (by omega) (by omega)) | exact ans_quiet_at (inq_yes (by omega) (by omega))))
          go_wp2
          go_ret
          exact ⟨ret_bool (by rw [why]), by first | exact gby_alloc (gby_refl _ _) _ | exact gby_drewN (gby_alloc (gby_refl _ _) _) _⟩
        · have why : decide (undr ys zs (m : Int) bus) = false := decide_eq_false (fun h => hb (hdef.1 h).2)
          have HB := Lib.hid hb
          clear hdef e1 e2 hb
          go_enter Try.func41, Try.ntmps41
          go_wp2_with fail
          go_quiet ((go_at_call 58; first | exact ans_quiet (inq_yes (by omega) (by omega)) | exact ans_quiet_at (inq_yes (by omega) (by omega)) | exact ans_quiet (inq_no (by have := HB.out; omega)) | exact ans_quiet_at (inq_no (by have := HB.out; omega))))
          go_wp2
          go_ret
          exact ⟨ret_bool (by rw [why]), by first | exact gby_alloc (gby_refl _ _) _ | exact gby_drewN (gby_alloc (gby_refl _ _) _) _⟩
      · have why : decide (undr ys zs (m : Int) bus) = false := decide_eq_false (fun h => hx (hdef.1 h).1)
        have hd1 : decide (0 ≤ x) = false := decide_eq_false hx
        have hd2 : x < 0 := by omega
        clear hdef e1 e2 hx
        go_enter Try.func41, Try.ntmps41
        go_wp2_with fail
        go_quiet ((go_at_call 58; first | exact ans_quiet (inq_yes (by omega) (by omega)) | exact ans_quiet_at (inq_yes (by omega) (by omega))))
        go_wp2
        go_ret
        exact ⟨ret_bool (by rw [why]), by first | exact gby_alloc (gby_refl _ _) _ | exact gby_drewN (gby_alloc (gby_refl _ _) _) _⟩
    · have why : decide (undr ys zs k bus) = false := decide_eq_false (fun h => hk ⟨h.1, by have := h.2.1; have := h.2.2.1; omega⟩)
      have HK := Lib.hid hk
      clear hk e1 e2 H1 H2
      go_enter Try.func41, Try.ntmps41
      go_wp2_with fail
      go_quiet ((go_at_call 58; first | exact ans_quiet (inq_no (by have := HK.out; omega)) | exact ans_quiet_at (inq_no (by have := HK.out; omega))))
      go_wp2
      go_ret
      exact ⟨ret_bool (by rw [why]), by first | exact gby_alloc (gby_refl _ _) _ | exact gby_drewN (gby_alloc (gby_refl _ _) _) _⟩

set_option maxRecDepth 8000 in
set_option maxHeartbeats 4000000 in
theorem implUn_any (W : World) (a0 : Option Addr) (n0 c0 : Nat) (a1 : Option Addr) (n1 c1 : Nat) (a2 : Option Addr) (n2 c2 : Nat) (ys zs : List Int) (k bus : Int) (H1 : ISl W a1 n1 ys) (H2 : ISl W a2 n2 zs) (hl1 : n1 ≤ 1048576) (hl2 : n2 ≤ 1048576) :
    Calls Try.prog 43 #[nbV a0 n0 c0 a1 n1 c1 a2 n2 c2, .int .i64 k, .int .i64 bus] W (AnsN (.bool (decide (undr ys zs k bus))) W) := by
  obtain ⟨e1, H1⟩ := H1
  obtain ⟨e2, H2⟩ := H2
  unfold nbV
  by_cases hle : (n1 : Int) ≤ (n2 : Int)
  · have hmin : (if (n2 : Int) < (n1 : Int) then (n2 : Int) else (n1 : Int)) = (n1 : Int) := by split <;> omega
    by_cases hk : 0 ≤ k ∧ k ≤ (n1 : Int) - 1
    · obtain ⟨k0, k1⟩ := hk
      obtain ⟨m, rfl⟩ : ∃ m : Nat, k = (m : Int) := ⟨k.toNat, by omega⟩
      obtain ⟨b, off, rfl, hcell⟩ := H1.resolve_left (by omega)
      obtain ⟨b2, off2, rfl, hcell2⟩ := H2.resolve_left (by omega)
      have hc := (gby_alloc (gby_refl W none) (.cells #[.slice a0 n0 c0, .slice (some ⟨b, off, none⟩) n1 c1, .slice (some ⟨b2, off2, none⟩) n2 c2] 56)).cell (hcell m (by omega)) (by simp)
      have hc2 := (gby_alloc (gby_refl W none) (.cells #[.slice a0 n0 c0, .slice (some ⟨b, off, none⟩) n1 c1, .slice (some ⟨b2, off2, none⟩) n2 c2] 56)).cell (hcell2 m (by omega)) (by simp)
      clear hcell hcell2 H1 H2
      have htn : ((m : Int)).toNat = m := by omega
      have m1 : (m : Int) < (n1 : Int) := by omega
      have m2 : (m : Int) < (n2 : Int) := by omega
      have hdef : undr ys zs (m : Int) bus ↔ 0 ≤ ys.getD m 0 ∧ ys.getD m 0 ≤ bus ∧ bus ≤ zs.getD m 0 := by
        unfold undr
        rw [htn]
        exact ⟨fun h => h.2.2.2, fun h => ⟨k0, by omega, by omega, h⟩⟩
      generalize ys.getD m 0 = x at *
      generalize zs.getD m 0 = y at *
      by_cases hx : 0 ≤ x
      · by_cases hb : x ≤ bus ∧ bus ≤ y
        · have why : decide (undr ys zs (m : Int) bus) = true := decide_eq_true (hdef.2 ⟨hx, hb⟩)
          obtain ⟨hb1, hb2⟩ := hb
          clear hdef e1 e2
          go_enter Try.func43, Try.ntmps43
          go_wp2_with fail
          go_quiet ((go_at_call 59; first | exact ans_quiet (rngq_yes (by omega) (by omega)) | exact ans_quiet_at (rngq_yes (by omega) (by omega))))
          go_wp2
          go_ret
          exact ⟨ret_bool (by rw [why]), by first | exact gby_alloc (gby_refl _ _) _ | exact gby_drewN (gby_alloc (gby_refl _ _) _) _⟩
        · have why : decide (undr ys zs (m : Int) bus) = false := decide_eq_false (fun h => hb (hdef.1 h).2)
          have HB := Lib.hid hb
          clear hdef e1 e2 hb
          go_enter Try.func43, Try.ntmps43
          go_wp2_with fail
          go_quiet ((go_at_call 59; first | exact ans_quiet (rngq_yes (by omega) (by omega)) | exact ans_quiet_at (rngq_yes (by omega) (by omega)) | exact ans_quiet (rngq_no (by have := HB.out; omega)) | exact ans_quiet_at (rngq_no (by have := HB.out; omega))))
          go_wp2
          go_ret
          exact ⟨ret_bool (by rw [why]), by first | exact gby_alloc (gby_refl _ _) _ | exact gby_drewN (gby_alloc (gby_refl _ _) _) _⟩
      · have why : decide (undr ys zs (m : Int) bus) = false := decide_eq_false (fun h => hx (hdef.1 h).1)
        have hd1 : decide (0 ≤ x) = false := decide_eq_false hx
        have hd2 : x < 0 := by omega
        clear hdef e1 e2 hx
        go_enter Try.func43, Try.ntmps43
        go_wp2_with fail
        go_quiet ((go_at_call 59; first | exact ans_quiet (rngq_yes (by omega) (by omega)) | exact ans_quiet_at (rngq_yes (by omega) (by omega))))
        go_wp2
        go_ret
        exact ⟨ret_bool (by rw [why]), by first | exact gby_alloc (gby_refl _ _) _ | exact gby_drewN (gby_alloc (gby_refl _ _) _) _⟩
    · have why : decide (undr ys zs k bus) = false := decide_eq_false (fun h => hk ⟨h.1, by have := h.2.1; have := h.2.2.1; omega⟩)
      have HK := Lib.hid hk
      clear hk e1 e2 H1 H2
      go_enter Try.func43, Try.ntmps43
      go_wp2_with fail
      go_quiet ((go_at_call 59; first | exact ans_quiet (rngq_no (by have := HK.out; omega)) | exact ans_quiet_at (rngq_no (by have := HK.out; omega))))
      go_wp2
      go_ret
      exact ⟨ret_bool (by rw [why]), by first | exact gby_alloc (gby_refl _ _) _ | exact gby_drewN (gby_alloc (gby_refl _ _) _) _⟩
  · have hmin : (if (n2 : Int) < (n1 : Int) then (n2 : Int) else (n1 : Int)) = (n2 : Int) := by split <;> omega
    by_cases hk : 0 ≤ k ∧ k ≤ (n2 : Int) - 1
    · obtain ⟨k0, k1⟩ := hk
      obtain ⟨m, rfl⟩ : ∃ m : Nat, k = (m : Int) := ⟨k.toNat, by omega⟩
      obtain ⟨b, off, rfl, hcell⟩ := H1.resolve_left (by omega)
      obtain ⟨b2, off2, rfl, hcell2⟩ := H2.resolve_left (by omega)
      have hc := (gby_alloc (gby_refl W none) (.cells #[.slice a0 n0 c0, .slice (some ⟨b, off, none⟩) n1 c1, .slice (some ⟨b2, off2, none⟩) n2 c2] 56)).cell (hcell m (by omega)) (by simp)
      have hc2 := (gby_alloc (gby_refl W none) (.cells #[.slice a0 n0 c0, .slice (some ⟨b, off, none⟩) n1 c1, .slice (some ⟨b2, off2, none⟩) n2 c2] 56)).cell (hcell2 m (by omega)) (by simp)
      clear hcell hcell2 H1 H2
      have htn : ((m : Int)).toNat = m := by omega
      have m1 : (m : Int) < (n1 : Int) := by omega
      have m2 : (m : Int) < (n2 : Int) := by omega
      have hdef : undr ys zs (m : Int) bus ↔ 0 ≤ ys.getD m 0 ∧ ys.getD m 0 ≤ bus ∧ bus ≤ zs.getD m 0 := by
        unfold undr
        rw [htn]
        exact ⟨fun h => h.2.2.2, fun h => ⟨k0, by omega, by omega, h⟩⟩
      generalize ys.getD m 0 = x at *
      generalize zs.getD m 0 = y at *
      by_cases hx : 0 ≤ x
      · by_cases hb : x ≤ bus ∧ bus ≤ y
        · have why : decide (undr ys zs (m : Int) bus) = true := decide_eq_true (hdef.2 ⟨hx, hb⟩)
          obtain ⟨hb1, hb2⟩ := hb
          clear hdef e1 e2
          go_enter Try.func43, Try.ntmps43
          go_wp2_with fail
          go_quiet ((go_at_call 59; first | exact ans_quiet (rngq_yes (by omega) (by omega)) | exact ans_quiet_at (rngq_yes (by omega) (by omega))))
          go_wp2
          go_ret
          exact ⟨ret_bool (by rw [why]), by first | exact gby_alloc (gby_refl _ _) _ | exact gby_drewN (gby_alloc (gby_refl _ _) _) _⟩
        · have why : decide (undr ys zs (m : Int) bus) = false := decide_eq_false (fun h => hb (hdef.1 h).2)
          have HB := Lib.hid hb
          clear hdef e1 e2 hb
          go_enter Try.func43, Try.ntmps43
          go_wp2_with fail
          go_quiet ((go_at_call 59; first | exact ans_quiet (rngq_yes (by omega) (by omega)) | exact ans_quiet_at (rngq_yes (by omega) (by omega)) | exact ans_quiet (rngq_no (by have := HB.out; omega)) | exact ans_quiet_at (rngq_no (by have := HB.out; omega))))
          go_wp2
          go_ret
          exact ⟨ret_bool (by rw [why]), by first | exact gby_alloc (gby_refl _ _) _ | exact gby_drewN (gby_alloc (gby_refl _ _) _) _⟩
      · have why : decide (undr ys zs (m : Int) bus) = false := decide_eq_false (fun h => hx (hdef.1 h).1)
        have hd1 : decide (0 ≤ x) = false := decide_eq_false hx
        have hd2 : x < 0 := by omega
        clear hdef e1 e2 hx
        go_enter Try.func43, Try.ntmps43
        go_wp2_with fail
        go_quiet ((go_at_call 59; first | exact ans_quiet (rngq_yes (by omega) (by omega)) | exact ans_quiet_at (rngq_yes (by omega) (by omega))))
        go_wp2
        go_ret
        exact ⟨ret_bool (by rw [why]), by first | exact gby_alloc (gby_refl _ _) _ | exact gby_drewN (gby_alloc (gby_refl _ _) _) _⟩
    · have why : decide (undr ys zs k bus) = false := decide_eq_false (fun h => hk ⟨h.1, by have := h.2.1; have := h.2.2.1; omega⟩)
      have HK := Lib.hid hk
      clear hk e1 e2 H1 H2
      go_enter Try.func43, Try.ntmps43
      go_wp2_with fail
      go_quiet ((go_at_call 59; first | exact ans_quiet (rngq_no (by have := HK.out; omega)) | exact ans_quiet_at (rngq_no (by have := HK.out; omega))))
      go_wp2
      go_ret
      exact ⟨ret_bool (by rw [why]), by first | exact gby_alloc (gby_refl _ _) _ | exact gby_drewN (gby_alloc (gby_refl _ _) _) _⟩

theorem under_both (xs ys zs : List Int) (k bus : Int) (hx : xs.length ≤ 1048576) (hy : ys.length ≤ 1048576) (hz : zs.length ≤ 1048576) : ∃ b : Bool,
    (∀ (W : World) (u0 u1 u2 : Option Addr) (v0 v1 v2 : Nat), RdI W (.slice u0 xs.length v0) xs → RdI W (.slice u1 ys.length v1) ys → RdI W (.slice u2 zs.length v2) zs → Calls Try.prog 41 #[nbV u0 xs.length v0 u1 ys.length v1 u2 zs.length v2, .int .i64 k, .int .i64 bus] W (AnsN (.bool b) W)) ∧
    ∀ (W : World) (u0 u1 u2 : Option Addr) (v0 v1 v2 : Nat), RdI W (.slice u0 xs.length v0) xs → RdI W (.slice u1 ys.length v1) ys → RdI W (.slice u2 zs.length v2) zs → Calls Try.prog 43 #[nbV u0 xs.length v0 u1 ys.length v1 u2 zs.length v2, .int .i64 k, .int .i64 bus] W (AnsN (.bool b) W) :=
  ⟨_, fun W u0 u1 u2 v0 v1 v2 _ H1 H2 => specUn_any W u0 _ v0 u1 _ v1 u2 _ v2 ys zs k bus H1.isl' H2.isl' hy hz, fun W u0 u1 u2 v0 v1 v2 _ H1 H2 => implUn_any W u0 _ v0 u1 _ v1 u2 _ v2 ys zs k bus H1.isl' H2.isl' hy hz⟩

end Go.Proofs.Ytgmpehccklifdac
