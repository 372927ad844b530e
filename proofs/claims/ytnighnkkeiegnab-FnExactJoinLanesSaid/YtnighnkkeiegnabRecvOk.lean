/-
  Receivers: the model's and the program's ReceiverOk and AckOf.
-/
import Derived.Test.YtnighnkkeiegnabRecv
namespace Go.Proofs.Ytnighnkkeiegnab
open Go Go.RowKit

/-- a receiver's value -/
def rcV (q : Int) (d : Option Addr) (len cap : Nat) : Value := .agg #[.int .i64 q, .slice d len cap]

/-- all rows are bytes -/
def AreBL (L : List (List Int)) : Prop := ∀ x ∈ L, AreB x
instance (L : List (List Int)) : Decidable (AreBL L) := inferInstanceAs (Decidable (∀ x ∈ L, _))
/-- a valid receiver -/
def ROk (q : Int) (L : List (List Int)) : Prop := IsQ q ∧ L.length ≤ 1000 ∧ AreBL L
instance (q : Int) (L : List (List Int)) : Decidable (ROk q L) := inferInstanceAs (Decidable (_ ∧ _))
theorem areBL_bad {L : List (List Int)} {k : Nat} (hk : k < L.length) (h : ¬ AreB (L.getD k [])) : ¬ AreBL L := by
  intro ha
  rw [List.getD_eq_getElem?_getD, List.getElem?_eq_getElem hk] at h
  exact h (ha _ (List.getElem_mem hk))
theorem areBL_all {L : List (List Int)} (h : ∀ k, k < L.length → AreB (L.getD k [])) : AreBL L := by
  intro x hx
  obtain ⟨k, hk, rfl⟩ := List.mem_iff_getElem.1 hx
  have := h k hk
  rw [List.getD_eq_getElem?_getD, List.getElem?_eq_getElem hk] at this
  simpa using this

set_option maxHeartbeats 1000000 in
theorem implBL_any (W : World) (a : Option Addr) (len cap : Nat) (L : List (List Int)) (H : RLL W a len L) (hl : len ≤ 1048576) (hb : ∀ x ∈ L, x.length ≤ 1048576) :
    Calls Try.prog 69 #[.slice a len cap] W (fun e w' => e = .returned (.bool (decide (AreBL L))) ∧ W = w') := by
  obtain ⟨e, H2⟩ := H
  have HC := Lib.hid H2
  have HE := Lib.hid e
  have HB := Lib.hid hb
  clear H2 e hb
  go_enter Try.func69, Try.ntmps69
  go_wp2
  go_loopw [7] (fun i wr => ∃ k : Nat, k ≤ len ∧ i = .int .i64 (k : Int) ∧ (∀ j, j < k → AreB (L.getD j [])) ∧ W = wr) (fun i _ => len - (intOf i).toNat)
  case atStart => exact ⟨0, Nat.zero_le _, rfl, fun j hj => absurd hj (Nat.not_lt_zero _), rfl⟩
  case round =>
    obtain ⟨k, hk, rfl, hn, rfl⟩ := hrel
    have HN := Lib.hid hn
    clear hn
    by_cases hlt : k < len
    · have hki : (k : Int) < (len : Int) := by omega
      obtain ⟨b, off, rfl, hcell⟩ := HC.out.resolve_left (by omega)
      obtain ⟨u, hc, ra, rc, rfl, hri, hrc⟩ := hcell k hlt
      have hxl : (L.getD k []).length ≤ 1048576 := by
        have := HE.out
        rw [List.getD_eq_getElem?_getD, List.getElem?_eq_getElem (by omega)]
        exact HB.out _ (List.getElem_mem _)
      have HR := Lib.hid hri
      generalize hx : L.getD k [] = x at hc hxl HR
      generalize hn : x.length = n at hc hxl HR
      have HX := Lib.hid hx
      clear hcell hri hrc hx hn
      by_cases hg : AreB x
      · have hd : decide (AreB x) = true := decide_eq_true hg
        have HG := Lib.hid hg
        clear hg
        go_wp2_with fail
        go_at_call 75
        refine (implBytesR_any _ _ _ _ x HR.out (by omega)).mono ?_
        rintro e w1 ⟨rfl, rfl⟩
        rw [hd]
        go_wp2
        refine ⟨⟨k + 1, by omega, by go_num, ?_, by trivial⟩, by simp [intOf]; omega⟩
        intro j hj
        by_cases e : j = k
        · subst e; rw [HX.out]; exact HG.out
        · exact HN.out j (by omega)
      · have hd : decide (AreB x) = false := decide_eq_false hg
        have HG := Lib.hid hg
        clear hg
        go_wp2_with fail
        go_at_call 75
        refine (implBytesR_any _ _ _ _ x HR.out (by omega)).mono ?_
        rintro e w1 ⟨rfl, rfl⟩
        rw [hd]
        go_wp2
        go_ret
        have hnot : ¬ AreBL L := areBL_bad (k := k) (by have := HE.out; omega) (by rw [HX.out]; exact HG.out)
        exact ⟨ret_bool (by simp [hnot]), rfl⟩
    · have hki : ¬ (k : Int) < (len : Int) := by omega
      have hyes : AreBL L := areBL_all (fun j hj => HN.out j (by have := HE.out; omega))
      go_wp2
      go_ret
      exact ⟨ret_bool (by simp), rfl⟩

set_option maxHeartbeats 1000000 in
theorem specROk_any (W : World) (q : Int) (a : Option Addr) (len cap : Nat) (L : List (List Int)) (H : RLL W a len L) (hl : len ≤ 1048576) (hb : ∀ x ∈ L, x.length ≤ 1048576) :
    Calls Try.prog 63 #[rcV q a len cap] W (AnsN (.bool (decide (ROk q L))) W) := by
  obtain ⟨e, H2⟩ := H
  have HC := Lib.hid H2
  have HE := Lib.hid e
  have HB := Lib.hid hb
  clear H2 e hb
  unfold rcV
  go_enter Try.func63, Try.ntmps63
  go_wp2
  go_loopw [3] (fun i wr => ∃ k : Nat, k ≤ len ∧ i = .int .i64 (k : Int) ∧ (∀ j, j < k → AreB (L.getD j [])) ∧ W.alloc (.cells #[.int .i64 q, .slice a len cap] 52) = wr) (fun i _ => len - (intOf i).toNat)
  case atStart => exact ⟨0, Nat.zero_le _, rfl, fun j hj => absurd hj (Nat.not_lt_zero _), rfl⟩
  case round =>
    obtain ⟨k, hk, rfl, hn, rfl⟩ := hrel
    have HN := Lib.hid hn
    clear hn
    by_cases hlt : k < len
    · have hki : (k : Int) < (len : Int) := by omega
      obtain ⟨b, off, rfl, hcell⟩ := HC.out.resolve_left (by omega)
      obtain ⟨u, hc, ra, rc, rfl, hri, hrc⟩ := hcell k hlt
      have hc := (gby_alloc (gby_refl W none) (.cells #[.int .i64 q, .slice (some ⟨b, off, none⟩) len cap] 52)).cell hc (by simp)
      have hxl : (L.getD k []).length ≤ 1048576 := by
        have := HE.out
        rw [List.getD_eq_getElem?_getD, List.getElem?_eq_getElem (by omega)]
        exact HB.out _ (List.getElem_mem _)
      have HR := Lib.hid hri
      generalize hx : L.getD k [] = x at hc hxl HR
      generalize hn : x.length = n at hc hxl HR
      have HX := Lib.hid hx
      clear hcell hri hrc hx hn
      by_cases hg : AreB x
      · have hd : decide (AreB x) = true := decide_eq_true hg
        have HG := Lib.hid hg
        clear hg
        go_wp2_with fail
        go_at_call 64
        refine (specBytes_any _ _ _ _ x (HR.out.kept (gby_alloc (gby_refl _ _) _)) (by omega)).mono ?_
        rintro e w1 ⟨rfl, rfl⟩
        rw [hd]
        go_wp2
        refine ⟨⟨k + 1, by omega, by go_num, ?_, by trivial⟩, by simp [intOf]; omega⟩
        intro j hj
        by_cases e : j = k
        · subst e; rw [HX.out]; exact HG.out
        · exact HN.out j (by omega)
      · have hd : decide (AreB x) = false := decide_eq_false hg
        have HG := Lib.hid hg
        clear hg
        go_wp2_with fail
        go_at_call 64
        refine (specBytes_any _ _ _ _ x (HR.out.kept (gby_alloc (gby_refl _ _) _)) (by omega)).mono ?_
        rintro e w1 ⟨rfl, rfl⟩
        rw [hd]
        go_wp2
        go_ret
        have hnot : ¬ ROk q L := fun h => areBL_bad (k := k) (by have := HE.out; omega) (by rw [HX.out]; exact HG.out) h.2.2
        exact ⟨ret_bool (by simp [hnot]), gby_alloc (gby_refl _ _) _⟩
    · have hki : ¬ (k : Int) < (len : Int) := by omega
      have HYS := Lib.hid (areBL_all (L := L) (fun j hj => HN.out j (by have := HE.out; omega)))
      by_cases hq : IsQ q
      · have hd : decide (IsQ q) = true := decide_eq_true hq
        have HIQ := Lib.hid hq
        clear hq
        go_wp2_with fail
        go_at_call 65
        refine (specSeq_any q _).mono ?_
        rw [hd]
        rintro e w1 ⟨rfl, d1⟩
        have hcc := (d1.gby none).cell (show (W.alloc (.cells #[.int .i64 q, .slice a len cap] 52)).cell? ⟨W.heap.size, 1, none⟩ = some (.slice a len cap) from cell_of_row _ _ 1 _ _ _ (heap_alloc_new _ _)) (by simp)
        have G1 := Lib.hid (gby_trans (gby_alloc (gby_refl W none) _) (d1.gby none))
        clear d1
        go_wp2
        go_ret
        refine ⟨ret_bool ?_, G1.out⟩
        have h1 := HE.out
        rw [Bool.eq_iff_iff, decide_eq_true_iff, decide_eq_true_iff]
        exact ⟨fun h => ⟨HIQ.out, by omega, HYS.out⟩, fun h => by have := h.2.1; omega⟩
      · have hd : decide (IsQ q) = false := decide_eq_false hq
        have HIQ := Lib.hid hq
        clear hq
        go_wp2_with fail
        go_at_call 65
        refine (specSeq_any q _).mono ?_
        rw [hd]
        rintro e w1 ⟨rfl, d1⟩
        have G1 := Lib.hid (gby_trans (gby_alloc (gby_refl W none) _) (d1.gby none))
        clear d1
        go_wp2
        go_ret
        have hnot : ¬ ROk q L := fun h => HIQ.out h.1
        exact ⟨ret_bool (by simp [hnot]), G1.out⟩

end Go.Proofs.Ytnighnkkeiegnab
