/-
  Contracts of the program's AddCheck and TakeCheck.
-/
import Derived.Test.YtokpmbagidokkacCheckImpl
namespace Go.Proofs.Ytokpmbagidokkac
open Go Go.RowKit

set_option maxHeartbeats 1000000 in
theorem implAdd_no (W : World) (v : Value) (xs : List Int) (H : RdI W v xs) (hl : xs.length ≤ 2000000) (h : ¬ (AreB xs ∧ xs.length ≤ 38)) :
    Calls Try.prog 52 #[v] W (RowI [] W) := by
  obtain ⟨a, cap, rfl, hi, hn⟩ := H
  have HX := Lib.hid hi
  clear hi
  have two : decide (AreB xs) = false ∨ (decide (AreB xs) = true ∧ (38 : Int) < (xs.length : Int)) := by
    by_cases hb : AreB xs
    · refine .inr ⟨decide_eq_true hb, ?_⟩
      rcases Nat.lt_or_ge 38 xs.length with q | q
      · omega
      · exact absurd ⟨hb, q⟩ h
    · exact .inl (decide_eq_false hb)
  clear h
  rcases two with hd | ⟨hd, h38⟩
  all_goals
    go_enter Try.func52, Try.ntmps52
    go_wp2_with fail
    go_at_call 88
    refine (implBytes_any _ _ _ _ xs HX.out (by omega)).mono ?_
    rintro e w1 ⟨rfl, rfl⟩
    rw [hd]
    go_wp2
    go_ret
    exact ⟨_, rfl, owI_row (World.ownsRow_nil W _ _ _), gby_refl _ _⟩

set_option maxRecDepth 4000 in
set_option maxHeartbeats 1000000 in
theorem implAdd_yes (W : World) (v : Value) (xs : List Int) (H : RdI W v xs) (hb : AreB xs) (h38 : xs.length ≤ 38) :
    Calls Try.prog 52 #[v] W (RowI (addC xs) W) := by
  have HR := Lib.hid H
  obtain ⟨a, cap, rfl, hi, hn⟩ := H
  obtain ⟨i0, hi0, hz0, hz1, hz2⟩ := info_parts infoInt
  have hd : decide (AreB xs) = true := decide_eq_true hb
  have hl : ¬ (38 : Int) < (xs.length : Int) := by omega
  have hc := crc_lt (toN xs) 65535 (by decide) (toN_byte hb.1)
  have HX := Lib.hid hi
  have HB := Lib.hid hb
  clear hi hb hn
  obtain ⟨c, hcn⟩ : ∃ c : Nat, c = crc 65535 (toN xs) := ⟨_, rfl⟩
  go_enter Try.func52, Try.ntmps52
  go_wp2_with fail
  go_at_call 88
  refine (implBytes_any _ _ _ _ xs HX.out (by omega)).mono ?_
  rintro e w1 ⟨rfl, rfl⟩
  rw [hd]
  clear hd
  go_wp2_with fail
  go_at_call 90
  refine (implCheck_in _ _ xs HR.out HB.out).mono ?_
  rintro e w1 ⟨rfl, g1⟩
  rw [← hcn] at hc ⊢
  have G1 := Lib.hid g1
  have HCN := Lib.hid hcn
  clear g1 hcn
  go_wp2_with fail
  go_at_call 89
  refine (implSplit_in (c : Int) _ (by omega) (by omega)).mono ?_
  rintro e w2 ⟨rfl, d2⟩
  have G2 := Lib.hid (gby_trans G1.out (d2.gby none))
  clear d2
  go_wp2_with fail
  go_at_call 91
  refine (clone_row _ _ xs (HR.out.kept G2.out) (by omega)).mono ?_
  rintro e w3 ⟨v3, rfl, o3, g3⟩
  have G3 := Lib.hid (gby_trans G2.out g3)
  have O3 := Lib.hid o3
  have g3s := g3.size
  clear o3 g3
  have s3 := G3.out.size
  have s4 : w2.heap.size ≤ w3.heap.size + 1 := Nat.le_succ_of_le g3s
  go_wp2_with (at_builtin; refine wpList_append_lies _ (by rfl) _ _ _ (by rfl) w2.heap.size 3 i0 _ 1 8 Try.underlying22 hi0 hz0 hz1 hz2 rfl (by omega) _ xs.length (i64s xs) (by rfl) (O3.out.alloc _) ⟨w3.heap.size, 0, none⟩ 2 2 _ (by rfl) (by rfl) (World.news_of_block (t := 3) (fr := (0, 0)) (heap_alloc_new w3 _)) (by simp [Value.oneCell']) (by omega) (by unfold maxLen; omega) (by omega) (by simp; exact s4) (w3.heap.size + 1) (by simp) ?_; intro gg cap2 w5 hown5 hgrow5 hat hlt1; have HO5 := Lib.hid hown5; have HG5 := Lib.hid hgrow5; clear hown5 hgrow5 hat hlt1)
  go_ret
  refine ⟨_, rfl, ?_, ?_⟩
  · have q := HO5.out
    have e1 : (c : Int) / 256 = ((c / 256 : Nat) : Int) := by omega
    have e2 : (c : Int) % 256 = ((c % 256 : Nat) : Int) := by omega
    rw [e1, e2] at q
    have q2 : w5.ownsRow w2.heap.size 3 1 (.slice (some ⟨gg, 0, none⟩) (xs.length + 2) cap2) (xs.length + 2) (i64s (addC xs)) := by
      unfold addC
      rw [← HCN.out, i64s_append]
      exact q
    exact (owI_row q2).wide G2.out.size (Nat.le_refl _)
  · exact gby_new (gby_alloc G3.out _) HG5.out (fun i hi => Nat.le_trans G2.out.size (own_from O3.out i hi))

set_option maxHeartbeats 1000000 in
theorem implTake_neg (W : World) (v : Value) (xs : List Int) (H : RdI W v xs) (h : xs.length < 2) :
    Calls Try.prog 54 #[v] W (RowIB [] false W) := by
  obtain ⟨a, cap, rfl, hi, hn⟩ := H
  clear hi hn
  have h2 : (xs.length : Int) - 2 < 0 := by omega
  go_enter Try.func54, Try.ntmps54
  go_wp2
  go_ret2
  exact ⟨_, rfl, owI_row (World.ownsRow_nil W _ _ _), gby_refl _ _⟩

/-- AddCheck, whatever the bytes -/
theorem implAdd_any (xs : List Int) (hl : xs.length ≤ 2000000) : ∃ L : List Int, L.length ≤ 1048576 ∧ ((AreB xs ∧ xs.length ≤ 38) → L = addC xs) ∧ (¬ (AreB xs ∧ xs.length ≤ 38) → L = []) ∧ ∀ (W : World) (v : Value), RdI W v xs → Calls Try.prog 52 #[v] W (RowI L W) := by
  by_cases h : AreB xs ∧ xs.length ≤ 38
  · exact ⟨addC xs, by rw [addC_length]; omega, fun _ => rfl, fun n => absurd h n, fun W v H => implAdd_yes W v xs H h.1 h.2⟩
  · exact ⟨[], by simp, fun n => absurd n h, fun _ => rfl, fun W v H => implAdd_no W v xs H hl h⟩

set_option maxRecDepth 4000 in
set_option maxHeartbeats 1000000 in
theorem implTake_any (W : World) (v : Value) (xs : List Int) (H : RdI W v xs) (h2 : 2 ≤ xs.length) (hl : xs.length ≤ 1048576) :
    Calls Try.prog 54 #[v] W (fun e w' => (FrameOk xs → RowIB (xs.take (xs.length - 2)) true W e w') ∧ (¬ FrameOk xs → RowIB [] false W e w')) := by
  obtain ⟨n, hn⟩ : ∃ n : Nat, xs.length = n + 2 := ⟨xs.length - 2, by omega⟩
  have hok := frameOk_add xs h2
  rw [show xs.length - 2 = n by omega] at hok ⊢
  obtain ⟨a, cap, rfl, hi, hcap⟩ := H
  obtain ⟨L, hL, hyes, hno, hadd⟩ := implAdd_any (xs.take n) (by rw [List.length_take]; omega)
  have hlt : (xs.take n).length = n := by rw [List.length_take]; omega
  rw [hlt] at hyes hno
  have hiff : FrameOk xs ↔ L = xs := by
    rw [hok]
    constructor
    · rintro ⟨p, q, r⟩
      rw [hyes ⟨p, by omega⟩, r]
    · intro e
      by_cases hq : AreB (xs.take n) ∧ n ≤ 38
      · exact ⟨hq.1, by omega, by rw [← hyes hq]; exact e⟩
      · rw [hno hq] at e
        rw [← e] at hn; simp at hn
  obtain ⟨b, hb⟩ : ∃ b, b = decide (L = xs) := ⟨_, rfl⟩
  rw [hn] at hi hcap ⊢
  have hcp : (n : Int) ≤ (cap : Int) := by have := hcap.2; omega
  have HX := Lib.hid hi
  have HT := Lib.hid (show RdI W (.slice a n cap) (xs.take n) from rdI_of (hi.take n (by omega)) ⟨hcap.1, by have := hcap.2; omega⟩)
  have HA := Lib.hid hadd
  have HI := Lib.hid hiff
  have HB := Lib.hid hb
  have HLT := Lib.hid hlt
  have hl2 : n + 2 ≤ 1048576 := by omega
  have h0 : ¬ ((n : Int) < 0) := by omega
  clear hi hcap hyes hno hadd hiff hok hlt hb hn h2 hl
  go_enter Try.func54, Try.ntmps54
  go_wp2_with fail
  go_at_call 52
  refine (HA.out _ _ HT.out).mono ?_
  rintro e w1 ⟨v1, rfl, o1, g1⟩
  obtain ⟨a1, c1, rfl, i1, _⟩ := o1.rd
  have G1 := Lib.hid g1
  have I1 := Lib.hid i1
  clear g1 o1 i1
  go_wp2_with fail
  go_at_call 92
  refine (equal_any _ _ _ _ _ _ _ L xs I1.out (HX.out.kept G1.out) hL (by omega)).mono ?_
  rintro e w2 ⟨rfl, d2⟩
  rw [← HB.out]
  have G2 := Lib.hid (gby_trans G1.out (d2.gby none))
  clear d2
  cases b with
  | false =>
    go_wp2
    go_ret2
    have hnot : ¬ FrameOk xs := fun h => by
      have := HB.out
      rw [decide_eq_true (HI.out.1 h)] at this
      cases this
    exact ⟨fun h => absurd h hnot, fun _ => ⟨_, rfl, owI_row (World.ownsRow_nil _ _ _ _), G2.out⟩⟩
  | true =>
    have hyes : FrameOk xs := HI.out.2 (of_decide_eq_true HB.out.symm)
    have HY := Lib.hid hyes
    clear hyes
    go_wp2_with fail
    go_at_call 91
    refine (clone_any _ _ (xs.take n) (HT.out.kept G2.out) (by rw [HLT.out]; omega)).mono ?_
    rintro e w3 ⟨v3, rfl, o3, g3⟩
    have O3 := Lib.hid o3
    have G3 := Lib.hid g3
    clear o3 g3
    go_wp2
    go_ret2
    exact ⟨fun _ => ⟨_, rfl, O3.out.wide G2.out.size (Nat.le_refl _), gby_trans G2.out G3.out⟩, fun h => absurd HY.out h⟩

end Go.Proofs.Ytokpmbagidokkac
