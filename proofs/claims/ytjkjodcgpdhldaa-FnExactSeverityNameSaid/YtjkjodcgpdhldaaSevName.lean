/-
  The names of the severities, on both sides.
-/
import Derived.Test.YtjkjodcgpdhldaaRSeverityName
import Derived.Test.YtjkjodcgpdhldaaBitsSpec
import Derived.Laws.RangeString
import Derived.Laws.Runes
import Derived.Laws.Concat
namespace Go.Proofs.Ytjkjodcgpdhldaa
open Go Go.RowKit
set_option linter.unusedVariables false

/-- the three names, with a space between them -/
def sevLit : ByteArray := ⟨#[99, 111, 114, 114, 101, 99, 116, 101, 100, 32, 99, 111, 110, 116, 97, 105, 110, 101, 100, 32, 102, 97, 116, 97, 108]⟩
/-- one letter more: the number of the name, and what was taken of the name asked for -/
def sevStep (s : Int) (p : Int × ByteArray) (c : UInt8) : Int × ByteArray := if c.toNat = 32 then (p.1 + 1, p.2) else if p.1 = s then (p.1, p.2 ++ ⟨#[c]⟩) else p
def sevAt (s : Int) (pos : Nat) : Int × ByteArray := (sevLit.data.toList.take pos).foldl (sevStep s) (0, ⟨#[]⟩)
def sevName (s : Int) : ByteArray := (sevAt s 25).2

theorem sevFold_bound (s : Int) : ∀ (l : List UInt8) (p : Int × ByteArray), 0 ≤ p.1 → 0 ≤ (l.foldl (sevStep s) p).1 ∧ (l.foldl (sevStep s) p).1 ≤ p.1 + l.length ∧ (l.foldl (sevStep s) p).2.size ≤ p.2.size + l.length
  | [], p, h => ⟨h, by simp, by simp⟩
  | c :: l, p, h => by
    have h0 : 0 ≤ (sevStep s p c).1 ∧ (sevStep s p c).1 ≤ p.1 + 1 ∧ (sevStep s p c).2.size ≤ p.2.size + 1 := by
      unfold sevStep
      split
      · exact ⟨by dsimp only; omega, by dsimp only; omega, by dsimp only; omega⟩
      · split
        · refine ⟨h, by dsimp only; omega, ?_⟩
          show (p.2 ++ (⟨#[c]⟩ : ByteArray)).size ≤ p.2.size + 1
          rw [ByteArray.size_append']
          exact Nat.le_refl _
        · exact ⟨h, by omega, by omega⟩
    have q := sevFold_bound s l (sevStep s p c) h0.1
    simp only [List.foldl_cons, List.length_cons]
    exact ⟨q.1, by have := q.2.1; push_cast; omega, by have := q.2.2; omega⟩
theorem sevAt_bound (s : Int) (pos : Nat) (h : pos ≤ 25) : 0 ≤ (sevAt s pos).1 ∧ (sevAt s pos).1 ≤ 25 ∧ (sevAt s pos).2.size ≤ 25 := by
  have q := sevFold_bound s (sevLit.data.toList.take pos) (0, ⟨#[]⟩) (Int.le_refl _)
  have hl : (sevLit.data.toList.take pos).length ≤ 25 := by rw [List.length_take]; omega
  have hz : (⟨#[]⟩ : ByteArray).size = 0 := rfl
  obtain ⟨n, hn⟩ : ∃ n, n = (sevLit.data.toList.take pos).length := ⟨_, rfl⟩
  rw [← hn] at q hl
  have q1 : (sevAt s pos).1 ≤ 0 + (n : Int) := q.2.1
  have q2 : (sevAt s pos).2.size ≤ 0 + n := q.2.2
  exact ⟨q.1, by omega, by omega⟩
theorem sevAt_step (s : Int) (pos : Nat) (h : pos < sevLit.size) : sevAt s (pos + 1) = sevStep s (sevAt s pos) (sevLit[pos]'h) := by
  have hl : pos < sevLit.data.toList.length := h
  unfold sevAt
  rw [List.take_add_one, List.getElem?_eq_getElem hl, Option.toList_some, List.foldl_append]
  rfl
theorem sev_ascii : ∀ (pos : Nat) (h : pos < sevLit.size), (sevLit[pos]'h).toNat < 128 := by
  intro pos h
  have : ∀ c ∈ sevLit.data.toList, c.toNat < 128 := by decide
  exact this _ (List.getElem_mem (l := sevLit.data.toList) h)
theorem enc_asc (c : UInt8) (h : c.toNat < 128) : Utf8.encode (c.toNat : Int) = ⟨#[c]⟩ := by
  have hv : Utf8.valid (c.toNat : Int) = true := by simp [Utf8.valid]; omega
  unfold Utf8.encode
  simp [hv, h]
theorem sevName_out (s : Int) (h : s < 0 ∨ 2 < s) : sevName s = ⟨#[]⟩ := by
  have h0 : ¬ (0 : Int) = s := by omega
  have h1 : ¬ (1 : Int) = s := by omega
  have h2 : ¬ (2 : Int) = s := by omega
  simp [sevName, sevAt, sevLit, sevStep, h0, h1, h2]
theorem sevName_0 : sevName 0 = ⟨#[99, 111, 114, 114, 101, 99, 116, 101, 100]⟩ := rfl
theorem sevName_1 : sevName 1 = ⟨#[99, 111, 110, 116, 97, 105, 110, 101, 100]⟩ := rfl
theorem sevName_2 : sevName 2 = ⟨#[102, 97, 116, 97, 108]⟩ := rfl

theorem specSev_out (W : World) (s : Int) (h : s < 0 ∨ 2 < s) : Calls Try.prog 34 #[.int .i64 s] W (ResSSeverityName (sevName s) W) := by
  rw [sevName_out s h]
  have HB := Lib.hid h
  clear h
  go_enter Try.func34, Try.ntmps34
  go_wp2_with fail
  go_at_call 49
  refine (in_no _ _ _ _ HB.out).mono ?_
  rintro e w1 ⟨rfl, rfl⟩
  go_wp2
  go_ret
  exact ⟨rfl, gby_refl _ _⟩
theorem specSev_0 (W : World) : Calls Try.prog 34 #[.int .i64 0] W (ResSSeverityName (sevName 0) W) := by
  rw [sevName_0]
  go_enter Try.func34, Try.ntmps34
  go_wp2_with fail
  go_at_call 49
  refine (in_yes _ _ _ _ (by omega) (by omega)).mono ?_
  rintro e w1 ⟨rfl, rfl⟩
  go_wp2
  go_ret
  exact ⟨rfl, gby_alloc (gby_refl _ _) _⟩
theorem specSev_1 (W : World) : Calls Try.prog 34 #[.int .i64 1] W (ResSSeverityName (sevName 1) W) := by
  rw [sevName_1]
  go_enter Try.func34, Try.ntmps34
  go_wp2_with fail
  go_at_call 49
  refine (in_yes _ _ _ _ (by omega) (by omega)).mono ?_
  rintro e w1 ⟨rfl, rfl⟩
  go_wp2
  go_ret
  exact ⟨rfl, gby_alloc (gby_refl _ _) _⟩
theorem specSev_2 (W : World) : Calls Try.prog 34 #[.int .i64 2] W (ResSSeverityName (sevName 2) W) := by
  rw [sevName_2]
  go_enter Try.func34, Try.ntmps34
  go_wp2_with fail
  go_at_call 49
  refine (in_yes _ _ _ _ (by omega) (by omega)).mono ?_
  rintro e w1 ⟨rfl, rfl⟩
  go_wp2
  go_ret
  exact ⟨rfl, gby_alloc (gby_refl _ _) _⟩
theorem specSev (W : World) (s : Int) : Calls Try.prog 34 #[.int .i64 s] W (ResSSeverityName (sevName s) W) := by
  by_cases h : s < 0 ∨ 2 < s
  · exact specSev_out W s h
  · obtain rfl | rfl | rfl : s = 0 ∨ s = 1 ∨ s = 2 := by omega
    · exact specSev_0 W
    · exact specSev_1 W
    · exact specSev_2 W

set_option maxHeartbeats 2000000 in
theorem implSev (W : World) (s : Int) : Calls Try.prog 35 #[.int .i64 s] W (ResISeverityName (sevName s) W) := by
  go_enter Try.func35, Try.ntmps35
  go_wp2
  go_loopw [3, 4] (fun n v wr => ∃ pos : Nat, pos ≤ 25 ∧ wr = W.iter sevLit pos ∧ n = .string (sevAt s pos).2 ∧ v = .int .i64 (sevAt s pos).1) (fun _ _ wr => 25 - wr.iterPos W.heap.size)
  case atStart => exact ⟨0, by omega, rfl, rfl, rfl⟩
  case round =>
    obtain ⟨pos, hpos, rfl, rfl, rfl⟩ := hrel
    obtain ⟨hb1, hb2, hb3⟩ := sevAt_bound s pos hpos
    by_cases hp : pos < sevLit.size
    · have h128 := sev_ascii pos hp
      have hst := sevAt_step s pos hp
      have hp25 : pos < 25 := hp
      have hnx : ∀ ty, (Instr.next (.pointer (some ⟨W.heap.size, 0, none⟩)) true ty).run Try.prog (W.iter sevLit pos) = _ := fun ty => run_next_ascii W sevLit pos ty hp h128
      obtain ⟨c, hc⟩ : ∃ c, c = sevLit[pos]'hp := ⟨_, rfl⟩
      rw [← hc] at hnx h128 hst
      have henc := enc_asc c h128
      obtain ⟨m, hm⟩ : ∃ m : Int, m = (c.toNat : Int) := ⟨_, rfl⟩
      rw [← hm] at hnx henc
      obtain ⟨v, nm, hv⟩ : ∃ v nm, sevAt s pos = (v, nm) := ⟨_, _, rfl⟩
      rw [hv] at hst hb1 hb2 hb3
      simp only [hv]
      dsimp only at hb1 hb2 hb3
      have HST := Lib.hid hst
      have HM := Lib.hid hm
      have HP := Lib.hid hp25
      clear hst hm hp25 hpos hc hp h128 hv
      by_cases h32 : m = 32
      · have hs' : sevAt s (pos + 1) = (v + 1, nm) := by rw [HST.out]; exact if_pos (by have := HM.out; omega)
        have HS := Lib.hid hs'
        have hw : IntKind.i64.wrap (v + 1) = v + 1 := IntWalk.i64_in _ (by omega)
        clear hs' hb1 hb2 hb3
        subst h32
        go_wp2
        go_roundw
        case rel => exact ⟨pos + 1, HP.out, rfl, by rw [HS.out], by rw [HS.out]⟩
        case measure => have := HP.out; simp [World.iterPos, World.iter_heap]; omega
      · have hmb : (m == 32) = false := beq_eq_false_iff_ne.2 h32
        by_cases hvs : v = s
        · have hs' : sevAt s (pos + 1) = (v, nm ++ ⟨#[c]⟩) := by rw [HST.out]; exact (if_neg (by have := HM.out; omega)).trans (if_pos hvs)
          have HS := Lib.hid hs'
          have hvb : (v == s) = true := beq_iff_eq.2 hvs
          have hsz : ¬ (9223372036854775807 < nm.size + 1) := by omega
          have hadd : ∀ w, (Op.stringOp .add nm ⟨#[c]⟩).run Try.prog w = .ok (.string (nm ++ ⟨#[c]⟩)) w := fun w => run_string_add_sum w _ _ (by show nm.size + 1 ≤ _; omega)
          clear hs' hb1 hb2 hb3 h32 hvs
          go_wp2
          go_roundw
          case rel => exact ⟨pos + 1, HP.out, rfl, by rw [HS.out], by rw [HS.out]⟩
          case measure => have := HP.out; simp [World.iterPos, World.iter_heap]; omega
        · have hs' : sevAt s (pos + 1) = (v, nm) := by rw [HST.out]; exact (if_neg (by have := HM.out; omega)).trans (if_neg hvs)
          have HS := Lib.hid hs'
          have hvb : (v == s) = false := beq_eq_false_iff_ne.2 hvs
          clear hs' hb1 hb2 hb3 h32 hvs
          go_wp2
          go_roundw
          case rel => exact ⟨pos + 1, HP.out, rfl, by rw [HS.out], by rw [HS.out]⟩
          case measure => have := HP.out; simp [World.iterPos, World.iter_heap]; omega
    · have hp25 : pos = 25 := by have : ¬ pos < 25 := hp; omega
      subst hp25
      have hnx : ∀ ty, (Instr.next (.pointer (some ⟨W.heap.size, 0, none⟩)) true ty).run Try.prog (W.iter sevLit 25) = _ := fun ty => run_next_end W sevLit 25 ty hp
      go_wp2
      go_ret
      exact ⟨rfl, gby_alloc (gby_refl _ _) _⟩

theorem severityName_both (i0 : Int) : ∃ (sr0 : ByteArray), (∀ (W : World), Calls Try.prog 34 #[.int .i64 i0] W (ResSSeverityName sr0 W)) ∧ ∀ (W : World), Calls Try.prog 35 #[.int .i64 i0] W (ResISeverityName sr0 W) :=
  ⟨sevName i0, fun W => specSev W i0, fun W => implSev W i0⟩

end Go.Proofs.Ytjkjodcgpdhldaa
