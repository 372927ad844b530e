/-
  Contracts of the model's and the program's EncodeHex: the same text at every string.
-/
import Derived.Test.YtmgdcnlbpghjjaaProg
import Derived.Test.YtmgdcnlbpghjjaaHexMath
import Derived.LoopTactic
import Derived.Deep.QuietTactic
import Derived.BigQuiet
import Derived.Deep.RegionHeld3
import Derived.Deep.AppendLies
import Derived.WalkSpells
import Derived.StillTactics
import Derived.OwnWalk
import Derived.KernelRfl
import Derived.IntWalk
namespace Go.Proofs.Ytmgdcnlbpghjjaa
open Go Go.RowKit

theorem infoU8 : (Try.prog.info? 5).map (fun i => (i.zero, i.size, i.bytes)) = some (some (.int .u8 0), 1, 1) := by kernel_rfl

theorem figure_any (n : Int) (w : World) (h0 : 0 ≤ n) (h1 : n < 16) :
    Calls Try.prog 25 #[.int .i64 n] w fun e w' => e = .returned (.int .u8 (figI n)) ∧ w = w' := by
  by_cases hn : n < 10
  · have e : figI n = 48 + n := by unfold figI; rw [if_pos hn]
    rw [e]; clear e
    go_enter Try.func25, Try.ntmps25
    go_wp2
    go_ret
    exact ⟨rfl, rfl⟩
  · have e : figI n = 97 + n - 10 := by unfold figI; rw [if_neg hn]; omega
    rw [e]; clear e
    go_enter Try.func25, Try.ntmps25
    go_wp2
    go_ret
    exact ⟨rfl, rfl⟩

/-- two results: a text and whether there is one -/
def TextOk (s : ByteArray) (b : Bool) (w : World) (e : Ending) (w' : World) : Prop := e = .returned (.tuple #[.string s, .bool b]) ∧ Below w.heap.size w w'

theorem specEncode_no (s : ByteArray) (w : World) (h : 20000 < s.size) (hs : s.size ≤ maxLen) :
    Calls Try.prog 11 #[.string s] w (TextOk ByteArray.empty false w) := by
  unfold maxLen at hs
  have hi : (20000 : Int) < (s.size : Int) := by omega
  go_enter Try.func11, Try.ntmps11
  go_wp2
  go_ret2
  exact ⟨rfl, Below.refl _ _⟩

set_option maxRecDepth 4000 in
set_option maxHeartbeats 1000000 in
theorem specEncode_yes (s : ByteArray) (w : World) (h : s.size ≤ 20000) :
    Calls Try.prog 11 #[.string s] w (TextOk (strOfNums (hexI s.data.toList)) true w) := by
  obtain ⟨i0, hi0, hz0, hz1, hz2⟩ := info_parts infoU8
  go_enter Try.func11, Try.ntmps11
  go_wp2
  go_loopw [4, 5] (fun v i wr => ∃ k : Nat, k ≤ s.size ∧ i = .int .i64 (k : Int) ∧ wr.ownsRow w.heap.size 5 1 v (2 * k) (u8s (hexI (s.data.toList.take k))) ∧ Below w.heap.size w wr) (fun _ i _ => s.size - (intOf i).toNat)
  case atStart =>
    refine ⟨0, Nat.zero_le _, rfl, ?_, (Below.refl _ _).alloc (Nat.le_refl _) _⟩
    exact World.ownsRow_made w #[] 0 (Nat.le_refl _) (by unfold maxLen; omega) rfl
  case round =>
    obtain ⟨k, hk, rfl, hown, hbel⟩ := hrel
    have hsz := hbel.size
    have HO := Lib.hid hown
    have HB := Lib.hid hbel
    clear hown hbel
    by_cases hlt : k < s.size
    · have hi0 : (0 : Int) ≤ (k : Int) := by omega
      have hi1 : (k : Int) < (s.size : Int) := by omega
      have hb := UInt8.toNat_lt s[k]
      have hw1 : IntKind.i64.wrap (s[k].toNat : Int) = (s[k].toNat : Int) := IntWalk.i64_in _ (by omega)
      have hw2 : IntKind.i64.wrap ((s[k].toNat : Int).tdiv 16) = (s[k].toNat : Int) / 16 := IntWalk.i64_quo _ _ (by omega)
      have hw3 : (s[k].toNat : Int).tmod 16 = (s[k].toNat : Int) % 16 := IntWalk.rem_in _ _ (by omega)
      have hw4 : IntKind.i64.wrap ((s[k].toNat : Int) % 16) = (s[k].toNat : Int) % 16 := IntWalk.i64_in _ (by omega)
      have hw5 : IntKind.i64.wrap ((s[k].toNat : Int) / 16) = (s[k].toNat : Int) / 16 := IntWalk.i64_in _ (by omega)
      go_wp2_with fail
      go_region_held3 (fun w' => True) (trivial)
        (first
          | ((refine step_append_lies _ (by rfl) _ _ _ (by rfl) w.heap.size 5 i0 _ 1 1 Try.underlying22 (by assumption) hz0 hz1 hz2 rfl (by omega) _ (2 * k) (u8s (hexI (s.data.toList.take k))) (by rfl) ((HO.out.alloc _).drew) ⟨wr.heap.size, 0, none⟩ 2 2 (u8s (pairI s[k])) (by rfl) (by rfl) (World.news_of_block (cs := #[.int .u8 (figI ((s[k].toNat : Int) / 16)), .int .u8 (figI ((s[k].toNat : Int) % 16))]) (t := 5) (fr := (0, 0)) (heap_alloc_new wr _)) (by simp [Value.oneCell', u8s, pairI]) (by omega) (by unfold maxLen; omega) (by omega) (by simp; omega) (wr.heap.size + 1) (by simp) ?_; intro gg cap w1 hown1 hgrow hat hlt1))
          | (go_at_call 25; refine (figure_any _ _ (by omega) (by omega)).mono ?_; rintro e w' ⟨rfl, rfl⟩))
      all_goals
        have HH := Lib.hid hown1
        have HG := Lib.hid hgrow
        clear hown1 hgrow hat hlt1 hw1 hw2 hw3 hw4 hw5
        go_wp2
        refine ⟨⟨k + 1, by omega, by go_num, by rw [take_snoc s k hlt, hexI_snoc, u8s_append]; exact HH.out, ?_⟩, by simp [intOf]; omega⟩
        exact ((HB.out.alloc hsz _).drew).grown HG.out (by simp; omega) (own_from HO.out)
    · have hcv := owned_string (P := Try.prog) (w := wr) Try.underlying22 Try.underlying5 Try.underlying9 HO.out
      rw [take_all s k (by omega)] at hcv
      go_wp2
      go_ret2
      exact ⟨rfl, HB.out⟩

theorem implEncode_no (s : ByteArray) (w : World) (h : 20000 < s.size) (hs : s.size ≤ maxLen) :
    Calls Try.prog 12 #[.string s] w (TextOk ByteArray.empty false w) := by
  unfold maxLen at hs
  have hi : (20000 : Int) < (s.size : Int) := by omega
  go_enter Try.func12, Try.ntmps12
  go_wp2
  go_ret2
  exact ⟨rfl, Below.refl _ _⟩

set_option maxRecDepth 4000 in
set_option maxHeartbeats 1000000 in
theorem implEncode_yes (s : ByteArray) (w : World) (h : s.size ≤ 20000) :
    Calls Try.prog 12 #[.string s] w (TextOk (strOfNums (hexI s.data.toList)) true w) := by
  obtain ⟨i0, hi0, hz0, hz1, hz2⟩ := info_parts infoU8
  go_enter Try.func12, Try.ntmps12
  go_wp2_with (at_make; refine wpList_make_own _ rfl _ _ 22 rfl w.heap.size 5 i0 (.int .u8 0) 1 Try.underlying22 hi0 hz0 hz1 .i64 .i64 _ (2 * s.size) rfl rfl (by omega) (by rw [hz2]; omega) (by unfold maxLen; omega) (Nat.le_refl _) ?_; intro w0 hown0 hgrow0)
  have HO0 := Lib.hid hown0
  have HG0 := Lib.hid (gby_below hgrow0)
  clear hown0 hgrow0
  go_loopw [4, 15] (fun v i wr => ∃ k : Nat, k ≤ s.size ∧ i = .int .i64 (k : Int) ∧ wr.ownsRow w.heap.size 5 1 v (2 * k) (u8s (hexI (s.data.toList.take k))) ∧ Below w.heap.size w wr) (fun _ i _ => s.size - (intOf i).toNat)
  case atStart => exact ⟨0, Nat.zero_le _, rfl, HO0.out, HG0.out⟩
  case round =>
    obtain ⟨k, hk, rfl, hown, hbel⟩ := hrel
    have hsz := hbel.size
    have HO := Lib.hid hown
    have HB := Lib.hid hbel
    clear hown hbel
    by_cases hlt : k < s.size
    · have hi0 : (0 : Int) ≤ (k : Int) := by omega
      have hi1 : (k : Int) < (s.size : Int) := by omega
      have hb := UInt8.toNat_lt s[k]
      have ha := and15_u8 s[k].toNat hb
      go_wp2_with fail
      go_region_held3 (fun w' => True) (trivial)
        (first
          | ((refine step_append_lies _ (by rfl) _ _ _ (by rfl) w.heap.size 5 i0 _ 1 1 Try.underlying22 (by assumption) hz0 hz1 hz2 rfl (by omega) _ (2 * k) (u8s (hexI (s.data.toList.take k))) (by rfl) ((HO.out.alloc _).drew) ⟨wr.heap.size, 0, none⟩ 2 2 _ (by rfl) (by rfl) (World.news_of_block (t := 5) (fr := (0, 0)) (heap_alloc_new wr _)) (by simp [Value.oneCell']) (by omega) (by unfold maxLen; omega) (by omega) (by simp; omega) (wr.heap.size + 1) (by simp) ?_; intro gg cap w1 hown1 hgrow hat hlt1)))
      all_goals
        have HH := Lib.hid hown1
        have HG := Lib.hid hgrow
        clear hown1 hgrow hat hlt1 ha
        go_wp2
        refine ⟨⟨k + 1, by omega, by go_num, ?_, ?_⟩, by simp [intOf]; omega⟩
        · have hq := HH.out
          rw [digit_at _ (by omega) (by omega), digit_at _ (by omega) (by omega)] at hq
          rw [take_snoc s k hlt, hexI_snoc, u8s_append]; exact hq
        · exact ((HB.out.alloc hsz _).drew).grown HG.out (by simp; omega) (own_from HO.out)
    · have hcv := owned_string (P := Try.prog) (w := wr) Try.underlying22 Try.underlying5 Try.underlying9 HO.out
      rw [take_all s k (by omega)] at hcv
      go_wp2
      go_ret2
      exact ⟨rfl, HB.out⟩

end Go.Proofs.Ytmgdcnlbpghjjaa
