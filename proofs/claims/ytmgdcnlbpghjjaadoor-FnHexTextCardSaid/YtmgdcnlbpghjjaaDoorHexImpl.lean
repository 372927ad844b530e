/-
  Contract of the program's EncodeHex.
-/
import Derived.Test.YtmgdcnlbpghjjaaDoorFigure
namespace Go.Proofs.YtmgdcnlbpghjjaaDoor
open Go Go.RowKit

theorem implEncode_no (s : ByteArray) (w : World) (h : 20000 < s.size) (hs : s.size ≤ maxLen) :
    Calls Tryd.prog 9 #[.string s] w (TextOk ByteArray.empty false w) := by
  unfold maxLen at hs
  have hi : (20000 : Int) < (s.size : Int) := by omega
  go_enter Tryd.func9, Tryd.ntmps9
  go_wp2
  go_ret2
  exact ⟨rfl, Below.refl _ _⟩

set_option maxRecDepth 4000 in
set_option maxHeartbeats 1000000 in
theorem implEncode_yes (s : ByteArray) (w : World) (h : s.size ≤ 20000) :
    Calls Tryd.prog 9 #[.string s] w (TextOk (strOfNums (hexI s.data.toList)) true w) := by
  obtain ⟨i0, hi0, hz0, hz1, hz2⟩ := info_parts infoU8
  go_enter Tryd.func9, Tryd.ntmps9
  go_wp2_with (at_make; refine wpList_make_own _ rfl _ _ 22 rfl w.heap.size 5 i0 (.int .u8 0) 1 Tryd.underlying22 hi0 hz0 hz1 .i64 .i64 _ (2 * s.size) rfl rfl (by omega) (by rw [hz2]; omega) (by unfold maxLen; omega) (Nat.le_refl _) ?_; intro w0 hown0 hgrow0)
  have HO0 := Lib.hid hown0
  have HG0 := Lib.hid (gby_below hgrow0)
  clear hown0 hgrow0
  go_loopw [4, 15] (fun v i wr => ∃ k : Nat, k ≤ s.size ∧ i = .int .i64 (k : Int) ∧ wr.ownsRow w.heap.size 5 1 v (2 * k) (u8s (hexI (s.data.toList.take k))) ∧ Below w.heap.size w wr) (fun _ i _ => s.size - (intOf i).toNat)
  case atStart => exact ⟨0, Nat.zero_le _, rfl, HO0.out, HG0.out⟩
  case round =>
    obtain ⟨k, hk, rfl, hown, hbel⟩ := hrel
    have hsz := hbel.size
    have HO := Lib.hid hown
    have HB := Lib.hid hbel
    clear hown hbel
    by_cases hlt : k < s.size
    · have hi0 : (0 : Int) ≤ (k : Int) := by omega
      have hi1 : (k : Int) < (s.size : Int) := by omega
      have hb := UInt8.toNat_lt s[k]
      have ha := and15_u8 s[k].toNat hb
      go_wp2_with fail
      go_region_held3 (fun w' => True) (trivial)
        (first
          | ((refine step_append_lies _ (by rfl) _ _ _ (by rfl) w.heap.size 5 i0 _ 1 1 Tryd.underlying22 (by assumption) hz0 hz1 hz2 rfl (by omega) _ (2 * k) (u8s (hexI (s.data.toList.take k))) (by rfl) ((HO.out.alloc _).drew) ⟨wr.heap.size, 0, none⟩ 2 2 _ (by rfl) (by rfl) (World.news_of_block (t := 5) (fr := (0, 0)) (heap_alloc_new wr _)) (by simp [Value.oneCell']) (by omega) (by unfold maxLen; omega) (by omega) (by simp; omega) (wr.heap.size + 1) (by simp) ?_; intro gg cap w1 hown1 hgrow hat hlt1)))
      all_goals
        have HH := Lib.hid hown1
        have HG := Lib.hid hgrow
        clear hown1 hgrow hat hlt1 ha
        go_wp2
        refine ⟨⟨k + 1, by omega, by go_num, ?_, ?_⟩, by simp [intOf]; omega⟩
        · have hq := HH.out
          rw [digit_at _ (by omega) (by omega), digit_at _ (by omega) (by omega)] at hq
          rw [take_snoc s k hlt, hexI_snoc, u8s_append]; exact hq
        · exact ((HB.out.alloc hsz _).drew).grown HG.out (by simp; omega) (own_from HO.out)
    · have hcv := owned_string (P := Tryd.prog) (w := wr) Tryd.underlying22 Tryd.underlying5 Tryd.underlying9 HO.out
      rw [take_all s k (by omega)] at hcv
      go_wp2
      go_ret2
      exact ⟨rfl, HB.out⟩

end Go.Proofs.YtmgdcnlbpghjjaaDoor
