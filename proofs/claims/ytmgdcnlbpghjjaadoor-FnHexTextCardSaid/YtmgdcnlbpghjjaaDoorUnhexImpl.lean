/-
  Contract of the program's DecodeHex.
-/
import Derived.Test.YtmgdcnlbpghjjaaDoorFigure
import Derived.Test.YtmgdcnlbpghjjaaDoorShelfIndex
import Derived.Test.YtmgdcnlbpghjjaaDoorUnhexMath
namespace Go.Proofs.YtmgdcnlbpghjjaaDoor
open Go Go.RowKit Go.PlainAid

theorem find_any (n : Int) (w : World) (h0 : 0 ≤ n) (h1 : n ≤ 255) :
    Calls Tryd.prog 25 #[.string digits16, .int .u8 n] w fun e w' => e = .returned (.int .i64 (valI n)) ∧ w = w' := by
  refine (Tryd.strings_IndexByte digits16 n w).mono ?_
  rintro e w' ⟨rfl, rfl⟩
  rw [index_digit n h0 h1]
  exact ⟨rfl, rfl⟩

theorem implDecode_odd (s : ByteArray) (w : World) (hs : s.size ≤ maxLen) (ho : s.size % 2 = 1) :
    Calls Tryd.prog 11 #[.string s] w (TextOk ByteArray.empty false w) := by
  unfold maxLen at hs
  have hm : ((s.size : Int) % 2 == 0) = false := by simp; omega
  have hm2 : ((s.size : Int) % 2 != 0) = true := by simp; omega
  go_enter Tryd.func11, Tryd.ntmps11
  go_wp2
  go_ret2
  exact ⟨rfl, Below.refl _ _⟩

theorem implDecode_long (s : ByteArray) (w : World) (h : 40000 < s.size) (hs : s.size ≤ maxLen) (ho : s.size % 2 = 0) :
    Calls Tryd.prog 11 #[.string s] w (TextOk ByteArray.empty false w) := by
  unfold maxLen at hs
  have hi : (40000 : Int) < (s.size : Int) := by omega
  have hm : ((s.size : Int) % 2 == 0) = true := by simp; omega
  have hm2 : ((s.size : Int) % 2 != 0) = false := by simp; omega
  go_enter Tryd.func11, Tryd.ntmps11
  go_wp2
  go_ret2
  exact ⟨rfl, Below.refl _ _⟩

set_option maxRecDepth 4000 in
set_option maxHeartbeats 1000000 in
theorem implDecode_even (s : ByteArray) (w : World) (h : s.size ≤ 40000) (ho : s.size % 2 = 0) :
    Calls Tryd.prog 11 #[.string s] w (Decoded s w) := by
  obtain ⟨i0, hi0, hz0, hz1, hz2⟩ := info_parts infoU8
  have hi : (s.size : Int) ≤ 40000 := by omega
  have hm : ((s.size : Int) % 2 == 0) = true := by simp; omega
  have hm2 : ((s.size : Int) % 2 != 0) = false := by simp; omega
  have HE := Lib.hid ho
  clear ho
  go_enter Tryd.func11, Tryd.ntmps11
  go_wp2_with (at_make; refine wpList_make_own _ rfl _ _ 22 rfl w.heap.size 5 i0 (.int .u8 0) 1 Tryd.underlying22 hi0 hz0 hz1 .i64 .i64 _ (s.size / 2) rfl rfl (by omega) (by rw [hz2]; omega) (by unfold maxLen; omega) (Nat.le_refl _) ?_; intro w0 hown0 hgrow0; have HO0 := Lib.hid hown0; have HG0 := Lib.hid (gby_below hgrow0); clear hown0 hgrow0)
  clear hm hm2
  go_loopw [4, 5] (fun v i wr => ∃ k : Nat, 2 * k ≤ s.size ∧ i = .int .i64 ((2 * k : Nat) : Int) ∧ goodTo s k ∧ wr.ownsRow w.heap.size 5 1 v k (u8s (pairs s k)) ∧ Below w.heap.size w wr) (fun _ i _ => s.size - (intOf i).toNat)
  case atStart =>
    exact ⟨0, Nat.zero_le _, rfl, fun j hj => absurd hj (Nat.not_lt_zero _), HO0.out, HG0.out⟩
  case round =>
    obtain ⟨k, hk, rfl, hgood, hown, hbel⟩ := hrel
    have hsz := hbel.size
    have HO := Lib.hid hown
    have HB := Lib.hid hbel
    have HGd := Lib.hid hgood
    clear hown hbel hgood
    by_cases hlt : 2 * k < s.size
    · have hl1 : 2 * k + 1 < s.size := by have := HE.out; omega
      have hk2 : k ≤ 20000 := by omega
      obtain ⟨m, hm⟩ : ∃ m, m = 2 * k := ⟨_, rfl⟩
      have HM := Lib.hid hm
      rw [← hm] at hlt hl1 hk ⊢
      clear hm
      have hb := get_bt s
      have hi0' : (0 : Int) ≤ (m : Int) := by omega
      have hi1 : (m : Int) < (s.size : Int) := by omega
      have hi2 : (m : Int) + 1 < (s.size : Int) := by omega
      have htn : ((m : Int) + 1).toNat = m + 1 := by omega
      have b0 := bt_nonneg s m
      have b1 := bt_le s m
      have b2 := bt_nonneg s (m + 1)
      have b3 := bt_le s (m + 1)
      go_wp2_with fail
      go_at_call 25
      refine (find_any _ _ b0 b1).mono ?_
      rintro e w' ⟨rfl, rfl⟩
      go_wp2_with fail
      go_at_call 25
      refine (find_any _ _ b2 b3).mono ?_
      rintro e w' ⟨rfl, rfl⟩
      have v1 := valI_lt (bt s m)
      have v2 := valI_lt (bt s (m + 1))
      have e1 : hiV s k = valI (bt s m) := by unfold hiV; rw [HM.out]
      have e2 : loV s k = valI (bt s (m + 1)) := by unfold loV; rw [HM.out]
      clear b0 b1 b2 b3 hb
      generalize valI (bt s m) = x at e1 v1 ⊢
      generalize valI (bt s (m + 1)) = y at e2 v2 ⊢
      have E1 := Lib.hid e1
      have E2 := Lib.hid e2
      have V1 := Lib.hid v1
      have V2 := Lib.hid v2
      clear e1 e2 v1 v2
      have hkn : k < s.size / 2 := by have := HM.out; omega
      have HKN := Lib.hid hkn
      clear hkn
      by_cases hx : x < 0
      · go_wp2
        go_ret2
        exact ⟨.inr ⟨not_good HKN.out (.inl (by rw [E1.out]; exact hx)), rfl⟩, HB.out⟩
      · by_cases hy : y < 0
        · go_wp2
          go_ret2
          exact ⟨.inr ⟨not_good HKN.out (.inr (by rw [E2.out]; exact hy)), rfl⟩, HB.out⟩
        · have hx' : 0 ≤ x := by omega
          have hy' : 0 ≤ y := by omega
          have x1 : x ≤ 15 := V1.out.2
          have y1 : y ≤ 15 := V2.out.2
          have hor := or_halves x y hx' x1 hy' y1
          go_wp2_with (at_builtin; refine wpList_append_lies _ (by rfl) _ _ _ (by rfl) w.heap.size 5 i0 _ 1 1 Tryd.underlying22 hi0 hz0 hz1 hz2 rfl (by omega) _ k (u8s (pairs s k)) (by rfl) (HO.out.alloc _) ⟨wr.heap.size, 0, none⟩ 1 1 _ (by rfl) (by rfl) (World.news_of_block (t := 5) (fr := (0, 0)) (heap_alloc_new wr _)) (by simp [Value.oneCell']) (by omega) (by unfold maxLen; omega) (by omega) (by simp; omega) (wr.heap.size + 1) (by simp) ?_; intro gg cap w1 hown1 hgrow hat hlt1; have HH := Lib.hid hown1; have HG := Lib.hid hgrow; clear hown1 hgrow hat hlt1)
          refine ⟨⟨k + 1, by have := HM.out; omega, congrArg (Value.int .i64) (by have := HM.out; omega), goodTo_succ HGd.out (by rw [E1.out]; exact hx') (by rw [E2.out]; exact hy'), ?_, ?_⟩, by simp [intOf]; omega⟩
          · rw [pairs_succ, u8s_append, E1.out, E2.out]; exact HH.out
          · exact (HB.out.alloc hsz _).grown HG.out (by simp; omega) (own_from HO.out)
    · have hcv := owned_string (P := Tryd.prog) (w := wr) Tryd.underlying22 Tryd.underlying5 Tryd.underlying9 HO.out
      go_wp2
      go_ret2
      have e : s.size / 2 = k := by have := HE.out; omega
      exact ⟨.inl ⟨by rw [e]; exact HGd.out, by rw [e]; rfl⟩, HB.out⟩

end Go.Proofs.YtmgdcnlbpghjjaaDoor
