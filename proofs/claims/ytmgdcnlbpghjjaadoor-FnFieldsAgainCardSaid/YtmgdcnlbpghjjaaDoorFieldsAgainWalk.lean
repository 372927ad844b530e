/-
  The walk of FnFieldsAgain: at every slice of bytes the law returns true and writes nothing that was there.
-/
import Derived.Test.YtmgdcnlbpghjjaaDoorDrawLine
import Derived.Test.YtmgdcnlbpghjjaaDoorBig
import Derived.Test.YtmgdcnlbpghjjaaDoorSameTexts
import Derived.Test.YtmgdcnlbpghjjaaDoorJoinMath
import Derived.Test.YtmgdcnlbpghjjaaDoorFieldsImpl
import Derived.Test.YtmgdcnlbpghjjaaDoorFmtImpl
import Derived.Test.YtmgdcnlbpghjjaaDoorFmtWalk
namespace Go.Proofs.YtmgdcnlbpghjjaaDoor
open Go Go.RowKit

set_option maxRecDepth 4000 in
set_option maxHeartbeats 4000000 in
theorem walk_fieldsAgain (a : Option Addr) (len cap : Nat) (zs : List Int) (w : World) (hB : Bytes w a len zs) (htab : Go.Lib.TabIs Tryd.prog w "internal/strconv.uint64pow10" .u64 Go.Lib.pow10Tab) :
    Calls Tryd.prog 4 #[.slice a len cap] w fun e w' => e = .returned (.bool true) ∧ Below w.heap.size w w' := by
  have HB := Lib.hid hB
  have HT := Lib.hid htab
  clear hB htab
  by_cases hbig : (1048576 : Int) < (len : Int)
  · go_enter Tryd.func4, Tryd.ntmps4
    go_wp2
    go_ret
    exact ⟨rfl, Below.refl _ _⟩
  · go_enter Tryd.func4, Tryd.ntmps4
    go_wp2_with fail
    go_at_call 7
    refine (big_any _ _ _ _).mono ?_
    rintro e w1 ⟨rfl, rfl⟩
    go_wp2_with fail
    go_at_call 12
    refine (drawSplit_any _ _ _ _ _ HB.out (by omega)).mono ?_
    rintro e w1 ⟨s, hs, rfl, B1⟩
    have HB1 := Lib.hid B1
    have HSM := Lib.hid (show s.size ≤ maxLen by unfold maxLen; omega)
    clear B1
    go_wp2_with fail
    go_at_call 13
    refine (implSplit_any _ _ HSM.out).mono ?_
    rintro e w2 ⟨v1, ps, b1, rfl, o1, B2, r1⟩
    have HR1 := Lib.hid r1
    have HO1 := Lib.hid o1
    have HB2 := Lib.hid (below_then HB1.out B2)
    clear o1 B2 r1
    go_wp2_with fail
    go_at_call 14
    refine (specSplit_any _ _ HSM.out).mono ?_
    rintro e w3 ⟨v0, xs0, b0, rfl, o0, B3, r0⟩
    have HO2 := Lib.hid (own_gby HO1.out (below_gby B3 none))
    have HB3 := Lib.hid (below_then HB2.out B3)
    clear o0 B3
    obtain ⟨a1, c1, rfl⟩ := own_slice HO2.out
    rcases r0 with ⟨hy, rfl, rfl⟩ | ⟨hn, rfl, rfl⟩
    · obtain ⟨e1, rfl⟩ : ps = fields s ∧ b1 = true := by
        rcases HR1.out with ⟨_, h1, h2⟩ | ⟨h0, _⟩
        · exact ⟨h1, h2⟩
        · exact absurd hy h0
      have HGood := Lib.hid (show ∀ x, x ∈ ps → Good x from by rw [e1]; exact fields_good hy)
      have hlen : ps.length ≤ 24 := by rw [e1]; exact hy.2.2
      clear e1 hy
      go_wp2
      go_loop [8, 9] (fun v q => ∃ (k : Nat) (t : ByteArray), k ≤ ps.length ∧ q = .int .i64 (k : Int) ∧ v = .string t ∧ t = joined (ps.take k)) (fun _ q => ps.length - (intOf q).toNat)
      case atStart => exact ⟨0, _, Nat.zero_le _, rfl, rfl, rfl⟩
      case round =>
        obtain ⟨k, t, hk, rfl, rfl, ht⟩ := hrel
        have hjb := joined_bound ps HGood.out k hk
        rw [← ht] at hjb
        have HJ := Lib.hid ht
        clear ht
        by_cases hlt : k < ps.length
        · obtain ⟨g1, d1, e2, _, _⟩ := own_pos HO2.out (by omega)
          obtain ⟨rfl, rfl⟩ : a1 = some ⟨g1, 0, none⟩ ∧ c1 = d1 := by injection e2 with x y z; exact ⟨x, z⟩
          have hc1 := HO2.out.cellAt k (by omega)
          rw [strs_at ps k hlt] at hc1
          have hx := (HGood.out ps[k] (List.getElem_mem _)).2.1
          have HE := Lib.hid (show joined (ps.take (k + 1)) = t ++ ps[k] ++ space from by rw [List.take_succ_eq_append_getElem hlt, joined_snoc, HJ.out])
          clear e2
          generalize ps[k] = y at hc1 hx HE
          have hi0 : (0 : Int) ≤ (k : Int) := by omega
          have hi1 : (k : Int) < (ps.length : Int) := by omega
          have htn : ((k : Int)).toNat = k := by omega
          have hsp : ({ data := #[32] } : ByteArray).size = 1 := rfl
          go_wp2
          exact ⟨⟨k + 1, _, by omega, by go_num, rfl, HE.out.symm⟩, by simp [intOf]; omega⟩
        · have hke : ps.take k = ps := List.take_of_length_le (by omega)
          have ht : t = joined ps := by rw [HJ.out, hke]
          have htb : t.size ≤ 20000 := by omega
          have HSM2 := Lib.hid (show t.size ≤ maxLen by unfold maxLen; omega)
          have HF := Lib.hid (show fields t = ps ∧ Clean t t.size from by rw [ht]; exact joined_fields ps HGood.out)
          clear ht hke
          go_wp2_with fail
          go_at_call 13
          refine (implSplit_any _ _ HSM2.out).mono ?_
          rintro e w4 ⟨v2, qs, b2, rfl, o4, B4, r4⟩
          have HO3 := Lib.hid (own_gby HO2.out (below_gby B4 none))
          have HO4 := Lib.hid o4
          have HB4 := Lib.hid (below_then HB3.out B4)
          clear o4 B4
          rcases r4 with ⟨hy, rfl, rfl⟩ | ⟨hn, rfl, rfl⟩
          · have h600 : ¬ (600 : Int) < (t.size : Int) := by have := hy.1; omega
            rw [HF.out.1] at HO4
            clear hy
            go_wp2_with fail
            go_at_call 15
            refine (sameTexts_same _ _ _ _ _ ps HO3.out HO4.out (by omega)).mono ?_
            rintro e w5 ⟨rfl, G5⟩
            have HG5 := Lib.hid G5
            clear G5
            go_wp2
            go_ret
            exact ⟨rfl, gby_below (gby_trans (below_gby HB4.out none) HG5.out)⟩
          · have h600 : (600 : Int) < (t.size : Int) := by
              rcases Nat.lt_or_ge 600 t.size with h | h
              · omega
              · exact absurd ⟨h, HF.out.2, by rw [HF.out.1]; exact hlen⟩ hn
            clear hn
            go_wp2
            go_ret
            exact ⟨rfl, HB4.out⟩
    · obtain ⟨rfl, rfl⟩ : ps = [] ∧ b1 = false := by
        rcases HR1.out with ⟨h0, _⟩ | ⟨_, h1, h2⟩
        · exact absurd h0 hn
        · exact ⟨h1, h2⟩
      clear hn
      go_wp2_with fail
      go_at_call 10
      refine (implFormat_any _ _ (by omega) (by omega) (tab_below HB3.out HT.out)).mono ?_
      rintro e w4 ⟨rfl, B4⟩
      have HB4 := Lib.hid (below_then HB3.out B4)
      clear B4
      have e3 : Go.Lib.itoa (-3) = [45, 51] := by decide +kernel
      rw [e3]
      go_wp2
      go_ret
      exact ⟨rfl, HB4.out⟩

end Go.Proofs.YtmgdcnlbpghjjaaDoor
