/-
  Contract of the model's DrawSplitFields: some text of a bounded length.
-/
import Derived.Test.YtmgdcnlbpghjjaaDoorDrawText
import Derived.Test.YtmgdcnlbpghjjaaDoorFieldsSpec
import Derived.Test.YtmgdcnlbpghjjaaDoorFmtMath
import Derived.Deep.Cut
import Derived.Deep.CutRange
import Derived.Deep.DeepCutAuto
namespace Go.Proofs.YtmgdcnlbpghjjaaDoor
open Go Go.RowKit

/-- a text of a list, drawn -/
def DrawnStr (P : ByteArray → Prop) (w : World) (c : Nat) (e : Ending) (w' : World) : Prop := ∃ s : ByteArray, P s ∧ e = .returned (.string s) ∧ Cur w' c ∧ w.grownBy w' (some c)

set_option maxHeartbeats 400000 in
theorem pick_any (w : World) (c b len cap : Nat) (P : ByteArray → Prop) (H : Cur w c) (hp : 0 < len) (hl : len ≤ 1048576) (hne : b ≠ c)
    (hk : ∀ k, k < len → ∃ s, w.cell? ⟨b, k, none⟩ = some (.string s) ∧ P s) :
    Calls Tryd.prog 26 #[.pointer (some ⟨c, 0, none⟩), .slice (some ⟨b, 0, none⟩) len cap] w (DrawnStr P w c) := by
  have HK := Lib.hid hk
  clear hk
  go_enter Tryd.func26, Tryd.ntmps26
  go_wp2_with fail
  go_at_call 22
  refine (below_any _ _ _ H (by omega) (by omega)).mono ?_
  rintro e w1 ⟨x, ⟨hx0, hx1⟩, rfl, H1, G1⟩
  obtain ⟨j, rfl⟩ := Int.eq_ofNat_of_zero_le hx0
  obtain ⟨s, hn, hP⟩ := HK.out j (by omega)
  have hc : w1.cell? ⟨b, j, none⟩ = some (.string s) := G1.cell hn (by simpa using hne)
  clear hn
  go_wp2
  go_ret
  exact ⟨s, hP, rfl, H1, G1⟩

theorem tail_cells (w : World) : ∀ k, k < 6 → ∃ s, (w.alloc (.cells #[.string { data := #[32] }, .string { data := #[32, 32] }, .string { data := #[9] }, .string { data := #[10] }, .string { data := #[127] }, .string { data := #[233] }] 9)).cell? ⟨w.heap.size, k, none⟩ = some (.string s) ∧ s.size ≤ 2 := by
  intro k hk
  rw [cell_of_row _ _ _ _ _ _ (heap_alloc_new w _)]
  match k, hk with
  | 0, _ => exact ⟨_, rfl, by decide⟩
  | 1, _ => exact ⟨_, rfl, by decide⟩
  | 2, _ => exact ⟨_, rfl, by decide⟩
  | 3, _ => exact ⟨_, rfl, by decide⟩
  | 4, _ => exact ⟨_, rfl, by decide⟩
  | 5, _ => exact ⟨_, rfl, by decide⟩
  | n + 6, h => omega

/-- a drawn line -/
def DrawnLine (w : World) (e : Ending) (w' : World) : Prop := ∃ s : ByteArray, s.size ≤ 2000 ∧ e = .returned (.string s) ∧ Below w.heap.size w w'

set_option maxRecDepth 4000 in
set_option maxHeartbeats 4000000 in
theorem drawSplit_any (w : World) (a : Option Addr) (len cap : Nat) (zs : List Int) (hB : Bytes w a len zs) (hl : len ≤ 1048576) :
    Calls Tryd.prog 12 #[.slice a len cap] w (DrawnLine w) := by
  have HB := Lib.hid hB
  clear hB
  go_enter Tryd.func12, Tryd.ntmps12
  go_wp2_with fail
  go_at_call 19
  refine (new_any _ _ _ _ _ HB.out hl).mono ?_
  rintro e w1 ⟨c, rfl, hc, H1, G1⟩
  have HG1 := Lib.hid G1
  clear G1
  go_wp2_with fail
  go_at_call 22
  refine (below_any _ _ _ H1 (by omega) (by omega)).mono ?_
  rintro e w2 ⟨n0, ⟨hn0, hn1⟩, rfl, H2, G2⟩
  have HG2 := Lib.hid (gby_own HG1.out G2 hc)
  clear G2
  go_wp2_with fail
  go_at_call 20
  refine (once_any _ _ _ H2 (by omega) (by omega)).mono ?_
  rintro e w3 ⟨t0, rfl, H3, G3⟩
  have HG3 := Lib.hid (gby_own HG2.out G3 hc)
  clear G3
  have HH3 := Lib.hid H3
  clear H1 H2 H3 HG1 HG2
  go_upto_if 13 with (fail)
  go_cut [4] (fun v wx => ∃ n : Int, v = .int .i64 n ∧ 0 ≤ n ∧ n ≤ 25 ∧ Cur wx c ∧ w.grownBy wx none)
  case first =>
    cases t0
    · go_wp2_with fail
      go_meet
      case rel => exact ⟨n0, rfl, by omega, by omega, HH3.out, HG3.out⟩
    · go_wp2_with fail
      go_at_call 22
      refine (below_any _ _ _ HH3.out (by omega) (by omega)).mono ?_
      rintro e w4 ⟨x, ⟨hx0, hx1⟩, rfl, H4, G4⟩
      have HG4 := Lib.hid (gby_own HG3.out G4 hc)
      have HH4 := Lib.hid H4
      clear G4 H4
      go_wp2_with fail
      go_meet
      case rel => exact ⟨_, rfl, by omega, by omega, HH4.out, HG4.out⟩
  case rest =>
    obtain ⟨n, rfl, hn0', hn25, hcw, hgw⟩ := hcut
    have HCW := Lib.hid hcw
    have HGW := Lib.hid hgw
    clear hcw hgw HG3 HH3 hn0 hn1
    go_wp2
    go_loopw [5, 6] (fun v q wr => ∃ (i : Nat) (t : ByteArray), (i : Int) ≤ n ∧ q = .int .i64 (i : Int) ∧ v = .string t ∧ t.size ≤ 8 * i ∧ Cur wr c ∧ w.grownBy wr none) (fun _ q _ => n.toNat - (intOf q).toNat)
    case atStart => exact ⟨0, _, by omega, rfl, rfl, by show (0 : Nat) ≤ _; omega, HCW.out, HGW.out⟩
    case round =>
      obtain ⟨i, t, hi, rfl, rfl, ht, hcur, hg⟩ := hrel
      have HC := Lib.hid hcur
      have HG := Lib.hid hg
      clear hcur hg
      by_cases hlt : (i : Int) < n
      · by_cases hpos : (0 : Int) < (i : Int)
        case' pos =>
          go_wp2_with fail
          go_at_call 22
          refine (below_any _ _ _ HC.out (by omega) (by omega)).mono ?_
          rintro e wa ⟨x, ⟨hx0, hx1⟩, rfl, Ha, Ga⟩
          have HGa := Lib.hid (gby_own HG.out Ga hc)
          clear Ga
          go_wp2_with fail
          go_at_call 22
          refine (below_any _ _ _ Ha (by omega) (by omega)).mono ?_
          rintro e wb ⟨y, ⟨hy0, hy1⟩, rfl, Hb, Gb⟩
          have HGb := Lib.hid (gby_own HGa.out Gb hc)
          clear Gb
          obtain ⟨p, hp, hp0, hp2⟩ : ∃ p, x * y = p ∧ 0 ≤ p ∧ p ≤ 2 := ⟨x * y, rfl, by rcases (show x = 0 ∨ x = 1 by omega) with rfl | rfl <;> omega, by rcases (show x = 0 ∨ x = 1 by omega) with rfl | rfl <;> omega⟩
          go_wp2_with fail
          go_at_call 21
          refine (long_int _ _ 32 (by omega) (by omega)).mono ?_
          rintro e wc ⟨⟨u, rfl, hu⟩, Gc⟩
          clear HG HC
          have HC := Lib.hid (cur_kept Hb Gc (by simp))
          have HG := Lib.hid (gby_trans HGb.out Gc)
          have hu3 : u.size ≤ 3 := by omega
          clear Gc Ha Hb HGa HGb hp hp0 hp2 hx0 hx1 hy0 hy1 hu
          go_wp2
          have ht3 : (t ++ u).size ≤ 8 * i + 3 := by rw [ByteArray.size_append]; omega
          generalize t ++ u = t1 at ht3 ⊢
          clear ht hu3
        case' neg =>
          go_wp2_with fail
          go_at_call 20
          refine (once_any _ _ _ HC.out (by omega) (by omega)).mono ?_
          rintro e wz ⟨b, rfl, Hz, Gz⟩
          have HGz := Lib.hid (gby_own HG.out Gz hc)
          clear HG HC Gz
          have HC := Lib.hid Hz
          have HG := Lib.hid HGz.out
          clear Hz HGz
          cases b
          case' false =>
            go_wp2
            have ht3 : t.size ≤ 8 * i + 3 := by omega
            obtain ⟨t1, rfl⟩ : ∃ t1, t1 = t := ⟨t, rfl⟩
            clear ht
          case' true =>
            go_wp2_with fail
            go_at_call 22
            refine (below_any _ _ _ HC.out (by omega) (by omega)).mono ?_
            rintro e wa ⟨x, ⟨hx0, hx1⟩, rfl, Ha, Ga⟩
            have HGa := Lib.hid (gby_own HG.out Ga hc)
            clear Ga
            go_wp2_with fail
            go_at_call 22
            refine (below_any _ _ _ Ha (by omega) (by omega)).mono ?_
            rintro e wb ⟨y, ⟨hy0, hy1⟩, rfl, Hb, Gb⟩
            have HGb := Lib.hid (gby_own HGa.out Gb hc)
            clear Gb
            obtain ⟨p, hp, hp0, hp2⟩ : ∃ p, x * y = p ∧ 0 ≤ p ∧ p ≤ 2 := ⟨x * y, rfl, by rcases (show x = 0 ∨ x = 1 by omega) with rfl | rfl <;> omega, by rcases (show x = 0 ∨ x = 1 by omega) with rfl | rfl <;> omega⟩
            go_wp2_with fail
            go_at_call 21
            refine (long_int _ _ 32 (by omega) (by omega)).mono ?_
            rintro e wc ⟨⟨u, rfl, hu⟩, Gc⟩
            clear HG HC
            have HC := Lib.hid (cur_kept Hb Gc (by simp))
            have HG := Lib.hid (gby_trans HGb.out Gc)
            have hu3 : u.size ≤ 3 := by omega
            clear Gc Ha Hb HGa HGb hp hp0 hp2 hx0 hx1 hy0 hy1 hu
            go_wp2
            have ht3 : (t ++ u).size ≤ 8 * i + 3 := by rw [ByteArray.size_append]; omega
            generalize t ++ u = t1 at ht3 ⊢
            clear ht hu3
        all_goals
          have HI := Lib.hid hlt
          have HT3 := Lib.hid ht3
          have hi25 : i ≤ 25 := by omega
          clear ht3
          go_loopw [5, 7] (fun v q wr => ∃ (k : Nat) (t2 : ByteArray), k ≤ 5 ∧ q = .int .i64 (k : Int) ∧ v = .string t2 ∧ t2.size ≤ 8 * i + 3 + k ∧ Cur wr c ∧ w.grownBy wr none) (fun _ q _ => 5 - (intOf q).toNat)
          case atStart => exact ⟨0, t1, by omega, rfl, rfl, by have := HT3.out; omega, HC.out, HG.out⟩
          case round =>
            obtain ⟨k, t2, hk, rfl, rfl, ht2, hcur2, hg2⟩ := hrel
            have HC2 := Lib.hid hcur2
            have HG2 := Lib.hid hg2
            clear hcur2 hg2
            go_wp2_with fail
            go_at_call 22
            refine (below_any _ _ _ HC2.out (by omega) (by omega)).mono ?_
            rintro e wd ⟨x, ⟨hx0, hx1⟩, rfl, Hd, Gd⟩
            have HGd := Lib.hid (gby_own HG2.out Gd hc)
            have HCd := Lib.hid Hd
            clear Gd Hd
            by_cases hkx : (k : Int) ≤ x
            · go_wp2_with fail
              go_at_call 22
              refine (below_any _ _ _ HCd.out (by omega) (by omega)).mono ?_
              rintro e we ⟨z, ⟨hz0, hz1⟩, rfl, He, Ge⟩
              have HGe := Lib.hid (gby_own HGd.out Ge hc)
              have HCe := Lib.hid He
              clear Ge He
              have hcv := conv_one (P := Tryd.prog) we 5 22 9 (33 + z) Tryd.underlying22 Tryd.underlying5 Tryd.underlying9
              have hs1 : (strOfNums [33 + z]).size = 1 := strOfNums_size _
              go_wp2
              refine ⟨⟨k + 1, _, by omega, by go_num, rfl, by rw [ByteArray.size_append, hs1]; omega, cur_kept HCe.out (World.grownBy_alloc we _ none) (by simp), gby_alloc HGe.out _⟩, by simp [intOf]; omega⟩
            · go_wp2
              refine ⟨⟨i + 1, t2, by have := HI.out; omega, congrArg (Value.int .i64) (by omega), rfl, by omega, HCd.out, HGd.out⟩, by have := HI.out; simp [intOf]; omega⟩
      · have hi25 : i ≤ 25 := by omega
        have hts : t.size ≤ 200 := by omega
        clear ht
        go_wp2_with fail
        go_at_call 22
        refine (below_any _ _ _ HC.out (by omega) (by omega)).mono ?_
        rintro e wd ⟨z, ⟨hz0, hz1⟩, rfl, Hd, Gd⟩
        have HGd := Lib.hid (gby_own HG.out Gd hc)
        have HCd := Lib.hid Hd
        have hcd := cur_lt Hd
        clear Gd Hd
        by_cases z0 : z = 0
        · subst z0
          go_wp2_with fail
          go_at_call 26
          refine (pick_any _ _ _ _ _ (fun s => s.size ≤ 2) (cur_kept HCd.out (World.grownBy_alloc wd _ none) (by simp)) (by omega) (by omega) (by omega) (tail_cells wd)).mono ?_
          rintro e we ⟨u, hu, rfl, He, Ge⟩
          have HGe := Lib.hid (gby_own (gby_alloc HGd.out _) Ge hc)
          clear Ge He
          go_wp2
          go_ret
          exact ⟨_, by rw [ByteArray.size_append]; omega, rfl, gby_below HGe.out⟩
        · by_cases z1 : z = 1
          · subst z1
            have hlen : (t.size : Int) < 600 := by omega
            go_wp2_with fail
            go_at_call 22
            refine (below_any _ _ _ HCd.out (by omega) (by omega)).mono ?_
            rintro e we ⟨y, ⟨hy0, hy1⟩, rfl, He, Ge⟩
            have HGe := Lib.hid (gby_own HGd.out Ge hc)
            have HCe := Lib.hid He
            clear Ge He
            go_wp2_with fail
            go_at_call 21
            refine (long_int _ _ 32 (by omega) (by omega)).mono ?_
            rintro e wf ⟨⟨u, rfl, hu⟩, Gf⟩
            have HGf := Lib.hid (gby_trans HGe.out Gf)
            have hu2 : u.size ≤ 700 := by omega
            clear Gf hu
            go_wp2
            go_ret
            exact ⟨_, by rw [ByteArray.size_append]; omega, rfl, gby_below HGf.out⟩
          · have hz2 : (z == 0) = false := by simpa using z0
            have hz3 : (z == 1) = false := by simpa using z1
            clear z0 z1
            go_wp2
            go_ret
            exact ⟨_, by omega, rfl, gby_below HGd.out⟩

end Go.Proofs.YtmgdcnlbpghjjaaDoor
