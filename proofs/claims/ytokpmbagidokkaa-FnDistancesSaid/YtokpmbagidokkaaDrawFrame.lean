/-
  Contract of the model's l06Frame: a drawn list of numbers.
-/
import Derived.Test.YtokpmbagidokkaaDrawPk2
import Derived.Test.YtokpmbagidokkaaChkSpec
import Derived.Test.YtokpmbagidokkaaWireMath
import Derived.StillTailTactics
namespace Go.Proofs.Ytokpmbagidokkaa
open Go Go.RowKit

/-- AddCheck of the model, whatever the bytes -/
theorem specAddL_any (xs : List Int) (hl : xs.length ≤ 1048576) : ∃ L : List Int, L.length ≤ 40 ∧ ((AreB xs ∧ xs.length ≤ 38) → L = addC xs) ∧ ∀ (W : World) (v : Value), RdI W v xs → Calls Try.prog 45 #[v] W (RowI L W) := by
  by_cases h : AreB xs ∧ xs.length ≤ 38
  · exact ⟨addC xs, by rw [addC_length]; omega, fun _ => rfl, fun W v H => specAdd_yes W v xs H h.1 h.2⟩
  · exact ⟨[], by simp, fun n => absurd n h, fun W v H => specAdd_no W v xs H hl h⟩

/-- a drawn slice of numbers, in memory behind the cursor -/
def DrawnL (w : World) (c : Nat) (e : Ending) (w' : World) : Prop := ∃ v xs, e = .returned v ∧ xs.length ≤ 40 ∧ OwI w' w.heap.size w'.heap.size v xs ∧ Cur w' c ∧ w.grownBy w' (some c)

theorem chg_cur {w w' : World} {c : Nat} (g : w.grownBy w' (some c)) : Chg w w' c (c + 1) := chg_row g (fun i hi => by obtain rfl := Option.some.inj hi; omega)

theorem OwI.cur {w w' : World} {c lo hi : Nat} {v : Value} {xs : List Int} (h : OwI w lo hi v xs) (g : w.grownBy w' (some c)) (hc : c < lo) : OwI w' lo hi v xs := h.kept (chg_cur g) (.inr hc)

/-- a beginning of a row of the call's own -/
theorem owI_take {w : World} {lo hi n cap : Nat} {d : Option Addr} {xs : List Int} (h : OwI w lo hi (.slice d n cap) xs) (m : Nat) (hm : m ≤ xs.length) (hi2 : hi ≤ w.heap.size) : OwI w lo w.heap.size (.slice d m cap) (xs.take m) := by
  obtain ⟨a, c, hv, ⟨h1, h2⟩, h3, h4⟩ := h
  injection hv with e1 e2 e3
  subst e1
  subst e3
  have hl : (xs.take m).length = m := by rw [List.length_take]; omega
  refine ⟨_, cap, by rw [hl], ⟨by rw [hl], ?_⟩, fun p hp => ⟨(h3 p hp).1, Nat.lt_of_lt_of_le (h3 p hp).2 hi2⟩, h4.1, by rw [hl]; have := h4.2; omega⟩
  rw [hl]
  rcases h2 with h0 | ⟨b, off, ha, hlo, C, t, hb, hC⟩
  · exact .inl (by omega)
  · refine .inr ⟨b, off, ha, hlo, C, t, hb, fun k hk => ?_⟩
    rw [hC k (by omega), List.getD_eq_getElem?_getD, List.getD_eq_getElem?_getD, List.getElem?_take, if_pos hk]

set_option maxRecDepth 4000 in
set_option maxHeartbeats 2000000 in
theorem l06Frame_any (w : World) (c : Nat) (H : Cur w c) :
    Calls Try.prog 65 #[.pointer (some ⟨c, 0, none⟩)] w (DrawnL w c) := by
  have hcl := cur_lt H
  have HC0 := Lib.hid H
  clear H
  go_enter Try.func65, Try.ntmps65
  go_wp2_with fail
  go_at_call 49
  refine (l04Packet_any _ _ HC0.out).mono ?_
  rintro e w2 ⟨k, f, t, a', l, g, s, d, n, cp, xs, rfl, hf, hx, hk, hi, hfar, H2, G2⟩
  have hlen := hi.1
  have hP : PkOk k f t a' l g s xs := ⟨hf, hx, by rw [hlen] at hk; exact hk⟩
  have h8 : n ≤ 8 := by have := (pk_bounds hP).2.2.2.2.2.2.2; omega
  obtain ⟨L, hL, hLy, _, hE⟩ := specEnc_any k f t a' l g s xs (by omega)
  have hLl : L.length = 8 + 2 * n := by rw [hLy hP, encL_length, hlen]
  have hLb : AreB L := by rw [hLy hP]; exact encL_byte hP
  have HE := Lib.hid hE
  have HG2 := Lib.hid G2
  have HC2 := Lib.hid H2
  have HI := Lib.hid hi
  have HLB := Lib.hid hLb
  have s2 := G2.size
  clear hE G2 H2 hi hP hf hx hk hfar hLy hLb hlen
  unfold pkV
  go_wp2_with fail
  go_at_call 25
  refine (HE.out _ _ _ _ HI.out).mono ?_
  rintro e w3 ⟨v3, rfl, o3, g3⟩
  have O3 := Lib.hid (owI_row o3)
  have HG3 := Lib.hid (gby_trans HG2.out (show w2.grownBy w3 (some c) from ⟨g3.os, g3.tape, g3.output, g3.size, fun k hk _ => g3.block k hk (by simp)⟩))
  have HC3 := Lib.hid (cur_kept HC2.out g3 (by simp))
  have s3 := g3.size
  clear o3 g3
  obtain ⟨F, hF, hFy, hA⟩ := specAddL_any L (by omega)
  have hFe : F.length = 10 + 2 * n := by rw [hFy ⟨HLB.out, by omega⟩, addC_length]; omega
  have HA := Lib.hid hA
  clear hA hFy
  go_wp2_with fail
  go_at_call 45
  refine (HA.out _ _ O3.out.rd).mono ?_
  rintro e w4 ⟨v4, rfl, o4, g4⟩
  have O4 := Lib.hid (o4.wide (Nat.le_trans s2 s3) (Nat.le_refl _))
  have HG4 := Lib.hid (gby_trans HG3.out (show w3.grownBy w4 (some c) from ⟨g4.os, g4.tape, g4.output, g4.size, fun k hk _ => g4.block k hk (by simp)⟩))
  have HC4 := Lib.hid (cur_kept HC3.out g4 (by simp))
  have s4 := g4.size
  clear o4 g4 O3
  go_wp2_with fail
  go_at_call 62
  refine (below_any _ _ _ HC4.out (by omega) (by omega)).mono ?_
  rintro e w5 ⟨z, ⟨hz0, hz1⟩, rfl, H5, G5⟩
  have O5 := Lib.hid (O4.out.cur G5 hcl)
  have HG5 := Lib.hid (gby_trans HG4.out G5)
  have HC5 := Lib.hid H5
  have s5 := G5.size
  clear H5 G5 O4
  obtain ⟨fa, fc, rfl, fi, _, fcap⟩ := id O5.out
  have hfc : (F.length : Int) ≤ (fc : Int) := by have := fcap.2; omega
  clear fi fcap
  have hF0 : 0 < (F.length : Int) := by omega
  have hF40 : F.length ≤ 40 := hF
  have HFE := Lib.hid hFe
  clear hFe hF hLl
  by_cases h0 : z = 0
  · subst h0
    go_wp2_with fail
    go_at_call 62
    refine (below_any _ _ _ HC5.out (by omega) (by omega)).mono ?_
    rintro e w6 ⟨r, ⟨hr0, hr1⟩, rfl, H6, G6⟩
    have O6 := Lib.hid (O5.out.cur G6 hcl)
    have HG6 := Lib.hid (gby_trans HG5.out G6)
    have HC6 := Lib.hid H6
    clear H6 G6
    go_wp2_with fail
    go_at_call 47
    refine (specFlip_any _ _ F r O6.out.rd (by omega)).mono ?_
    rintro e w7 ⟨v7, rfl, o7, g7⟩
    have O7 := Lib.hid (o7.wide HG6.out.size (Nat.le_refl _))
    have HG7 := Lib.hid (gby_trans HG6.out (show w6.grownBy w7 (some c) from ⟨g7.os, g7.tape, g7.output, g7.size, fun k hk _ => g7.block k hk (by simp)⟩))
    have HC7 := Lib.hid (cur_kept HC6.out g7 (by simp))
    clear o7 g7
    go_wp2
    go_ret
    refine ⟨_, _, rfl, ?_, O7.out, HC7.out, HG7.out⟩
    unfold flipOr
    split
    · rw [flipI_length]; exact hF40
    · exact hF40
  · have hz0' : (z == 0) = false := by simpa using h0
    have HZ0 := Lib.hid h0
    clear h0
    by_cases h1 : z = 1
    · subst h1
      go_wp2_with fail
      go_at_call 62
      refine (below_any _ _ _ HC5.out (by omega) (by omega)).mono ?_
      rintro e w6 ⟨r, ⟨hr0, hr1⟩, rfl, H6, G6⟩
      have O6 := Lib.hid (O5.out.cur G6 hcl)
      have HG6 := Lib.hid (gby_trans HG5.out G6)
      have HC6 := Lib.hid H6
      have HS6 := Lib.hid (Nat.le_trans s5 G6.size)
      clear H6 G6
      obtain ⟨m, rfl⟩ : ∃ m : Nat, r = (m : Int) := ⟨r.toNat, by omega⟩
      have hmc : (m : Int) ≤ (fc : Int) := by omega
      have OT := Lib.hid (owI_take O6.out m (by omega) HS6.out)
      go_wp2
      go_ret
      exact ⟨_, F.take m, rfl, by rw [List.length_take]; omega, OT.out, HC6.out, HG6.out⟩
    · have hz1' : (z == 1) = false := by simpa using h1
      clear h1
      go_wp2
      go_ret
      exact ⟨_, F, rfl, hF40, O5.out.wide (Nat.le_refl _) s5, HC5.out, HG5.out⟩

set_option maxRecDepth 4000 in
set_option maxHeartbeats 1000000 in
theorem specFlip_row (W : World) (v : Value) (xs : List Int) (q : Int) (H : RdI W v xs) (hl : xs.length ≤ 1048576) :
    Calls Try.prog 47 #[v, .int .i64 q] W (RowO (flipOr xs q) W) := by
  obtain ⟨a, cap, rfl, hi, hcap⟩ := H
  have HX := Lib.hid hi
  have HN := Lib.hid hcap
  clear hi hcap
  go_enter Try.func47, Try.ntmps47
  go_wp2_with (at_builtin; refine wpList_append_isl _ rfl _ _ rfl W.heap.size _ 0 [] rfl (World.ownsRow_made W #[] 0 (Nat.le_refl _) (by unfold maxLen; omega) rfl) a xs.length cap xs rfl (HX.out.kept (gby_alloc (gby_refl _ _) _)) HN.out.1 (by omega) (by simp) ?_; intro v2 w2 hown2 hg2; have hs2 := hg2.size; simp only [World.size_alloc] at hs2; have HO2 := Lib.hid (show w2.ownsRow W.heap.size 3 1 v2 xs.length (i64s xs) by simpa using hown2); have HG2 := Lib.hid (gby_new (gby_alloc (gby_refl W none) _) (show (W.alloc (.cells #[] 3)).grownBy w2 (some W.heap.size) from hg2) (fun i hi => by obtain rfl := Option.some.inj hi; exact Nat.le_refl _)); clear hown2 hg2)
  go_at_call 35
  refine (specBytes_any _ _ _ _ xs (HX.out.kept HG2.out) (by omega)).mono ?_
  rintro e w3 ⟨rfl, rfl⟩
  by_cases hb : AreB xs
  · have hd : decide (AreB xs) = true := decide_eq_true hb
    rw [hd]
    go_wp2_with fail
    go_at_call 61
    by_cases hq : 0 ≤ q ∧ q ≤ 8 * (xs.length : Int) - 1
    · refine (in_yes _ _ _ _ hq.1 hq.2).mono ?_
      rintro e w4 ⟨rfl, rfl⟩
      obtain ⟨p, rfl⟩ : ∃ p : Nat, q = (p : Int) := ⟨q.toNat, by omega⟩
      have hp8 : p / 8 < xs.length := by omega
      obtain ⟨g, cp, rfl, hg1, hg2⟩ := HO2.out.form (by omega)
      have hc := HO2.out.cellAt (p / 8) (by omega)
      have hf := HO2.out.frozenAt (p / 8)
      rw [i64s, List.getElem?_map, List.getElem?_eq_getElem hp8] at hc
      have hy0 := hb.1 _ (List.getElem_mem hp8)
      obtain ⟨y, hy⟩ : ∃ y : Nat, xs[p / 8] = (y : Int) := ⟨_, (Int.toNat_of_nonneg hy0.1).symm⟩
      rw [hy] at hc hy0
      have hc' : w2.cell? ⟨g, p / 8, none⟩ = some (.int .i64 (y : Int)) := hc
      have hx : bits .xor .i64 (y : Int) (wrap64 (2 ^ (p % 8))) = ((y ^^^ 2 ^ (p % 8) : Nat) : Int) := by
        rw [pow_val _ (by omega)]
        exact xor_nat _ _ (by omega) (by have := bit_lt p; omega)
      have i0 : (0 : Int) ≤ (p : Int) / 8 := by omega
      have i1 : (p : Int) / 8 < (xs.length : Int) := by omega
      have i2 : ((p : Int) / 8).toNat = p / 8 := by omega
      have i3 : (0 : Int) ≤ (p : Int) % 8 := by omega
      have i4 : ((p : Int) % 8).toNat = p % 8 := by omega
      have iw : IntKind.i64.wrap ((p : Int) / 8) = (p : Int) / 8 := wrap_small _ (by omega) (by omega)
      have im : (p : Int).tmod 8 = (p : Int) % 8 := Int.tmod_eq_emod_of_nonneg (by omega)
      have i5 : (p : Int) % 8 ≤ 64 := by omega
      have HY := Lib.hid hy
      have HQ := Lib.hid hq
      have HBB := Lib.hid hb
      clear hc hy hq hb hy0
      go_wp2
      go_still_tail 13, (by kernel_rfl)
      go_wp2
      go_ret
      refine ⟨_, rfl, ?_, gby_drew (gby_setnew HG2.out _ hg1 _)⟩
      have q := (HO2.out.stored (p / 8) (.int .i64 ((y ^^^ 2 ^ (p % 8) : Nat) : Int))).1
      rw [i64s, ← List.map_set] at q
      have e : flipOr xs (p : Int) = xs.set (p / 8) ((y ^^^ 2 ^ (p % 8) : Nat) : Int) := by
        unfold flipOr
        rw [if_pos ⟨HBB.out, HQ.out⟩]
        unfold flipI
        rw [show ((p : Int)).toNat = p by omega, List.getD_eq_getElem?_getD, List.getElem?_eq_getElem hp8, Option.getD_some, HY.out]
        rfl
      rw [e, hx, List.length_set]
      exact q.drew
    · refine (in_no _ _ _ _ (by omega)).mono ?_
      rintro e w4 ⟨rfl, rfl⟩
      go_wp2
      go_ret
      refine ⟨_, rfl, ?_, HG2.out⟩
      unfold flipOr
      rw [if_neg (fun h => hq h.2)]
      exact HO2.out
  · have hd : decide (AreB xs) = false := decide_eq_false hb
    rw [hd]
    go_wp2
    go_ret
    refine ⟨_, rfl, ?_, HG2.out⟩
    unfold flipOr
    rw [if_neg (fun h => hb h.1)]
    exact HO2.out

theorem flipOr_len (xs : List Int) (q : Int) : (flipOr xs q).length = xs.length := by
  unfold flipOr
  split
  · exact flipI_length _ _
  · rfl

theorem two_cells (w : World) : ∀ k, k < 2 → ∃ n, (w.alloc (.cells #[.int .i64 0, .int .i64 256] 3)).cell? ⟨w.heap.size, k, none⟩ = some (.int .i64 n) ∧ True := by
  intro k hk
  rw [cell_of_row _ _ _ _ _ _ (heap_alloc_new w _)]
  match k, hk with
  | 0, _ => exact ⟨_, rfl, trivial⟩
  | 1, _ => exact ⟨_, rfl, trivial⟩
  | n + 2, h => omega

/-- two drawn slices of numbers -/
def DrawnTwo (w : World) (e : Ending) (w' : World) : Prop := ∃ v1 v2 xs ys, e = .returned (.tuple #[v1, v2]) ∧ xs.length ≤ 40 ∧ ys.length ≤ 41 ∧ RdI w' v1 xs ∧ RdI w' v2 ys ∧ w.grownBy w' none

set_option maxRecDepth 4000 in
set_option maxHeartbeats 2000000 in
theorem drawTwo_any (w : World) (a : Option Addr) (len cap : Nat) (zs : List Int) (hB : Bytes w a len zs) (hl : len ≤ 1048576) :
    Calls Try.prog 42 #[.slice a len cap] w (DrawnTwo w) := by
  obtain ⟨i0, hi0, hz0, hz1, hz2⟩ := info_parts infoInt
  have HB := Lib.hid hB
  clear hB
  go_enter Try.func42, Try.ntmps42
  go_wp2_with fail
  go_at_call 50
  refine (new_any _ _ _ _ _ HB.out hl).mono ?_
  rintro e w1 ⟨c, rfl, hc, H1, G1⟩
  have HG1 := Lib.hid G1
  have hcl := cur_lt H1
  have s1 := G1.size
  have HC1 := Lib.hid H1
  clear G1 H1
  go_wp2_with fail
  go_at_call 65
  refine (l06Frame_any _ _ HC1.out).mono ?_
  rintro e w2 ⟨v2, xs, rfl, hx, o2, H2, G2⟩
  obtain ⟨xa, xc, rfl, _, _, xcap⟩ := id o2
  have O2 := Lib.hid o2
  have HC2 := Lib.hid H2
  have HG2 := Lib.hid (gby_own HG1.out G2 hc)
  have s2 := G2.size
  have XC := Lib.hid xcap
  clear o2 H2 G2 xcap
  go_wp2_with (at_builtin; refine wpList_append_isl _ rfl _ _ rfl w2.heap.size _ 0 [] rfl (World.ownsRow_made w2 #[] 0 (Nat.le_refl _) (by unfold maxLen; omega) rfl) xa xs.length xc xs rfl (by obtain ⟨_, _, hv, hi, _⟩ := O2.out.rd; injection hv with e1 e2 e3; subst e1; exact hi.kept (gby_alloc (gby_refl _ _) _)) XC.out.1 (by omega) (by simp) ?_; intro v3 w3 hown3 hg3; have hs3 := hg3.size; simp only [World.size_alloc] at hs3; have HO3 := Lib.hid (show w3.ownsRow w2.heap.size 3 1 v3 xs.length (i64s xs) by simpa using hown3); have HQ3 := Lib.hid (show (w2.alloc (.cells #[] 3)).grownBy w3 (some w2.heap.size) from hg3); clear hown3 hg3)
  have HG3 := Lib.hid (gby_new (gby_alloc HG2.out _) HQ3.out (fun i hi => by obtain rfl := Option.some.inj hi; exact HG2.out.size))
  have HC3 := Lib.hid (cur_other (cur_kept HC2.out (World.grownBy_alloc w2 _ none) (by simp)) HQ3.out (fun b hb => by obtain rfl := Option.some.inj hb; omega))
  have X3 := Lib.hid ((O2.out.rd.kept (gby_alloc (gby_refl _ none) (.cells #[] 3))))
  have X4 := Lib.hid (show OwI w3 w1.heap.size w2.heap.size (.slice xa xs.length xc) xs from (O2.out.grow (gby_alloc (gby_refl _ none) _)).kept (chg_row HQ3.out (lo := w2.heap.size) (hi := w2.heap.size + 1) (fun i hi => by obtain rfl := Option.some.inj hi; omega)) (.inl (Nat.le_refl _)))
  clear X3
  go_loopw [6, 7] (fun gv i wr => ∃ (k : Nat) (ys : List Int), k ≤ 4 ∧ i = .int .i64 (k : Int) ∧ ys.length = xs.length ∧ wr.ownsRow w2.heap.size 3 1 gv xs.length (i64s ys) ∧ OwI wr w1.heap.size w2.heap.size (.slice xa xs.length xc) xs ∧ Cur wr c ∧ w2.heap.size ≤ wr.heap.size ∧ w.grownBy wr none) (fun _ i _ => 4 - (intOf i).toNat)
  case atStart => exact ⟨0, xs, by omega, rfl, rfl, HO3.out, X4.out, HC3.out, by omega, HG3.out⟩
  case round =>
    obtain ⟨k, ys, hk, rfl, hyl, hown, hox, hcur, hw2, hg⟩ := hrel
    have HO := Lib.hid hown
    have HX := Lib.hid hox
    have HC := Lib.hid hcur
    have HG := Lib.hid hg
    have HYL := Lib.hid hyl
    have HW := Lib.hid hw2
    clear hown hox hcur hg hyl hw2
    go_wp2_with fail
    go_at_call 62
    refine (below_any _ _ _ HC.out (by omega) (by omega)).mono ?_
    rintro e w4 ⟨z, ⟨hz0', hz1'⟩, rfl, H4, G4⟩
    have O4 := Lib.hid (own_kept HO.out G4 (by omega))
    have X4' := Lib.hid (HX.out.cur G4 hcl)
    have HC4 := Lib.hid H4
    have HG4 := Lib.hid (gby_own HG.out G4 hc)
    have s4 := G4.size
    clear H4 G4
    obtain ⟨ga, gc, rfl⟩ := own_slice O4.out
    by_cases hkz : (k : Int) < z ∧ 0 < (xs.length : Int)
    · obtain ⟨hkz1, hkz2⟩ := hkz
      go_wp2_with fail
      go_at_call 62
      refine (below_any _ _ _ HC4.out (by omega) (by omega)).mono ?_
      rintro e w5 ⟨r, ⟨hr0, hr1⟩, rfl, H5, G5⟩
      have O5 := Lib.hid (own_kept O4.out G5 (by omega))
      have X5 := Lib.hid (X4'.out.cur G5 hcl)
      have HC5 := Lib.hid H5
      have HG5 := Lib.hid (gby_own HG4.out G5 hc)
      have hsw := Nat.le_trans HW.out (Nat.le_trans s4 G5.size)
      clear H5 G5
      go_wp2_with fail
      go_at_call 47
      refine (specFlip_row _ _ ys r (by have := (owI_row O5.out).rd; exact this) (by have := HYL.out; omega)).mono ?_
      rintro e w6 ⟨v6, rfl, o6, g6⟩
      have hfl : (flipOr ys r).length = xs.length := by rw [flipOr_len]; exact HYL.out
      rw [hfl] at o6
      have O6 := Lib.hid (o6.mono (show w2.heap.size ≤ w5.heap.size from hsw))
      have X6 := Lib.hid (X5.out.grow g6)
      have HC6 := Lib.hid (cur_kept HC5.out g6 (by simp))
      have HG6 := Lib.hid (gby_trans HG5.out g6)
      have g6s := g6.size
      clear o6 g6
      go_wp2
      exact ⟨⟨k + 1, flipOr ys r, by omega, by go_num, hfl, O6.out, X6.out, HC6.out, Nat.le_trans hsw g6s, HG6.out⟩, by simp [intOf]; omega⟩
    · have two : (¬ (k : Int) < z) ∨ ((k : Int) < z ∧ ¬ 0 < (xs.length : Int)) := by
        by_cases q : (k : Int) < z
        · exact .inr ⟨q, fun q2 => hkz ⟨q, q2⟩⟩
        · exact .inl q
      clear hkz
      rcases two with hq | ⟨hq, hq2⟩
      all_goals
        go_wp2_with fail
        go_at_call 66
        refine (once_any _ _ _ HC4.out (by omega) (by omega)).mono ?_
        rintro e w5 ⟨bb, rfl, H5, G5⟩
        have O5 := Lib.hid (own_kept O4.out G5 (by omega))
        have X5 := Lib.hid (X4'.out.cur G5 hcl)
        have HC5 := Lib.hid H5
        have HG5 := Lib.hid (gby_own HG4.out G5 hc)
        have hsw := Nat.le_trans HW.out (Nat.le_trans s4 G5.size)
        clear H5 G5
        cases bb with
        | false =>
          go_wp2
          go_ret2
          exact ⟨_, _, xs, ys, rfl, hx, by have := HYL.out; omega, X5.out.rd, (owI_row O5.out).rd, HG5.out⟩
        | true =>
          go_wp2_with fail
          go_at_call 67
          refine (pickInt_any _ _ _ _ _ (fun _ => True) (cur_kept HC5.out (World.grownBy_alloc w5 _ none) (by simp)) (by omega) (by omega) (by have := cur_lt HC5.out; omega) (two_cells w5)).mono ?_
          rintro e w6 ⟨y, _, rfl, H6, G6⟩
          have O6 := Lib.hid (own_kept (O5.out.alloc _) G6 (by omega))
          have X6 := Lib.hid ((X5.out.grow (gby_alloc (gby_refl _ none) _)).cur G6 hcl)
          have HG6 := Lib.hid (gby_own (gby_alloc HG5.out _) G6 hc)
          have hs6 := G6.size
          simp only [World.size_alloc] at hs6
          have hs7 : w2.heap.size ≤ w6.heap.size := by omega
          clear H6 G6
          go_wp2_with (at_builtin; refine wpList_append_lies _ (by rfl) _ _ _ (by rfl) w2.heap.size 3 i0 _ 1 8 Try.underlying24 hi0 hz0 hz1 hz2 rfl (by omega) _ xs.length (i64s ys) (by rfl) (O6.out.alloc _) ⟨w6.heap.size, 0, none⟩ 1 1 _ (by rfl) (by rfl) (World.news_of_block (t := 3) (fr := (0, 0)) (heap_alloc_new w6 _)) (by simp [Value.oneCell']) (by omega) (by unfold maxLen; omega) (by omega) (by simp; omega) (w6.heap.size + 1) (by simp) ?_; intro gg cap2 w7 hown7 hgrow7 hat hlt1; have HO7 := Lib.hid hown7; have HG7 := Lib.hid hgrow7; clear hown7 hgrow7 hat hlt1)
          go_ret2
          have q : w7.ownsRow w2.heap.size 3 1 (.slice (some ⟨gg, 0, none⟩) (xs.length + 1) cap2) (xs.length + 1) (i64s (ys ++ [y])) := by
            rw [i64s_append]; exact HO7.out
          refine ⟨_, _, xs, ys ++ [y], rfl, hx, by have := HYL.out; simp; omega, ?_, (owI_row q).rd, ?_⟩
          · exact ((X6.out.grow (gby_alloc (gby_refl _ none) _)).kept (chg_row HG7.out (lo := w2.heap.size) (hi := w6.heap.size + 1) (fun i hi => ⟨own_from O6.out i hi, by have := (O6.out.lt i hi).2; omega⟩)) (.inl (Nat.le_refl _))).rd
          · exact gby_new (gby_alloc HG6.out _) HG7.out (fun i hi => by have := own_from O6.out i hi; have := HG2.out.size; omega)

end Go.Proofs.Ytokpmbagidokkaa
