/-
  The walk of FnDistances.
-/
import Derived.Test.YtokpmbagidokkaaDrawFrame
import Derived.Test.YtokpmbagidokkaaDrawPlaces
import Derived.Test.YtokpmbagidokkaaChkImpl
import Derived.Test.YtokpmbagidokkaaSameInts
import Derived.Test.YtokpmbagidokkaaBig
namespace Go.Proofs.Ytokpmbagidokkaa
open Go Go.RowKit

/-- the drawn numbers, one by one -/
theorem OwI.nums {w : World} {lo hi : Nat} {v : Value} {xs : List Int} (h : OwI w lo hi v xs) (hl : xs.length = 12) : ∃ b off cap, v = .slice (some ⟨b, off, none⟩) 12 cap ∧ ∀ k, k < 12 → w.cell? ⟨b, off + k, none⟩ = some (.int .i64 (xs.getD k 0)) := by
  obtain ⟨a, cap, rfl, h, _⟩ := h
  obtain ⟨b, off, rfl, hc⟩ := h.isl.2.resolve_left (by omega)
  exact ⟨b, off, cap, by rw [hl], fun k hk => hc k (by omega)⟩

theorem toN_same {xs ys : List Int} (hx : ∀ x ∈ xs, 0 ≤ x ∧ x ≤ 255) (hy : ∀ x ∈ ys, 0 ≤ x ∧ x ≤ 255) (h : toN xs = toN ys) : xs = ys := by
  rw [← toN_back hx, ← toN_back hy, h]

theorem bytes_keep {w w' : World} {a : Option Addr} {len : Nat} {zs : List Int} (h : Bytes w a len zs) (g : w.grownBy w' none) : Bytes w' a len zs := by
  rcases h with h0 | ⟨b, off, ha, hk⟩
  · exact .inl h0
  · exact .inr ⟨b, off, ha, fun k hlt => ⟨g.cell (hk k hlt).1 (by simp), (hk k hlt).2⟩⟩

/-- the distance, whichever way -/
theorem dist_both (xs ys : List Int) (l1 : xs.length ≤ 1048576) (l2 : ys.length ≤ 1048576) : ∃ r : Int, (∀ (W : World) (v u : Value), RdI W v xs → RdI W u ys → Calls Try.prog 41 #[v, u] W (Ans (.int .i64 r) W)) ∧ ∀ (W : World) (v u : Value), RdI W v ys → RdI W u xs → Calls Try.prog 41 #[v, u] W (Ans (.int .i64 r) W) := by
  by_cases h : AreB xs ∧ AreB ys ∧ ys.length = xs.length
  · refine ⟨_, fun W v u H1 H2 => implDist_in W v u xs ys H1 H2 h.1 h.2.1 h.2.2, fun W v u H1 H2 => ?_⟩
    have := implDist_in W v u ys xs H1 H2 h.2.1 h.1 h.2.2.symm
    rw [distTo_comm, h.2.2] at this
    exact this
  · exact ⟨_, fun W v u H1 H2 => implDist_out W v u xs ys H1 H2 l1 l2 h, fun W v u H1 H2 => implDist_out W v u ys xs H1 H2 l2 l1 (fun k => h ⟨k.2.1, k.1, k.2.2.symm⟩)⟩

theorem flipI_twice {xs : List Int} (h : AreB xs) (p : Nat) (hp : p < 8 * xs.length) : flipI (flipI xs p) p = xs := by
  apply toN_same (flipI_byte (flipI_byte h p) p).1 h.1
  rw [toN_flip, toN_flip, flip_twice _ _ (by rw [toN_length]; exact hp)]

set_option maxRecDepth 4000 in
set_option maxHeartbeats 4000000 in
theorem walk_distances (a : Option Addr) (len cap : Nat) (zs : List Int) (w : World) (hB : Bytes w a len zs) :
    Calls Try.prog 9 #[.slice a len cap] w fun e w' => e = .returned (.bool true) ∧ Below w.heap.size w w' := by
  have HB := Lib.hid hB
  clear hB
  by_cases hbig : (1048576 : Int) < (len : Int)
  · go_enter Try.func9, Try.ntmps9
    go_wp2
    go_ret
    exact ⟨rfl, Below.refl _ _⟩
  · go_enter Try.func9, Try.ntmps9
    go_wp2_with fail
    go_at_call 15
    refine (big_any _ _ _ _).mono ?_
    rintro e w1 ⟨rfl, rfl⟩
    go_wp2_with fail
    go_at_call 42
    refine (drawTwo_any _ _ _ _ _ HB.out (by omega)).mono ?_
    rintro e w1 ⟨v1, v2, xs, ys, rfl, hx, hy, r1, r2, g1⟩
    have R1 := Lib.hid r1
    have R2 := Lib.hid r2
    have G1 := Lib.hid g1
    clear r1 r2 g1
    go_wp2_with fail
    go_at_call 37
    refine (places_any _ _ _ _ _ (bytes_keep HB.out G1.out) (by omega)).mono ?_
    rintro e w3 ⟨v3, ps, rfl, hl12, hps, o3, g3⟩
    obtain ⟨pb, po, pc, rfl, hpc⟩ := o3.nums hl12
    have c0 := hpc 0 (by omega)
    have q0b := hps (ps.getD 0 0) (by rw [List.getD_eq_getElem?_getD, List.getElem?_eq_getElem (by omega)]; exact List.getElem_mem _)
    obtain ⟨q, hq⟩ : ∃ q, q = ps.getD 0 0 := ⟨_, rfl⟩
    rw [← hq] at c0 q0b
    have c0' : w3.cell? ⟨pb, po, none⟩ = some (.int .i64 q) := c0
    have A3 := Lib.hid (R1.out.kept g3)
    have B3 := Lib.hid (R2.out.kept g3)
    have G3 := Lib.hid (gby_trans G1.out g3)
    have q0 := q0b.1
    clear o3 g3 hpc hps hl12 hq c0 q0b R1 R2 G1
    obtain ⟨xa, xc, rfl, xi, xcap⟩ := A3.out
    have XI := Lib.hid xi
    clear xi
    go_wp2_with fail
    go_at_call 35
    refine (specBytes_any _ _ _ _ xs XI.out (by omega)).mono ?_
    rintro e w4 ⟨rfl, rfl⟩
    by_cases hb : AreB xs
    · rw [decide_eq_true hb]
      by_cases hz : xs.length = 0
      · have hz' : ((xs.length : Int) == 0) = true := by simp [hz]
        have HZ := Lib.hid hz
        clear hz
        go_wp2
        go_ret
        exact ⟨rfl, gby_below G3.out⟩
      · have hz' : ((xs.length : Int) == 0) = false := by simpa using hz
        have em : q.tmod (8 * (xs.length : Int)) = q % (8 * (xs.length : Int)) := Int.tmod_eq_emod_of_nonneg q0
        have hn0 : ¬ (8 * (xs.length : Int) = 0) := by omega
        obtain ⟨r, hr⟩ : ∃ r : Nat, q % (8 * (xs.length : Int)) = (r : Int) := ⟨_, (Int.toNat_of_nonneg (Int.emod_nonneg _ hn0)).symm⟩
        have hrm : (r : Int) < 8 * (xs.length : Int) := by rw [← hr]; exact Int.emod_lt_of_pos _ (by omega)
        rw [hr] at em
        have hfo : flipOr xs (r : Int) = flipI xs r := by
          unfold flipOr
          rw [if_pos ⟨hb, by omega, by omega⟩, Int.toNat_natCast]
        have hfl : (flipI xs r).length = xs.length := flipI_length xs r
        have hfb : AreB (flipI xs r) := flipI_byte hb r
        have hfo2 : flipOr (flipI xs r) (r : Int) = xs := by
          unfold flipOr
          rw [if_pos ⟨hfb, by omega, by rw [hfl]; omega⟩, Int.toNat_natCast, flipI_twice hb r (by omega)]
        have hd1 : distTo (toN xs) (toN (flipI xs r)) xs.length = 1 := by
          rw [toN_flip, distTo_flip _ _ _ (by rw [toN_length]; exact Nat.le_refl _), if_pos (by omega)]
        obtain ⟨dr, hda, hdb⟩ := dist_both xs ys (by omega) (by omega)
        have hde : (dr == dr) = true := by simp
        have HDA := Lib.hid hda
        have HDB := Lib.hid hdb
        have HD1 := Lib.hid (fun (W : World) (v u : Value) (H1 : RdI W v xs) (H2 : RdI W u (flipI xs r)) => show Calls Try.prog 41 #[v, u] W (Ans (.int .i64 1) W) from by
          have := implDist_in W v u xs (flipI xs r) H1 H2 hb hfb hfl
          rw [hd1] at this
          exact this)
        have HFO := Lib.hid hfo
        have HFO2 := Lib.hid hfo2
        have HFL := Lib.hid hfl
        clear hr hda hdb hfo hfo2 hd1 hfl hfb hz
        go_wp2_with fail
        go_at_call 40
        refine (implFlip_any _ _ xs (r : Int) A3.out (by omega)).mono ?_
        rw [HFO.out]
        rintro e w5 ⟨v5, rfl, o5, g5⟩
        have A5 := Lib.hid (A3.out.kept g5)
        have B5 := Lib.hid (B3.out.kept g5)
        have F5 := Lib.hid o5.rd
        have G5 := Lib.hid (gby_trans G3.out g5)
        clear o5 g5
        go_wp2_with fail
        go_at_call 41
        refine (HDA.out _ _ _ A5.out B5.out).mono ?_
        rintro e w6 ⟨rfl, d6⟩
        have A6 := Lib.hid (A5.out.kept (d6.gby none))
        have B6 := Lib.hid (B5.out.kept (d6.gby none))
        have F6 := Lib.hid (F5.out.kept (d6.gby none))
        have G6 := Lib.hid (gby_trans G5.out (d6.gby none))
        clear d6
        go_wp2_with fail
        go_at_call 41
        refine (HDB.out _ _ _ B6.out A6.out).mono ?_
        rintro e w7 ⟨rfl, d7⟩
        have A7 := Lib.hid (A6.out.kept (d7.gby none))
        have F7 := Lib.hid (F6.out.kept (d7.gby none))
        have G7 := Lib.hid (gby_trans G6.out (d7.gby none))
        clear d7
        go_wp2_with fail
        go_at_call 41
        refine (HD1.out _ _ _ A7.out F7.out).mono ?_
        rintro e w8 ⟨rfl, d8⟩
        have A8 := Lib.hid (A7.out.kept (d8.gby none))
        have F8 := Lib.hid (F7.out.kept (d8.gby none))
        have G8 := Lib.hid (gby_trans G7.out (d8.gby none))
        clear d8
        go_wp2_with fail
        go_at_call 40
        refine (implFlip_any _ _ (flipI xs r) (r : Int) F8.out (by rw [HFL.out]; omega)).mono ?_
        rw [HFO2.out]
        rintro e w9 ⟨v9, rfl, o9, g9⟩
        have A9 := Lib.hid (A8.out.kept g9)
        obtain ⟨ra, rc, rfl, ri, _⟩ := o9.rd
        obtain ⟨_, _, hv, ai, _⟩ := A9.out
        injection hv with e1 e2 e3
        subst e1
        have G9 := Lib.hid (gby_trans G8.out g9)
        have RI := Lib.hid ri
        have AI := Lib.hid ai
        clear o9 g9 ri ai
        go_wp2_with fail
        go_at_call 23
        refine (sameInts_any _ _ _ _ _ _ _ xs xs RI.out AI.out (by omega) (by omega)).mono ?_
        rw [show decide (xs = xs) = true from decide_eq_true rfl]
        rintro e w10 ⟨rfl, d10⟩
        have G10 := Lib.hid (gby_trans G9.out (d10.gby none))
        clear d10
        go_wp2
        go_ret
        exact ⟨rfl, gby_below G10.out⟩
    · rw [decide_eq_false hb]
      go_wp2
      go_ret
      exact ⟨rfl, gby_below G3.out⟩

end Go.Proofs.Ytokpmbagidokkaa
