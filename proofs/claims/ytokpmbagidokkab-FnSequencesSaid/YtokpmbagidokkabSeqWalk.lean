/-
  The walk of FnSequences.
-/
import Derived.Test.YtokpmbagidokkabSeq
import Derived.Test.YtokpmbagidokkabDrawPlaces
import Derived.Test.YtokpmbagidokkabBig
namespace Go.Proofs.Ytokpmbagidokkab
open Go Go.RowKit

/-- two of the drawn numbers -/
theorem OwI.two {w : World} {lo hi : Nat} {v : Value} {xs : List Int} (h : OwI w lo hi v xs) (hl : xs.length = 12) (hp : ∀ x ∈ xs, IsP x) : ∃ b off cap x y, v = .slice (some ⟨b, off, none⟩) 12 cap ∧ w.cell? ⟨b, off, none⟩ = some (.int .i64 x) ∧ w.cell? ⟨b, off + 1, none⟩ = some (.int .i64 y) ∧ IsP x ∧ IsP y := by
  obtain ⟨a, cap, rfl, h, _⟩ := h
  obtain ⟨b, off, rfl, hc⟩ := h.isl.2.resolve_left (by omega)
  refine ⟨b, off, cap, _, _, by rw [hl], hc 0 (by omega), hc 1 (by omega), ?_, ?_⟩
  · rw [List.getD_eq_getElem?_getD, List.getElem?_eq_getElem (by omega)]; exact hp _ (List.getElem_mem _)
  · rw [List.getD_eq_getElem?_getD, List.getElem?_eq_getElem (by omega)]; exact hp _ (List.getElem_mem _)

set_option maxRecDepth 4000 in
set_option maxHeartbeats 2000000 in
theorem walk_sequences (a : Option Addr) (len cap : Nat) (zs : List Int) (w : World) (hB : Bytes w a len zs) :
    Calls Try.prog 3 #[.slice a len cap] w fun e w' => e = .returned (.bool true) ∧ Below w.heap.size w w' := by
  have HB := Lib.hid hB
  clear hB
  by_cases hbig : (1048576 : Int) < (len : Int)
  · go_enter Try.func3, Try.ntmps3
    go_wp2
    go_ret
    exact ⟨rfl, Below.refl _ _⟩
  · go_enter Try.func3, Try.ntmps3
    go_wp2_with fail
    go_at_call 15
    refine (big_any _ _ _ _).mono ?_
    rintro e w1 ⟨rfl, rfl⟩
    go_wp2_with fail
    go_at_call 16
    refine (places_any _ _ _ _ _ HB.out (by omega)).mono ?_
    rintro e w1 ⟨v, xs, rfl, hl, hp, ho, g1⟩
    obtain ⟨b, off, cp, x, y, rfl, cx, cy, ⟨x0, x1⟩, ⟨y0, y1⟩⟩ := ho.two hl hp
    have G1 := Lib.hid g1
    clear ho hl hp g1
    have ex : x.tmod 16 = x % 16 := Int.tmod_eq_emod_of_nonneg x0
    have ey : y.tmod 16 = y % 16 := Int.tmod_eq_emod_of_nonneg y0
    go_wp2_with fail
    try go_quiet (fail)
    go_wp2_with fail
    have hA : 0 ≤ x % 16 ∧ x % 16 ≤ 15 := by omega
    have hB : 0 ≤ y % 16 ∧ y % 16 ≤ 15 := by omega
    clear ex ey cx cy x0 x1 y0 y1
    generalize x % 16 = A at hA ⊢
    generalize y % 16 = B at hB ⊢
    have qA : IsQ A := hA
    have qB : IsQ B := hB
    have eAB : distQ A B = (B - A + 16) % 16 := if_pos ⟨qA, qB⟩
    have eBA : distQ B A = (A - B + 16) % 16 := if_pos ⟨qB, qA⟩
    have eAA : distQ A A = 0 := by rw [distQ, if_pos ⟨qA, qA⟩]; omega
    obtain ⟨d, hd⟩ : ∃ d, d = distQ A B := ⟨_, rfl⟩
    obtain ⟨d2, hd2⟩ : ∃ d2, d2 = distQ B A := ⟨_, rfl⟩
    have D1 := Lib.hid (show ∀ W : World, Calls Try.prog 17 #[.int .i64 A, .int .i64 B] W (fun e w' => e = .returned (.int .i64 d) ∧ W.grownBy w' none) from fun W => hd ▸ implDist_any A B W)
    have D2 := Lib.hid (show ∀ W : World, Calls Try.prog 17 #[.int .i64 B, .int .i64 A] W (fun e w' => e = .returned (.int .i64 d2) ∧ W.grownBy w' none) from fun W => hd2 ▸ implDist_any B A W)
    have D0 := Lib.hid (show ∀ W : World, Calls Try.prog 17 #[.int .i64 A, .int .i64 A] W (fun e w' => e = .returned (.int .i64 0) ∧ W.grownBy w' none) from fun W => eAA ▸ implDist_any A A W)
    have hd0 : 0 ≤ d ∧ d ≤ 15 := by omega
    have hdB : (A + d) % 16 = B := by omega
    have hdd : A ≠ B → d + d2 = 16 := fun h => by omega
    have hold : ¬ (OldQ A B ∧ OldQ B A) := by
      unfold OldQ
      rw [← hd, ← hd2]
      intro h; omega
    have hdz : A = B → d = 0 := by intro h; omega
    have HDB := Lib.hid hdB
    have HDD := Lib.hid hdd
    have HOLD := Lib.hid hold
    have HS := Lib.hid (show ∀ W : World, Calls Try.prog 19 #[.int .i64 B] W (Ans (.bool true) W) from fun W => by have := implSeq_any B W; rw [decide_eq_true qB] at this; exact this)
    have HN := Lib.hid (show ∀ (z : Int) (W : World), 0 ≤ z → z ≤ 15 → Calls Try.prog 18 #[.int .i64 z] W (fun e w' => e = .returned (.int .i64 ((z + 1) % 16)) ∧ W.grownBy w' none) from fun z W h0 h1 => by have := implNext_any z W; rw [nextQ, if_pos ⟨h0, h1⟩] at this; exact this)
    have a0 := hA.1
    have a1 := hA.2
    have d0 := hd0.1
    have d1 := hd0.2
    clear hA hB qA qB eAB eBA eAA hd hd2 hdB hdd hold hdz hd0
    go_loopw [6, 7] (fun z i wr => ∃ (k : Nat) (q : Int), k ≤ 16 ∧ i = .int .i64 (k : Int) ∧ z = .int .i64 q ∧ 0 ≤ q ∧ q ≤ 15 ∧ q = (A + k) % 16 ∧ (k : Int) ≤ d ∧ w.grownBy wr none) (fun _ i _ => 16 - (intOf i).toNat)
    case atStart => exact ⟨0, A, Nat.zero_le _, rfl, rfl, a0, a1, by omega, by omega, by repeat (first | exact G1.out | apply gby_drewN)⟩
    case round =>
      obtain ⟨k, q, hk, rfl, rfl, q0, q1, hq, hkd, hg⟩ := hrel
      have HG := Lib.hid hg
      have HQ := Lib.hid hq
      clear hg hq
      go_wp2_with fail
      go_at_call 17
      refine (D1.out _).mono ?_
      rintro e w3 ⟨rfl, g3⟩
      have G3 := Lib.hid (gby_trans HG.out g3)
      clear g3
      by_cases hlt : (k : Int) < d
      · go_wp2_with fail
        go_at_call 18
        refine (HN.out q _ q0 q1).mono ?_
        rintro e w4 ⟨rfl, g4⟩
        have G4 := Lib.hid (gby_trans G3.out g4)
        clear g4
        go_wp2
        exact ⟨⟨k + 1, (q + 1) % 16, by omega, by go_num, rfl, by omega, by omega, by have := HQ.out; omega, by omega, G4.out⟩, by simp [intOf]; omega⟩
      · obtain rfl : q = B := by have := HQ.out; have := HDB.out; omega
        go_wp2_with fail
        go_at_call 19
        refine (HS.out _).mono ?_
        rintro e w4 ⟨rfl, d4⟩
        have G4 := Lib.hid (gby_trans G3.out (d4.gby none))
        clear d4
        go_wp2_with fail
        go_at_call 17
        refine (D0.out _).mono ?_
        rintro e w5 ⟨rfl, g5⟩
        have G5 := Lib.hid (gby_trans G4.out g5)
        clear g5
        by_cases hab : A = q
        · have hne : (A == q) = true := by simpa using hab
          have HAB := Lib.hid hab
          clear hab
          go_wp2_with fail
          go_at_call 20
          refine (implOld_any A q _).mono ?_
          rintro e w8 ⟨rfl, g8⟩
          have G8 := Lib.hid (gby_trans G5.out g8)
          clear g8
          by_cases ho : OldQ A q
          · have ho2 : ¬ OldQ q A := fun h => HOLD.out ⟨ho, h⟩
            rw [decide_eq_true ho]
            go_wp2_with fail
            go_at_call 20
            refine (implOld_any q A _).mono ?_
            rw [decide_eq_false ho2]
            rintro e w9 ⟨rfl, g9⟩
            have G9 := Lib.hid (gby_trans G8.out g9)
            clear g9
            go_wp2
            go_ret
            exact ⟨rfl, gby_below G9.out⟩
          · rw [decide_eq_false ho]
            go_wp2
            go_ret
            exact ⟨rfl, gby_below G8.out⟩
        · have hs := HDD.out hab
          have hne : (A == q) = false := by simpa using hab
          go_wp2_with fail
          go_at_call 17
          refine (D1.out _).mono ?_
          rintro e w6 ⟨rfl, g6⟩
          have G6 := Lib.hid (gby_trans G5.out g6)
          clear g6
          go_wp2_with fail
          go_at_call 17
          refine (D2.out _).mono ?_
          rintro e w7 ⟨rfl, g7⟩
          have G7 := Lib.hid (gby_trans G6.out g7)
          clear g7
          go_wp2_with fail
          go_at_call 20
          refine (implOld_any A q _).mono ?_
          rintro e w8 ⟨rfl, g8⟩
          have G8 := Lib.hid (gby_trans G7.out g8)
          clear g8
          by_cases ho : OldQ A q
          · have ho2 : ¬ OldQ q A := fun h => HOLD.out ⟨ho, h⟩
            rw [decide_eq_true ho]
            go_wp2_with fail
            go_at_call 20
            refine (implOld_any q A _).mono ?_
            rw [decide_eq_false ho2]
            rintro e w9 ⟨rfl, g9⟩
            have G9 := Lib.hid (gby_trans G8.out g9)
            clear g9
            go_wp2
            go_ret
            exact ⟨rfl, gby_below G9.out⟩
          · rw [decide_eq_false ho]
            go_wp2
            go_ret
            exact ⟨rfl, gby_below G8.out⟩

end Go.Proofs.Ytokpmbagidokkab
