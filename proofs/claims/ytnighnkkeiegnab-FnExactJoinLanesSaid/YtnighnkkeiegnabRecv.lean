/-
  Receivers: measured, copied, compared; the model's and the program's ReceiverOk and AckOf.
-/
import Derived.Test.YtnighnkkeiegnabLists
import Derived.Test.YtnighnkkeiegnabSeq
import Derived.Test.YtnighnkkeiegnabBytesIn
import Derived.Handy
namespace Go.Proofs.Ytnighnkkeiegnab
open Go Go.RowKit

theorem ansq0 {P : Program} {f : FuncId} {args : Array Value} {w : World} {n : Nat} {v : Value} (h : ∀ m, Calls P f args (w.drewN m) (Ans v (w.drewN m))) : Calls P f args (w.drewN n) fun e w'' => e = .returned v ∧ ∃ m, w'' = w.drewN m := Calls.quiet_of (h n)
theorem ansq1 {P : Program} {f : FuncId} {args : Array Value} {w : World} {n x : Nat} {v : Value} (h : ∀ m, Calls P f args (w.drewN m) (Ans v (w.drewN m))) : Calls P f args (w.drewN (n + x)) fun e w'' => e = .returned v ∧ ∃ m, w'' = w.drewN (n + m) :=
  (h _).mono fun _ _ ⟨he, m, hm⟩ => ⟨he, x + m, by rw [hm]; simp [World.drewN, Nat.add_assoc]⟩

/-- the lengths of the first k rows together -/
def tot (L : List (List Int)) (k : Nat) : Nat := ((L.take k).map List.length).sum
theorem tot_succ (L : List (List Int)) (k : Nat) (hk : k < L.length) : tot L (k + 1) = tot L k + (L.getD k []).length := by
  unfold tot
  rw [List.take_succ_eq_append_getElem hk, List.map_append, List.sum_append, List.getD_eq_getElem?_getD, List.getElem?_eq_getElem hk]
  simp
theorem tot_mono (L : List (List Int)) (j k : Nat) (h : j ≤ k) (hk : k ≤ L.length) : tot L j ≤ tot L k := by
  induction k with
  | zero => rw [show j = 0 by omega]; exact Nat.le_refl _
  | succ k ih =>
    by_cases e : j = k + 1
    · rw [e]; exact Nat.le_refl _
    · have := ih (by omega) (by omega)
      rw [tot_succ L k (by omega)]
      omega

/-- what is left -/
def lessBy (n : Int) (t : Nat) : Int := if n < (t : Int) then -1 else n - t

theorem szI_any (W : World) (a : Option Addr) (len cap : Nat) (n : Int) (hn : n ≤ 1048576) (h0 : 0 ≤ n) (hc : len ≤ 9223372036854775807) :
    Calls Try.prog 45 #[.slice a len cap, .int .i64 n] W (fun e w' => e = .returned (.int .i64 (lessBy n len)) ∧ W = w') := by
  by_cases h : n < (len : Int)
  · rw [show lessBy n len = -1 from if_pos h]
    have hneg : n - (len : Int) < 0 := by omega
    go_enter Try.func45, Try.ntmps45
    go_wp2
    go_ret
    exact ⟨rfl, rfl⟩
  · rw [show lessBy n len = n - len from if_neg h]
    go_enter Try.func45, Try.ntmps45
    go_wp2
    go_ret
    exact ⟨rfl, rfl⟩

set_option maxHeartbeats 1000000 in
theorem szLL_any (W : World) (a : Option Addr) (len cap : Nat) (L : List (List Int)) (n : Int) (H : RLL W a len L) (hn : n ≤ 1048576) (h0 : 0 ≤ n) (hc : len ≤ 9223372036854775807) (hb : ∀ x ∈ L, x.length ≤ 9223372036854775807) :
    Calls Try.prog 20 #[.slice a len cap, .int .i64 n] W (fun e w' => e = .returned (.int .i64 (lessBy n (len + tot L len))) ∧ Drew W w') := by
  obtain ⟨e, H2⟩ := H
  have HC := Lib.hid H2
  have HE := Lib.hid e
  have HB := Lib.hid hb
  clear H2 e hb
  by_cases h : n < (len : Int)
  · rw [show lessBy n (len + tot L len) = -1 from if_pos (by omega)]
    have hneg : n - (len : Int) < 0 := by omega
    go_enter Try.func20, Try.ntmps20
    go_wp2
    go_ret
    exact ⟨rfl, Drew.refl _⟩
  · have h1 : ¬ n - (len : Int) < 0 := by omega
    go_enter Try.func20, Try.ntmps20
    go_wp2
    go_loopw [1, 5] (fun q i wr => ∃ (k : Nat) (r : Int), k ≤ len ∧ i = .int .i64 (k : Int) ∧ q = .int .i64 r ∧ 0 ≤ r ∧ r = n - ((len + tot L k : Nat) : Int) ∧ Drew W wr) (fun _ i _ => len - (intOf i).toNat)
    case atStart => exact ⟨0, n - len, Nat.zero_le _, rfl, rfl, by omega, by simp [tot], Drew.refl _⟩
    case round =>
      obtain ⟨k, r, hk, rfl, rfl, hr, hn, hd⟩ := hrel
      have HD := Lib.hid hd
      have HN := Lib.hid hn
      clear hd hn
      by_cases hlt : k < len
      · have hki : (k : Int) < (len : Int) := by omega
        obtain ⟨b, off, rfl, hcell⟩ := HC.out.resolve_left (by omega)
        obtain ⟨u, hu, ra, rc, rfl, hri, hrc⟩ := hcell k hlt
        have hcl := (HD.out.gby none).cell hu (by simp)
        have hxl : (L.getD k []).length ≤ 9223372036854775807 := by
          have := HE.out
          rw [List.getD_eq_getElem?_getD, List.getElem?_eq_getElem (by omega)]
          exact HB.out _ (List.getElem_mem _)
        have HT := Lib.hid (tot_succ L k (by have := HE.out; omega))
        have HM := Lib.hid (tot_mono L (k + 1) len (by omega) (by have := HE.out; omega))
        generalize (L.getD k []).length = n1 at hcl hxl HT
        have HZ := Lib.hid (show ∀ W : World, Calls Try.prog 45 #[.slice ra n1 rc, .int .i64 r] W (Ans (.int .i64 (lessBy r n1)) W) from fun W => (szI_any W ra n1 rc r (by have := HN.out; omega) hr hxl).mono (fun e w' h => ⟨h.1, h.2 ▸ Drew.refl _⟩))
        clear hcell hri hrc hu
        by_cases hs : r < (n1 : Int)
        · have hneg : lessBy r n1 < 0 := by unfold lessBy; rw [if_pos hs]; omega
          have HS := Lib.hid hs
          clear hs
          generalize lessBy r n1 = r1 at hneg HZ
          go_wp2_with fail
          go_at_call 45
          refine (HZ.out _).mono ?_
          rintro e w1 ⟨rfl, d1⟩
          go_wp2
          go_ret
          have h1 := HN.out
          have h2 := HS.out
          have h3 := HT.out
          have h4 := HM.out
          exact ⟨by rw [show lessBy n (len + tot L len) = -1 from if_pos (by omega)]; rfl, HD.out.trans d1⟩
        · have hneg : ¬ lessBy r n1 < 0 := by unfold lessBy; rw [if_neg hs]; omega
          have HS := Lib.hid (show lessBy r n1 = r - n1 from if_neg hs)
          clear hs
          generalize lessBy r n1 = r1 at hneg HZ HS
          go_wp2_with fail
          go_at_call 45
          refine (HZ.out _).mono ?_
          rintro e w1 ⟨rfl, d1⟩
          go_wp2
          refine ⟨⟨k + 1, r1, by omega, by go_num, rfl, by omega, by have := HS.out; have := HN.out; have := HT.out; omega, HD.out.trans d1⟩, by simp [intOf]; omega⟩
      · have hki : ¬ (k : Int) < (len : Int) := by omega
        have e2 : k = len := by omega
        subst e2
        have HR := Lib.hid hr
        go_wp2
        go_ret
        have h1 := HN.out
        have h2 := HR.out
        exact ⟨by rw [show lessBy n (k + tot L k) = r from by unfold lessBy; rw [if_neg (by omega)]; omega]; rfl, HD.out⟩

set_option maxHeartbeats 1000000 in
theorem eqLL_same (W : World) (a1 a2 : Option Addr) (len c1 c2 : Nat) (L : List (List Int)) (H1 : RLL W a1 len L) (H2 : RLL W a2 len L) (hl : len ≤ 1048576) (hb : ∀ x ∈ L, x.length ≤ 1048576) :
    Calls Try.prog 25 #[.slice a1 len c1, .slice a2 len c2] W (Ans (.bool true) W) := by
  obtain ⟨e, H1⟩ := H1
  obtain ⟨-, H2⟩ := H2
  have HC := Lib.hid H1
  have HC2 := Lib.hid H2
  have HE := Lib.hid e
  have HB := Lib.hid hb
  clear H1 H2 e hb
  have hz : ((len : Int) != (len : Int)) = false := by simp
  go_enter Try.func25, Try.ntmps25
  go_wp2
  go_loopw [5] (fun i wr => ∃ k : Nat, k ≤ len ∧ i = .int .i64 (k : Int) ∧ Drew W wr) (fun i _ => len - (intOf i).toNat)
  case atStart => exact ⟨0, Nat.zero_le _, rfl, Drew.refl _⟩
  case round =>
    obtain ⟨k, hk, rfl, hd⟩ := hrel
    have HD := Lib.hid hd
    clear hd
    by_cases hlt : k < len
    · have hki : (k : Int) < (len : Int) := by omega
      obtain ⟨b, off, rfl, hcell⟩ := HC.out.resolve_left (by omega)
      obtain ⟨u, hu, ra, rc, rfl, hri, hrc⟩ := hcell k hlt
      have hcl := (HD.out.gby none).cell hu (by simp)
      obtain ⟨b', off', rfl, hcell'⟩ := HC2.out.resolve_left (by omega)
      obtain ⟨u', hu', ra', rc', rfl, hri', hrc'⟩ := hcell' k hlt
      have hcl' := (HD.out.gby none).cell hu' (by simp)
      have hxl : (L.getD k []).length ≤ 1048576 := by
        have := HE.out
        rw [List.getD_eq_getElem?_getD, List.getElem?_eq_getElem (by omega)]
        exact HB.out _ (List.getElem_mem _)
      have HR := Lib.hid (rdI_of hri hrc)
      have HR' := Lib.hid (rdI_of hri' hrc')
      generalize L.getD k [] = x at hcl hcl' hxl HR HR'
      obtain ⟨n, hn⟩ : ∃ n, n = x.length := ⟨_, rfl⟩
      rw [← hn] at hcl hcl' hxl HR HR'
      have HN := Lib.hid hn
      clear hcell hcell' hri hri' hrc hrc' hu hu' hn
      have HZ := Lib.hid (show ∀ m, Calls Try.prog 24 #[.slice ra n rc, .slice ra' n rc'] (wr.drewN m) (Ans (.bool true) (wr.drewN m)) from fun m => by
        have hr := HR.out
        have hr' := HR'.out
        rw [HN.out] at hr hr' ⊢
        exact eqI_same _ _ _ x (hr.kept ((HD.out.drewN m).gby none)) (hr'.kept ((HD.out.drewN m).gby none)) (by rw [← HN.out]; exact hxl))
      go_wp2_with fail
      go_quiet ((go_at_call 24; first | exact ansq0 HZ.out | exact ansq1 HZ.out))
      go_wp2
      refine ⟨⟨k + 1, by omega, by go_num, by repeat (first | exact HD.out | apply Drew.drewN)⟩, by simp [intOf]; omega⟩
    · have hki : ¬ (k : Int) < (len : Int) := by omega
      go_wp2
      go_ret
      exact ⟨rfl, HD.out⟩

end Go.Proofs.Ytnighnkkeiegnab
