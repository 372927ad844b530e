/-
  The walk of FnSplits.
-/
import Derived.Test.YtdieobfkdbeiiaaSplitB
import Derived.Test.YtdieobfkdbeiiaaPieces2
import Derived.Test.YtdieobfkdbeiiaaDrawPlaces
import Derived.Test.YtdieobfkdbeiiaaBig
import Derived.Deep.QuietTactic
namespace Go.Proofs.Ytdieobfkdbeiiaa
open Go Go.RowKit
set_option linter.unusedVariables false

/-- the drawn numbers, one by one -/
theorem OwI.nums {w : World} {lo hi : Nat} {v : Value} {xs : List Int} (h : OwI w lo hi v xs) (hl : xs.length = 12) : ∃ b off cap, v = .slice (some ⟨b, off, none⟩) 12 cap ∧ ∀ k, k < 12 → w.cell? ⟨b, off + k, none⟩ = some (.int .i64 (xs.getD k 0)) := by
  obtain ⟨a, cap, rfl, h, _⟩ := h
  obtain ⟨b, off, rfl, hc⟩ := h.isl.2.resolve_left (by omega)
  exact ⟨b, off, cap, by rw [hl], fun k hk => hc k (by omega)⟩

theorem drop_head {α : Type} [Inhabited α] {L : List α} {k : Nat} {y : α} {ys : List α} (h : L.drop k = y :: ys) : L.getD k default = y ∧ L.drop (k + 1) = ys := by
  have h0 : (L.drop k)[0]? = some y := by rw [h]; rfl
  rw [List.getElem?_drop, Nat.add_zero] at h0
  refine ⟨by rw [List.getD_eq_getElem?_getD, h0]; rfl, ?_⟩
  rw [← List.drop_drop, h]; rfl

theorem piecesF_pos (f : Nat) (a l p : Int) (h : 0 < l) : piecesF (f + 1) a l p = ⟨a, pieceLen a l p⟩ :: piecesF f (a + pieceLen a l p) (l - pieceLen a l p) p := by
  conv => lhs; unfold piecesF
  rw [if_neg (by omega)]

theorem implPC_yes (a l p : Int) (W : World) (h : CanSplit a l p) (n : Nat) (hn : n = (piecesF 64 a l p).length) : Calls Try.prog 39 #[.int .i64 a, .int .i64 l, .int .i64 p] W (AnsN (.int .i64 (n : Int)) W) := by
  have HS := Lib.hid (fun W => implSplit_yes a l p W h)
  have hl1 := piecesF_len 64 a l p
  rw [← hn] at hl1
  have HN := Lib.hid hn
  clear hn h
  go_enter Try.func39, Try.ntmps39
  go_wp2_with fail
  go_at_call 38
  refine (HS.out _).mono ?_
  rintro e w1 ⟨v, rfl, hr, hg⟩
  obtain ⟨pp, cap, hv, _⟩ := OwU.rd hr
  rw [← HN.out] at hv
  subst hv
  have HG := Lib.hid hg
  clear hg hr
  go_wp2
  go_ret
  exact ⟨rfl, HG.out⟩

theorem pay_cell (w : World) (r : Nat) (hr : r < 4) : ∃ m, IsPay m ∧ (w.alloc (.cells #[.int .i64 1, .int .i64 2, .int .i64 4, .int .i64 8] 3)).cell? ⟨w.heap.size, r, none⟩ = some (.int .i64 m) := by
  rw [cell_of_row _ _ _ _ _ _ (heap_alloc_new w _)]
  match r, hr with
  | 0, _ => exact ⟨1, .inl rfl, rfl⟩
  | 1, _ => exact ⟨2, .inr (.inl rfl), rfl⟩
  | 2, _ => exact ⟨4, .inr (.inr (.inl rfl)), rfl⟩
  | 3, _ => exact ⟨8, .inr (.inr (.inr rfl)), rfl⟩
  | n + 4, h => omega

set_option maxRecDepth 4000 in
set_option maxHeartbeats 4000000 in
theorem walk_splits (a : Option Addr) (len cap : Nat) (zs : List Int) (w : World) (hB : Bytes w a len zs) :
    Calls Try.prog 9 #[.slice a len cap] w fun e w' => e = .returned (.bool true) ∧ Below w.heap.size w w' := by
  have HB := Lib.hid hB
  clear hB
  by_cases hbig : (1048576 : Int) < (len : Int)
  · go_enter Try.func9, Try.ntmps9
    go_wp2
    go_ret
    exact ⟨rfl, Below.refl _ _⟩
  · go_enter Try.func9, Try.ntmps9
    go_wp2_with fail
    go_at_call 32
    refine (big_any _ _ _ _).mono ?_
    rintro e w1 ⟨rfl, rfl⟩
    go_wp2_with fail
    go_at_call 37
    refine (places_any _ _ _ _ _ HB.out (by omega)).mono ?_
    rintro e w1 ⟨v3, ps, rfl, hl12, hps, o3, g1⟩
    obtain ⟨pb, po, pc, rfl, hpc⟩ := o3.nums hl12
    have c0 : w1.cell? ⟨pb, po, none⟩ = some (.int .i64 (ps.getD 0 0)) := hpc 0 (by omega)
    have c1 := hpc 1 (by omega)
    have c2 := hpc 2 (by omega)
    have mem : ∀ k, k < 12 → IsP (ps.getD k 0) := fun k hk => hps _ (by rw [List.getD_eq_getElem?_getD, List.getElem?_eq_getElem (by omega)]; exact List.getElem_mem _)
    obtain ⟨x0, x1⟩ := mem 0 (by omega)
    obtain ⟨y0, y1⟩ := mem 1 (by omega)
    obtain ⟨z0, z1⟩ := mem 2 (by omega)
    generalize ps.getD 0 0 = x at c0 x0 x1
    generalize ps.getD 1 0 = y at c1 y0 y1
    generalize ps.getD 2 0 = z at c2 z0 z1
    have G1 := Lib.hid g1
    clear o3 g1 hpc hps hl12 mem
    have hy : Int.tmod y 64 = y % 64 := Int.tmod_eq_emod_of_nonneg y0
    have hz : Int.tmod z 4 = z % 4 := Int.tmod_eq_emod_of_nonneg z0
    obtain ⟨r, hr⟩ : ∃ r : Nat, z % 4 = (r : Int) := ⟨(z % 4).toNat, by omega⟩
    have hr4 : r < 4 := by omega
    obtain ⟨n, hn⟩ : ∃ n, 1 + y % 64 = n := ⟨_, rfl⟩
    have hn1 : 1 ≤ n := by omega
    have hn2 : n ≤ 64 := by omega
    obtain ⟨m, hm, mc⟩ := pay_cell w1 r hr4
    have d0 := (gby_alloc (gby_refl w1 none) (.cells #[.int .i64 1, .int .i64 2, .int .i64 4, .int .i64 8] 3)).cell c2 (by simp)
    have hri : (r : Int) < 4 := by omega
    have hr0 : (0 : Int) ≤ (r : Int) := by omega
    have htr : ((r : Int)).toNat = r := by omega
    have hcs : CanSplit x n m := ⟨hm, ⟨hn1, hn2⟩, x0, by omega⟩
    have HS := Lib.hid (fun W => implSplit_yes x n m W hcs)
    obtain ⟨cnt, hcnt⟩ : ∃ cnt, cnt = (piecesF 64 x n m).length := ⟨_, rfl⟩
    have HPC := Lib.hid (fun W => implPC_yes x n m W hcs cnt hcnt)
    have hb := pc_bound hm 64 x n x0 (by omega) (by omega)
    have hc64 := piecesF_len 64 x n m
    rw [← hcnt] at hb hc64
    have hdv : Int.tdiv n m = n / m := Int.tdiv_eq_ediv_of_nonneg (by omega)
    have hm8 : 1 ≤ m ∧ m ≤ 8 := by rcases hm with rfl | rfl | rfl | rfl <;> omega
    have HM := Lib.hid hm
    have HCN := Lib.hid hcnt
    have hnm0 : 0 ≤ n / m := Int.ediv_nonneg (by omega) (by omega)
    have hnm1 : n / m ≤ n := Int.ediv_le_self _ (by omega)
    generalize n / m = nm at hb hdv hnm0 hnm1
    have HDV := Lib.hid hdv
    clear hm hcs hcnt hdv
    go_wp2_with fail
    go_at_call 38
    refine (HS.out _).mono ?_
    rintro e w2 ⟨v, rfl, hr2, g2⟩
    obtain ⟨pp, lc, hv, _, _, hrd⟩ := OwU.rd hr2
    rw [← HCN.out] at hv hrd
    subst hv
    have HR := Lib.hid hrd
    have G2 := Lib.hid (gby_trans (gby_alloc G1.out _) g2)
    clear hr2 g2 hrd c0 c1 c2 d0 mc hy hz hr hn
    go_wp2
    go_loopw [8, 9] (fun q i wr => ∃ (k f : Nat) (a' l' : Int), k ≤ cnt ∧ q = .int .i64 a' ∧ i = .int .i64 (k : Int) ∧ (piecesF 64 x n m).drop k = piecesF f a' l' m ∧ a' + l' = x + n ∧ 0 ≤ a' ∧ 0 ≤ l' ∧ l' ≤ (f : Int) ∧ w2.grownBy wr none) (fun _ i _ => cnt - (intOf i).toNat)
    case atStart => exact ⟨0, 64, x, n, Nat.zero_le _, rfl, rfl, rfl, rfl, x0, by omega, by omega, gby_refl _ _⟩
    case round =>
      obtain ⟨k, f, a', l', hk, rfl, rfl, hd, b1, b2, b3, b4, hg⟩ := hrel
      have HG := Lib.hid hg
      have HD := Lib.hid hd
      have HK := Lib.hid HCN.out
      clear hg hd
      by_cases hlt : k < cnt
      · have hki : (k : Int) < (cnt : Int) := by omega
        have hk0 : (0 : Int) ≤ (k : Int) := by omega
        have htn : ((k : Int)).toNat = k := by omega
        have hne : piecesF f a' l' m ≠ [] := by
          rw [← HD.out]
          intro q
          have := congrArg List.length q
          rw [List.length_drop, ← HCN.out] at this
          simp at this; omega
        obtain ⟨f, rfl⟩ : ∃ g, f = g + 1 := by
          cases f with
          | zero => exact absurd rfl hne
          | succ g => exact ⟨g, rfl⟩
        have hl0 : 0 < l' := by
          rcases Int.lt_or_le 0 l' with q | q
          · exact q
          · exact absurd (by unfold piecesF; rw [if_pos q]) hne
        have hd2 := HD.out.trans (piecesF_pos f a' l' m hl0)
        obtain ⟨e1, e2⟩ := drop_head hd2
        obtain ⟨p1, p2⟩ := pc_block HM.out b2 hl0
        obtain ⟨s1, s2, _⟩ := piece_bounds HM.out b2 hl0
        have HE2 := Lib.hid e2
        obtain ⟨b, off, rfl, hcell⟩ := HR.out.resolve_left (by omega)
        obtain ⟨cs, hat, hrd⟩ := hcell k hlt
        rw [e1] at hrd
        obtain rfl : cs = [.int .i64 a', .int .i64 (pieceLen a' l' m)] := hrd
        have k1 : wr.cell? ⟨b, off + k * 2, none⟩ = some (.int .i64 a') := HG.out.cell (at_cell (j := 0) hat rfl) (by simp)
        have k2 : wr.cell? ⟨b, off + k * 2 + 1, none⟩ = some (.int .i64 (pieceLen a' l' m)) := HG.out.cell (at_cell (j := 1) hat rfl) (by simp)
        have t1 : Int.tdiv a' m = a' / m := Int.tdiv_eq_ediv_of_nonneg b2
        have t2 : Int.tdiv (a' + pieceLen a' l' m - 1) m = a' / m := by rw [p2]; exact Int.tdiv_eq_ediv_of_nonneg (by omega)
        have u0 : 0 ≤ a' / m := Int.ediv_nonneg b2 (by omega)
        have u1 : a' / m ≤ a' := Int.ediv_le_self _ b2
        clear hcell hat hne hd2 e1 e2 p2
        generalize pieceLen a' l' m = pl at k2 t2 p1 s1 s2 HE2
        generalize a' / m = dd at t1 t2 u0 u1
        have g1 : (a' != a') = false := by simp
        have g2 : decide (pl < 1) = false := decide_eq_false (by omega)
        have g3 : decide (m < pl) = false := decide_eq_false (by omega)
        have g4 : (dd != dd) = false := by simp
        go_wp2
        try go_quiet (fail)
        try go_wp2
        exact ⟨⟨k + 1, f, a' + pl, l' - pl, by omega, by go_num, by go_num, HE2.out, by omega, by omega, by omega, by omega, by repeat (first | exact HG.out | with_reducible refine gby_drewN ?_ _)⟩, by simp [intOf]; omega⟩
      · have hki : ¬ (k : Int) < (cnt : Int) := by omega
        obtain rfl : k = cnt := by omega
        have hl0 : l' = 0 := by
          have q := HD.out
          rw [HCN.out, List.drop_length] at q
          rcases Int.lt_or_le 0 l' with h | h
          · obtain ⟨g, rfl⟩ : ∃ g, f = g + 1 := ⟨f - 1, by omega⟩
            rw [piecesF_pos g a' l' m h] at q
            cases q
          · omega
        obtain rfl : a' = x + n := by omega
        have hq : ((x + n) == (x + n)) = true := by simp
        have hd3 := HDV.out
        clear hl0 b1 HD HK
        go_wp2_with fail
        go_at_call 39
        refine (HPC.out _).mono ?_
        rintro e w5 ⟨rfl, g5⟩
        have G5 := Lib.hid (gby_trans (gby_trans G2.out HG.out) g5)
        have hq2 : ((k : Int) == (k : Int)) = true := by simp
        clear g5
        go_wp2
        go_ret
        exact ⟨rfl, gby_below G5.out⟩

end Go.Proofs.Ytdieobfkdbeiiaa
