/-
  The walk of FnExactIsPacket.
-/
import Derived.Test.YteaaobklfhlgiabPkImpl
import Derived.Test.YteaaobklfhlgiabPkSpec
import Derived.Test.YteaaobklfhlgiabPkEq
import Derived.Deep.RegionHeld3
namespace Go.Proofs.Yteaaobklfhlgiab
open Go Go.RowKit

theorem specPk_true (W : World) (k f t a l g s : Int) (d : Option Addr) (len cap : Nat) (xs : List Int) (H : ISl W d len xs) (hl : len ≤ 1048576) (h : PkOk k f t a l g s xs) :
    Calls Try.prog 17 #[pkV k f t a l g s d len cap] W (AnsG (.bool true) W) := by
  have e := H.1
  obtain ⟨hf, hx, hk⟩ := h
  rw [← e] at hk
  rcases hk with ⟨rfl, hw⟩ | ⟨rfl, hw⟩ | ⟨rfl, hw⟩ | ⟨rfl, hw⟩ | ⟨rfl, hw⟩ | ⟨rfl, hw⟩
  · exact specPk1_yes W f t a l g s d len cap xs H hl hf hx hw
  · exact specPk2_yes W f t a l g s d len cap xs H hl hf hx hw
  · exact specPk3_yes W f t a l g s d len cap xs H hl hf hx hw
  · exact specPk4_yes W f t a l g s d len cap xs H hl hf hx hw
  · exact specPk5_yes W f t a l g s d len cap xs H hl hf hx hw
  · exact specPk6_yes W f t a l g s d len cap xs H hl hf hx hw

theorem specPk_false (W : World) (k f t a l g s : Int) (d : Option Addr) (len cap : Nat) (xs : List Int) (H : ISl W d len xs) (hl : len ≤ 1048576) (h : ¬ PkOk k f t a l g s xs) :
    Calls Try.prog 17 #[pkV k f t a l g s d len cap] W (AnsG (.bool false) W) := by
  have e := H.1
  by_cases hf : 0 ≤ f ∧ f ≤ 255
  · by_cases hx : AreW xs
    · by_cases hk : k < 1 ∨ 6 < k
      · exact specPk_noK k W f t a l g s d len cap xs H hl hf hx hk
      · rcases (show k = 1 ∨ k = 2 ∨ k = 3 ∨ k = 4 ∨ k = 5 ∨ k = 6 by omega) with rfl | rfl | rfl | rfl | rfl | rfl
        · refine specPk1_no W f t a l g s d len cap xs H hl hf hx (fun hw => h ⟨hf, hx, ?_⟩)
          rw [← e]
          exact .inl ⟨rfl, hw⟩
        · refine specPk2_no W f t a l g s d len cap xs H hl hf hx (fun hw => h ⟨hf, hx, ?_⟩)
          rw [← e]
          exact .inr (.inl ⟨rfl, hw⟩)
        · refine specPk3_no W f t a l g s d len cap xs H hl hf hx (fun hw => h ⟨hf, hx, ?_⟩)
          rw [← e]
          exact .inr (.inr (.inl ⟨rfl, hw⟩))
        · refine specPk4_no W f t a l g s d len cap xs H hl hf hx (fun hw => h ⟨hf, hx, ?_⟩)
          rw [← e]
          exact .inr (.inr (.inr (.inl ⟨rfl, hw⟩)))
        · refine specPk5_no W f t a l g s d len cap xs H hl hf hx (fun hw => h ⟨hf, hx, ?_⟩)
          rw [← e]
          exact .inr (.inr (.inr (.inr (.inl ⟨rfl, hw⟩))))
        · refine specPk6_no W f t a l g s d len cap xs H hl hf hx (fun hw => h ⟨hf, hx, ?_⟩)
          rw [← e]
          exact .inr (.inr (.inr (.inr (.inr (⟨rfl, hw⟩)))))
    · exact specPk_noX k W f t a l g s d len cap xs H hl hf hx
  · exact specPk_noF k W f t a l g s d len cap xs H hl (by omega)

/-- both answer the same -/
theorem isPacket_same (k f t a l g s : Int) (xs : List Int) (hl : xs.length ≤ 1048576) : ∃ b : Bool, (∀ (W : World) (d : Option Addr) (len cap : Nat), ISl W d len xs → Calls Try.prog 17 #[pkV k f t a l g s d len cap] W (AnsG (.bool b) W)) ∧
    ∀ (W : World) (d : Option Addr) (len cap : Nat), ISl W d len xs → Calls Try.prog 13 #[pkV k f t a l g s d len cap] W (AnsG (.bool b) W) := by
  by_cases h : PkOk k f t a l g s xs
  · exact ⟨true, fun W d len cap H => specPk_true W k f t a l g s d len cap xs H (by have := H.1; omega) h, fun W d len cap H => implPk_true W k f t a l g s d len cap xs H (by have := H.1; omega) h⟩
  · exact ⟨false, fun W d len cap H => specPk_false W k f t a l g s d len cap xs H (by have := H.1; omega) h, fun W d len cap H => implPk_false W k f t a l g s d len cap xs H (by have := H.1; omega) h⟩

/-- a packet's eight cells -/
theorem pk_cells {w : World} {b : Nat} {k f t a l g s : Int} {d : Option Addr} {len cap : Nat} {ty : TypeId} (h : w.heap[b]? = some (.cells #[.int .i64 k, .int .i64 f, .int .i64 t, .int .i64 a, .int .i64 l, .int .i64 g, .int .i64 s, .slice d len cap] ty (0, 0))) :
    w.cell? ⟨b, 0, none⟩ = some (.int .i64 k) ∧ w.cell? ⟨b, 1, none⟩ = some (.int .i64 f) ∧ w.cell? ⟨b, 2, none⟩ = some (.int .i64 t) ∧ w.cell? ⟨b, 3, none⟩ = some (.int .i64 a) ∧ w.cell? ⟨b, 4, none⟩ = some (.int .i64 l) ∧ w.cell? ⟨b, 5, none⟩ = some (.int .i64 g) ∧ w.cell? ⟨b, 6, none⟩ = some (.int .i64 s) ∧ w.cell? ⟨b, 7, none⟩ = some (.slice d len cap) :=
  ⟨cell_of_row w b 0 _ _ _ h, cell_of_row w b 1 _ _ _ h, cell_of_row w b 2 _ _ _ h, cell_of_row w b 3 _ _ _ h, cell_of_row w b 4 _ _ _ h, cell_of_row w b 5 _ _ _ h, cell_of_row w b 6 _ _ _ h, cell_of_row w b 7 _ _ _ h⟩



set_option maxRecDepth 8000 in
set_option maxHeartbeats 4000000 in
theorem walk_exactIsPacket (W : World) (k f t a l g s : Int) (d : Option Addr) (len cap : Nat) (xs : List Int) (H : ISl W d len xs) (hc : len ≤ 9223372036854775807) :
    Calls Try.prog 4 #[pkV k f t a l g s d len cap] W fun e w' => e = .returned (.bool true) ∧ Below W.heap.size W w' := by
  have HI := Lib.hid H
  have hlx := H.1
  clear H
  by_cases hbig : 1048576 < (len : Int)
  · have hneg : (-1 : Int) < 0 := by omega
    clear hlx
    unfold pkV
    go_enter Try.func4, Try.ntmps4
    go_wp2_with fail
    go_at_call 16
    refine (szPk_big _ k f t a l g s _ d len cap hbig (by omega) (by omega) hc).mono ?_
    rintro e w1 ⟨rfl, g1⟩
    have G1 := Lib.hid (gby_trans (gby_alloc (gby_refl W none) _) g1)
    clear g1
    go_wp2
    go_ret
    exact ⟨rfl, gby_below G1.out⟩
  · have hl : len ≤ 1048576 := by omega
    obtain ⟨b, hs, hi⟩ := isPacket_same k f t a l g s xs (by omega)
    have HS := Lib.hid hs
    have HM := Lib.hid hi
    clear hs hi hlx
    cases b
    all_goals
      unfold pkV
      go_enter Try.func4, Try.ntmps4
      go_wp2_with fail
      go_at_call 16
      refine (szPk_any _ k f t a l g s _ d len cap (by omega) (by omega)).mono ?_
      rintro e w1 ⟨rfl, g1⟩
      have hr := row_later g1 (heap_alloc_new W _)
      obtain ⟨r0, r1, r2, r3, r4, r5, r6, r7⟩ := pk_cells hr
      have HR1 := Lib.hid hr
      have G1 := Lib.hid (gby_trans (gby_alloc (gby_refl W none) _) g1)
      clear g1 hr
      go_wp2_with fail
      go_at_call 18
      refine (toPk_any _ k f t a l g s d len cap xs (HI.out.kept G1.out) hl).mono ?_
      rintro e w2 ⟨c2, rfl, hc2, hi2, g2⟩
      have J2 := Lib.hid hi2
      have hr := row_later g2 HR1.out
      clear r0 r1 r2 r3 r4 r5 r6 r7
      obtain ⟨r0, r1, r2, r3, r4, r5, r6, r7⟩ := pk_cells hr
      have HR2 := Lib.hid hr
      have G2 := Lib.hid (gby_trans G1.out g2)
      clear g2 hr hi2 hc2
      go_wp2_with fail
      go_at_call 17
      refine (HS.out _ _ _ _ J2.out).mono ?_
      rintro e w3 ⟨rfl, g3⟩
      have hr := row_later g3 HR2.out
      clear r0 r1 r2 r3 r4 r5 r6 r7
      obtain ⟨r0, r1, r2, r3, r4, r5, r6, r7⟩ := pk_cells hr
      have HR3 := Lib.hid hr
      have G3 := Lib.hid (gby_trans G2.out g3)
      clear g3 hr
      go_wp2_with fail
      go_at_call 18
      refine (toPk_any _ k f t a l g s d len cap xs (HI.out.kept G3.out) hl).mono ?_
      rintro e w4 ⟨c4, rfl, hc4, hi4, g4⟩
      have J4 := Lib.hid hi4
      have hr := row_later g4 HR3.out
      clear r0 r1 r2 r3 r4 r5 r6 r7
      have HR4 := Lib.hid hr
      have G4 := Lib.hid (gby_trans G3.out g4)
      clear g4 hr hi4 hc4
      unfold pkV
      go_wp2_with fail
      go_at_call 13
      refine (HM.out _ _ _ _ (J4.out.kept (gby_alloc (gby_refl _ _) _))).mono ?_
      rintro e w5 ⟨rfl, g5⟩
      have hx := row_later g5 (heap_alloc_new w4 _)
      obtain ⟨x0, x1, x2, x3, x4, x5, x6, x7⟩ := pk_cells hx
      have hr := row_later g5 (row_later (gby_alloc (gby_refl w4 none) _) HR4.out)
      obtain ⟨r0, r1, r2, r3, r4, r5, r6, r7⟩ := pk_cells hr
      have J5 := Lib.hid (J4.out.kept (gby_trans (gby_alloc (gby_refl _ _) _) g5))
      have G5 := Lib.hid (gby_trans (gby_alloc G4.out _) g5)
      clear g5 hr hx
      go_wp2_with fail
      go_region_held3 (fun w' => w'.cell? ⟨W.heap.size, 0, none⟩ = some (.int .i64 k) ∧ w'.cell? ⟨W.heap.size, 1, none⟩ = some (.int .i64 f) ∧ w'.cell? ⟨W.heap.size, 2, none⟩ = some (.int .i64 t) ∧ w'.cell? ⟨W.heap.size, 3, none⟩ = some (.int .i64 a) ∧ w'.cell? ⟨W.heap.size, 4, none⟩ = some (.int .i64 l) ∧ w'.cell? ⟨W.heap.size, 5, none⟩ = some (.int .i64 g) ∧ w'.cell? ⟨W.heap.size, 6, none⟩ = some (.int .i64 s) ∧ w'.cell? ⟨W.heap.size, 7, none⟩ = some (.slice d len cap) ∧ w'.cell? ⟨w4.heap.size, 0, none⟩ = some (.int .i64 k) ∧ w'.cell? ⟨w4.heap.size, 1, none⟩ = some (.int .i64 f) ∧ w'.cell? ⟨w4.heap.size, 2, none⟩ = some (.int .i64 t) ∧ w'.cell? ⟨w4.heap.size, 3, none⟩ = some (.int .i64 a) ∧ w'.cell? ⟨w4.heap.size, 4, none⟩ = some (.int .i64 l) ∧ w'.cell? ⟨w4.heap.size, 5, none⟩ = some (.int .i64 g) ∧ w'.cell? ⟨w4.heap.size, 6, none⟩ = some (.int .i64 s) ∧ w'.cell? ⟨w4.heap.size, 7, none⟩ = some (.slice (some ⟨c4, 0, none⟩) len len))
        (first
          | exact ⟨r0, r1, r2, r3, r4, r5, r6, r7, x0, x1, x2, x3, x4, x5, x6, x7⟩
          | exact ⟨g6.cell r0 (by simp), g6.cell r1 (by simp), g6.cell r2 (by simp), g6.cell r3 (by simp), g6.cell r4 (by simp), g6.cell r5 (by simp), g6.cell r6 (by simp), g6.cell r7 (by simp), g6.cell x0 (by simp), g6.cell x1 (by simp), g6.cell x2 (by simp), g6.cell x3 (by simp), g6.cell x4 (by simp), g6.cell x5 (by simp), g6.cell x6 (by simp), g6.cell x7 (by simp)⟩
          | exact ⟨g7.cell (g6.cell r0 (by simp)) (by simp), g7.cell (g6.cell r1 (by simp)) (by simp), g7.cell (g6.cell r2 (by simp)) (by simp), g7.cell (g6.cell r3 (by simp)) (by simp), g7.cell (g6.cell r4 (by simp)) (by simp), g7.cell (g6.cell r5 (by simp)) (by simp), g7.cell (g6.cell r6 (by simp)) (by simp), g7.cell (g6.cell r7 (by simp)) (by simp), g7.cell (g6.cell x0 (by simp)) (by simp), g7.cell (g6.cell x1 (by simp)) (by simp), g7.cell (g6.cell x2 (by simp)) (by simp), g7.cell (g6.cell x3 (by simp)) (by simp), g7.cell (g6.cell x4 (by simp)) (by simp), g7.cell (g6.cell x5 (by simp)) (by simp), g7.cell (g6.cell x6 (by simp)) (by simp), g7.cell (g6.cell x7 (by simp)) (by simp)⟩)
        (first
          | (go_at_call 18; refine (toPk_any _ k f t a l g s d len cap xs (HI.out.kept (gby_drew G5.out)) hl).mono ?_; rintro e w6 ⟨c6, rfl, hc6, hi6, g6⟩)
          | (go_at_call 19; refine (eqPk_same _ k f t a l g s _ _ len _ _ xs ((show ISl (World.drew w5) _ _ _ from J5.out).kept g6) hi6 hl).mono ?_; rintro e w7 ⟨rfl, g7⟩))
      all_goals
        have G7 := Lib.hid (gby_trans (gby_trans (gby_drew G5.out) g6) g7)
        clear g6 g7 hi6 hc6
        go_wp2
        go_ret
        exact ⟨rfl, gby_below G7.out⟩

end Go.Proofs.Yteaaobklfhlgiab
