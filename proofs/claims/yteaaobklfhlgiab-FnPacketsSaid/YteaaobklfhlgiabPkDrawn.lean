/-
  The walk of FnPackets.
-/
import Derived.Test.YteaaobklfhlgiabDrawPk2
import Derived.Test.YteaaobklfhlgiabPkClass
import Derived.Test.YteaaobklfhlgiabPkSame
import Derived.Test.YteaaobklfhlgiabBig
namespace Go.Proofs.Yteaaobklfhlgiab
open Go Go.RowKit

theorem bytes_kept {w w' : World} {a : Option Addr} {len : Nat} {zs : List Int} (h : Bytes w a len zs) (g : w.grownBy w' none) : Bytes w' a len zs := by
  rcases h with h0 | ⟨b, off, ha, hk⟩
  · exact .inl h0
  · exact .inr ⟨b, off, ha, fun k hlt => ⟨g.cell (hk k hlt).1 (by simp), (hk k hlt).2⟩⟩

set_option maxRecDepth 8000 in
set_option maxHeartbeats 2000000 in
theorem drawPacket_any (w : World) (a : Option Addr) (len cap : Nat) (zs : List Int) (hB : Bytes w a len zs) (hl : len ≤ 1048576) :
    Calls Try.prog 10 #[.slice a len cap] w fun e w' => ∃ k f t a l g s d len cap xs, e = .returned (pkV k f t a l g s d len cap) ∧ PkOk k f t a l g s xs ∧ ISl w' d len xs ∧ len ≤ 8 ∧ w.grownBy w' none := by
  have HB := Lib.hid hB
  clear hB
  go_enter Try.func10, Try.ntmps10
  go_wp2_with fail
  go_at_call 25
  refine (new_any _ _ _ _ _ (bytes_kept HB.out (gby_alloc (gby_refl _ _) _)) hl).mono ?_
  rintro e w1 ⟨c, rfl, hc, H1, G1⟩
  have hr1 := row_later G1 (heap_alloc_new w _)
  have hc' : w.heap.size < c := by simp only [World.size_alloc] at hc; omega
  have HR1 := Lib.hid hr1
  have HG1 := Lib.hid (gby_trans (gby_alloc (gby_refl w none) _) G1)
  clear G1 hr1 hc
  go_wp2_with fail
  go_at_call 24
  refine (l04Packet_any _ _ H1).mono ?_
  rintro e w2 ⟨k, f, t, a', l, g, s, d, n, cp, xs, rfl, hf, hx, hk, hi, hfar, H2, G2⟩
  have HG2 := Lib.hid (gby_own HG1.out G2 (by omega))
  have hr2 := (G2.block w.heap.size (block_there HR1.out) (fun e => by have := Option.some.inj e; omega)).trans HR1.out
  obtain ⟨r0, r1, r2, r3, r4, r5, r6, r7⟩ := cells_pk hr2
  have z0 := frozen_of_row w2 _ 0 _ _ hr2
  have z1 := frozen_of_row w2 _ 1 _ _ hr2
  have z2 := frozen_of_row w2 _ 2 _ _ hr2
  have z3 := frozen_of_row w2 _ 3 _ _ hr2
  have z4 := frozen_of_row w2 _ 4 _ _ hr2
  have z5 := frozen_of_row w2 _ 5 _ _ hr2
  have z6 := frozen_of_row w2 _ 6 _ _ hr2
  have z7 := frozen_of_row w2 _ 7 _ _ hr2
  have hlen := hi.1
  have h8 : n ≤ 8 := by
    rcases hk with ⟨_, h⟩ | ⟨_, h⟩ | ⟨_, h⟩ | ⟨_, h⟩ | ⟨_, h⟩ | ⟨_, h⟩
    · unfold W1 at h; omega
    · unfold W2 at h; omega
    · unfold W3 at h; omega
    · unfold W4 at h; omega
    · unfold W5 at h; omega
    · unfold W6 at h; omega
  have HP := Lib.hid (show PkOk k f t a' l g s xs from ⟨hf, hx, by rw [hlen] at hk; exact hk⟩)
  have HI := Lib.hid hi
  have HFAR := Lib.hid hfar
  have hlt1 := block_there HR1.out
  clear G2 H2 hi hk hx hf hlen hr2 hfar
  unfold pkV
  go_wp2
  refine bodyPost_ret (v := pkV k f t a' l g s d n cp) (by simp [results, go_sem, pkV, r0, r1, r2, r3, r4, r5, r6, r7]) rfl ⟨k, f, t, a', l, g, s, d, n, cp, xs, rfl, HP.out, ?_, h8, ?_⟩
  · have G : w2.grownBy _ (some w.heap.size) := gby_set (gby_set (gby_set (gby_set (gby_set (gby_set (gby_set (gby_set (gby_refl w2 (some w.heap.size)) 0 (.int .i64 k)) 1 (.int .i64 f)) 2 (.int .i64 t)) 3 (.int .i64 a')) 4 (.int .i64 l)) 5 (.int .i64 g)) 6 (.int .i64 s)) 7 (.slice d n cp)
    exact HI.out.keptBy G (fun p hp e => by have := Option.some.inj e; have := HFAR.out p hp; omega)
  · iterate 8 (with_reducible refine gby_setnew ?_ _ (Nat.le_refl _) _)
    exact HG2.out

/-- the class and the name of a valid packet -/
theorem class_ok (k f t a l g s : Int) (xs : List Int) (hl : xs.length ≤ 1048576) (h : PkOk k f t a l g s xs) : ∃ (v : Int) (nm : ByteArray), 0 ≤ v ∧ v ≤ 2 ∧ nm.toList.isEmpty = false ∧
    (∀ (W : World) (d : Option Addr) (len cap : Nat), ISl W d len xs → Calls Try.prog 11 #[pkV k f t a l g s d len cap] W (AnsG (.int .i64 v) W)) ∧
    ∀ W : World, Calls Try.prog 15 #[.int .i64 k] W fun e w' => e = .returned (.string nm) ∧ W.grownBy w' none := by
  rcases h.2.2 with ⟨rfl, _⟩ | ⟨rfl, _⟩ | ⟨rfl, _⟩ | ⟨rfl, _⟩ | ⟨rfl, _⟩ | ⟨rfl, _⟩
  · exact ⟨ruleClass 1, ruleName 1, by decide, by decide, by rw [ByteArray.toList_eq]; simp [ruleName], fun W d len cap H => implClassOf1_in W f t a l g s d len cap xs H (by have := H.1; omega) h, iname1⟩
  · exact ⟨ruleClass 2, ruleName 2, by decide, by decide, by rw [ByteArray.toList_eq]; simp [ruleName], fun W d len cap H => implClassOf2_in W f t a l g s d len cap xs H (by have := H.1; omega) h, iname2⟩
  · exact ⟨ruleClass 3, ruleName 3, by decide, by decide, by rw [ByteArray.toList_eq]; simp [ruleName], fun W d len cap H => implClassOf3_in W f t a l g s d len cap xs H (by have := H.1; omega) h, iname3⟩
  · exact ⟨ruleClass 4, ruleName 4, by decide, by decide, by rw [ByteArray.toList_eq]; simp [ruleName], fun W d len cap H => implClassOf4_in W f t a l g s d len cap xs H (by have := H.1; omega) h, iname4⟩
  · exact ⟨ruleClass 5, ruleName 5, by decide, by decide, by rw [ByteArray.toList_eq]; simp [ruleName], fun W d len cap H => implClassOf5_in W f t a l g s d len cap xs H (by have := H.1; omega) h, iname5⟩
  · exact ⟨ruleClass 6, ruleName 6, by decide, by decide, by rw [ByteArray.toList_eq]; simp [ruleName], fun W d len cap H => implClassOf6_in W f t a l g s d len cap xs H (by have := H.1; omega) h, iname6⟩

set_option maxRecDepth 8000 in
set_option maxHeartbeats 4000000 in
theorem walk_packets (a : Option Addr) (len cap : Nat) (zs : List Int) (w : World) (hB : Bytes w a len zs) :
    Calls Try.prog 3 #[.slice a len cap] w fun e w' => e = .returned (.bool true) ∧ Below w.heap.size w w' := by
  have HB := Lib.hid hB
  clear hB
  by_cases hbig : (1048576 : Int) < (len : Int)
  · go_enter Try.func3, Try.ntmps3
    go_wp2
    go_ret
    exact ⟨rfl, Below.refl _ _⟩
  · go_enter Try.func3, Try.ntmps3
    go_wp2_with fail
    go_at_call 9
    refine (big_any _ _ _ _).mono ?_
    rintro e w1 ⟨rfl, rfl⟩
    go_wp2_with fail
    go_at_call 10
    refine (drawPacket_any _ _ _ _ _ HB.out (by omega)).mono ?_
    rintro e w1 ⟨k, f, t, ad, l, g, s, d, n, cp, xs, rfl, hP, hi, h8, G1⟩
    have hn := hi.1
    obtain ⟨v, nm, v0, v1, hnm, hcl, hkn⟩ := class_ok k f t ad l g s xs (by omega) hP
    have HI := Lib.hid hi
    have HG1 := Lib.hid G1
    have HP := Lib.hid hP
    have HCL := Lib.hid hcl
    have HKN := Lib.hid hkn
    clear hi G1 hP hcl hkn hn
    obtain ⟨u, hu⟩ : ∃ u : Int, u = (((n + 3) / 4 : Nat) : Int) := ⟨_, rfl⟩
    have HPU := Lib.hid (fun (W : World) (c2 : Nat) (H : ISl W d n xs) => show Calls Try.prog 12 #[pkV k f t ad l g s d n c2] W (AnsG (.int .i64 u) W) from by rw [hu]; exact implPacketUnits_in k W f t ad l g s d n c2 xs H (by omega) HP.out)
    have u0 : 0 ≤ u := by omega
    have u1 : u ≤ 2 := by omega
    have hz : (u == 0) = ((n : Int) == 0) := by
      rw [Bool.eq_iff_iff]; simp; omega
    clear hu
    unfold pkV
    go_wp2_with fail
    go_at_call 11
    refine (HCL.out _ _ _ _ (HI.out.kept (gby_alloc (gby_refl _ _) _))).mono ?_
    rintro e w2 ⟨rfl, g2⟩
    have hr := row_later g2 (heap_alloc_new w1 _)
    obtain ⟨r0, r1, r2, r3, r4, r5, r6, r7⟩ := cells_pk hr
    have ga : w1.grownBy w2 none := gby_trans (gby_alloc (gby_refl _ _) _) g2
    have HR2 := Lib.hid hr
    have HI2 := Lib.hid (HI.out.kept ga)
    have HG2 := Lib.hid (gby_trans HG1.out ga)
    clear g2 ga hr
    go_wp2_with fail
    go_at_call 12
    refine (HPU.out _ _ HI2.out).mono ?_
    rintro e w3 ⟨rfl, g3⟩
    have hr := row_later g3 HR2.out
    clear r0 r1 r2 r3 r4 r5 r6 r7
    obtain ⟨r0, r1, r2, r3, r4, r5, r6, r7⟩ := cells_pk hr
    have HR3 := Lib.hid hr
    have HI3 := Lib.hid (HI2.out.kept g3)
    have HG3 := Lib.hid (gby_trans HG2.out g3)
    clear g3 hr
    go_wp2_with fail
    go_at_call 13
    refine (implPk_true _ k f t ad l g s d n cp xs HI3.out (by omega) HP.out).mono ?_
    rintro e w4 ⟨rfl, g4⟩
    have hr := row_later g4 HR3.out
    clear r0 r1 r2 r3 r4 r5 r6 r7
    obtain ⟨r0, r1, r2, r3, r4, r5, r6, r7⟩ := cells_pk hr
    have HR4 := Lib.hid hr
    have HI4 := Lib.hid (HI3.out.kept g4)
    have HG4 := Lib.hid (gby_trans HG3.out g4)
    clear g4 hr
    have hd : decide (SameF k f t ad l g s k f t ad l g s xs xs) = true := decide_eq_true ⟨rfl, rfl, rfl, rfl, rfl, rfl, rfl, rfl⟩
    go_wp2_with fail
    go_at_call 14
    refine (implSame_any _ k f t ad l g s k f t ad l g s d d n n cp cp xs xs HI4.out HI4.out (by omega) (by omega)).mono ?_
    rw [hd]
    rintro e w5 ⟨rfl, g5⟩
    have hr := row_later g5 HR4.out
    clear r0 r1 r2 r3 r4 r5 r6 r7
    obtain ⟨r0, r1, r2, r3, r4, r5, r6, r7⟩ := cells_pk hr
    have HG5 := Lib.hid (gby_trans HG4.out g5)
    clear g5 hr
    go_wp2_with fail
    go_at_call 15
    refine (HKN.out _).mono ?_
    rintro e w6 ⟨rfl, g6⟩
    have HG6 := Lib.hid (gby_trans HG5.out g6)
    clear g6 r0 r1 r2 r3 r4 r5 r6 r7
    go_wp2
    go_ret
    exact ⟨rfl, gby_below HG6.out⟩

end Go.Proofs.Yteaaobklfhlgiab
