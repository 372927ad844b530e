/-
  Arguments of the law opened into data.
-/
import Derived.Test.YtnighnkkeiegnaaAppendInts
import Derived.Test.YtnighnkkeiegnaaDPacket
import Derived.Test.YtnighnkkeiegnaaQPacket
import Derived.Test.YtnighnkkeiegnaaRows
import Derived.Test.YtnighnkkeiegnaaShpI
import Derived.ProofKit
import Derived.OpenShut
import Derived.ChangeSame
import Derived.Deep.Matrix
import Derived.Deep.Slices
namespace Go.Proofs.Ytnighnkkeiegnaa
open Go Go.RowKit Go.ChangeShapes Go.WideShapes Go.ChangeAt
set_option linter.unusedVariables false

/-- cells that read as a thing of the shape -/
def Opens {α : Type} (s : Shp α) (t : TypeId) : Prop :=
  ∀ (H : Type) (enc : TypeId × Value → H) (W : World) (base fuel : Nat) (cs : List Value) (x : DataW H × List MemPlace), DataW.trod enc Try.prog W base (fun _ => true) true fuel t cs = some x → ∃ y, s.rd W cs y

theorem opens_slice {α : Type} [Inhabited α] {s : Shp α} {t e : TypeId} (hu : Try.prog.underlying t = some (.slice e)) (hn : Try.prog.cellsOf e = s.n) (h0 : 0 < s.n) (h : Opens s e) : Opens (shL s) t := by
  intro H enc W base fuel cs x ht
  rcases Go.Deep.open_slice hu ht with ⟨hcs, _⟩ | ⟨a, len, cap, m, n, D, Pl, hcs, _, hl, hm, hmm, _, hi⟩
  · exact ⟨[], _, hcs, none, 0, rfl, ⟨fun _ => rfl, Nat.le_refl _⟩, Nat.zero_le _, .inl rfl⟩
  · have hmm2 : m = cap := hmm
    subst hmm2
    unfold maxLen at hm
    obtain ⟨f, hf⟩ := Go.Deep.choose_lt (α := α) (n := len) (p := fun i y => ∃ cs', W.cells? base (a.add (i * Try.prog.cellsOf e)) (Try.prog.cellsOf e) = some cs' ∧ s.rd W cs' y) (fun i hi' => by
      obtain ⟨cs', h1, h2⟩ := hi i (by omega)
      obtain ⟨y, hy⟩ := h _ _ _ _ _ _ _ h2
      exact ⟨y, cs', h1, hy⟩)
    have hlen : ((List.range len).map f).length = len := by simp
    refine ⟨(List.range len).map f, _, hcs, some a, m, by rw [hlen], ⟨(fun q => by cases q), by rw [hlen]; exact hl⟩, by rw [hlen]; omega, ?_⟩
    rw [hlen]
    by_cases hz : len = 0
    · exact .inl hz
    · obtain ⟨b, off, spot⟩ := a
      have hspot : spot = none := by
        obtain ⟨cs', h1, _⟩ := hf 0 (by omega)
        obtain ⟨_, q2, q3⟩ := World.cells?_some h1
        rw [hn] at q2 q3
        have q4 := q3 0 h0
        rw [List.getElem?_eq_getElem (by omega)] at q4
        simpa [Addr.add] using World.cell?_spot q4
      subst hspot
      refine .inr ⟨b, off, rfl, fun k hk => ?_⟩
      obtain ⟨cs', h1, h2⟩ := hf k hk
      obtain ⟨_, q2, q3⟩ := World.cells?_some h1
      rw [hn] at q2 q3
      refine ⟨cs', fun j hj => ?_, ?_⟩
      · have := q3 j (by omega)
        rw [addr_add, addr_add, Nat.add_assoc] at this
        rw [Nat.add_assoc]
        exact this
      · rw [List.getD_eq_getElem?_getD, List.getElem?_map, List.getElem?_range hk]
        exact h2

set_option maxRecDepth 100000 in
theorem cellsOpInt : Try.prog.cellsOf 3 = 1 := by kernel_rfl

theorem opensInt : Opens shI 3 := by
  intro H enc W base fuel cs x ht
  obtain ⟨i, e, _, _⟩ := DataW.trod_int Try.underlying3 ht
  exact ⟨i, e⟩

set_option maxRecDepth 100000 in
theorem cellsOpIntS : Try.prog.cellsOf 23 = 1 := by kernel_rfl

theorem opensIntS : Opens (shL shI) 23 := opens_slice Try.underlying23 cellsOpInt (by decide) opensInt

set_option maxRecDepth 100000 in
theorem openIntS_d {H : Type} {enc : TypeId × Value → H} {W : World} {base : Nat} {v : Value} {d : DataW H} {ps : List MemPlace} (hw : Value.okWide Try.prog W .any base 23 v) (h : DataW.Trod enc Try.prog W 0 (fun _ => true) true 23 v d ps) :
    ∃ a n c, ∃ xs : List Int, v = .slice a n c ∧ RdL shI W (.slice a n c) xs := by
  obtain ⟨a0, len0, cap0, rfl⟩ := okWide_slice Try.underlying23 hw
  obtain ⟨fuel, hf⟩ := h
  obtain ⟨xs, v, e, r⟩ := opensIntS _ _ _ _ _ _ _ hf
  simp [Value.cells] at e
  subst e
  exact ⟨_, _, _, xs, rfl, r⟩

set_option maxRecDepth 100000 in
theorem cellsOpPacket : Try.prog.cellsOf 57 = 8 := by kernel_rfl

set_option maxRecDepth 100000 in
theorem readPacket_d {H : Type} {enc : TypeId × Value → H} {W : World} {base fuel : Nat} {cs : List Value} {x : DataW H × List MemPlace} (h : DataW.trod enc Try.prog W base (fun _ => true) true fuel 57 cs = some x) :
    ∃ (i0 : Int) (i1 : Int) (i2 : Int) (i3 : Int) (i4 : Int) (i5 : Int) (i6 : Int) (v7 : Value) (xs7 : List Int), cs = [.int .i64 i0, .int .i64 i1, .int .i64 i2, .int .i64 i3, .int .i64 i4, .int .i64 i5, .int .i64 i6, v7] ∧ RdL shI W v7 xs7 := by
  obtain ⟨ys, n, _, _, hcl, hlen, hfld⟩ := DataW.trod_struct Try.underlying57 h
  rw [cellsOpPacket] at hcl
  match cs, hcl with
  | [x0, x1, x2, x3, x4, x5, x6, x7], _ =>
  match ys, hlen with
  | [y0, y1, y2, y3, y4, y5, y6, y7], _ =>
  obtain ⟨i0, e0, _, _⟩ := DataW.trod_int Try.underlying3 (hfld 0 _ rfl)
  obtain ⟨i1, e1, _, _⟩ := DataW.trod_int Try.underlying3 (hfld 1 _ rfl)
  obtain ⟨i2, e2, _, _⟩ := DataW.trod_int Try.underlying3 (hfld 2 _ rfl)
  obtain ⟨i3, e3, _, _⟩ := DataW.trod_int Try.underlying3 (hfld 3 _ rfl)
  obtain ⟨i4, e4, _, _⟩ := DataW.trod_int Try.underlying3 (hfld 4 _ rfl)
  obtain ⟨i5, e5, _, _⟩ := DataW.trod_int Try.underlying3 (hfld 5 _ rfl)
  obtain ⟨i6, e6, _, _⟩ := DataW.trod_int Try.underlying3 (hfld 6 _ rfl)
  obtain ⟨xs7, v7, e7, r7⟩ := opensIntS _ _ _ _ _ _ _ (hfld 7 _ rfl)
  simp [cellsOpInt] at e0
  simp [cellsOpInt] at e1
  simp [cellsOpInt] at e2
  simp [cellsOpInt] at e3
  simp [cellsOpInt] at e4
  simp [cellsOpInt] at e5
  simp [cellsOpInt] at e6
  simp [cellsOpIntS] at e7
  subst e0
  subst e1
  subst e2
  subst e3
  subst e4
  subst e5
  subst e6
  subst e7
  exact ⟨_, _, _, _, _, _, _, _, xs7, rfl, r7⟩

theorem opensPacket : Opens shPacket 57 := by
  intro H enc W base fuel cs x ht
  obtain ⟨i0, i1, i2, i3, i4, i5, i6, v7, xs7, rfl, r7⟩ := readPacket_d ht
  exact ⟨⟨i0, i1, i2, i3, i4, i5, i6, xs7⟩, ⟨v7, rfl, r7⟩⟩

set_option maxRecDepth 100000 in
theorem openPacket_d {H : Type} {enc : TypeId × Value → H} {W : World} {base : Nat} {v : Value} {d : DataW H} {ps : List MemPlace} (hw : Value.okWide Try.prog W .any base 57 v) (h : DataW.Trod enc Try.prog W 0 (fun _ => true) true 57 v d ps) :
    ∃ (i0 : Int) (i1 : Int) (i2 : Int) (i3 : Int) (i4 : Int) (i5 : Int) (i6 : Int) (v7 : Value) (xs7 : List Int), v = vPacket i0 i1 i2 i3 i4 i5 i6 v7 ∧ RdL shI W v7 xs7 := by
  obtain ⟨cs, rfl, hsz⟩ := okWide_struct Try.underlying57 hw
  obtain ⟨fuel, hf⟩ := h
  obtain ⟨i0, i1, i2, i3, i4, i5, i6, v7, xs7, e, r7⟩ := readPacket_d hf
  refine ⟨i0, i1, i2, i3, i4, i5, i6, v7, xs7, ?_, r7⟩
  simp [Value.cells] at e
  unfold vPacket
  congr 1
  exact Array.toList_inj.1 e

set_option maxRecDepth 100000 in
theorem cellsOpPacketS : Try.prog.cellsOf 22 = 1 := by kernel_rfl

theorem opensPacketS : Opens (shL shPacket) 22 := opens_slice Try.underlying22 cellsOpPacket (by decide) opensPacket

set_option maxRecDepth 100000 in
theorem openPacketS_d {H : Type} {enc : TypeId × Value → H} {W : World} {base : Nat} {v : Value} {d : DataW H} {ps : List MemPlace} (hw : Value.okWide Try.prog W .any base 22 v) (h : DataW.Trod enc Try.prog W 0 (fun _ => true) true 22 v d ps) :
    ∃ a n c, ∃ xs : List DPacket, v = .slice a n c ∧ RdL shPacket W (.slice a n c) xs := by
  obtain ⟨a0, len0, cap0, rfl⟩ := okWide_slice Try.underlying22 hw
  obtain ⟨fuel, hf⟩ := h
  obtain ⟨xs, v, e, r⟩ := opensPacketS _ _ _ _ _ _ _ hf
  simp [Value.cells] at e
  subst e
  exact ⟨_, _, _, xs, rfl, r⟩

end Go.Proofs.Ytnighnkkeiegnaa
