/-
  Arguments of the law opened into data.
-/
import Derived.Test.YtcenngekjopjpaaAppendInts
import Derived.Test.YtcenngekjopjpaaDFrame
import Derived.Test.YtcenngekjopjpaaQFrame
import Derived.Test.YtcenngekjopjpaaQSender
import Derived.Test.YtcenngekjopjpaaRows
import Derived.Test.YtcenngekjopjpaaShpI
import Derived.ProofKit
import Derived.OpenShut
import Derived.ChangeSame
import Derived.Deep.Matrix
import Derived.Deep.Slices
namespace Go.Proofs.Ytcenngekjopjpaa
open Go Go.RowKit Go.ChangeShapes Go.WideShapes Go.ChangeAt
set_option linter.unusedVariables false

/-- cells that read as a thing of the shape -/
def Opens {α : Type} (s : Shp α) (t : TypeId) : Prop :=
  ∀ (H : Type) (enc : TypeId × Value → H) (W : World) (base fuel : Nat) (cs : List Value) (x : DataW H × List MemPlace), DataW.trod enc Try.prog W base (fun _ => true) true fuel t cs = some x → ∃ y, s.rd W cs y

theorem opens_slice {α : Type} [Inhabited α] {s : Shp α} {t e : TypeId} (hu : Try.prog.underlying t = some (.slice e)) (hn : Try.prog.cellsOf e = s.n) (h0 : 0 < s.n) (h : Opens s e) : Opens (shL s) t := by
  intro H enc W base fuel cs x ht
  rcases Go.Deep.open_slice hu ht with ⟨hcs, _⟩ | ⟨a, len, cap, m, n, D, Pl, hcs, _, hl, hm, hmm, _, hi⟩
  · exact ⟨[], _, hcs, none, 0, rfl, ⟨fun _ => rfl, Nat.le_refl _⟩, Nat.zero_le _, .inl rfl⟩
  · have hmm2 : m = cap := hmm
    subst hmm2
    unfold maxLen at hm
    obtain ⟨f, hf⟩ := Go.Deep.choose_lt (α := α) (n := len) (p := fun i y => ∃ cs', W.cells? base (a.add (i * Try.prog.cellsOf e)) (Try.prog.cellsOf e) = some cs' ∧ s.rd W cs' y) (fun i hi' => by
      obtain ⟨cs', h1, h2⟩ := hi i (by omega)
      obtain ⟨y, hy⟩ := h _ _ _ _ _ _ _ h2
      exact ⟨y, cs', h1, hy⟩)
    have hlen : ((List.range len).map f).length = len := by simp
    refine ⟨(List.range len).map f, _, hcs, some a, m, by rw [hlen], ⟨(fun q => by cases q), by rw [hlen]; exact hl⟩, by rw [hlen]; omega, ?_⟩
    rw [hlen]
    by_cases hz : len = 0
    · exact .inl hz
    · obtain ⟨b, off, spot⟩ := a
      have hspot : spot = none := by
        obtain ⟨cs', h1, _⟩ := hf 0 (by omega)
        obtain ⟨_, q2, q3⟩ := World.cells?_some h1
        rw [hn] at q2 q3
        have q4 := q3 0 h0
        rw [List.getElem?_eq_getElem (by omega)] at q4
        simpa [Addr.add] using World.cell?_spot q4
      subst hspot
      refine .inr ⟨b, off, rfl, fun k hk => ?_⟩
      obtain ⟨cs', h1, h2⟩ := hf k hk
      obtain ⟨_, q2, q3⟩ := World.cells?_some h1
      rw [hn] at q2 q3
      refine ⟨cs', fun j hj => ?_, ?_⟩
      · have := q3 j (by omega)
        rw [addr_add, addr_add, Nat.add_assoc] at this
        rw [Nat.add_assoc]
        exact this
      · rw [List.getD_eq_getElem?_getD, List.getElem?_map, List.getElem?_range hk]
        exact h2

set_option maxRecDepth 100000 in
theorem cellsOpInt : Try.prog.cellsOf 3 = 1 := by kernel_rfl

theorem opensInt : Opens shI 3 := by
  intro H enc W base fuel cs x ht
  obtain ⟨i, e, _, _⟩ := DataW.trod_int Try.underlying3 ht
  exact ⟨i, e⟩

set_option maxRecDepth 100000 in
theorem cellsOpIntS : Try.prog.cellsOf 35 = 1 := by kernel_rfl

theorem opensIntS : Opens (shL shI) 35 := opens_slice Try.underlying35 cellsOpInt (by decide) opensInt

set_option maxRecDepth 100000 in
theorem openIntS_d {H : Type} {enc : TypeId × Value → H} {W : World} {base : Nat} {v : Value} {d : DataW H} {ps : List MemPlace} (hw : Value.okWide Try.prog W .any base 35 v) (h : DataW.Trod enc Try.prog W 0 (fun _ => true) true 35 v d ps) :
    ∃ a n c, ∃ xs : List Int, v = .slice a n c ∧ RdL shI W (.slice a n c) xs := by
  obtain ⟨a0, len0, cap0, rfl⟩ := okWide_slice Try.underlying35 hw
  obtain ⟨fuel, hf⟩ := h
  obtain ⟨xs, v, e, r⟩ := opensIntS _ _ _ _ _ _ _ hf
  simp [Value.cells] at e
  subst e
  exact ⟨_, _, _, xs, rfl, r⟩

set_option maxRecDepth 100000 in
theorem cellsOpFrame : Try.prog.cellsOf 64 = 2 := by kernel_rfl

set_option maxRecDepth 100000 in
theorem readFrame_d {H : Type} {enc : TypeId × Value → H} {W : World} {base fuel : Nat} {cs : List Value} {x : DataW H × List MemPlace} (h : DataW.trod enc Try.prog W base (fun _ => true) true fuel 64 cs = some x) :
    ∃ (i0 : Int) (v1 : Value) (xs1 : List Int), cs = [.int .i64 i0, v1] ∧ RdL shI W v1 xs1 := by
  obtain ⟨ys, n, _, _, hcl, hlen, hfld⟩ := DataW.trod_struct Try.underlying64 h
  rw [cellsOpFrame] at hcl
  match cs, hcl with
  | [x0, x1], _ =>
  match ys, hlen with
  | [y0, y1], _ =>
  obtain ⟨i0, e0, _, _⟩ := DataW.trod_int Try.underlying3 (hfld 0 _ rfl)
  obtain ⟨xs1, v1, e1, r1⟩ := opensIntS _ _ _ _ _ _ _ (hfld 1 _ rfl)
  simp [cellsOpInt] at e0
  simp [cellsOpIntS] at e1
  subst e0
  subst e1
  exact ⟨_, _, xs1, rfl, r1⟩

theorem opensFrame : Opens shFrame 64 := by
  intro H enc W base fuel cs x ht
  obtain ⟨i0, v1, xs1, rfl, r1⟩ := readFrame_d ht
  exact ⟨⟨i0, xs1⟩, ⟨v1, rfl, r1⟩⟩

set_option maxRecDepth 100000 in
theorem openFrame_d {H : Type} {enc : TypeId × Value → H} {W : World} {base : Nat} {v : Value} {d : DataW H} {ps : List MemPlace} (hw : Value.okWide Try.prog W .any base 64 v) (h : DataW.Trod enc Try.prog W 0 (fun _ => true) true 64 v d ps) :
    ∃ (i0 : Int) (v1 : Value) (xs1 : List Int), v = vFrame i0 v1 ∧ RdL shI W v1 xs1 := by
  obtain ⟨cs, rfl, hsz⟩ := okWide_struct Try.underlying64 hw
  obtain ⟨fuel, hf⟩ := h
  obtain ⟨i0, v1, xs1, e, r1⟩ := readFrame_d hf
  refine ⟨i0, v1, xs1, ?_, r1⟩
  simp [Value.cells] at e
  unfold vFrame
  congr 1
  exact Array.toList_inj.1 e

set_option maxRecDepth 100000 in
theorem cellsOpFrameS : Try.prog.cellsOf 22 = 1 := by kernel_rfl

theorem opensFrameS : Opens (shL shFrame) 22 := opens_slice Try.underlying22 cellsOpFrame (by decide) opensFrame

set_option maxRecDepth 100000 in
theorem openFrameS_d {H : Type} {enc : TypeId × Value → H} {W : World} {base : Nat} {v : Value} {d : DataW H} {ps : List MemPlace} (hw : Value.okWide Try.prog W .any base 22 v) (h : DataW.Trod enc Try.prog W 0 (fun _ => true) true 22 v d ps) :
    ∃ a n c, ∃ xs : List DFrame, v = .slice a n c ∧ RdL shFrame W (.slice a n c) xs := by
  obtain ⟨a0, len0, cap0, rfl⟩ := okWide_slice Try.underlying22 hw
  obtain ⟨fuel, hf⟩ := h
  obtain ⟨xs, v, e, r⟩ := opensFrameS _ _ _ _ _ _ _ hf
  simp [Value.cells] at e
  subst e
  exact ⟨_, _, _, xs, rfl, r⟩

set_option maxRecDepth 100000 in
theorem cellsOpSender : Try.prog.cellsOf 24 = 3 := by kernel_rfl

set_option maxRecDepth 100000 in
theorem readSender_d {H : Type} {enc : TypeId × Value → H} {W : World} {base fuel : Nat} {cs : List Value} {x : DataW H × List MemPlace} (h : DataW.trod enc Try.prog W base (fun _ => true) true fuel 24 cs = some x) :
    ∃ (i0 : Int) (v1 : Value) (xs1 : List DFrame) (i2 : Int), cs = [.int .i64 i0, v1, .int .i64 i2] ∧ RdL shFrame W v1 xs1 := by
  obtain ⟨ys, n, _, _, hcl, hlen, hfld⟩ := DataW.trod_struct Try.underlying24 h
  rw [cellsOpSender] at hcl
  match cs, hcl with
  | [x0, x1, x2], _ =>
  match ys, hlen with
  | [y0, y1, y2], _ =>
  obtain ⟨i0, e0, _, _⟩ := DataW.trod_int Try.underlying3 (hfld 0 _ rfl)
  obtain ⟨xs1, v1, e1, r1⟩ := opensFrameS _ _ _ _ _ _ _ (hfld 1 _ rfl)
  obtain ⟨i2, e2, _, _⟩ := DataW.trod_int Try.underlying3 (hfld 2 _ rfl)
  simp [cellsOpInt] at e0
  simp [cellsOpFrameS] at e1
  simp [cellsOpInt] at e2
  subst e0
  subst e1
  subst e2
  exact ⟨_, _, xs1, _, rfl, r1⟩

set_option maxRecDepth 100000 in
theorem openSender_d {H : Type} {enc : TypeId × Value → H} {W : World} {base : Nat} {v : Value} {d : DataW H} {ps : List MemPlace} (hw : Value.okWide Try.prog W .any base 24 v) (h : DataW.Trod enc Try.prog W 0 (fun _ => true) true 24 v d ps) :
    ∃ (i0 : Int) (v1 : Value) (xs1 : List DFrame) (i2 : Int), v = vSender i0 v1 i2 ∧ RdL shFrame W v1 xs1 := by
  obtain ⟨cs, rfl, hsz⟩ := okWide_struct Try.underlying24 hw
  obtain ⟨fuel, hf⟩ := h
  obtain ⟨i0, v1, xs1, i2, e, r1⟩ := readSender_d hf
  refine ⟨i0, v1, xs1, i2, ?_, r1⟩
  simp [Value.cells] at e
  unfold vSender
  congr 1
  exact Array.toList_inj.1 e

end Go.Proofs.Ytcenngekjopjpaa
