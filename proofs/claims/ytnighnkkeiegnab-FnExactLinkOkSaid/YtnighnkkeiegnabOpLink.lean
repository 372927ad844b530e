/-
  Arguments of the law opened into data.
-/
import Derived.Test.YtnighnkkeiegnabAppendInts
import Derived.Test.YtnighnkkeiegnabDFrame
import Derived.Test.YtnighnkkeiegnabQFrame
import Derived.Test.YtnighnkkeiegnabQLink
import Derived.Test.YtnighnkkeiegnabQReceiver
import Derived.Test.YtnighnkkeiegnabQSender
import Derived.Test.YtnighnkkeiegnabRows
import Derived.Test.YtnighnkkeiegnabShpI
import Derived.ProofKit
import Derived.OpenShut
import Derived.ChangeSame
import Derived.Deep.Matrix
import Derived.Deep.Slices
namespace Go.Proofs.Ytnighnkkeiegnab
open Go Go.RowKit Go.ChangeShapes Go.WideShapes Go.ChangeAt
set_option linter.unusedVariables false

/-- cells that read as a thing of the shape -/
def Opens {α : Type} (s : Shp α) (t : TypeId) : Prop :=
  ∀ (H : Type) (enc : TypeId × Value → H) (W : World) (base fuel : Nat) (cs : List Value) (x : DataW H × List MemPlace), DataW.trod enc Try.prog W base (fun _ => true) true fuel t cs = some x → ∃ y, s.rd W cs y

theorem opens_slice {α : Type} [Inhabited α] {s : Shp α} {t e : TypeId} (hu : Try.prog.underlying t = some (.slice e)) (hn : Try.prog.cellsOf e = s.n) (h0 : 0 < s.n) (h : Opens s e) : Opens (shL s) t := by
  intro H enc W base fuel cs x ht
  rcases Go.Deep.open_slice hu ht with ⟨hcs, _⟩ | ⟨a, len, cap, m, n, D, Pl, hcs, _, hl, hm, hmm, _, hi⟩
  · exact ⟨[], _, hcs, none, 0, rfl, ⟨fun _ => rfl, Nat.le_refl _⟩, Nat.zero_le _, .inl rfl⟩
  · have hmm2 : m = cap := hmm
    subst hmm2
    unfold maxLen at hm
    obtain ⟨f, hf⟩ := Go.Deep.choose_lt (α := α) (n := len) (p := fun i y => ∃ cs', W.cells? base (a.add (i * Try.prog.cellsOf e)) (Try.prog.cellsOf e) = some cs' ∧ s.rd W cs' y) (fun i hi' => by
      obtain ⟨cs', h1, h2⟩ := hi i (by omega)
      obtain ⟨y, hy⟩ := h _ _ _ _ _ _ _ h2
      exact ⟨y, cs', h1, hy⟩)
    have hlen : ((List.range len).map f).length = len := by simp
    refine ⟨(List.range len).map f, _, hcs, some a, m, by rw [hlen], ⟨(fun q => by cases q), by rw [hlen]; exact hl⟩, by rw [hlen]; omega, ?_⟩
    rw [hlen]
    by_cases hz : len = 0
    · exact .inl hz
    · obtain ⟨b, off, spot⟩ := a
      have hspot : spot = none := by
        obtain ⟨cs', h1, _⟩ := hf 0 (by omega)
        obtain ⟨_, q2, q3⟩ := World.cells?_some h1
        rw [hn] at q2 q3
        have q4 := q3 0 h0
        rw [List.getElem?_eq_getElem (by omega)] at q4
        simpa [Addr.add] using World.cell?_spot q4
      subst hspot
      refine .inr ⟨b, off, rfl, fun k hk => ?_⟩
      obtain ⟨cs', h1, h2⟩ := hf k hk
      obtain ⟨_, q2, q3⟩ := World.cells?_some h1
      rw [hn] at q2 q3
      refine ⟨cs', fun j hj => ?_, ?_⟩
      · have := q3 j (by omega)
        rw [addr_add, addr_add, Nat.add_assoc] at this
        rw [Nat.add_assoc]
        exact this
      · rw [List.getD_eq_getElem?_getD, List.getElem?_map, List.getElem?_range hk]
        exact h2

set_option maxRecDepth 100000 in
theorem cellsOpInt : Try.prog.cellsOf 3 = 1 := by kernel_rfl

theorem opensInt : Opens shI 3 := by
  intro H enc W base fuel cs x ht
  obtain ⟨i, e, _, _⟩ := DataW.trod_int Try.underlying3 ht
  exact ⟨i, e⟩

set_option maxRecDepth 100000 in
theorem cellsOpIntS : Try.prog.cellsOf 23 = 1 := by kernel_rfl

theorem opensIntS : Opens (shL shI) 23 := opens_slice Try.underlying23 cellsOpInt (by decide) opensInt

set_option maxRecDepth 100000 in
theorem openIntS_d {H : Type} {enc : TypeId × Value → H} {W : World} {base : Nat} {v : Value} {d : DataW H} {ps : List MemPlace} (hw : Value.okWide Try.prog W .any base 23 v) (h : DataW.Trod enc Try.prog W 0 (fun _ => true) true 23 v d ps) :
    ∃ a n c, ∃ xs : List Int, v = .slice a n c ∧ RdL shI W (.slice a n c) xs := by
  obtain ⟨a0, len0, cap0, rfl⟩ := okWide_slice Try.underlying23 hw
  obtain ⟨fuel, hf⟩ := h
  obtain ⟨xs, v, e, r⟩ := opensIntS _ _ _ _ _ _ _ hf
  simp [Value.cells] at e
  subst e
  exact ⟨_, _, _, xs, rfl, r⟩

set_option maxRecDepth 100000 in
theorem cellsOpFrame : Try.prog.cellsOf 134 = 2 := by kernel_rfl

set_option maxRecDepth 100000 in
theorem readFrame_d {H : Type} {enc : TypeId × Value → H} {W : World} {base fuel : Nat} {cs : List Value} {x : DataW H × List MemPlace} (h : DataW.trod enc Try.prog W base (fun _ => true) true fuel 134 cs = some x) :
    ∃ (i0 : Int) (v1 : Value) (xs1 : List Int), cs = [.int .i64 i0, v1] ∧ RdL shI W v1 xs1 := by
  obtain ⟨ys, n, _, _, hcl, hlen, hfld⟩ := DataW.trod_struct Try.underlying134 h
  rw [cellsOpFrame] at hcl
  match cs, hcl with
  | [x0, x1], _ =>
  match ys, hlen with
  | [y0, y1], _ =>
  obtain ⟨i0, e0, _, _⟩ := DataW.trod_int Try.underlying3 (hfld 0 _ rfl)
  obtain ⟨xs1, v1, e1, r1⟩ := opensIntS _ _ _ _ _ _ _ (hfld 1 _ rfl)
  simp [cellsOpInt] at e0
  simp [cellsOpIntS] at e1
  subst e0
  subst e1
  exact ⟨_, _, xs1, rfl, r1⟩

theorem opensFrame : Opens shFrame 134 := by
  intro H enc W base fuel cs x ht
  obtain ⟨i0, v1, xs1, rfl, r1⟩ := readFrame_d ht
  exact ⟨⟨i0, xs1⟩, ⟨v1, rfl, r1⟩⟩

set_option maxRecDepth 100000 in
theorem openFrame_d {H : Type} {enc : TypeId × Value → H} {W : World} {base : Nat} {v : Value} {d : DataW H} {ps : List MemPlace} (hw : Value.okWide Try.prog W .any base 134 v) (h : DataW.Trod enc Try.prog W 0 (fun _ => true) true 134 v d ps) :
    ∃ (i0 : Int) (v1 : Value) (xs1 : List Int), v = vFrame i0 v1 ∧ RdL shI W v1 xs1 := by
  obtain ⟨cs, rfl, hsz⟩ := okWide_struct Try.underlying134 hw
  obtain ⟨fuel, hf⟩ := h
  obtain ⟨i0, v1, xs1, e, r1⟩ := readFrame_d hf
  refine ⟨i0, v1, xs1, ?_, r1⟩
  simp [Value.cells] at e
  unfold vFrame
  congr 1
  exact Array.toList_inj.1 e

set_option maxRecDepth 100000 in
theorem cellsOpFrameS : Try.prog.cellsOf 40 = 1 := by kernel_rfl

theorem opensFrameS : Opens (shL shFrame) 40 := opens_slice Try.underlying40 cellsOpFrame (by decide) opensFrame

set_option maxRecDepth 100000 in
theorem openFrameS_d {H : Type} {enc : TypeId × Value → H} {W : World} {base : Nat} {v : Value} {d : DataW H} {ps : List MemPlace} (hw : Value.okWide Try.prog W .any base 40 v) (h : DataW.Trod enc Try.prog W 0 (fun _ => true) true 40 v d ps) :
    ∃ a n c, ∃ xs : List DFrame, v = .slice a n c ∧ RdL shFrame W (.slice a n c) xs := by
  obtain ⟨a0, len0, cap0, rfl⟩ := okWide_slice Try.underlying40 hw
  obtain ⟨fuel, hf⟩ := h
  obtain ⟨xs, v, e, r⟩ := opensFrameS _ _ _ _ _ _ _ hf
  simp [Value.cells] at e
  subst e
  exact ⟨_, _, _, xs, rfl, r⟩

set_option maxRecDepth 100000 in
theorem cellsOpSender : Try.prog.cellsOf 42 = 3 := by kernel_rfl

set_option maxRecDepth 100000 in
theorem readSender_d {H : Type} {enc : TypeId × Value → H} {W : World} {base fuel : Nat} {cs : List Value} {x : DataW H × List MemPlace} (h : DataW.trod enc Try.prog W base (fun _ => true) true fuel 42 cs = some x) :
    ∃ (i0 : Int) (v1 : Value) (xs1 : List DFrame) (i2 : Int), cs = [.int .i64 i0, v1, .int .i64 i2] ∧ RdL shFrame W v1 xs1 := by
  obtain ⟨ys, n, _, _, hcl, hlen, hfld⟩ := DataW.trod_struct Try.underlying42 h
  rw [cellsOpSender] at hcl
  match cs, hcl with
  | [x0, x1, x2], _ =>
  match ys, hlen with
  | [y0, y1, y2], _ =>
  obtain ⟨i0, e0, _, _⟩ := DataW.trod_int Try.underlying3 (hfld 0 _ rfl)
  obtain ⟨xs1, v1, e1, r1⟩ := opensFrameS _ _ _ _ _ _ _ (hfld 1 _ rfl)
  obtain ⟨i2, e2, _, _⟩ := DataW.trod_int Try.underlying3 (hfld 2 _ rfl)
  simp [cellsOpInt] at e0
  simp [cellsOpFrameS] at e1
  simp [cellsOpInt] at e2
  subst e0
  subst e1
  subst e2
  exact ⟨_, _, xs1, _, rfl, r1⟩

set_option maxRecDepth 100000 in
theorem openSender_d {H : Type} {enc : TypeId × Value → H} {W : World} {base : Nat} {v : Value} {d : DataW H} {ps : List MemPlace} (hw : Value.okWide Try.prog W .any base 42 v) (h : DataW.Trod enc Try.prog W 0 (fun _ => true) true 42 v d ps) :
    ∃ (i0 : Int) (v1 : Value) (xs1 : List DFrame) (i2 : Int), v = vSender i0 v1 i2 ∧ RdL shFrame W v1 xs1 := by
  obtain ⟨cs, rfl, hsz⟩ := okWide_struct Try.underlying42 hw
  obtain ⟨fuel, hf⟩ := h
  obtain ⟨i0, v1, xs1, i2, e, r1⟩ := readSender_d hf
  refine ⟨i0, v1, xs1, i2, ?_, r1⟩
  simp [Value.cells] at e
  unfold vSender
  congr 1
  exact Array.toList_inj.1 e

set_option maxRecDepth 100000 in
theorem cellsOpIntSS : Try.prog.cellsOf 25 = 1 := by kernel_rfl

theorem opensIntSS : Opens (shL (shL shI)) 25 := opens_slice Try.underlying25 cellsOpIntS (by decide) opensIntS

set_option maxRecDepth 100000 in
theorem openIntSS_d {H : Type} {enc : TypeId × Value → H} {W : World} {base : Nat} {v : Value} {d : DataW H} {ps : List MemPlace} (hw : Value.okWide Try.prog W .any base 25 v) (h : DataW.Trod enc Try.prog W 0 (fun _ => true) true 25 v d ps) :
    ∃ a n c, ∃ xs : List (List Int), v = .slice a n c ∧ RdL (shL shI) W (.slice a n c) xs := by
  obtain ⟨a0, len0, cap0, rfl⟩ := okWide_slice Try.underlying25 hw
  obtain ⟨fuel, hf⟩ := h
  obtain ⟨xs, v, e, r⟩ := opensIntSS _ _ _ _ _ _ _ hf
  simp [Value.cells] at e
  subst e
  exact ⟨_, _, _, xs, rfl, r⟩

set_option maxRecDepth 100000 in
theorem cellsOpReceiver : Try.prog.cellsOf 44 = 2 := by kernel_rfl

set_option maxRecDepth 100000 in
theorem readReceiver_d {H : Type} {enc : TypeId × Value → H} {W : World} {base fuel : Nat} {cs : List Value} {x : DataW H × List MemPlace} (h : DataW.trod enc Try.prog W base (fun _ => true) true fuel 44 cs = some x) :
    ∃ (i0 : Int) (v1 : Value) (xs1 : List (List Int)), cs = [.int .i64 i0, v1] ∧ RdL (shL shI) W v1 xs1 := by
  obtain ⟨ys, n, _, _, hcl, hlen, hfld⟩ := DataW.trod_struct Try.underlying44 h
  rw [cellsOpReceiver] at hcl
  match cs, hcl with
  | [x0, x1], _ =>
  match ys, hlen with
  | [y0, y1], _ =>
  obtain ⟨i0, e0, _, _⟩ := DataW.trod_int Try.underlying3 (hfld 0 _ rfl)
  obtain ⟨xs1, v1, e1, r1⟩ := opensIntSS _ _ _ _ _ _ _ (hfld 1 _ rfl)
  simp [cellsOpInt] at e0
  simp [cellsOpIntSS] at e1
  subst e0
  subst e1
  exact ⟨_, _, xs1, rfl, r1⟩

set_option maxRecDepth 100000 in
theorem openReceiver_d {H : Type} {enc : TypeId × Value → H} {W : World} {base : Nat} {v : Value} {d : DataW H} {ps : List MemPlace} (hw : Value.okWide Try.prog W .any base 44 v) (h : DataW.Trod enc Try.prog W 0 (fun _ => true) true 44 v d ps) :
    ∃ (i0 : Int) (v1 : Value) (xs1 : List (List Int)), v = vReceiver i0 v1 ∧ RdL (shL shI) W v1 xs1 := by
  obtain ⟨cs, rfl, hsz⟩ := okWide_struct Try.underlying44 hw
  obtain ⟨fuel, hf⟩ := h
  obtain ⟨i0, v1, xs1, e, r1⟩ := readReceiver_d hf
  refine ⟨i0, v1, xs1, ?_, r1⟩
  simp [Value.cells] at e
  unfold vReceiver
  congr 1
  exact Array.toList_inj.1 e

set_option maxRecDepth 100000 in
theorem cellsOpLink : Try.prog.cellsOf 46 = 7 := by kernel_rfl

set_option maxRecDepth 100000 in
theorem readLink_d {H : Type} {enc : TypeId × Value → H} {W : World} {base fuel : Nat} {cs : List Value} {x : DataW H × List MemPlace} (h : DataW.trod enc Try.prog W base (fun _ => true) true fuel 46 cs = some x) :
    ∃ (i0 : Int) (v1 : Value) (xs1 : List DFrame) (i2 : Int) (i3 : Int) (v4 : Value) (xs4 : List (List Int)) (v5 : Value) (xs5 : List (List Int)) (v6 : Value) (xs6 : List Int), cs = [.int .i64 i0, v1, .int .i64 i2, .int .i64 i3, v4, v5, v6] ∧ RdL shFrame W v1 xs1 ∧ RdL (shL shI) W v4 xs4 ∧ RdL (shL shI) W v5 xs5 ∧ RdL shI W v6 xs6 := by
  obtain ⟨ys, n, _, _, hcl, hlen, hfld⟩ := DataW.trod_struct Try.underlying46 h
  rw [cellsOpLink] at hcl
  match cs, hcl with
  | [x0, x1, x2, x3, x4, x5, x6], _ =>
  match ys, hlen with
  | [y0, y1, y2, y3], _ =>
  obtain ⟨i0, v1, xs1, i2, e0, r1⟩ := readSender_d (hfld 0 _ rfl)
  obtain ⟨i3, v4, xs4, e1, r4⟩ := readReceiver_d (hfld 1 _ rfl)
  obtain ⟨xs5, v5, e2, r5⟩ := opensIntSS _ _ _ _ _ _ _ (hfld 2 _ rfl)
  obtain ⟨xs6, v6, e3, r6⟩ := opensIntS _ _ _ _ _ _ _ (hfld 3 _ rfl)
  simp [cellsOpSender] at e0
  simp [cellsOpReceiver] at e1
  simp [cellsOpIntSS] at e2
  simp [cellsOpIntS] at e3
  obtain ⟨rfl, rfl, rfl⟩ := e0
  obtain ⟨rfl, rfl⟩ := e1
  subst e2
  subst e3
  exact ⟨_, _, xs1, _, _, _, xs4, _, xs5, _, xs6, rfl, r1, r4, r5, r6⟩

set_option maxRecDepth 100000 in
theorem openLink_d {H : Type} {enc : TypeId × Value → H} {W : World} {base : Nat} {v : Value} {d : DataW H} {ps : List MemPlace} (hw : Value.okWide Try.prog W .any base 46 v) (h : DataW.Trod enc Try.prog W 0 (fun _ => true) true 46 v d ps) :
    ∃ (i0 : Int) (v1 : Value) (xs1 : List DFrame) (i2 : Int) (i3 : Int) (v4 : Value) (xs4 : List (List Int)) (v5 : Value) (xs5 : List (List Int)) (v6 : Value) (xs6 : List Int), v = vLink i0 v1 i2 i3 v4 v5 v6 ∧ RdL shFrame W v1 xs1 ∧ RdL (shL shI) W v4 xs4 ∧ RdL (shL shI) W v5 xs5 ∧ RdL shI W v6 xs6 := by
  obtain ⟨cs, rfl, hsz⟩ := okWide_struct Try.underlying46 hw
  obtain ⟨fuel, hf⟩ := h
  obtain ⟨i0, v1, xs1, i2, i3, v4, xs4, v5, xs5, v6, xs6, e, r1, r4, r5, r6⟩ := readLink_d hf
  refine ⟨i0, v1, xs1, i2, i3, v4, xs4, v5, xs5, v6, xs6, ?_, r1, r4, r5, r6⟩
  simp [Value.cells] at e
  unfold vLink
  congr 1
  exact Array.toList_inj.1 e

end Go.Proofs.Ytnighnkkeiegnab
