/-
  Arguments of the law opened into data.
-/
import Derived.Test.YtdddidnibelmhaaAppendInts
import Derived.Test.YtdddidnibelmhaaDBar
import Derived.Test.YtdddidnibelmhaaDNode
import Derived.Test.YtdddidnibelmhaaQBar
import Derived.Test.YtdddidnibelmhaaQNode
import Derived.Test.YtdddidnibelmhaaRows
import Derived.Test.YtdddidnibelmhaaShpI
import Derived.ProofKit
import Derived.OpenShut
import Derived.ChangeSame
import Derived.Deep.Matrix
import Derived.Deep.Slices
namespace Go.Proofs.Ytdddidnibelmhaa
open Go Go.RowKit Go.ChangeShapes Go.WideShapes Go.ChangeAt
set_option linter.unusedVariables false

/-- cells that read as a thing of the shape -/
def Opens {α : Type} (s : Shp α) (t : TypeId) : Prop :=
  ∀ (H : Type) (enc : TypeId × Value → H) (W : World) (base fuel : Nat) (cs : List Value) (x : DataW H × List MemPlace), DataW.trod enc Try.prog W base (fun _ => true) true fuel t cs = some x → ∃ y, s.rd W cs y

theorem opens_slice {α : Type} [Inhabited α] {s : Shp α} {t e : TypeId} (hu : Try.prog.underlying t = some (.slice e)) (hn : Try.prog.cellsOf e = s.n) (h0 : 0 < s.n) (h : Opens s e) : Opens (shL s) t := by
  intro H enc W base fuel cs x ht
  rcases Go.Deep.open_slice hu ht with ⟨hcs, _⟩ | ⟨a, len, cap, m, n, D, Pl, hcs, _, hl, hm, hmm, _, hi⟩
  · exact ⟨[], _, hcs, none, 0, rfl, ⟨fun _ => rfl, Nat.le_refl _⟩, Nat.zero_le _, .inl rfl⟩
  · have hmm2 : m = cap := hmm
    subst hmm2
    unfold maxLen at hm
    obtain ⟨f, hf⟩ := Go.Deep.choose_lt (α := α) (n := len) (p := fun i y => ∃ cs', W.cells? base (a.add (i * Try.prog.cellsOf e)) (Try.prog.cellsOf e) = some cs' ∧ s.rd W cs' y) (fun i hi' => by
      obtain ⟨cs', h1, h2⟩ := hi i (by omega)
      obtain ⟨y, hy⟩ := h _ _ _ _ _ _ _ h2
      exact ⟨y, cs', h1, hy⟩)
    have hlen : ((List.range len).map f).length = len := by simp
    refine ⟨(List.range len).map f, _, hcs, some a, m, by rw [hlen], ⟨(fun q => by cases q), by rw [hlen]; exact hl⟩, by rw [hlen]; omega, ?_⟩
    rw [hlen]
    by_cases hz : len = 0
    · exact .inl hz
    · obtain ⟨b, off, spot⟩ := a
      have hspot : spot = none := by
        obtain ⟨cs', h1, _⟩ := hf 0 (by omega)
        obtain ⟨_, q2, q3⟩ := World.cells?_some h1
        rw [hn] at q2 q3
        have q4 := q3 0 h0
        rw [List.getElem?_eq_getElem (by omega)] at q4
        simpa [Addr.add] using World.cell?_spot q4
      subst hspot
      refine .inr ⟨b, off, rfl, fun k hk => ?_⟩
      obtain ⟨cs', h1, h2⟩ := hf k hk
      obtain ⟨_, q2, q3⟩ := World.cells?_some h1
      rw [hn] at q2 q3
      refine ⟨cs', fun j hj => ?_, ?_⟩
      · have := q3 j (by omega)
        rw [addr_add, addr_add, Nat.add_assoc] at this
        rw [Nat.add_assoc]
        exact this
      · rw [List.getD_eq_getElem?_getD, List.getElem?_map, List.getElem?_range hk]
        exact h2

set_option maxRecDepth 100000 in
theorem cellsOpInt : Try.prog.cellsOf 3 = 1 := by kernel_rfl

theorem opensInt : Opens shI 3 := by
  intro H enc W base fuel cs x ht
  obtain ⟨i, e, _, _⟩ := DataW.trod_int Try.underlying3 ht
  exact ⟨i, e⟩

set_option maxRecDepth 100000 in
theorem cellsOpNode : Try.prog.cellsOf 55 = 3 := by kernel_rfl

set_option maxRecDepth 100000 in
theorem readNode_d {H : Type} {enc : TypeId × Value → H} {W : World} {base fuel : Nat} {cs : List Value} {x : DataW H × List MemPlace} (h : DataW.trod enc Try.prog W base (fun _ => true) true fuel 55 cs = some x) :
    ∃ (i0 : Int) (i1 : Int) (i2 : Int), cs = [.int .i64 i0, .int .i64 i1, .int .i64 i2] := by
  obtain ⟨ys, n, _, _, hcl, hlen, hfld⟩ := DataW.trod_struct Try.underlying55 h
  rw [cellsOpNode] at hcl
  match cs, hcl with
  | [x0, x1, x2], _ =>
  match ys, hlen with
  | [y0, y1, y2], _ =>
  obtain ⟨i0, e0, _, _⟩ := DataW.trod_int Try.underlying3 (hfld 0 _ rfl)
  obtain ⟨i1, e1, _, _⟩ := DataW.trod_int Try.underlying3 (hfld 1 _ rfl)
  obtain ⟨i2, e2, _, _⟩ := DataW.trod_int Try.underlying3 (hfld 2 _ rfl)
  simp [cellsOpInt] at e0
  simp [cellsOpInt] at e1
  simp [cellsOpInt] at e2
  subst e0
  subst e1
  subst e2
  exact ⟨_, _, _, rfl⟩

theorem opensNode : Opens shNode 55 := by
  intro H enc W base fuel cs x ht
  obtain ⟨i0, i1, i2, rfl⟩ := readNode_d ht
  exact ⟨⟨i0, i1, i2⟩, rfl⟩

set_option maxRecDepth 100000 in
theorem openNode_d {H : Type} {enc : TypeId × Value → H} {W : World} {base : Nat} {v : Value} {d : DataW H} {ps : List MemPlace} (hw : Value.okWide Try.prog W .any base 55 v) (h : DataW.Trod enc Try.prog W 0 (fun _ => true) true 55 v d ps) :
    ∃ (i0 : Int) (i1 : Int) (i2 : Int), v = vNode i0 i1 i2 := by
  obtain ⟨cs, rfl, hsz⟩ := okWide_struct Try.underlying55 hw
  obtain ⟨fuel, hf⟩ := h
  obtain ⟨i0, i1, i2, e⟩ := readNode_d hf
  refine ⟨i0, i1, i2, ?_⟩
  simp [Value.cells] at e
  unfold vNode
  congr 1
  exact Array.toList_inj.1 e

set_option maxRecDepth 100000 in
theorem cellsOpNodeS : Try.prog.cellsOf 23 = 1 := by kernel_rfl

theorem opensNodeS : Opens (shL shNode) 23 := opens_slice Try.underlying23 cellsOpNode (by decide) opensNode

set_option maxRecDepth 100000 in
theorem openNodeS_d {H : Type} {enc : TypeId × Value → H} {W : World} {base : Nat} {v : Value} {d : DataW H} {ps : List MemPlace} (hw : Value.okWide Try.prog W .any base 23 v) (h : DataW.Trod enc Try.prog W 0 (fun _ => true) true 23 v d ps) :
    ∃ a n c, ∃ xs : List DNode, v = .slice a n c ∧ RdL shNode W (.slice a n c) xs := by
  obtain ⟨a0, len0, cap0, rfl⟩ := okWide_slice Try.underlying23 hw
  obtain ⟨fuel, hf⟩ := h
  obtain ⟨xs, v, e, r⟩ := opensNodeS _ _ _ _ _ _ _ hf
  simp [Value.cells] at e
  subst e
  exact ⟨_, _, _, xs, rfl, r⟩

set_option maxRecDepth 100000 in
theorem cellsOpBar : Try.prog.cellsOf 53 = 2 := by kernel_rfl

set_option maxRecDepth 100000 in
theorem readBar_d {H : Type} {enc : TypeId × Value → H} {W : World} {base fuel : Nat} {cs : List Value} {x : DataW H × List MemPlace} (h : DataW.trod enc Try.prog W base (fun _ => true) true fuel 53 cs = some x) :
    ∃ (i0 : Int) (i1 : Int), cs = [.int .i64 i0, .int .i64 i1] := by
  obtain ⟨ys, n, _, _, hcl, hlen, hfld⟩ := DataW.trod_struct Try.underlying53 h
  rw [cellsOpBar] at hcl
  match cs, hcl with
  | [x0, x1], _ =>
  match ys, hlen with
  | [y0, y1], _ =>
  obtain ⟨i0, e0, _, _⟩ := DataW.trod_int Try.underlying3 (hfld 0 _ rfl)
  obtain ⟨i1, e1, _, _⟩ := DataW.trod_int Try.underlying3 (hfld 1 _ rfl)
  simp [cellsOpInt] at e0
  simp [cellsOpInt] at e1
  subst e0
  subst e1
  exact ⟨_, _, rfl⟩

theorem opensBar : Opens shBar 53 := by
  intro H enc W base fuel cs x ht
  obtain ⟨i0, i1, rfl⟩ := readBar_d ht
  exact ⟨⟨i0, i1⟩, rfl⟩

set_option maxRecDepth 100000 in
theorem openBar_d {H : Type} {enc : TypeId × Value → H} {W : World} {base : Nat} {v : Value} {d : DataW H} {ps : List MemPlace} (hw : Value.okWide Try.prog W .any base 53 v) (h : DataW.Trod enc Try.prog W 0 (fun _ => true) true 53 v d ps) :
    ∃ (i0 : Int) (i1 : Int), v = vBar i0 i1 := by
  obtain ⟨cs, rfl, hsz⟩ := okWide_struct Try.underlying53 hw
  obtain ⟨fuel, hf⟩ := h
  obtain ⟨i0, i1, e⟩ := readBar_d hf
  refine ⟨i0, i1, ?_⟩
  simp [Value.cells] at e
  unfold vBar
  congr 1
  exact Array.toList_inj.1 e

set_option maxRecDepth 100000 in
theorem cellsOpBarS : Try.prog.cellsOf 22 = 1 := by kernel_rfl

theorem opensBarS : Opens (shL shBar) 22 := opens_slice Try.underlying22 cellsOpBar (by decide) opensBar

set_option maxRecDepth 100000 in
theorem openBarS_d {H : Type} {enc : TypeId × Value → H} {W : World} {base : Nat} {v : Value} {d : DataW H} {ps : List MemPlace} (hw : Value.okWide Try.prog W .any base 22 v) (h : DataW.Trod enc Try.prog W 0 (fun _ => true) true 22 v d ps) :
    ∃ a n c, ∃ xs : List DBar, v = .slice a n c ∧ RdL shBar W (.slice a n c) xs := by
  obtain ⟨a0, len0, cap0, rfl⟩ := okWide_slice Try.underlying22 hw
  obtain ⟨fuel, hf⟩ := h
  obtain ⟨xs, v, e, r⟩ := opensBarS _ _ _ _ _ _ _ hf
  simp [Value.cells] at e
  subst e
  exact ⟨_, _, _, xs, rfl, r⟩

end Go.Proofs.Ytdddidnibelmhaa
