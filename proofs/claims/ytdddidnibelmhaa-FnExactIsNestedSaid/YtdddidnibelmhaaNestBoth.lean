/-
  IsNested: both sides answer alike, at windows of 64-bit numbers; such windows opened.
-/
import Derived.Test.YtdddidnibelmhaaOpNodesBars
import Derived.Test.YtdddidnibelmhaaNestS
import Derived.Test.YtdddidnibelmhaaNestI
import Derived.Test.YtdddidnibelmhaaRIsNested
namespace Go.Proofs.Ytdddidnibelmhaa
open Go Go.RowKit Go.ChangeShapes Go.WideShapes Go.ChangeAt
set_option linter.unusedVariables false

theorem isNested_both (xs0 : List DBar) (xs1 : List DNode) (hb : B64 xs0) (h0 : szL shBar xs0 ≤ 1048576) (h1 : szL shNode xs1 ≤ 1048576) : ∃ (br0 : Bool), (∀ (W : World), ∀ u0 u1, RdL shBar W u0 xs0 → RdL shNode W u1 xs1 → Calls Try.prog 9 #[u0, u1] W (ResSIsNested br0 W)) ∧ ∀ (W : World), ∀ u0 u1, RdL shBar W u0 xs0 → RdL shNode W u1 xs1 → Calls Try.prog 12 #[u0, u1] W (ResIIsNested br0 W) := by
  by_cases h : NestPS xs0 xs1
  · have h2 := nest_both.1 h
    exact ⟨true, fun W u0 u1 H0 H1 => (specNest W u0 u1 xs0 xs1 H0 H1 h0 h1 hb).mono (bpost_yes h), fun W u0 u1 H0 H1 => (implNest W u0 u1 xs0 xs1 H0 H1 h0 h1 hb).mono (bpost_yes h2)⟩
  · have h2 := fun q => h (nest_both.2 q)
    exact ⟨false, fun W u0 u1 H0 H1 => (specNest W u0 u1 xs0 xs1 H0 H1 h0 h1 hb).mono (bpost_no h), fun W u0 u1 H0 H1 => (implNest W u0 u1 xs0 xs1 H0 H1 h0 h1 hb).mono (bpost_no h2)⟩

def shBar64 : Shp DBar where
  n := 2
  rd _ cs x := cs = [.int .i64 x.f0, .int .i64 x.f1] ∧ I64 x.f0 ∧ I64 x.f1
  ow _ _ _ cs x := cs = [.int .i64 x.f0, .int .i64 x.f1] ∧ I64 x.f0 ∧ I64 x.f1
  size _ := 0
  ec _ := 2
  em m x := ⟨(m : Int), ((m + 1 : Nat) : Int)⟩
  c := 2
  len := by rintro w cs x ⟨rfl, _⟩; rfl
  grow := fun h _ => h
  keep := fun h _ _ => h
  read := fun h => h
  ecb := fun _ => by omega

theorem readBar64_d {H : Type} {enc : TypeId × Value → H} {W : World} {base fuel : Nat} {cs : List Value} {x : DataW H × List MemPlace} (h : DataW.trod enc Try.prog W base (fun _ => true) true fuel 53 cs = some x) :
    ∃ (i0 : Int) (i1 : Int), cs = [.int .i64 i0, .int .i64 i1] ∧ I64 i0 ∧ I64 i1 := by
  obtain ⟨ys, n, _, _, hcl, hlen, hfld⟩ := DataW.trod_struct Try.underlying53 h
  rw [cellsOpBar] at hcl
  match cs, hcl with
  | [x0, x1], _ =>
  match ys, hlen with
  | [y0, y1], _ =>
  obtain ⟨i0, e0, p0, q0⟩ := DataW.trod_int Try.underlying3 (hfld 0 _ rfl)
  obtain ⟨i1, e1, p1, q1⟩ := DataW.trod_int Try.underlying3 (hfld 1 _ rfl)
  simp [cellsOpInt] at e0
  simp [cellsOpInt] at e1
  subst e0
  subst e1
  have hm : IntKind.i64.min = -9223372036854775808 := by decide
  have wf : ∀ q : Int, (Lit.int .i64 q).wf = true → I64 q := by
    intro q hq
    simp [Lit.wf] at hq
    unfold I64
    omega
  exact ⟨_, _, rfl, wf _ (by first | exact p0 | exact q0 | exact p0.2 | exact q0.2 | exact q0.1 | exact p0.1), wf _ (by first | exact p1 | exact q1 | exact p1.2 | exact q1.2 | exact q1.1 | exact p1.1)⟩

theorem opensBar64 : Opens shBar64 53 := by
  intro H enc W base fuel cs x ht
  obtain ⟨i0, i1, rfl, h0, h1⟩ := readBar64_d ht
  exact ⟨⟨i0, i1⟩, rfl, h0, h1⟩

theorem opensBarS64 : Opens (shL shBar64) 22 := opens_slice Try.underlying22 cellsOpBar (by decide) opensBar64

theorem openBarS64_d {H : Type} {enc : TypeId × Value → H} {W : World} {base : Nat} {v : Value} {d : DataW H} {ps : List MemPlace} (hw : Value.okWide Try.prog W .any base 22 v) (h : DataW.Trod enc Try.prog W 0 (fun _ => true) true 22 v d ps) :
    ∃ a n c, ∃ xs : List DBar, v = .slice a n c ∧ B64 xs ∧ RdL shBar W (.slice a n c) xs := by
  obtain ⟨a0, len0, cap0, rfl⟩ := okWide_slice Try.underlying22 hw
  obtain ⟨fuel, hf⟩ := h
  obtain ⟨xs, v, e, r⟩ := opensBarS64 _ _ _ _ _ _ _ hf
  simp [Value.cells] at e
  subst e
  obtain ⟨a, cap, hv, hc, hm, hr⟩ := (show RdL shBar64 W (.slice a0 len0 cap0) xs from r)
  refine ⟨_, _, _, xs, rfl, ?_, a, cap, hv, hc, hm, ?_⟩
  · intro k hk
    obtain ⟨b, off, _, hcell⟩ := hr.resolve_left (by omega)
    obtain ⟨cs, _, _, h1, h2⟩ := hcell k hk
    exact ⟨h1, h2⟩
  · rcases hr with h0 | ⟨b, off, e, hcell⟩
    · exact .inl h0
    · refine .inr ⟨b, off, e, fun k hk => ?_⟩
      obtain ⟨cs, h1, h2, _, _⟩ := hcell k hk
      exact ⟨cs, h1, h2⟩

end Go.Proofs.Ytdddidnibelmhaa
