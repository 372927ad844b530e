/-
  The walk of FnExactParseUint: at every string the law returns true and writes nothing that was there.
-/
import Derived.Test.YteaaobklfhlgiaaDoorParseImpl
namespace Go.Proofs.YteaaobklfhlgiaaDoor
open Go Go.RowKit Go.Lib

theorem var_below {P : Program} {w w' : World} {name : String} {cs : Array Value} (hb : Below w.heap.size w w') (h : w.var? P name = some cs) : w'.var? P name = some cs := by
  unfold World.var? at h ⊢
  cases hg : P.globalNamed name with
  | none => simp [hg] at h
  | some g =>
    simp only [hg, Option.bind_some] at h ⊢
    have hlt : g < w.heap.size := by
      rcases Nat.lt_or_ge g w.heap.size with h' | h'
      · exact h'
      · simp [Array.getElem?_eq_none h'] at h
    rw [hb.block g hlt]
    exact h
theorem errs_below {w w' : World} (hb : Below w.heap.size w w') (h : ErrVars w) : ErrVars w' := by
  obtain ⟨⟨t1, p1, h1⟩, ⟨t2, p2, h2⟩⟩ := h
  exact ⟨⟨t1, p1, var_below hb h1⟩, ⟨t2, p2, var_below hb h2⟩⟩

end Go.Proofs.YteaaobklfhlgiaaDoor
