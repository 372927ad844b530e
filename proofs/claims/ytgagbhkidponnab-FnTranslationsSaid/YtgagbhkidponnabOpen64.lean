/-
  A number argument opened, with its bounds.
-/
import Derived.Test.YtgagbhkidponnabDraw
import Derived.Test.YtgagbhkidponnabRows
import Derived.ProofKit
import Derived.OpenShut
import Derived.ChangeSame
namespace Go.Proofs.Ytgagbhkidponnab
open Go Go.RowKit Go.ChangeShapes Go.WideShapes Go.ChangeAt

set_option maxRecDepth 100000 in
theorem open_n64 {H : Type} {enc : TypeId × Value → H} {W : World} {base : Nat} {v : Value} {d : DataW H} {ps : List MemPlace} (hw : Value.okWide Try.prog W .any base 3 v) (h : DataW.Trod enc Try.prog W 0 (fun _ => true) true 3 v d ps) :
    ∃ q, v = .int .i64 q ∧ I64 q := by
  obtain ⟨q, rfl, _, _, hwf⟩ := open_int Try.underlying3 hw h
  refine ⟨q, rfl, ?_⟩
  simp [Lit.wf] at hwf
  unfold I64
  have hm : IntKind.i64.min = -9223372036854775808 := by decide
  omega

end Go.Proofs.Ytgagbhkidponnab
