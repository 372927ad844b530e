/-
  A region that draws its order, whose calls make memory: one walk in the text's order, over all worlds that have grown.
-/
import Derived.Test.YtnighnkkeiegnabChg
import Derived.Deep.QuietTactic
namespace Go.Proofs.Ytnighnkkeiegnab
open Go Go.RowKit

/-- what is left of such a walk (a structure, so that it is not reckoned out) -/
structure Gq (P : Program) (ops : Array Oper) (C : World → Prop) (Q : Act → Prop) (l : List Oper) (a : Act) : Prop where
  out : wpQuiet P ops C Q l a

theorem wp_region_grow {P : Program} {id : Nat} {Q : Exit → Act → World → Prop} {a : Act} {w : World} {l : List Oper} (hm : P.follows .mixedOrders = true) (hB : Region.lexB .any l.toArray = true)
    (h : Gq P l.toArray (fun w' => w.grownBy w' none) (fun a' => ∀ w', w.grownBy w' none → Q .normal a' w') l a) : (Code.region id l.toArray true).wp P Q a w :=
  wp_region_quiet (C := fun w' => w.grownBy w' none) hm hB (gby_drew (gby_refl _ _)) (by simpa using h.out)

theorem gq_yes {P : Program} {ops : Array Oper} {C : World → Prop} {Q : Act → Prop} {l : List Oper} {o : Oper} {a : Act} (hc : Region.wanted o (yielded ops a.tmps) = true) (v : Value) (h : ∀ w, C w → o.quietAt P a C w v) (hk : Gq P ops C Q l (a.put o.dst v)) : Gq P ops C Q (o :: l) a := by
  refine ⟨wpQuiet_step fun K hK => ?_⟩
  rw [if_pos hc]
  exact ⟨v, h, hK _ hk.out⟩
theorem gq_no {P : Program} {ops : Array Oper} {C : World → Prop} {Q : Act → Prop} {l : List Oper} {o : Oper} {a : Act} (hc : Region.wanted o (yielded ops a.tmps) = false) (hk : Gq P ops C Q l (a.put o.dst undef)) : Gq P ops C Q (o :: l) a := by
  refine ⟨wpQuiet_step fun K hK => ?_⟩
  rw [if_neg (by rw [hc]; exact Bool.false_ne_true)]
  exact hK _ hk.out
theorem gq_nil {P : Program} {ops : Array Oper} {C : World → Prop} {Q : Act → Prop} {a : Act} (h : Q a) : Gq P ops C Q [] a := ⟨wpQuiet_nil h⟩

end Go.Proofs.Ytnighnkkeiegnab
