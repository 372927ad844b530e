/-
  A row that says 'leaving', of a call that starts no goroutine.
-/
import Derived.Test.YtokpmbagidokkacPlain
import Derived.Conc.Holds
import Derived.Handed
import Derived.ProofKit
namespace Go.Proofs.Ytokpmbagidokkac
open Go Go.Conc

/-- one goroutine alone: nothing is left behind -/
theorem leaving_alone {P : Program} {n : Nat} {m : Machine} {fr : Frame} {w w' : World} (h : runN P n m = .next (lone fr [] w)) : leavingAtReturn P (lone fr [] w) w' (runNT P (n + 1) m #[]).2 := by
  have none : ∀ (i : Nat) (g : Goroutine), (lone fr [] w).gs[i]? = some g → i = 0 := fun i g hg => by
    cases i with
    | zero => rfl
    | succ k => simp [lone] at hg
  exact ⟨handedOver_of_lone h, ⟨fun g hg => by simp [lone] at hg, by first | rfl | simp [lone]⟩, fun i g hg hi => absurd (none i g hg) hi⟩

section
variable {H : Type} {enc : TypeId × Value → H}

/-- from a contract to such a row -/
theorem leaving_of_change {a : Assume} {C : Checked} {os : Os} {f : FuncId} {fn : Func} {s : ChangeSpec} {conds : List PathCond} {apart fresh handsOn again : Bool}
    (own : ownKnob C.prog.godebug = none) (started : os.Started) (noInit : C.prog.inits.idxOf? f = none) (hfn : C.prog.funcs[f]? = some fn)
    (witness : ∃ (w : World) (tape : Tape) (i : Input), w.os = os ∧ (w.forCall tape i).Shaped C.prog ∧ i.vars = [] ∧ Input.okWide C.prog (w.forCall tape i) .any w.heap.size f i ∧
      s.pre6 enc C.prog fn conds apart (w.forCall tape i).memory i.args ∧ a.holds C.prog (lone (Frame.enter C.prog f i.args .normal) [] (w.forCall tape i)))
    (contract : ∀ (W : World) (base : Nat) (args : Array Value) (ds gs : List (DataW H)) (before : List MemPlace),
      (∀ (j : Nat) t v, fn.params[j]? = some t → args[j]? = some v → Value.okWide C.prog W .any base t v) →
      DataW.Whole enc C.prog fn.params.toList s.vars apart W args.toList ds gs before →
      conds.all (PathCond.test C.prog ⟨fn.params.toList, ds, s.plain.varTypes C.prog, gs⟩) = true →
      a.holds C.prog (lone (Frame.enter C.prog f args .normal) [] W) →
      Calls C.prog f args W fun e W' => ∃ v, e = .returned v ∧ s.post enc C.prog fn apart fresh handsOn again W args v W') :
    ReturnsInLeavingWide a C os f .any (s.pre6 enc C.prog fn conds apart) (s.post enc C.prog fn apart fresh handsOn again) := fun enter => by
  obtain ⟨w0, t0, i0, a1, a2, a3, a4, a5, a6⟩ := witness
  refine ⟨enter, own, started, ⟨w0, t0, i0, a1, a2, a3, a4, a5, a6, trivial⟩, fun w tape i h => ?_⟩
  obtain ⟨_, _, _, hok, hpre, hholds, _⟩ := h
  obtain ⟨_, _, _, fn', hfn', _, _, _, _, hval⟩ := hok
  obtain rfl : fn' = fn := Option.some.inj (hfn'.symm.trans hfn)
  obtain ⟨⟨ds, gs, before, hw, hc⟩, _⟩ := hpre
  have call : Calls C.prog f i.args (w.forCall tape i) fun
      | .returned v, w' => s.post enc C.prog fn' apart fresh handsOn again (w.forCall tape i).blind i.args v w'.blind
      | _, _ => False :=
    (contract (w.forCall tape i) w.heap.size i.args ds gs before hval (DataW.Whole.of_heap (w' := w.forCall tape i) (by rfl) hw) hc hholds).mono fun e W' ⟨v, he, hp⟩ => by
      subst he
      exact ChangeSpec.post_blind hp
  obtain ⟨n, v, w', fr, hn, hend, hp⟩ := call.done_lone noInit
  exact ⟨n + 1, v, w', hend, (clean_of_lone hn).2, roomy_placeholder .., hp, ⟨n, _, hn, step_of_runs hn hend, leaving_alone hn⟩, fun _ _ _ => trivial⟩

end

end Go.Proofs.Ytokpmbagidokkac
