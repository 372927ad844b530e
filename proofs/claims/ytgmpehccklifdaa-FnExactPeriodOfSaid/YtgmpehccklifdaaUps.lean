/-
  A range over a function that never ends by itself: it counts up and hands over a number with each index, until the body leaves.
-/
import Derived.Test.YtgmpehccklifdaaChg
import Derived.RangeFuncNested
import Derived.RangeFuncBound
import Derived.RangeFuncCalls
import Derived.RangeFuncLeaves
import Derived.Shelf.Abstract
import Derived.WalkKit
import Derived.OwnWalkIn
import Derived.TacticsInMore
import Derived.LoopNIn
import Derived.LoopIn
namespace Go.Proofs.Ytgmpehccklifdaa
open Go Go.RowKit

/-- the iterator calls yield with the values of index 0, 1, .. until a round says that it is enough; N bounds the indexes -/
def Ups (P : Program) (n g : Nat) (lb : Array Value) (vals : Nat → Array Value) (w : World) : Prop :=
  ∀ (l N : Nat) (J : Nat → World → Prop) (Jx : World → Prop) (W : World), Below w.heap.size w W → (∀ k A B, J k A → A.grownBy B none → J k B) →
    (∀ k A, J k A → k < N → YieldAt Fence.wide (n - 1) P l (vals k) A fun e B => (e = .returned (.bool true) ∧ J (k + 1) B ∧ k + 1 < N) ∨ (e = .returned (.bool false) ∧ Jx B)) →
    0 < N → N ≤ 2000000 → J 0 W →
    CallsIn Fence.wide n P g (#[.func (.yield l) #[] #[]] ++ lb) W fun e B => (∃ v, e = .returned v) ∧ Jx B

/-- the ways out of a body -/
def upsPost (b : Nat) (I : Nat → World → Prop) (Ix : Code → World → Prop) (k N : Nat) (A : World) : Exit → Act → World → Prop
  | .normal, _, B => KeepsFrom b A B ∧ I (k + 1) B ∧ k + 1 < N
  | .ret, _, B => KeepsFrom b A B ∧ Ix .ret B
  | .exit i, _, B => KeepsFrom b A B ∧ Ix (.exit i) B
  | .goto t, _, B => KeepsFrom b A B ∧ Ix (.goto t) B
  | _, _, _ => False

theorem held_block {A B : World} {k : Nat} {o : Obj} (g : A.grownBy B none) (h : A.heap[k]? = some o) : B.heap[k]? = some o := by
  rw [g.block k (Array.getElem?_eq_some_iff.1 h).1 (by simp)]
  exact h

/-- the record of the loop and the block of deferred calls -/
structure Booked (rec : Obj) (r d : Nat) (A : World) : Prop where
  rd : A.heap[r]? = some rec
  df : A.heap[d]? = some (.deferred (some []))

theorem rangeUps {P : Program} {n : Nat} {g : Operand} {ps : Array Tmp} {assign body : Code} {Q : Exit → Act → World → Prop} {a : Act} {w : World} (h1 : 1 ≤ n) {gf : Nat} {lb : Array Value} (hg : a.eval g = .func (.func gf) #[] lb)
    (eg : ∀ args w, (callFunc gf args).run P w = .ok (.enter gf args) w) {vals : Nat → Array Value} {w0 : World} (hseq : Ups P (n - 1) gf lb vals w0) (hb0 : Below w0.heap.size w0 w) (hps : ∀ k, (vals k).size = ps.size)
    (N : Nat) (hN : 0 < N) (hN2 : N ≤ 2000000) (I : Nat → World → Prop) (Ix : Code → World → Prop) (hI : OwnFrom w.heap.size I) (hIx : OwnFrom w.heap.size Ix) (h0 : I 0 w) (a₁ : Nat → Act)
    (hassign : ∀ (l k : Nat) (A : World) (K : Act → World → Prop), K (a₁ k) A → assign.wpIn (Fence.wide.inRound l) (n - 1 - 1) P (Exit.then K (fun _ _ _ => False)) { tmps := (ps.zip (vals k)).foldl (fun t (p, v) => t.setIfInBounds p v) a.tmps, defers := [] } A)
    (hbody : ∀ (l k : Nat) (A : World), I k A → k < N → body.wpIn (Fence.wide.inRound l) (n - 1 - 1) P (upsPost w.heap.size I Ix k N A) (a₁ k) A)
    (hstop : ∀ (d : Nat) (c : Code) (A : World), w.heap.size ≤ d → Ix c A → A.heap[d]? = some (.deferred (some [])) → c.wpIn Fence.wide n P Q { a with defers := { target := .collected d, args := #[] } :: a.defers } A) :
    (Code.rangeFunc g ps assign body).wpIn Fence.wide n P Q a w := by
  refine wpIn_rangeFunc fun fn hfn => ?_
  let d := w.heap.size
  let r := w.heap.size + 1
  obtain ⟨rec, hrec⟩ : ∃ rec : LoopState → Option Code → Loop, rec = fun s j => { state := s, pending := j, fn, tmps := a.tmps, params := ps, assign, body, defers := d } := ⟨_, rfl⟩
  obtain ⟨V, hV⟩ : ∃ V, (w.alloc (.deferred (some []))).alloc (.loop (rec .ready none)) = V := ⟨_, rfl⟩
  have hgrow : w.grownBy V none := by rw [← hV]; exact gby_alloc (gby_alloc (gby_refl _ _) _) _
  have hBk : Booked (.loop (rec .ready none)) r d V := by
    rw [← hV]
    refine ⟨?_, ?_⟩
    · have := World.alloc_heap_new (w.alloc (.deferred (some []))) (.loop (rec .ready none))
      rwa [World.size_alloc] at this
    · exact (Below.heap_alloc _ _ _ (by simp [d])).trans (World.alloc_heap_new w _)
  have hI0 : I 0 V := hI 0 w V none h0 hgrow (fun _ e => by cases e)
  have hbel : Below w0.heap.size w0 V := by
    rw [← hV]
    exact hb0.trans ((((Below.refl _ w).alloc (Nat.le_refl _) _).alloc (by simp) _).mono hb0.size)
  refine ⟨r, [{ target := .collected d, args := #[] }], V, { target := .fn (.func gf) lb, args := #[.func (.yield r) #[] #[]] }, V, gf, #[.func (.yield r) #[] #[]] ++ lb, V, ?_, ?_, fun _ _ => trivial, by simp [invoke, go_sem, eg], fun _ => h1, ?_⟩
  · rw [← hV, hrec]; exact run_enterLoop_outer _ _ _ _ _
  · simp only [resolve, hg]
    simp [go_sem]
  -- turning the record in a world where it lies
  have turn : ∀ {A : World} {o : Obj} (o' : Obj), o.isCells = false → Booked o r d A → Booked o' r d (A.putObj r o') ∧ A.grownBy (A.putObj r o') (some r) ∧ (∀ q, some r = some q → w.heap.size ≤ q ∧ ∃ x : Obj, A.heap[q]? = some x ∧ x.isCells = false) := by
    intro A o o' ho hb
    refine ⟨⟨World.putObj_heap_same (Array.getElem?_eq_some_iff.1 hb.rd).1, (World.putObj_heap_other (by simp [d, r])).trans hb.df⟩, grownBy_putObj' A r o', fun q e => ?_⟩
    injection e with e
    subst e
    exact ⟨by simp [r], o, hb.rd, ho⟩
  refine (hseq r N (fun k A => I k A ∧ Booked (.loop (rec .ready none)) r d A) (fun A => ∃ c, Ix c A ∧ Booked (.loop (rec .done (some c))) r d A) V hbel
    (fun k A B h gr => ⟨hI k A B none h.1 gr (fun _ e => by cases e), ⟨held_block gr h.2.rd, held_block gr h.2.df⟩⟩) ?_ hN hN2 ⟨hI0, hBk⟩).mono ?_
  · -- one round
    rintro k A ⟨hi, hb⟩ hk
    have hy := run_yield (P := P) (args := vals k) hb.rd (by rw [hrec]; exact hps k)
    rw [hrec] at hy
    have hb' : Booked (.loop (rec .ready none)) r d A := hb
    obtain ⟨tb, tg, tr⟩ := turn (.loop { rec .ready none with state := .busy }) rfl hb
    refine ⟨fn, _, assign, body, hy, roundIn_of_wpIn hfn (hassign _ k A _ ⟨_, run_beginRound hb'.rd (by rw [hrec]), ?_⟩)⟩
    refine wpIn_mono (hbody _ k _ (hI k A _ _ hi tg tr) hk) ?_
    have close : ∀ (j : Option Code) (B : World), KeepsFrom w.heap.size (A.putObj r (.loop { rec .ready none with state := .busy })) B →
        (Instr.endRound r j).run P B = .ok (.bool j.isNone) (B.putObj r (.loop (rec (if j.isNone then .ready else .done) j))) ∧ Booked (.loop { rec .ready none with state := .busy }) r d B := by
      intro j B kf
      have b2 : Booked (.loop { rec .ready none with state := .busy }) r d B := ⟨kf.same _ _ (by simp [r]) tb.rd rfl, kf.same _ _ (Nat.le_refl _) tb.df rfl⟩
      have := run_endRound (P := P) j b2.rd
      rw [hrec] at this
      refine ⟨?_, b2⟩
      rw [hrec]
      exact this
    rintro e a3 B hp
    cases e with
    | normal =>
      obtain ⟨kf, hi3, hn3⟩ := hp
      obtain ⟨hr, b2⟩ := close none B kf
      obtain ⟨ub, ug, ur⟩ := turn (.loop (rec .ready none)) rfl b2
      exact ⟨_, _, hr, .inl ⟨rfl, ⟨hI _ _ _ _ hi3 ug ur, ub⟩, hn3⟩⟩
    | ret =>
      obtain ⟨kf, hi3⟩ := hp
      obtain ⟨hr, b2⟩ := close (some .ret) B kf
      obtain ⟨ub, ug, ur⟩ := turn (.loop (rec .done (some .ret))) rfl b2
      exact ⟨_, _, hr, .inr ⟨rfl, .ret, hIx _ _ _ _ hi3 ug ur, ub⟩⟩
    | exit i =>
      obtain ⟨kf, hi3⟩ := hp
      obtain ⟨hr, b2⟩ := close (some (.exit i)) B kf
      obtain ⟨ub, ug, ur⟩ := turn (.loop (rec .done (some (.exit i)))) rfl b2
      exact ⟨_, _, hr, .inr ⟨rfl, .exit i, hIx _ _ _ _ hi3 ug ur, ub⟩⟩
    | goto t =>
      obtain ⟨kf, hi3⟩ := hp
      obtain ⟨hr, b2⟩ := close (some (.goto t)) B kf
      obtain ⟨ub, ug, ur⟩ := turn (.loop (rec .done (some (.goto t)))) rfl b2
      exact ⟨_, _, hr, .inr ⟨rfl, .goto t, hIx _ _ _ _ hi3 ug ur, ub⟩⟩
    | panic ch => exact hp.elim
    | outgrown => exact hp.elim
  · -- behind the iterator
    rintro e B ⟨⟨v, rfl⟩, c, hi, hb⟩
    have := run_endLoop (P := P) hb.rd (by rw [hrec]; simp)
    obtain ⟨ub, ug, ur⟩ := turn (.loop { rec .done (some c) with state := .exhausted }) rfl hb
    have e : (rec .done (some c)).pending = some c := by rw [hrec]
    refine ⟨some c, B.putObj r (.loop { rec .done (some c) with state := .exhausted }), this.trans (congrArg (fun q => Result.ok q _) e), ?_⟩
    exact hstop d c _ (Nat.le_refl _) (hIx _ _ _ _ hi ug ur) ub.df

end Go.Proofs.Ytgmpehccklifdaa
