/-
  The nodes directly below one, by their devices.
-/
import Derived.Test.YtdddidnibelmhaaPathMath
import Derived.Test.YtdddidnibelmhaaIntInfo
namespace Go.Proofs.Ytdddidnibelmhaa
open Go Go.RowKit
set_option linter.unusedVariables false

/-- node n is directly below k -/
def Kid (xs : List DNode) (k : Int) (n : Nat) : Prop := 1 ≤ n ∧ n < xs.length ∧ (nd xs n).f0 = k
def isKid (xs : List DNode) (k : Int) (d : Nat) (n : Nat) : Bool := decide (1 ≤ n) && decide ((nd xs n).f0 = k) && decide ((nd xs n).f1 = (d : Int))
/-- those with device d among the first m nodes; those with devices below d -/
def kidD (xs : List DNode) (k : Int) (d m : Nat) : List Nat := (List.range m).filter (isKid xs k d)
def kidsN (xs : List DNode) (k : Int) : Nat → List Nat
  | 0 => []
  | d + 1 => kidsN xs k d ++ kidD xs k d xs.length
def nums (ks : List Nat) : List Int := ks.map fun n : Nat => (n : Int)
theorem nums_len (ks : List Nat) : (nums ks).length = ks.length := by simp [nums]
theorem nums_app (a b : List Nat) : nums (a ++ b) = nums a ++ nums b := by simp [nums]
theorem kidD_succ (xs : List DNode) (k : Int) (d m : Nat) : kidD xs k d (m + 1) = kidD xs k d m ++ (if isKid xs k d m then [m] else []) := by
  unfold kidD
  rw [List.range_succ, List.filter_append]
  congr 1
  by_cases h : isKid xs k d m <;> simp [h]
theorem kidD_one (xs : List DNode) (k : Int) (d : Nat) : kidD xs k d 1 = [] := by simp [kidD, isKid]
theorem kidD_len (xs : List DNode) (k : Int) (d m : Nat) : (kidD xs k d m).length ≤ m := by
  have := List.length_filter_le (isKid xs k d) (List.range m)
  unfold kidD; rw [List.length_range] at this; exact this
theorem kidsN_len (xs : List DNode) (k : Int) : ∀ d, (kidsN xs k d).length ≤ d * xs.length
  | 0 => by simp [kidsN]
  | d + 1 => by
    have := kidsN_len xs k d
    have := kidD_len xs k d xs.length
    rw [kidsN, List.length_append, Nat.succ_mul]; omega
theorem isKid_iff {xs : List DNode} {k : Int} {d n : Nat} : isKid xs k d n = true ↔ 1 ≤ n ∧ (nd xs n).f0 = k ∧ (nd xs n).f1 = (d : Int) := by
  simp [isKid, and_assoc]
theorem mem_kidsN {xs : List DNode} {k : Int} : ∀ {d n : Nat}, n ∈ kidsN xs k d ↔ Kid xs k n ∧ ∃ e : Nat, e < d ∧ (nd xs n).f1 = (e : Int)
  | 0, n => by
    exact ⟨(fun h => (by cases h)), (fun ⟨_, e, h, _⟩ => absurd h (Nat.not_lt_zero _))⟩
  | d + 1, n => by
    rw [kidsN, List.mem_append, mem_kidsN, kidD, List.mem_filter, List.mem_range, isKid_iff]
    constructor
    · rintro (⟨h1, e, h2, h3⟩ | ⟨h1, h2, h3, h4⟩)
      · exact ⟨h1, e, by omega, h3⟩
      · exact ⟨⟨h2, h1, h3⟩, d, by omega, h4⟩
    · rintro ⟨h1, e, h2, h3⟩
      by_cases he : e = d
      · subst he; exact .inr ⟨h1.2.1, h1.1, h1.2.2, h3⟩
      · exact .inl ⟨h1, e, by omega, h3⟩
/-- the nodes below k, in the order of their devices -/
def KidsIs (xs : List DNode) (k : Int) (ks : List Nat) : Prop := (∀ n, n ∈ ks ↔ Kid xs k n) ∧ ks.Pairwise (fun a b => (nd xs a).f1 < (nd xs b).f1)
theorem kidsN_sorted {xs : List DNode} (h : TOk xs) (k : Int) : ∀ d, (kidsN xs k d).Pairwise (fun a b => (nd xs a).f1 < (nd xs b).f1)
  | 0 => List.Pairwise.nil
  | d + 1 => by
    rw [kidsN, List.pairwise_append]
    refine ⟨kidsN_sorted h k d, ?_, fun a ha b hb => ?_⟩
    · have hp : (kidD xs k d xs.length).Pairwise (· < ·) := List.Pairwise.filter _ List.pairwise_lt_range
      refine hp.imp_of_mem (fun {a b} ha hb hab => ?_)
      rw [kidD, List.mem_filter, List.mem_range, isKid_iff] at ha hb
      exact absurd ⟨ha.2.2.1.trans hb.2.2.1.symm, ha.2.2.2.trans hb.2.2.2.symm⟩ ((h.2.2 b (by omega) hb.1).2.2.2.2 a ha.2.1 hab)
    · obtain ⟨_, e, he, h1⟩ := mem_kidsN.1 ha
      rw [kidD, List.mem_filter, List.mem_range, isKid_iff] at hb
      rw [h1, hb.2.2.2]; omega
theorem kids_is {xs : List DNode} (h : TOk xs) (k : Int) : KidsIs xs k (kidsN xs k 4) := by
  refine ⟨fun n => ?_, kidsN_sorted h k 4⟩
  rw [mem_kidsN]
  refine ⟨fun q => q.1, fun q => ⟨q, ?_⟩⟩
  have := (h.2.2 n q.1 q.2.1).2.2.1
  exact ⟨(nd xs n).f1.toNat, by omega, by omega⟩
theorem sorted_one (f : Nat → Int) : ∀ (y z : List Nat), y.Pairwise (fun a b => f a < f b) → z.Pairwise (fun a b => f a < f b) → (∀ x, x ∈ y ↔ x ∈ z) → y = z
  | [], [], _, _, _ => rfl
  | [], b :: z, _, _, h => by have := (h b).2 List.mem_cons_self; cases this
  | a :: y, [], _, _, h => by have := (h a).1 List.mem_cons_self; cases this
  | a :: y, b :: z, hy, hz, h => by
    obtain ⟨y1, y2⟩ := List.pairwise_cons.1 hy
    obtain ⟨z1, z2⟩ := List.pairwise_cons.1 hz
    have hab : a = b := by
      rcases List.mem_cons.1 ((h a).1 List.mem_cons_self) with e | e
      · exact e
      · rcases List.mem_cons.1 ((h b).2 List.mem_cons_self) with e2 | e2
        · exact e2.symm
        · have := z1 a e
          have := y1 b e2
          omega
    subst hab
    congr 1
    refine sorted_one f y z y2 z2 (fun x => ?_)
    constructor
    · intro hx
      rcases List.mem_cons.1 ((h x).1 (List.mem_cons_of_mem _ hx)) with e | e
      · subst e; have := y1 x hx; omega
      · exact e
    · intro hx
      rcases List.mem_cons.1 ((h x).2 (List.mem_cons_of_mem _ hx)) with e | e
      · subst e; have := z1 x hx; omega
      · exact e
theorem kids_one {xs : List DNode} {k : Int} {y z : List Nat} (h : KidsIs xs k y) (g : KidsIs xs k z) : y = z :=
  sorted_one (fun n => (nd xs n).f1) y z h.2 g.2 (fun x => (h.1 x).trans (g.1 x).symm)

end Go.Proofs.Ytdddidnibelmhaa
