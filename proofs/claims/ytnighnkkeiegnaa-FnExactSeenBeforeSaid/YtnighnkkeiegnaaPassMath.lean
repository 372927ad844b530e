/-
  Packets that may go first: as data.
-/
import Derived.Test.YtnighnkkeiegnaaPkD
import Derived.Test.YtnighnkkeiegnaaQSPacket
import Derived.Test.YtnighnkkeiegnaaBPost0
namespace Go.Proofs.Ytnighnkkeiegnaa
open Go Go.RowKit
set_option linter.unusedVariables false

def okP (x : DPacket) : Bool := decide (0 ≤ clsD x)
def mayD (p q : DPacket) : Bool := mayC (clsD p) (clsD q) p.f2 p.f5 q.f2 q.f5
/-- p passes all valid ones of the first i -/
def clearOf (p : DPacket) (xs : List DPacket) : Nat → Bool
  | 0 => true
  | i + 1 => clearOf p xs i && (!okP (xs.getD i default) || mayD p (xs.getD i default))
def goesP (xs : List DPacket) (k : Nat) : Bool := okP (xs.getD k default) && clearOf (xs.getD k default) xs k
def passL (xs : List DPacket) : Nat → List Int
  | 0 => []
  | n + 1 => if goesP xs n = true then passL xs n ++ [(n : Int)] else passL xs n
theorem passL_len (xs : List DPacket) : ∀ n, (passL xs n).length ≤ n
  | 0 => Nat.le_refl _
  | n + 1 => by
    have := passL_len xs n
    unfold passL
    split
    · rw [List.length_append, List.length_singleton]; omega
    · omega
theorem clear_succ (b : Bool) (p : DPacket) (xs : List DPacket) (m : Nat) : (b && clearOf p xs (m + 1)) = ((b && clearOf p xs m) && (!okP (xs.getD m default) || mayD p (xs.getD m default))) := by
  show (b && (clearOf p xs m && _)) = _
  rw [Bool.and_assoc]
theorem clear_mono (p : DPacket) (xs : List DPacket) {m : Nat} : ∀ {n : Nat}, m ≤ n → clearOf p xs n = true → clearOf p xs m = true
  | 0, h, q => by obtain rfl : m = 0 := by omega
                  exact q
  | n + 1, h, q => by
    by_cases e : m = n + 1
    · subst e; exact q
    · exact clear_mono p xs (by omega) ((Bool.and_eq_true _ _).mp q).1
theorem clear_take (p : DPacket) (xs : List DPacket) (k : Nat) (hk : k ≤ xs.length) : ∀ n, n ≤ k → clearOf p (xs.take k) n = clearOf p xs n
  | 0, _ => rfl
  | n + 1, h => by
    have e : (xs.take k).getD n default = xs.getD n default := by
      rw [List.getD_eq_getElem?_getD, List.getD_eq_getElem?_getD, List.getElem?_take, if_pos (by omega)]
    unfold clearOf
    rw [clear_take p xs k hk n (by omega), e]
theorem rdL_take {α : Type} [Inhabited α] {s : Shp α} {w : World} {a : Option Addr} {n c : Nat} {xs : List α} (h : RdL s w (.slice a n c) xs) (k : Nat) (hk : k ≤ xs.length) : RdL s w (.slice a k c) (xs.take k) := by
  obtain ⟨a', c', e, h1, h2, h3⟩ := h
  injection e with e1 e2 e3
  subst e1 e2 e3
  have hl : (xs.take k).length = k := by rw [List.length_take]; omega
  refine ⟨a, c, by rw [hl], ⟨h1.1, by rw [hl]; exact Nat.le_trans hk h1.2⟩, by omega, ?_⟩
  rcases h3 with h3 | ⟨b, off, ha, h3⟩
  · exact .inl (by omega)
  · refine .inr ⟨b, off, ha, fun j hj => ?_⟩
    obtain ⟨cs, h4, h5⟩ := h3 j (by omega)
    refine ⟨cs, h4, ?_⟩
    rw [List.getD_eq_getElem?_getD, List.getElem?_take, if_pos (by omega), ← List.getD_eq_getElem?_getD]
    exact h5
theorem szL_take_le {α : Type} [Inhabited α] (s : Shp α) (xs : List α) (k : Nat) : szL s (xs.take k) ≤ szL s xs := by
  have := sum_take_le s.size xs k
  have h : (xs.take k).length ≤ xs.length := by rw [List.length_take]; omega
  show (xs.take k).length + _ ≤ xs.length + _
  omega
theorem gby_sizeP {w w' : World} {r : Option Nat} (g : w.grownBy w' r) : w.heap.size ≤ w'.heap.size := g.size
theorem no_goes {o : Bool} {p : DPacket} {xs : List DPacket} {m : Nat} (h : false = (o && clearOf p xs m)) : false = (o && clearOf p xs (m + 1)) := by
  rw [clear_succ, ← h]; rfl
theorem clear_next {a : Bool} {p : DPacket} {xs : List DPacket} {m : Nat} (h : clearOf p xs m = true) (ha : a = okP (xs.getD m default)) (hb : (!a || mayD p (xs.getD m default)) = true) : clearOf p xs (m + 1) = true := by
  show (clearOf p xs m && _) = true
  rw [h, ← ha, hb]; rfl
theorem clear_halt {p : DPacket} {xs : List DPacket} {m n : Nat} (ha : true = okP (xs.getD m default)) (hb : false = mayD p (xs.getD m default)) (hn : m < n) : false = clearOf p xs n := by
  cases e : clearOf p xs n with
  | false => rfl
  | true =>
    have q := clear_mono p xs (show m + 1 ≤ n from hn) e
    have q2 : (clearOf p xs m && (!okP (xs.getD m default) || mayD p (xs.getD m default))) = true := q
    rw [← ha, ← hb] at q2
    simp at q2
theorem go_on {o a b : Bool} {p : DPacket} {xs : List DPacket} {m : Nat} (h : true = (o && clearOf p xs m)) (ha : a = okP (xs.getD m default)) (hb : b = (!a || mayD p (xs.getD m default))) : b = (o && clearOf p xs (m + 1)) := by
  rw [clear_succ, ← h, ← ha, ← hb]; rfl

theorem specMayD (W : World) (p q : DPacket) (v u : Value) (H : RdL shI W v p.f7) (H' : RdL shI W u q.f7) (hl : szL shI p.f7 ≤ 1048576) (hm : szL shI q.f7 ≤ 1048576) : Calls Try.prog 70 #[vPacket p.f0 p.f1 p.f2 p.f3 p.f4 p.f5 p.f6 v, vPacket q.f0 q.f1 q.f2 q.f3 q.f4 q.f5 q.f6 u] W (AnsN (.bool (mayD p q)) W) := by
  rw [szL_I] at hl hm
  obtain ⟨a, cap, rfl, hi, _⟩ := rdI_in H
  obtain ⟨a', cap', rfl, hi', _⟩ := rdI_in H'
  exact specMay_any W _ _ _ _ _ _ _ a _ cap _ _ _ _ _ _ _ _ a' _ cap' _ _ _ (clsD_of p) (clsD_of q) hi hi' hl hm

theorem implMayD (W : World) (p q : DPacket) (v u : Value) (H : RdL shI W v p.f7) (H' : RdL shI W u q.f7) (hl : szL shI p.f7 ≤ 1048576) (hm : szL shI q.f7 ≤ 1048576) : Calls Try.prog 72 #[vPacket p.f0 p.f1 p.f2 p.f3 p.f4 p.f5 p.f6 v, vPacket q.f0 q.f1 q.f2 q.f3 q.f4 q.f5 q.f6 u] W (AnsN (.bool (mayD p q)) W) := by
  rw [szL_I] at hl hm
  obtain ⟨a, cap, rfl, hi, _⟩ := rdI_in H
  obtain ⟨a', cap', rfl, hi', _⟩ := rdI_in H'
  exact implMay_any W _ _ _ _ _ _ _ a _ cap _ _ _ _ _ _ _ _ a' _ cap' _ _ _ (clsD_of p) (clsD_of q) hi hi' hl hm

end Go.Proofs.Ytnighnkkeiegnaa
