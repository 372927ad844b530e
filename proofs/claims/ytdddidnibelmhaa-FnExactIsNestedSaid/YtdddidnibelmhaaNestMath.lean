/-
  Windows that nest: the numbers.
-/
import Derived.Test.YtdddidnibelmhaaOv
import Derived.Test.YtdddidnibelmhaaTreeB
import Derived.Test.YtdddidnibelmhaaBPost0
namespace Go.Proofs.Ytdddidnibelmhaa
open Go Go.RowKit
set_option linter.unusedVariables false

theorem spans64 {s b x : Int} (hs : I64 s) (hb : I64 b) (hx : I64 x) : SpansP s b x ↔ 0 < s ∧ b ≤ x ∧ x - b < s := by
  unfold SpansP; simp only [IntKind.wrap_u64]; unfold I64 at *
  constructor
  · rintro ⟨h1, h2, h3⟩; exact ⟨h1, h2, by omega⟩
  · rintro ⟨h1, h2, h3⟩; exact ⟨h1, h2, by omega⟩

/-- within -/
def InP (s b ps pb : Int) : Prop := pb ≤ b ∧ s ≤ ps ∧ b - pb ≤ ps - s

theorem far_le {b c t : Int} (hb : I64 b) (hc : I64 c) (ht : I64 t) (h : c ≤ b) (h0 : 0 ≤ t) : (IntKind.u64.wrap t ≤ IntKind.u64.wrap (IntKind.u64.wrap b - IntKind.u64.wrap c)) ↔ t ≤ b - c := by
  simp only [IntKind.wrap_u64]; unfold I64 at *; omega

theorem far_gt {b pb ps s : Int} (hb : I64 b) (hp : I64 pb) (hs : I64 s) (hps : I64 ps) (h : pb ≤ b) (h0 : 0 < s) (h1 : s ≤ ps) : (IntKind.u64.wrap (ps - s) < IntKind.u64.wrap (IntKind.u64.wrap b - IntKind.u64.wrap pb)) ↔ ps - s < b - pb := by
  simp only [IntKind.wrap_u64]; unfold I64 at *; omega

def bd (ys : List DBar) (k : Nat) : DBar := ys.getD k default

def B64 (ys : List DBar) : Prop := ∀ k, k < ys.length → I64 (bd ys k).f0 ∧ I64 (bd ys k).f1

def parI (xs : List DNode) (k : Nat) : Nat := (nd xs k).f0.toNat

/-- window k lies within that of its parent -/
def NIn (ys : List DBar) (xs : List DNode) (k : Nat) : Prop := InP (bd ys k).f0 (bd ys k).f1 (bd ys (parI xs k)).f0 (bd ys (parI xs k)).f1

def NOv (ys : List DBar) (i k : Nat) : Prop := OvP (bd ys i).f0 (bd ys i).f1 (bd ys k).f0 (bd ys k).f1

/-- the model's condition at k -/
def NestS (ys : List DBar) (xs : List DNode) (k : Nat) : Prop := 0 < (bd ys k).f0 → NIn ys xs k ∧ ∀ i, 1 ≤ i → i < k → (nd xs i).f0 = (nd xs k).f0 → ¬ NOv ys i k

/-- the program's condition at k -/
def NestI (ys : List DBar) (xs : List DNode) (k : Nat) : Prop := 0 < (bd ys k).f0 → (∀ i, i < xs.length → ¬ i = k → (nd xs i).f0 = (nd xs k).f0 → ¬ NOv ys k i) ∧ NIn ys xs k

theorem nov_symm {ys : List DBar} {i k : Nat} : NOv ys i k ↔ NOv ys k i := by
  unfold NOv OvP
  constructor <;> rintro ⟨h1, h2, h3⟩ <;> exact ⟨h2, h1, h3.symm⟩

theorem nest_iff {ys : List DBar} {xs : List DNode} (h0 : (nd xs 0).f0 = -1) (hp : ∀ k, 1 ≤ k → k < xs.length → 0 ≤ (nd xs k).f0) :
    (∀ k, 1 ≤ k → k < xs.length → NestS ys xs k) ↔ ∀ k, 1 ≤ k → k < xs.length → NestI ys xs k := by
  constructor
  · intro h k h1 h2 hs
    obtain ⟨q1, q2⟩ := h k h1 h2 hs
    refine ⟨fun i hi hne he ho => ?_, q1⟩
    have hi1 : 1 ≤ i := by
      rcases Nat.eq_zero_or_pos i with e | e
      · subst e; have := hp k h1 h2; omega
      · exact e
    rcases Nat.lt_or_gt_of_ne hne with hl | hl
    · exact q2 i hi1 hl he (nov_symm.1 ho)
    · exact (h i hi1 hi ho.2.1).2 k h1 hl he.symm ho
  · intro h k h1 h2 hs
    obtain ⟨q1, q2⟩ := h k h1 h2 hs
    exact ⟨q2, fun i hi hl he ho => q1 i (by omega) (by omega) he (nov_symm.1 ho)⟩

theorem in_impl {s b ps pb : Int} (hs : I64 s) (hb : I64 b) (hps : I64 ps) (hpb : I64 pb) (h0 : 0 < s) : InP s b ps pb ↔ SpansP ps pb b ∧ s ≤ ps - (b - pb) := by
  rw [spans64 hps hpb hb]; unfold InP; constructor
  · rintro ⟨h1, h2, h3⟩; exact ⟨⟨by omega, h1, by omega⟩, by omega⟩
  · rintro ⟨⟨h1, h2, h3⟩, h4⟩; exact ⟨h2, by omega, by omega⟩

theorem apart_ge {s b t c : Int} (hs : I64 s) (hb : I64 b) (ht : I64 t) (hc : I64 c) (h1 : 0 < s) (h2 : 0 < t) (h : c ≤ b) : ¬ OvP s b t c ↔ IntKind.u64.wrap t ≤ IntKind.u64.wrap (IntKind.u64.wrap b - IntKind.u64.wrap c) := by
  rw [far_le hb hc ht h (by omega)]; unfold OvP; rw [spans64 hs hb hc, spans64 ht hc hb]
  constructor
  · intro q
    by_cases g : t ≤ b - c
    · exact g
    · exact absurd ⟨h1, h2, .inr ⟨h2, h, by omega⟩⟩ q
  · rintro q ⟨_, _, ⟨_, q2, q3⟩ | ⟨_, q2, q3⟩⟩
    · omega
    · omega

theorem apart_lt {s b t c : Int} (hs : I64 s) (hb : I64 b) (ht : I64 t) (hc : I64 c) (h1 : 0 < s) (h2 : 0 < t) (h : b < c) : ¬ OvP s b t c ↔ IntKind.u64.wrap s ≤ IntKind.u64.wrap (IntKind.u64.wrap c - IntKind.u64.wrap b) := by
  rw [far_le hc hb hs (by omega) (by omega)]; unfold OvP; rw [spans64 hs hb hc, spans64 ht hc hb]
  constructor
  · intro q
    by_cases g : s ≤ c - b
    · exact g
    · exact absurd ⟨h1, h2, .inl ⟨h1, by omega, by omega⟩⟩ q
  · rintro q ⟨_, _, ⟨_, q2, q3⟩ | ⟨_, q2, q3⟩⟩
    · omega
    · omega

theorem rdBd_in {w : World} {v : Value} {ys : List DBar} (H : RdL shBar w v ys) : ∃ a cap, v = .slice a ys.length cap ∧ (ys.length = 0 ∨ ∃ b off, a = some ⟨b, off, none⟩ ∧ ∀ k, k < ys.length → w.cell? ⟨b, off + k * 2, none⟩ = some (.int .i64 (bd ys k).f0) ∧ w.cell? ⟨b, off + k * 2 + 1, none⟩ = some (.int .i64 (bd ys k).f1)) := by
  obtain ⟨a, cap, rfl, _, _, hr⟩ := H
  refine ⟨a, cap, rfl, ?_⟩
  rcases hr with h0 | ⟨b, off, rfl, hcell⟩
  · exact .inl h0
  · refine .inr ⟨b, off, rfl, fun k hk => ?_⟩
    obtain ⟨cs, hat, hrd⟩ := hcell k hk
    obtain rfl : cs = [.int .i64 (ys.getD k default).f0, .int .i64 (ys.getD k default).f1] := hrd
    exact ⟨at_cell (j := 0) hat rfl, at_cell (j := 1) hat rfl⟩

/-- the model's answer, the program's -/
def NestPS (ys : List DBar) (xs : List DNode) : Prop := TOk xs ∧ ys.length = xs.length ∧ ∀ k, 1 ≤ k → k < xs.length → NestS ys xs k
def NestPI (ys : List DBar) (xs : List DNode) : Prop := TOk xs ∧ ys.length = xs.length ∧ ∀ k, 1 ≤ k → k < xs.length → NestI ys xs k

theorem nest_both {ys : List DBar} {xs : List DNode} : NestPS ys xs ↔ NestPI ys xs := by
  unfold NestPS NestPI
  constructor
  · rintro ⟨h1, h2, h3⟩; exact ⟨h1, h2, (nest_iff h1.2.1.1 (fun k q1 q2 => (h1.2.2 k q1 q2).1.1)).1 h3⟩
  · rintro ⟨h1, h2, h3⟩; exact ⟨h1, h2, (nest_iff h1.2.1.1 (fun k q1 q2 => (h1.2.2 k q1 q2).1.1)).2 h3⟩

end Go.Proofs.Ytdddidnibelmhaa
