/-
  MayPass, MustPass on both sides.
-/
import Derived.Test.YtomiicegkdogkaaPkClass
import Derived.Test.YtomiicegkdogkaaKPacket
namespace Go.Proofs.Ytomiicegkdogkaa
open Go Go.RowKit
set_option linter.unusedVariables false

/-- the class of a valid packet of the kind k -/
def clsI (k : Int) : Int := if k ≤ 2 then 0 else if k ≤ 5 then 1 else 2
theorem clsI_in (k : Int) : 0 ≤ clsI k ∧ clsI k ≤ 2 := by
  unfold clsI
  split
  · omega
  · split <;> omega

theorem specCls_in (W : World) (k f t a l g s : Int) (d : Option Addr) (n c : Nat) (xs : List Int) (H : ISl W d n xs) (hl : n ≤ 1048576) (h : PkOk k f t a l g s xs) :
    Calls Try.prog 84 #[pkV k f t a l g s d n c] W (AnsG (.int .i64 (clsI k)) W) := by
  rcases h.2.2 with ⟨rfl, _⟩ | ⟨rfl, _⟩ | ⟨rfl, _⟩ | ⟨rfl, _⟩ | ⟨rfl, _⟩ | ⟨rfl, _⟩
  · exact specClassOf1_in W f t a l g s d n c xs H hl h
  · exact specClassOf2_in W f t a l g s d n c xs H hl h
  · exact specClassOf3_in W f t a l g s d n c xs H hl h
  · exact specClassOf4_in W f t a l g s d n c xs H hl h
  · exact specClassOf5_in W f t a l g s d n c xs H hl h
  · exact specClassOf6_in W f t a l g s d n c xs H hl h

theorem implCls_in (W : World) (k f t a l g s : Int) (d : Option Addr) (n c : Nat) (xs : List Int) (H : ISl W d n xs) (hl : n ≤ 1048576) (h : PkOk k f t a l g s xs) :
    Calls Try.prog 125 #[pkV k f t a l g s d n c] W (AnsG (.int .i64 (clsI k)) W) := by
  rcases h.2.2 with ⟨rfl, _⟩ | ⟨rfl, _⟩ | ⟨rfl, _⟩ | ⟨rfl, _⟩ | ⟨rfl, _⟩ | ⟨rfl, _⟩
  · exact implClassOf1_in W f t a l g s d n c xs H hl h
  · exact implClassOf2_in W f t a l g s d n c xs H hl h
  · exact implClassOf3_in W f t a l g s d n c xs H hl h
  · exact implClassOf4_in W f t a l g s d n c xs H hl h
  · exact implClassOf5_in W f t a l g s d n c xs H hl h
  · exact implClassOf6_in W f t a l g s d n c xs H hl h

/-- a class or -1: what ClassOf answers at a packet -/
def ClsOf (k f t a l g s : Int) (xs : List Int) (ca : Int) : Prop := (PkOk k f t a l g s xs ∧ ca = clsI k) ∨ (¬ PkOk k f t a l g s xs ∧ ca = -1)
theorem clsOf_ex (k f t a l g s : Int) (xs : List Int) : ∃ ca, ClsOf k f t a l g s xs ca := by
  by_cases h : PkOk k f t a l g s xs
  · exact ⟨_, .inl ⟨h, rfl⟩⟩
  · exact ⟨_, .inr ⟨h, rfl⟩⟩
theorem ClsOf.rng {k f t a l g s : Int} {xs : List Int} {ca : Int} (h : ClsOf k f t a l g s xs ca) : -1 ≤ ca ∧ ca ≤ 2 := by
  rcases h with ⟨_, rfl⟩ | ⟨_, rfl⟩
  · have := clsI_in k; omega
  · omega

theorem specCls_any (W : World) {k f t a l g s : Int} (d : Option Addr) (n c : Nat) {xs : List Int} {ca : Int} (q : ClsOf k f t a l g s xs ca) (H : ISl W d n xs) (hl : n ≤ 1048576) :
    Calls Try.prog 84 #[pkV k f t a l g s d n c] W (AnsG (.int .i64 ca) W) := by
  rcases q with ⟨h, rfl⟩ | ⟨h, rfl⟩
  · exact specCls_in W k f t a l g s d n c xs H hl h
  · exact specClassOf_out k W f t a l g s d n c xs H hl h

theorem specPk_cls (W : World) {k f t a l g s : Int} (d : Option Addr) (n c : Nat) {xs : List Int} {ca : Int} (q : ClsOf k f t a l g s xs ca) (H : ISl W d n xs) (hl : n ≤ 1048576) :
    Calls Try.prog 122 #[pkV k f t a l g s d n c] W (AnsG (.bool (decide (0 ≤ ca))) W) := by
  rcases q with ⟨h, rfl⟩ | ⟨h, rfl⟩
  · have := specPk_true W k f t a l g s d n c xs H hl h
    rwa [show decide (0 ≤ clsI k) = true from decide_eq_true (clsI_in k).1]
  · exact specPk_false W k f t a l g s d n c xs H hl h

theorem implCls_any (W : World) {k f t a l g s : Int} (d : Option Addr) (n c : Nat) {xs : List Int} {ca : Int} (q : ClsOf k f t a l g s xs ca) (H : ISl W d n xs) (hl : n ≤ 1048576) :
    Calls Try.prog 125 #[pkV k f t a l g s d n c] W (AnsG (.int .i64 ca) W) := by
  rcases q with ⟨h, rfl⟩ | ⟨h, rfl⟩
  · exact implCls_in W k f t a l g s d n c xs H hl h
  · exact implClassOf_out k W f t a l g s d n c xs H hl h

theorem implPk_cls (W : World) {k f t a l g s : Int} (d : Option Addr) (n c : Nat) {xs : List Int} {ca : Int} (q : ClsOf k f t a l g s xs ca) (H : ISl W d n xs) (hl : n ≤ 1048576) :
    Calls Try.prog 30 #[pkV k f t a l g s d n c] W (AnsG (.bool (decide (0 ≤ ca))) W) := by
  rcases q with ⟨h, rfl⟩ | ⟨h, rfl⟩
  · have := implPk_true W k f t a l g s d n c xs H hl h
    rwa [show decide (0 ≤ clsI k) = true from decide_eq_true (clsI_in k).1]
  · exact implPk_false W k f t a l g s d n c xs H hl h

/-- may a packet pass another one -/
def mayC (ca cb t g t' g' : Int) : Bool := decide (0 ≤ ca ∧ 1 ≤ cb ∧ (ca ≠ 2 ∨ cb ≠ 2 ∨ t ≠ t' ∨ g ≠ g'))
def mustC (ca cb : Int) : Bool := decide (ca = 0 ∧ 1 ≤ cb)

/-- the rule of two classes -/
def prC (ca cb : Int) : Int := if cb = 0 then 0 else if ca = 2 ∧ cb = 2 then 2 else 1

end Go.Proofs.Ytomiicegkdogkaa
