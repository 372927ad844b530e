/-
  Contract of the program's ParseUint, which calls strconv.Atoi: out of the shelf's contracts; the library's two sentinel errors read as they are laid.
-/
import Derived.Test.YteaaobklfhlgiaaDoorParseSpec
import Derived.Test.YteaaobklfhlgiaaDoorFmtImpl
import Derived.Test.YteaaobklfhlgiaaDoorFmtWalk
import Derived.Test.YteaaobklfhlgiaaDoorShelfAtoi
namespace Go.Proofs.YteaaobklfhlgiaaDoor
open Go Go.RowKit Go.Lib Go.PlainAid

/-- the two sentinel errors are interface values -/
def ErrVars (w : World) : Prop := (∃ tp p, w.var? Tryd.prog "strconv.ErrSyntax" = some #[.iface tp p]) ∧ (∃ tp p, w.var? Tryd.prog "strconv.ErrRange" = some #[.iface tp p])

/-- what strconv.Atoi answers: the number and no error, or an error -/
def Atoied (s : ByteArray) (w : World) (e : Ending) (w' : World) : Prop :=
  ((∃ v : Int, atoiAll s.data.toList = .ok v ∧ e = .returned (.tuple #[.int .i64 v, .nilIface])) ∨ ((∀ v : Int, atoiAll s.data.toList ≠ .ok v) ∧ ∃ (v : Int) (t : TypeId) (x : Value), e = .returned (.tuple #[.int .i64 v, .iface t x]))) ∧ Below w.heap.size w w'

theorem below_bytes (w : World) (e : TypeId) (t : ByteArray) : Below w.heap.size w (Go.Lib.bytesWorld w e t) :=
  ⟨rfl, rfl, rfl, by rw [Go.Lib.bytesWorld_size]; omega, fun k hk => Go.Lib.bytesWorld_at_old w e t k hk⟩

theorem atoi_any (s : ByteArray) (w : World) (hs : s.size ≤ 281474976710656) (hv : ErrVars w) :
    Calls Tryd.prog 31 #[.string s] w (Atoied s w) := by
  obtain ⟨⟨t1, p1, h1⟩, ⟨t2, p2, h2⟩⟩ := hv
  cases h : atoiAll s.data.toList
  case ok v =>
    refine (Any.strconv_Atoi_ok Tryd.laysC172 s (by omega) v h w).mono ?_
    rintro e w' ⟨rfl, rfl | ⟨t, rfl⟩⟩
    · exact ⟨.inl ⟨v, h, rfl⟩, Below.refl _ _⟩
    · exact ⟨.inl ⟨v, h, rfl⟩, below_bytes w _ t⟩
  case range =>
    refine (Any.strconv_Atoi_range_var Tryd.laysC172 s hs h t2 p2 w h2).mono ?_
    rintro e w' ⟨N, rfl, _, _, hb⟩
    exact ⟨.inr ⟨(fun v hv => by rw [h] at hv; cases hv), _, _, _, rfl⟩, hb⟩
  all_goals
    refine (Any.strconv_Atoi_syntax_var Tryd.laysC172 s hs h t1 p1 w h1).mono ?_
    rintro e w' ⟨N, rfl, _, _, hb⟩
    exact ⟨.inr ⟨(fun v hv => by rw [h] at hv; cases hv), _, _, _, rfl⟩, hb⟩

theorem canon_atoi {s : ByteArray} {n : Nat} (h : Canon s.data.toList n) : atoiAll s.data.toList = .ok (n : Int) := by rw [← h.2]; exact atoi_own n h.1
theorem canon_atoi_val {s : ByteArray} {n : Nat} {v : Int} (h : Canon s.data.toList n) (hv : atoiAll s.data.toList = .ok v) : v = (n : Int) := by
  rw [canon_atoi h] at hv; injection hv with hv; exact hv.symm

set_option maxHeartbeats 1000000 in
theorem implParse_any (s : ByteArray) (w : World) (hs : s.size ≤ 1048576) (hv : ErrVars w) (htab : Go.Lib.TabIs Tryd.prog w "internal/strconv.uint64pow10" .u64 Go.Lib.pow10Tab) :
    Calls Tryd.prog 20 #[.string s] w (Parsed s w) := by
  have HV := Lib.hid hv
  have HT := Lib.hid htab
  clear hv htab
  go_enter Tryd.func20, Tryd.ntmps20
  go_wp2_with fail
  go_at_call 31
  refine (atoi_any s _ (by omega) HV.out).mono ?_
  rintro e w1 ⟨⟨v, hv, rfl⟩ | ⟨hno, v, t, x, rfl⟩, B1⟩
  · have HB1 := Lib.hid B1
    have HT1 := Lib.hid (tab_below B1 HT.out)
    have HA := Lib.hid hv
    clear B1 hv
    by_cases h0 : v < 0
    · have HN := Lib.hid (show ∀ n : Nat, ¬ Canon s.data.toList n from fun n hc => by have := canon_atoi_val hc HA.out; omega)
      go_wp2
      go_ret2
      exact ⟨.inr ⟨HN.out, rfl⟩, HB1.out⟩
    · by_cases h1 : 1000000000 < v
      · have HN := Lib.hid (show ∀ n : Nat, ¬ Canon s.data.toList n from fun n hc => by have := canon_atoi_val hc HA.out; have := hc.1; omega)
        go_wp2
        go_ret2
        exact ⟨.inr ⟨HN.out, rfl⟩, HB1.out⟩
      · go_wp2_with fail
        go_at_call 32
        refine (implFormat_any _ _ (by omega) (by omega) HT1.out).mono ?_
        rintro e w2 ⟨rfl, B2⟩
        have HB2 := Lib.hid B2
        clear B2
        obtain ⟨n, hn⟩ : ∃ n : Nat, v = (n : Int) := ⟨v.toNat, by omega⟩
        subst hn
        rw [itoa_nonneg]
        by_cases heq : (⟨(decDigits n).toArray⟩ : ByteArray) = s
        · have HC := Lib.hid (show Canon s.data.toList n from ⟨by omega, by rw [← heq]⟩)
          rw [heq]
          clear heq
          go_wp2
          go_ret2
          exact ⟨.inl ⟨n, HC.out, rfl⟩, below_then HB1.out HB2.out⟩
        · have HN := Lib.hid (show ∀ m : Nat, ¬ Canon s.data.toList m from fun m hc => by
            have h3 := canon_atoi_val hc HA.out
            have h4 : n = m := by omega
            subst h4
            exact heq (ByteArray.ext (by have := hc.2; simp [this])))
          generalize (⟨(decDigits n).toArray⟩ : ByteArray) = t at heq ⊢
          have hne := neq_bytes heq
          clear heq
          go_wp2
          go_ret2
          exact ⟨.inr ⟨HN.out, rfl⟩, below_then HB1.out HB2.out⟩
  · have HN := Lib.hid (show ∀ n : Nat, ¬ Canon s.data.toList n from fun n hc => hno _ (canon_atoi hc))
    have HB1 := Lib.hid B1
    clear B1 hno
    go_wp2
    go_ret2
    exact ⟨.inr ⟨HN.out, rfl⟩, HB1.out⟩

end Go.Proofs.YteaaobklfhlgiaaDoor
