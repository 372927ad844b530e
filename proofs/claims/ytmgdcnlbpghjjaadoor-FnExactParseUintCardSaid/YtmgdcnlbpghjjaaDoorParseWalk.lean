/-
  The walk of FnExactParseUint: at every string the law returns true and writes nothing that was there.
-/
import Derived.Test.YtmgdcnlbpghjjaaDoorParseImpl
namespace Go.Proofs.YtmgdcnlbpghjjaaDoor
open Go Go.RowKit Go.Lib

theorem var_below {P : Program} {w w' : World} {name : String} {cs : Array Value} (hb : Below w.heap.size w w') (h : w.var? P name = some cs) : w'.var? P name = some cs := by
  unfold World.var? at h ⊢
  cases hg : P.globalNamed name with
  | none => simp [hg] at h
  | some g =>
    simp only [hg, Option.bind_some] at h ⊢
    have hlt : g < w.heap.size := by
      rcases Nat.lt_or_ge g w.heap.size with h' | h'
      · exact h'
      · simp [Array.getElem?_eq_none h'] at h
    rw [hb.block g hlt]
    exact h
theorem errs_below {w w' : World} (hb : Below w.heap.size w w') (h : ErrVars w) : ErrVars w' := by
  obtain ⟨⟨t1, p1, h1⟩, ⟨t2, p2, h2⟩⟩ := h
  exact ⟨⟨t1, p1, var_below hb h1⟩, ⟨t2, p2, var_below hb h2⟩⟩

set_option maxHeartbeats 400000 in
theorem walk_exactParse (s : ByteArray) (hs : s.size ≤ maxLen) (w : World) (hv : ErrVars w) (htab : Go.Lib.TabIs Tryd.prog w "internal/strconv.uint64pow10" .u64 Go.Lib.pow10Tab) :
    Calls Tryd.prog 6 #[.string s] w fun e w' => e = .returned (.bool true) ∧ Below w.heap.size w w' := by
  have HS := Lib.hid hs
  have HV := Lib.hid hv
  have HT := Lib.hid htab
  clear hv htab
  unfold maxLen at hs
  by_cases hbig : (1048576 : Int) < (s.size : Int)
  · go_enter Tryd.func6, Tryd.ntmps6
    go_wp2
    go_ret
    exact ⟨rfl, Below.refl _ _⟩
  · go_enter Tryd.func6, Tryd.ntmps6
    go_wp2_with fail
    go_at_call 17
    refine (specParse_any _ _ HS.out).mono ?_
    rintro e w1 ⟨⟨n, hc, rfl⟩ | ⟨hno, rfl⟩, B1⟩
    · have HB1 := Lib.hid B1
      have HC := Lib.hid hc
      clear B1 hc
      go_wp2_with fail
      go_at_call 18
      refine (implParse_any _ _ (by omega) (errs_below HB1.out HV.out) (tab_below HB1.out HT.out)).mono ?_
      rintro e w2 ⟨⟨m, hm, rfl⟩ | ⟨hno, rfl⟩, B2⟩
      · obtain rfl := canon_one HC.out hm
        have HB2 := Lib.hid B2
        clear B2 hm
        go_wp2
        go_ret
        exact ⟨rfl, below_then HB1.out HB2.out⟩
      · exact absurd HC.out (hno n)
    · have HB1 := Lib.hid B1
      have HN := Lib.hid hno
      clear B1 hno
      go_wp2_with fail
      go_at_call 18
      refine (implParse_any _ _ (by omega) (errs_below HB1.out HV.out) (tab_below HB1.out HT.out)).mono ?_
      rintro e w2 ⟨⟨m, hm, rfl⟩ | ⟨hno, rfl⟩, B2⟩
      · exact absurd hm (HN.out m)
      · have HB2 := Lib.hid B2
        clear B2 hno
        go_wp2
        go_ret
        exact ⟨rfl, below_then HB1.out HB2.out⟩

end Go.Proofs.YtmgdcnlbpghjjaaDoor
