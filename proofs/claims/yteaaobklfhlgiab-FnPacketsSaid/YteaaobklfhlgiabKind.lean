/-
  Contracts of the names of kinds, and the walk of FnExactKindName.
-/
import Derived.Test.YteaaobklfhlgiabRule
namespace Go.Proofs.Yteaaobklfhlgiab
open Go Go.RowKit

theorem rule_none (x : Int) (W : World) (h : x < 1 ∨ 6 < x) : Calls Try.prog 26 #[.int .i64 x] W fun e w' => e = .returned (.tuple #[.agg #[.string ⟨#[]⟩, .int .i64 0, .nilFunc], .bool false]) ∧ W.grownBy w' none := by
  have H := Lib.hid h
  clear h
  go_enter Try.func26, Try.ntmps26
  go_wp2_with (first | (go_at_call 41; refine (rng_no _ _ _ _ H.out).mono ?_; rintro e w' ⟨rfl, rfl⟩) | go_in)
  refine bodyPost_ret (v := .tuple #[.agg #[.string ⟨#[]⟩, .int .i64 0, .nilFunc], .bool false]) (by simp [results, go_sem]) rfl ⟨rfl, ?_⟩
  exact gby_alloc (gby_refl _ _) _

theorem iname1 (W : World) : Calls Try.prog 15 #[.int .i64 1] W fun e w' => e = .returned (.string (ruleName 1)) ∧ W.grownBy w' none := by
  go_enter Try.func15, Try.ntmps15
  go_wp2_with fail
  go_at_call 26
  refine (rule1 _).mono ?_
  rintro e w1 ⟨rfl, g1⟩
  have G1 := Lib.hid g1
  clear g1
  go_wp2
  go_ret
  exact ⟨rfl, gby_alloc G1.out _⟩

theorem sname1 (W : World) : Calls Try.prog 23 #[.int .i64 1] W fun e w' => e = .returned (.string (ruleName 1)) ∧ W.grownBy w' none := by
  go_enter Try.func23, Try.ntmps23
  go_wp2
  go_ret
  exact ⟨rfl, gby_alloc (gby_refl _ _) _⟩

theorem iname2 (W : World) : Calls Try.prog 15 #[.int .i64 2] W fun e w' => e = .returned (.string (ruleName 2)) ∧ W.grownBy w' none := by
  go_enter Try.func15, Try.ntmps15
  go_wp2_with fail
  go_at_call 26
  refine (rule2 _).mono ?_
  rintro e w1 ⟨rfl, g1⟩
  have G1 := Lib.hid g1
  clear g1
  go_wp2
  go_ret
  exact ⟨rfl, gby_alloc G1.out _⟩

theorem sname2 (W : World) : Calls Try.prog 23 #[.int .i64 2] W fun e w' => e = .returned (.string (ruleName 2)) ∧ W.grownBy w' none := by
  go_enter Try.func23, Try.ntmps23
  go_wp2
  go_ret
  exact ⟨rfl, gby_alloc (gby_refl _ _) _⟩

theorem iname3 (W : World) : Calls Try.prog 15 #[.int .i64 3] W fun e w' => e = .returned (.string (ruleName 3)) ∧ W.grownBy w' none := by
  go_enter Try.func15, Try.ntmps15
  go_wp2_with fail
  go_at_call 26
  refine (rule3 _).mono ?_
  rintro e w1 ⟨rfl, g1⟩
  have G1 := Lib.hid g1
  clear g1
  go_wp2
  go_ret
  exact ⟨rfl, gby_alloc G1.out _⟩

theorem sname3 (W : World) : Calls Try.prog 23 #[.int .i64 3] W fun e w' => e = .returned (.string (ruleName 3)) ∧ W.grownBy w' none := by
  go_enter Try.func23, Try.ntmps23
  go_wp2
  go_ret
  exact ⟨rfl, gby_alloc (gby_refl _ _) _⟩

theorem iname4 (W : World) : Calls Try.prog 15 #[.int .i64 4] W fun e w' => e = .returned (.string (ruleName 4)) ∧ W.grownBy w' none := by
  go_enter Try.func15, Try.ntmps15
  go_wp2_with fail
  go_at_call 26
  refine (rule4 _).mono ?_
  rintro e w1 ⟨rfl, g1⟩
  have G1 := Lib.hid g1
  clear g1
  go_wp2
  go_ret
  exact ⟨rfl, gby_alloc G1.out _⟩

theorem sname4 (W : World) : Calls Try.prog 23 #[.int .i64 4] W fun e w' => e = .returned (.string (ruleName 4)) ∧ W.grownBy w' none := by
  go_enter Try.func23, Try.ntmps23
  go_wp2
  go_ret
  exact ⟨rfl, gby_alloc (gby_refl _ _) _⟩

theorem iname5 (W : World) : Calls Try.prog 15 #[.int .i64 5] W fun e w' => e = .returned (.string (ruleName 5)) ∧ W.grownBy w' none := by
  go_enter Try.func15, Try.ntmps15
  go_wp2_with fail
  go_at_call 26
  refine (rule5 _).mono ?_
  rintro e w1 ⟨rfl, g1⟩
  have G1 := Lib.hid g1
  clear g1
  go_wp2
  go_ret
  exact ⟨rfl, gby_alloc G1.out _⟩

theorem sname5 (W : World) : Calls Try.prog 23 #[.int .i64 5] W fun e w' => e = .returned (.string (ruleName 5)) ∧ W.grownBy w' none := by
  go_enter Try.func23, Try.ntmps23
  go_wp2
  go_ret
  exact ⟨rfl, gby_alloc (gby_refl _ _) _⟩

theorem iname6 (W : World) : Calls Try.prog 15 #[.int .i64 6] W fun e w' => e = .returned (.string (ruleName 6)) ∧ W.grownBy w' none := by
  go_enter Try.func15, Try.ntmps15
  go_wp2_with fail
  go_at_call 26
  refine (rule6 _).mono ?_
  rintro e w1 ⟨rfl, g1⟩
  have G1 := Lib.hid g1
  clear g1
  go_wp2
  go_ret
  exact ⟨rfl, gby_alloc G1.out _⟩

theorem sname6 (W : World) : Calls Try.prog 23 #[.int .i64 6] W fun e w' => e = .returned (.string (ruleName 6)) ∧ W.grownBy w' none := by
  go_enter Try.func23, Try.ntmps23
  go_wp2
  go_ret
  exact ⟨rfl, gby_alloc (gby_refl _ _) _⟩

theorem iname_none (x : Int) (W : World) (h : x < 1 ∨ 6 < x) : Calls Try.prog 15 #[.int .i64 x] W fun e w' => e = .returned (.string (ruleName 0)) ∧ W.grownBy w' none := by
  have H := Lib.hid h
  clear h
  go_enter Try.func15, Try.ntmps15
  go_wp2_with fail
  go_at_call 26
  refine (rule_none _ _ H.out).mono ?_
  rintro e w1 ⟨rfl, g1⟩
  have G1 := Lib.hid g1
  clear g1
  go_wp2
  go_ret
  exact ⟨rfl, gby_alloc G1.out _⟩

theorem sname_none (x : Int) (W : World) (h : x < 1 ∨ 6 < x) : Calls Try.prog 23 #[.int .i64 x] W fun e w' => e = .returned (.string (ruleName 0)) ∧ W.grownBy w' none := by
  have H := Lib.hid h
  clear h
  go_enter Try.func23, Try.ntmps23
  go_wp2_with (first | (go_at_call 33; refine (in_no _ _ _ _ H.out).mono ?_; rintro e w' ⟨rfl, rfl⟩) | go_in)
  go_ret
  exact ⟨rfl, gby_refl _ _⟩

theorem names_same (x : Int) : ∃ s : ByteArray, (∀ W : World, Calls Try.prog 23 #[.int .i64 x] W fun e w' => e = .returned (.string s) ∧ W.grownBy w' none) ∧ ∀ W : World, Calls Try.prog 15 #[.int .i64 x] W fun e w' => e = .returned (.string s) ∧ W.grownBy w' none := by
  by_cases h : x < 1 ∨ 6 < x
  · exact ⟨_, fun W => sname_none x W h, fun W => iname_none x W h⟩
  · rcases (show x = 1 ∨ x = 2 ∨ x = 3 ∨ x = 4 ∨ x = 5 ∨ x = 6 by omega) with rfl | rfl | rfl | rfl | rfl | rfl
    · exact ⟨_, sname1, iname1⟩
    · exact ⟨_, sname2, iname2⟩
    · exact ⟨_, sname3, iname3⟩
    · exact ⟨_, sname4, iname4⟩
    · exact ⟨_, sname5, iname5⟩
    · exact ⟨_, sname6, iname6⟩

theorem walk_exactKindName (x : Int) (W : World) :
    Calls Try.prog 8 #[.int .i64 x] W fun e w' => e = .returned (.bool true) ∧ Below W.heap.size W w' := by
  obtain ⟨s, h1, h2⟩ := names_same x
  have H1 := Lib.hid h1
  have H2 := Lib.hid h2
  clear h1 h2
  go_enter Try.func8, Try.ntmps8
  go_wp2_with fail
  go_at_call 23
  refine (H1.out _).mono ?_
  rintro e w1 ⟨rfl, g1⟩
  have G1 := Lib.hid g1
  clear g1
  go_wp2_with fail
  go_at_call 15
  refine (H2.out _).mono ?_
  rintro e w2 ⟨rfl, g2⟩
  have G2 := Lib.hid (gby_trans G1.out g2)
  clear g2
  go_wp2
  go_ret
  exact ⟨rfl, gby_below G2.out⟩

end Go.Proofs.Yteaaobklfhlgiab
