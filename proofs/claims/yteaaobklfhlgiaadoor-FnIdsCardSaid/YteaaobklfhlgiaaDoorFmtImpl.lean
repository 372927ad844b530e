/-
  Contract of the program's FormatInt, which calls strconv.Itoa: the decimal text of every int, out of the shelf's contract.
-/
import Derived.Test.YteaaobklfhlgiaaDoorFmtSpec
import Derived.Test.YteaaobklfhlgiaaDoorShelfItoa
namespace Go.Proofs.YteaaobklfhlgiaaDoor
open Go Go.RowKit

theorem below_grow (w : World) (k : Nat) (os : Array Obj) : Below w.heap.size w (Go.Sort.grow (w.drewN k) os) :=
  ⟨rfl, rfl, rfl, by simp [Go.Sort.grow], fun i hi => by simp only [Go.Sort.grow]; exact Array.getElem?_append_left hi⟩

theorem implFormat_any (n : Int) (w : World) (h0 : -9223372036854775808 ≤ n) (h1 : n ≤ 9223372036854775807) (htab : Go.Lib.TabIs Tryd.prog w "internal/strconv.uint64pow10" .u64 Go.Lib.pow10Tab) :
    Calls Tryd.prog 32 #[.int .i64 n] w (TextIs ⟨(Go.Lib.itoa n).toArray⟩ w) := by
  have HT := Lib.hid htab
  clear htab
  go_enter Tryd.func32, Tryd.ntmps32
  go_wp2_with (go_at_call 39; refine (Tryd.strconv_Itoa _ h0 h1 _ HT.out).mono ?_; rintro e w' ⟨rfl, k, os, rfl⟩)
  go_ret
  exact ⟨rfl, below_grow w k os⟩

end Go.Proofs.YteaaobklfhlgiaaDoor
