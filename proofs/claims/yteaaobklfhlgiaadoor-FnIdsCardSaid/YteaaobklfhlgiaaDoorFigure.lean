/-
  Contract of the model's l01Figure; the byte type's facts; what a function that returns a text and a bool leaves.
-/
import Derived.Test.YteaaobklfhlgiaaDoorProg
import Derived.Test.YteaaobklfhlgiaaDoorHexMath
import Derived.LoopTactic
import Derived.Deep.QuietTactic
import Derived.BigQuiet
import Derived.Deep.RegionHeld3
import Derived.Deep.AppendLies
import Derived.WalkSpells
import Derived.StillTactics
import Derived.OwnWalk
import Derived.KernelRfl
import Derived.IntWalk
namespace Go.Proofs.YteaaobklfhlgiaaDoor
open Go Go.RowKit

theorem infoU8 : (Tryd.prog.info? 5).map (fun i => (i.zero, i.size, i.bytes)) = some (some (.int .u8 0), 1, 1) := by kernel_rfl

theorem figure_any (n : Int) (w : World) (h0 : 0 ≤ n) (h1 : n < 16) :
    Calls Tryd.prog 35 #[.int .i64 n] w fun e w' => e = .returned (.int .u8 (figI n)) ∧ w = w' := by
  by_cases hn : n < 10
  · have e : figI n = 48 + n := by unfold figI; rw [if_pos hn]
    rw [e]; clear e
    go_enter Tryd.func35, Tryd.ntmps35
    go_wp2
    go_ret
    exact ⟨rfl, rfl⟩
  · have e : figI n = 97 + n - 10 := by unfold figI; rw [if_neg hn]; omega
    rw [e]; clear e
    go_enter Tryd.func35, Tryd.ntmps35
    go_wp2
    go_ret
    exact ⟨rfl, rfl⟩

/-- two results: a text and whether there is one -/
def TextOk (s : ByteArray) (b : Bool) (w : World) (e : Ending) (w' : World) : Prop := e = .returned (.tuple #[.string s, .bool b]) ∧ Below w.heap.size w w'

end Go.Proofs.YteaaobklfhlgiaaDoor
