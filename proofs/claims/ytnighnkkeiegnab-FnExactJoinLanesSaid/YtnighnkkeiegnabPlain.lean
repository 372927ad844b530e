/-
  Plain lemmas on worlds and numbers that the seat's walks share: what grows step by step, a block behind a store, a masked number.
-/
import Derived.WalkKit
import Derived.ProofKit
import Derived.Deep.Draws
import Derived.Laws.Rows
import Derived.Below
import Derived.Lib.Hide
namespace Go.Proofs.Ytnighnkkeiegnab
open Go Go.RowKit

theorem gby_refl (w : World) (r : Option Nat) : w.grownBy w r := ⟨rfl, rfl, rfl, Nat.le_refl _, fun _ _ _ => rfl⟩
theorem gby_trans {w a b : World} {r : Option Nat} (h : w.grownBy a r) (k : a.grownBy b r) : w.grownBy b r :=
  ⟨k.os.trans h.os, k.tape.trans h.tape, k.output.trans h.output, Nat.le_trans h.size k.size, fun i hi hn => (k.block i (Nat.lt_of_lt_of_le hi h.size) hn).trans (h.block i hi hn)⟩
theorem gby_drewN {w a : World} {r : Option Nat} (h : w.grownBy a r) (n : Nat) : w.grownBy (a.drewN n) r := ⟨h.os, h.tape, h.output, h.size, h.block⟩
theorem gby_drew {w a : World} {r : Option Nat} (h : w.grownBy a r) : w.grownBy a.drew r := ⟨h.os, h.tape, h.output, h.size, h.block⟩
theorem gby_alloc {w a : World} {r : Option Nat} (h : w.grownBy a r) (o : Obj) : w.grownBy (a.alloc o) r := gby_trans h (World.grownBy_alloc a o r)
theorem gby_set {w a : World} {c : Nat} (h : w.grownBy a (some c)) (k : Nat) (v : Value) : w.grownBy (a.setCell ⟨c, k, none⟩ v) (some c) :=
  gby_trans h ⟨rfl, rfl, rfl, by simp [World.setCell], fun i hi hn => Below.heap_setCell _ _ _ _ (fun e => hn (by rw [e]))⟩
/-- a store into a block that was not there before -/
theorem gby_setnew {w a : World} {r : Option Nat} (h : w.grownBy a r) (p : Addr) (hp : w.heap.size ≤ p.block) (v : Value) : w.grownBy (a.setCell p v) r :=
  ⟨h.os, h.tape, h.output, by simpa using h.size, fun i hi hn => (Below.heap_setCell _ _ _ _ (by omega)).trans (h.block i hi hn)⟩
/-- what a step may have written is one of the call's own blocks: so nothing has, seen from before it was made -/
theorem gby_own {w a b : World} {r : Option Nat} {c : Nat} (h : w.grownBy a r) (k : a.grownBy b (some c)) (hc : w.heap.size ≤ c) : w.grownBy b r :=
  ⟨k.os.trans h.os, k.tape.trans h.tape, k.output.trans h.output, Nat.le_trans h.size k.size, fun i hi hn => (k.block i (Nat.lt_of_lt_of_le hi h.size) (fun e => by have := Option.some.inj e; omega)).trans (h.block i hi hn)⟩
/-- what a step may have written was not there at the first: so seen from there it is nothing more -/
theorem gby_new {w a b : World} {r q : Option Nat} (h : w.grownBy a r) (k : a.grownBy b q) (hq : ∀ i, q = some i → w.heap.size ≤ i) : w.grownBy b r :=
  ⟨k.os.trans h.os, k.tape.trans h.tape, k.output.trans h.output, Nat.le_trans h.size k.size, fun i hi hn => (k.block i (Nat.lt_of_lt_of_le hi h.size) (fun e => by have := hq i e.symm; omega)).trans (h.block i hi hn)⟩
theorem gby_below {w a : World} (h : w.grownBy a none) : Below w.heap.size w a := ⟨h.os, h.tape, h.output, h.size, fun i hi => h.block i hi (by simp)⟩
theorem below_gby {w a : World} (h : Below w.heap.size w a) (r : Option Nat) : w.grownBy a r := ⟨h.os, h.tape, h.output, h.size, fun i hi _ => h.block i hi⟩
theorem heap_behind_draws {w : World} {c : Nat} {o : Option Obj} (n : Nat) (h : w.heap[c]? = o) : (w.drewN n).heap[c]? = o := h

theorem wrap_small (x : Int) (h0 : 0 ≤ x) (h1 : x ≤ 9223372036854775807) : IntKind.i64.wrap x = x := by rw [IntKind.wrap_i64]; omega
/-- a number and a mask: not negative, at most the mask -/
theorem and_low (x : Int) (m : Nat) (hm : m ≤ 9223372036854775807) : 0 ≤ bits .and .i64 x (m : Int) ∧ bits .and .i64 x (m : Int) ≤ m := by
  have h2 : (BitVec.ofInt 64 (m : Int)).toNat = m := by
    rw [BitVec.ofInt_natCast, BitVec.toNat_ofNat]; exact Nat.mod_eq_of_lt (by omega)
  have h3 : (BitVec.ofInt 64 x &&& BitVec.ofInt 64 (m : Int)).toNat ≤ m := by
    rw [BitVec.toNat_and, h2]; exact Nat.and_le_right
  have e : bits .and .i64 x (m : Int) = ((BitVec.ofInt 64 x &&& BitVec.ofInt 64 (m : Int)).toNat : Int) := by
    show IntKind.i64.wrap ((BitVec.ofInt 64 x &&& BitVec.ofInt 64 (m : Int)).toNat : Int) = _
    exact wrap_small _ (by omega) (by omega)
  rw [e]; omega

theorem and15_u8 (x : Nat) (hx : x < 256) : bits .and .u8 (x : Int) 15 = ((x : Int) % 16) := by
  have h1 : (BitVec.ofInt 8 (x : Int)).toNat = x := by
    rw [BitVec.ofInt_natCast, BitVec.toNat_ofNat]; exact Nat.mod_eq_of_lt (by omega)
  show IntKind.u8.wrap ((BitVec.ofInt 8 (x : Int) &&& BitVec.ofInt 8 15).toNat : Int) = _
  rw [BitVec.toNat_and, h1]
  have h2 : x &&& (BitVec.ofInt 8 15).toNat = x % 16 := Nat.and_two_pow_sub_one_eq_mod x 4
  rw [h2, IntKind.wrap_u8]; omega

theorem ret_i64 {a b : Int} (h : a = b) : Ending.returned (.int .i64 a) = .returned (.int .i64 b) := by rw [h]
theorem ret_true {b : Bool} (h : b = true) : Ending.returned (.bool b) = .returned (.bool true) := by rw [h]

end Go.Proofs.Ytnighnkkeiegnab
