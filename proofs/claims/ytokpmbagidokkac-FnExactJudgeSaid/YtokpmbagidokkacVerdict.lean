/-
  The program's verdict on a wire, and Judge on both sides.
-/
import Derived.Test.YtokpmbagidokkacRecvAck
import Derived.Test.YtokpmbagidokkacTakeWireEx
namespace Go.Proofs.Ytokpmbagidokkac
open Go Go.RowKit

theorem rc_cell2 {w : World} {b : Nat} {q : Int} {d : Option Addr} {len cap : Nat} {ty : TypeId} (h : w.heap[b]? = some (.cells #[.int .i64 q, .slice d len cap] ty (0, 0))) : w.cell? ⟨b, 0, none⟩ = some (.int .i64 q) ∧ w.cell? ⟨b, 1, none⟩ = some (.slice d len cap) :=
  ⟨cell_of_row w b 0 _ _ _ h, cell_of_row w b 1 _ _ _ h⟩

/-- how the verdict ends: bad -/
def Verdbad (q : Int) (ys : List Int) (W : World) (e : Ending) (w' : World) : Prop := (q = q ∧ ys = ys) ∧ e = .returned (.iface 115 (.agg #[])) ∧ W.grownBy w' none

set_option maxRecDepth 4000 in
set_option maxHeartbeats 2000000 in
theorem verd_bad (W : World) (q : Int) (a : Option Addr) (len cap : Nat) (v : Value) (xs : List Int) (y : Int) (ys : List Int) (HV : RdI W v xs) (ht : ∀ (W : World) (v : Value), RdI W v xs → Calls Try.prog 22 #[v] W (FrB y ys false W))  :
    Calls Try.prog 60 #[rcV q a len cap, v] W (Verdbad q ys W) := by
  have HX := Lib.hid HV
  have HT := Lib.hid ht
  clear HV ht
  unfold rcV
  go_enter Try.func60, Try.ntmps60
  go_wp2_with fail
  go_at_call 22
  refine (HT.out _ _ (HX.out.kept (by repeat (first | exact gby_refl _ _ | apply gby_drew | apply gby_alloc)))).mono ?_
  rintro e w1 ⟨d1, c1, rfl, o1, g1⟩
  have hr0 := row_held g1 (heap_alloc_new W _)
  obtain ⟨r0, r1⟩ := rc_cell2 hr0
  have G1 := Lib.hid (gby_trans (gby_alloc (gby_refl W none) _) g1)
  have O1 := Lib.hid o1
  have rr0 : (w1.alloc (.cells #[.int .i64 y, .slice d1 ys.length c1] 27)).cell? ⟨W.heap.size, 0, none⟩ = some (.int .i64 q) := (gby_alloc (gby_refl w1 none) _).cell r0 (by simp)
  clear g1 hr0 o1 r0 r1
  unfold frV
  go_wp2
  go_ret
  exact ⟨⟨rfl, rfl⟩, rfl, gby_alloc G1.out _⟩

/-- how the verdict ends: same -/
def Verdsame (q : Int) (ys : List Int) (W : World) (e : Ending) (w' : World) : Prop := (q = q ∧ ys = ys) ∧ ∃ d1 c1, e = .returned (.iface 117 (.agg #[.slice d1 ys.length c1])) ∧ OwI w' W.heap.size w'.heap.size (.slice d1 ys.length c1) ys ∧ W.grownBy w' none

set_option maxRecDepth 4000 in
set_option maxHeartbeats 2000000 in
theorem verd_same (W : World) (q : Int) (a : Option Addr) (len cap : Nat) (v : Value) (xs : List Int) (y : Int) (ys : List Int) (HV : RdI W v xs) (ht : ∀ (W : World) (v : Value), RdI W v xs → Calls Try.prog 22 #[v] W (FrB y ys true W)) (hy : y = q) :
    Calls Try.prog 60 #[rcV q a len cap, v] W (Verdsame q ys W) := by
  have HX := Lib.hid HV
  have HT := Lib.hid ht
  clear HV ht
  subst hy
  have hqq : (y == y) = true := by simp
  unfold rcV
  go_enter Try.func60, Try.ntmps60
  go_wp2_with fail
  go_at_call 22
  refine (HT.out _ _ (HX.out.kept (by repeat (first | exact gby_refl _ _ | apply gby_drew | apply gby_alloc)))).mono ?_
  rintro e w1 ⟨d1, c1, rfl, o1, g1⟩
  have hr0 := row_held g1 (heap_alloc_new W _)
  obtain ⟨r0, r1⟩ := rc_cell2 hr0
  have G1 := Lib.hid (gby_trans (gby_alloc (gby_refl W none) _) g1)
  have O1 := Lib.hid o1
  have rr0 : (w1.alloc (.cells #[.int .i64 y, .slice d1 ys.length c1] 27)).cell? ⟨W.heap.size, 0, none⟩ = some (.int .i64 y) := (gby_alloc (gby_refl w1 none) _).cell r0 (by simp)
  clear g1 hr0 o1 r0 r1
  unfold frV
  go_wp2
  go_ret
  exact ⟨⟨rfl, rfl⟩, d1, c1, rfl, (O1.out.grow (gby_alloc (gby_refl _ _) _)).wide (by simp) (by simp), gby_alloc G1.out _⟩

/-- how the verdict ends: old -/
def Verdold (q : Int) (ys : List Int) (W : World) (e : Ending) (w' : World) : Prop := (q = q ∧ ys = ys) ∧ e = .returned (.iface 118 (.agg #[])) ∧ W.grownBy w' none

set_option maxRecDepth 4000 in
set_option maxHeartbeats 2000000 in
theorem verd_old (W : World) (q : Int) (a : Option Addr) (len cap : Nat) (v : Value) (xs : List Int) (y : Int) (ys : List Int) (HV : RdI W v xs) (ht : ∀ (W : World) (v : Value), RdI W v xs → Calls Try.prog 22 #[v] W (FrB y ys true W)) (hn : ¬ y = q) (ho : OldQ y q) :
    Calls Try.prog 60 #[rcV q a len cap, v] W (Verdold q ys W) := by
  have HX := Lib.hid HV
  have HT := Lib.hid ht
  clear HV ht
  have hqq : (y == q) = false := by simpa using hn
  have hd : decide (OldQ y q) = true := decide_eq_true ho
  clear hn ho
  unfold rcV
  go_enter Try.func60, Try.ntmps60
  go_wp2_with fail
  go_at_call 22
  refine (HT.out _ _ (HX.out.kept (by repeat (first | exact gby_refl _ _ | apply gby_drew | apply gby_alloc)))).mono ?_
  rintro e w1 ⟨d1, c1, rfl, o1, g1⟩
  have hr0 := row_held g1 (heap_alloc_new W _)
  obtain ⟨r0, r1⟩ := rc_cell2 hr0
  have G1 := Lib.hid (gby_trans (gby_alloc (gby_refl W none) _) g1)
  have O1 := Lib.hid o1
  have rr0 : (w1.alloc (.cells #[.int .i64 y, .slice d1 ys.length c1] 27)).cell? ⟨W.heap.size, 0, none⟩ = some (.int .i64 q) := (gby_alloc (gby_refl w1 none) _).cell r0 (by simp)
  clear g1 hr0 o1 r0 r1
  unfold frV
  clear O1
  go_wp2_with fail
  go_at_call 94
  refine (implOld_any y q _).mono ?_
  rw [hd]
  rintro e w2 ⟨rfl, g2⟩
  have G2 := Lib.hid (gby_trans (gby_alloc G1.out _) g2)
  clear g2
  go_wp2
  go_ret
  exact ⟨⟨rfl, rfl⟩, rfl, G2.out⟩

/-- how the verdict ends: gap -/
def Verdgap (q : Int) (ys : List Int) (W : World) (e : Ending) (w' : World) : Prop := (q = q ∧ ys = ys) ∧ e = .returned (.iface 119 (.agg #[])) ∧ W.grownBy w' none

set_option maxRecDepth 4000 in
set_option maxHeartbeats 2000000 in
theorem verd_gap (W : World) (q : Int) (a : Option Addr) (len cap : Nat) (v : Value) (xs : List Int) (y : Int) (ys : List Int) (HV : RdI W v xs) (ht : ∀ (W : World) (v : Value), RdI W v xs → Calls Try.prog 22 #[v] W (FrB y ys true W)) (hn : ¬ y = q) (ho : ¬ OldQ y q) :
    Calls Try.prog 60 #[rcV q a len cap, v] W (Verdgap q ys W) := by
  have HX := Lib.hid HV
  have HT := Lib.hid ht
  clear HV ht
  have hqq : (y == q) = false := by simpa using hn
  have hd : decide (OldQ y q) = false := decide_eq_false ho
  clear hn ho
  unfold rcV
  go_enter Try.func60, Try.ntmps60
  go_wp2_with fail
  go_at_call 22
  refine (HT.out _ _ (HX.out.kept (by repeat (first | exact gby_refl _ _ | apply gby_drew | apply gby_alloc)))).mono ?_
  rintro e w1 ⟨d1, c1, rfl, o1, g1⟩
  have hr0 := row_held g1 (heap_alloc_new W _)
  obtain ⟨r0, r1⟩ := rc_cell2 hr0
  have G1 := Lib.hid (gby_trans (gby_alloc (gby_refl W none) _) g1)
  have O1 := Lib.hid o1
  have rr0 : (w1.alloc (.cells #[.int .i64 y, .slice d1 ys.length c1] 27)).cell? ⟨W.heap.size, 0, none⟩ = some (.int .i64 q) := (gby_alloc (gby_refl w1 none) _).cell r0 (by simp)
  clear g1 hr0 o1 r0 r1
  unfold frV
  clear O1
  go_wp2_with fail
  go_at_call 94
  refine (implOld_any y q _).mono ?_
  rw [hd]
  rintro e w2 ⟨rfl, g2⟩
  have G2 := Lib.hid (gby_trans (gby_alloc G1.out _) g2)
  clear g2
  go_wp2
  go_ret
  exact ⟨⟨rfl, rfl⟩, rfl, G2.out⟩

end Go.Proofs.Ytokpmbagidokkac
