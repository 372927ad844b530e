/-
  Frames on the wire: the model's and the program's WireFrame and TakeWire.
-/
import Derived.Test.YtokpmbagidokkacAddTake
import Derived.Test.YtokpmbagidokkacSeq
import Derived.Handy
namespace Go.Proofs.Ytokpmbagidokkac
open Go Go.RowKit

/-- a frame's value -/
def frV (q : Int) (d : Option Addr) (len cap : Nat) : Value := .agg #[.int .i64 q, .slice d len cap]

/-- a slice that is read, with its room -/
def RdS (w : World) (d : Option Addr) (len cap : Nat) (xs : List Int) : Prop := ISl w d len xs ∧ CapOk d len cap
theorem RdS.kept {w w' : World} {d : Option Addr} {len cap : Nat} {xs : List Int} (h : RdS w d len cap xs) (g : w.grownBy w' none) : RdS w' d len cap xs := ⟨h.1.kept g, h.2⟩
theorem RdS.rd {w : World} {d : Option Addr} {len cap : Nat} {xs : List Int} (h : RdS w d len cap xs) : RdI w (.slice d len cap) xs := rdI_of h.1 h.2

set_option maxRecDepth 4000 in
set_option maxHeartbeats 1000000 in
theorem implWire_no (W : World) (q : Int) (d : Option Addr) (len cap : Nat) (h : ¬ IsQ q) :
    Calls Try.prog 14 #[frV q d len cap] W (RowI [] W) := by
  have hd : decide (IsQ q) = false := decide_eq_false h
  clear h
  unfold frV
  go_enter Try.func14, Try.ntmps14
  go_wp2_with fail
  go_at_call 51
  refine (implSeq_any q _).mono ?_
  rw [hd]
  rintro e w1 ⟨rfl, d1⟩
  have G1 := Lib.hid (gby_trans (gby_alloc (gby_refl W none) _) (d1.gby none))
  clear d1
  go_wp2
  go_ret
  exact ⟨_, rfl, owI_row (World.ownsRow_nil _ _ _ _), G1.out⟩

set_option maxRecDepth 4000 in
set_option maxHeartbeats 1000000 in
theorem implWire_yes (W : World) (q : Int) (d : Option Addr) (len cap : Nat) (xs : List Int) (H : RdS W d len cap xs) (hl : len ≤ 1048576) (h : IsQ q) :
    Calls Try.prog 14 #[frV q d len cap] W (fun e w' => ((AreB (q :: xs) ∧ len ≤ 37) → RowI (addC (q :: xs)) W e w') ∧ (¬ (AreB (q :: xs) ∧ len ≤ 37) → RowI [] W e w')) := by
  obtain ⟨i0, hi0, hz0, hz1, hz2⟩ := info_parts infoInt
  have hd : decide (IsQ q) = true := decide_eq_true h
  have HR := Lib.hid H
  have hlx := H.1.1
  clear h H
  obtain ⟨L, hL, hy, hn, hA⟩ := implAdd_any (q :: xs) (by simp; omega)
  have hlen : (q :: xs).length = len + 1 := by simp [hlx]
  rw [hlen] at hy hn
  have HY := Lib.hid hy
  have HN := Lib.hid hn
  have HA := Lib.hid hA
  have HLX := Lib.hid hlx
  clear hy hn hA hlen hlx
  unfold frV
  go_enter Try.func14, Try.ntmps14
  go_wp2_with fail
  go_at_call 51
  refine (implSeq_any q _).mono ?_
  rw [hd]
  rintro e w1 ⟨rfl, d1⟩
  have hr := (d1.gby none).block W.heap.size (by simp) (by simp) |>.trans (heap_alloc_new W _)
  have r0 : w1.cell? ⟨W.heap.size, 0, none⟩ = some (.int .i64 q) := cell_of_row _ _ 0 _ _ _ hr
  have r1 : w1.cell? ⟨W.heap.size, 1, none⟩ = some (.slice d len cap) := cell_of_row _ _ 1 _ _ _ hr
  have r1' : (w1.alloc (.cells #[.int .i64 q] 3)).cell? ⟨W.heap.size, 1, none⟩ = some (.slice d len cap) := (World.grownBy_alloc _ _ none).cell r1 (by simp)
  have G1 := Lib.hid (gby_trans (gby_alloc (gby_refl W none) _) (d1.gby none))
  have s1 := G1.out.size
  have ho1 : (w1.alloc (.cells #[.int .i64 q] 3)).ownsRow w1.heap.size 3 1 (.slice (some ⟨w1.heap.size, 0, none⟩) 1 1) 1 (i64s [q]) := World.ownsRow_lit (e := 3) (size := 1) w1 #[.int .i64 q] 1 (Nat.le_refl _) (by unfold maxLen; omega) rfl
  clear d1 hd hr
  go_wp2_with (at_builtin; refine wpList_append_isl _ rfl _ _ rfl w1.heap.size _ 1 [q] rfl ho1 d len cap xs rfl (HR.out.1.kept (gby_alloc G1.out _)) HR.out.2.1 (by omega) (by simp) ?_; intro v2 w2 hown2 hg2; have HO2 := Lib.hid hown2; have G2 := Lib.hid (gby_new (gby_alloc G1.out _) (show (w1.alloc (.cells #[.int .i64 q] 3)).grownBy w2 (some w1.heap.size) from hg2) (fun i hi => by obtain rfl := Option.some.inj hi; exact s1)); clear hown2 hg2 ho1)
  go_at_call 52
  refine (HA.out _ _ (owI_row (n := 1 + len) (xs := q :: xs) HO2.out).rd).mono ?_
  rintro e w3 ⟨v3, rfl, o3, g3⟩
  have O3 := Lib.hid (o3.wide G2.out.size (Nat.le_refl _))
  have G3 := Lib.hid (gby_trans G2.out g3)
  clear o3 g3 r0 r1 r1'
  go_wp2
  go_ret
  refine ⟨fun hh => ?_, fun hh => ?_⟩
  · rw [← HY.out ⟨hh.1, by omega⟩]
    exact ⟨_, rfl, O3.out, G3.out⟩
  · rw [← HN.out (fun q => hh ⟨q.1, by omega⟩)]
    exact ⟨_, rfl, O3.out, G3.out⟩

/-- AddCheck of the model, whatever the bytes -/
theorem specAdd_any (xs : List Int) (hl : xs.length ≤ 2000000) : ∃ L : List Int, L.length ≤ 1048576 ∧ ((AreB xs ∧ xs.length ≤ 38) → L = addC xs) ∧ (¬ (AreB xs ∧ xs.length ≤ 38) → L = []) ∧ ∀ (W : World) (v : Value), RdI W v xs → Calls Try.prog 50 #[v] W (RowI L W) := by
  by_cases h : AreB xs ∧ xs.length ≤ 38
  · exact ⟨addC xs, by rw [addC_length]; omega, fun _ => rfl, fun n => absurd h n, fun W v H => specAdd_yes W v xs H h.1 h.2⟩
  · exact ⟨[], by simp, fun n => absurd n h, fun _ => rfl, fun W v H => specAdd_no W v xs H hl h⟩

set_option maxRecDepth 4000 in
set_option maxHeartbeats 1000000 in
theorem specWire_no (W : World) (q : Int) (d : Option Addr) (len cap : Nat) (h : ¬ IsQ q) :
    Calls Try.prog 12 #[frV q d len cap] W (RowI [] W) := by
  have hd : decide (IsQ q) = false := decide_eq_false h
  clear h
  unfold frV
  go_enter Try.func12, Try.ntmps12
  go_wp2_with fail
  go_at_call 49
  refine (specSeq_any q _).mono ?_
  rw [hd]
  rintro e w1 ⟨rfl, d1⟩
  have G1 := Lib.hid (gby_trans (gby_alloc (gby_refl W none) _) (d1.gby none))
  have s1 := G1.out.size
  clear d1
  go_wp2
  go_ret
  exact ⟨_, rfl, (owI_row (World.ownsRow_made w1 #[] 0 (Nat.le_refl _) (by unfold maxLen; omega) rfl)).wide s1 (Nat.le_refl _), gby_alloc G1.out _⟩

set_option maxRecDepth 4000 in
set_option maxHeartbeats 1000000 in
theorem specWire_yes (W : World) (q : Int) (d : Option Addr) (len cap : Nat) (xs : List Int) (H : RdS W d len cap xs) (hl : len ≤ 1048576) (h : IsQ q) :
    Calls Try.prog 12 #[frV q d len cap] W (fun e w' => ((AreB (q :: xs) ∧ len ≤ 37) → RowI (addC (q :: xs)) W e w') ∧ (¬ (AreB (q :: xs) ∧ len ≤ 37) → RowI [] W e w')) := by
  obtain ⟨i0, hi0, hz0, hz1, hz2⟩ := info_parts infoInt
  have hd : decide (IsQ q) = true := decide_eq_true h
  have HR := Lib.hid H
  have hlx := H.1.1
  clear h H
  obtain ⟨L, hL, hy, hn, hA⟩ := specAdd_any (q :: xs) (by simp; omega)
  have hlen : (q :: xs).length = len + 1 := by simp [hlx]
  rw [hlen] at hy hn
  have HY := Lib.hid hy
  have HN := Lib.hid hn
  have HA := Lib.hid hA
  have HLX := Lib.hid hlx
  clear hy hn hA hlen hlx
  unfold frV
  go_enter Try.func12, Try.ntmps12
  go_wp2_with fail
  go_at_call 49
  refine (specSeq_any q _).mono ?_
  rw [hd]
  rintro e w1 ⟨rfl, d1⟩
  have hr := (d1.gby none).block W.heap.size (by simp) (by simp) |>.trans (heap_alloc_new W _)
  have r0 : w1.cell? ⟨W.heap.size, 0, none⟩ = some (.int .i64 q) := cell_of_row _ _ 0 _ _ _ hr
  have r1 : w1.cell? ⟨W.heap.size, 1, none⟩ = some (.slice d len cap) := cell_of_row _ _ 1 _ _ _ hr
  have r1' : (w1.alloc (.cells #[.int .i64 q] 3)).cell? ⟨W.heap.size, 1, none⟩ = some (.slice d len cap) := (World.grownBy_alloc _ _ none).cell r1 (by simp)
  have G1 := Lib.hid (gby_trans (gby_alloc (gby_refl W none) _) (d1.gby none))
  have s1 := G1.out.size
  have ho1 : (w1.alloc (.cells #[.int .i64 q] 3)).ownsRow w1.heap.size 3 1 (.slice (some ⟨w1.heap.size, 0, none⟩) 1 1) 1 (i64s [q]) := World.ownsRow_lit (e := 3) (size := 1) w1 #[.int .i64 q] 1 (Nat.le_refl _) (by unfold maxLen; omega) rfl
  clear d1 hd hr
  go_wp2_with (at_builtin; refine wpList_append_isl _ rfl _ _ rfl w1.heap.size _ 1 [q] rfl ho1 d len cap xs rfl (HR.out.1.kept (gby_alloc G1.out _)) HR.out.2.1 (by omega) (by simp) ?_; intro v2 w2 hown2 hg2; have HO2 := Lib.hid hown2; have G2 := Lib.hid (gby_new (gby_alloc G1.out _) (show (w1.alloc (.cells #[.int .i64 q] 3)).grownBy w2 (some w1.heap.size) from hg2) (fun i hi => by obtain rfl := Option.some.inj hi; exact s1)); clear hown2 hg2 ho1)
  go_at_call 50
  refine (HA.out _ _ (owI_row (n := 1 + len) (xs := q :: xs) HO2.out).rd).mono ?_
  rintro e w3 ⟨v3, rfl, o3, g3⟩
  have O3 := Lib.hid (o3.wide G2.out.size (Nat.le_refl _))
  have G3 := Lib.hid (gby_trans G2.out g3)
  clear o3 g3 r0 r1 r1'
  go_wp2
  go_ret
  refine ⟨fun hh => ?_, fun hh => ?_⟩
  · rw [← HY.out ⟨hh.1, by omega⟩]
    exact ⟨_, rfl, O3.out, G3.out⟩
  · rw [← HN.out (fun q => hh ⟨q.1, by omega⟩)]
    exact ⟨_, rfl, O3.out, G3.out⟩

end Go.Proofs.Ytokpmbagidokkac
