/-
  The nodes below one, sorted by their devices.
-/
import Derived.Test.YtdddidnibelmhaaIntInfo
import Derived.Test.YtdddidnibelmhaaPlain
import Derived.Lib.OwnBridge
import Derived.Test.YtdddidnibelmhaaAppP
import Derived.Test.YtdddidnibelmhaaSetI
import Derived.ArgAppend
import Derived.Shelf.SlSortCmp.NoneTotal
import Derived.Shelf.Small.Bits
import Derived.Shelf.Small.Wraps
import Derived.Shelf.Strconv.Itoa0
import Derived.Ground.Names2Prog
import Derived.Shelf.Slices.SearchI
import Derived.Ground.SlsfProg
import Derived.Shelf.SlSortCmp.Insertion
import Derived.Shelf.SlSortCmp.SiftDown1
import Derived.Shelf.SlSortCmp.HeapSort1
import Derived.Shelf.SlSortCmp.Insertion1
import Derived.Shelf.SlSortCmp.Median1
import Derived.Shelf.SlSortCmp.Pivot1
import Derived.Shelf.SlSortCmp.ReverseRange1
import Derived.Shelf.SlSortCmp.PartialInsertion1
import Derived.Shelf.SlSortCmp.PartitionEqual1
import Derived.Shelf.SlSortCmp.Partition1
import Derived.Shelf.SlSortCmp.Pdq1
import Derived.Shelf.SlSortCmp.Whole1
import Derived.Test.YtdddidnibelmhaaProg
import Derived.Test.YtdddidnibelmhaaKidsMath
import Derived.Test.YtdddidnibelmhaaNodeOf
import Derived.Test.YtdddidnibelmhaaRChildrenOf
import Derived.Deep.QuietTactic
namespace Go.Proofs.Ytdddidnibelmhaa
open Go Go.RowKit
set_option linter.unusedVariables false

theorem owL_I_cells {w : World} {lo hi b off cap : Nat} {xs : List Int} {C : Array Value} (hb : w.heap[b]? = some (.cells C 3 (0, 0))) (h1 : lo ≤ b) (h2 : b < hi) (hm : xs.length ≤ 1000000) (hcap : xs.length ≤ cap) (hc : ∀ k, k < xs.length → C[off + k]? = some (.int .i64 (xs.getD k 0))) : OwL shI w lo hi (.slice (some ⟨b, off, none⟩) xs.length cap) xs := by
  refine ⟨_, cap, rfl, ⟨(fun e => by cases e), hcap⟩, by omega, (fun p hp => by cases hp; exact ⟨h1, h2⟩), .inr ⟨b, off, fun _ => b, fun _ => b, C, 3, rfl, hb, fun k hk => ⟨h1, Nat.le_of_lt h2, .inr (Nat.le_refl _), [.int .i64 (xs.getD k default)], fun j hj => ?_, rfl⟩, fun j k _ _ => .inl (Nat.le_refl _)⟩⟩
  obtain rfl : j = 0 := by simp at hj; omega
  show C[off + k * 1 + 0]? = _
  rw [Nat.mul_one, Nat.add_zero, hc k hk]
  rfl

theorem heap_setCells_same {g : Nat} {t : TypeId} : ∀ (vs : List Value) (o : Nat) (w : World) (C : Array Value), w.heap[g]? = some (.cells C t (0, 0)) → ∃ C', (w.setCells g o vs).heap[g]? = some (.cells C' t (0, 0)) ∧ C'.size = C.size
  | [], _, _, C, h => ⟨C, h, rfl⟩
  | v :: r, o, w, C, h => by
    obtain ⟨C', h1, h2⟩ := heap_setCells_same r (o + 1) (w.setCell ⟨g, o, none⟩ v) _ (heap_setCell_same w g o C t v h)
    exact ⟨C', h1, by simpa using h2⟩
theorem gby_setCells {g : Nat} {w : World} : ∀ (vs : List Value) (o : Nat) (a : World), w.grownBy a (some g) → w.grownBy (a.setCells g o vs) (some g)
  | [], _, _, h => h
  | v :: r, o, a, h => gby_setCells r (o + 1) _ (gby_set h o v)
theorem size_setCells {g : Nat} : ∀ (vs : List Value) (o : Nat) (a : World), (a.setCells g o vs).heap.size = a.heap.size
  | [], _, _ => rfl
  | v :: r, o, a => by rw [World.setCells, size_setCells r]; simp

theorem i64s_at (xs : List Int) (j : Nat) (u : Value) (h : (i64s xs)[j]? = some u) : j < xs.length ∧ u = .int .i64 (xs.getD j 0) := by
  rw [i64s, List.getElem?_map] at h
  cases e : xs[j]? with
  | none => rw [e] at h; cases h
  | some x =>
    rw [e] at h
    exact ⟨(List.getElem?_eq_some_iff.1 e).1, by rw [List.getD_eq_getElem?_getD, e]; exact (Option.some.inj h).symm⟩

theorem rdI_at {w : World} {a : Option Addr} {m c : Nat} {ys : List Int} (h : RdL shI w (.slice a m c) ys) : m = ys.length ∧ ∀ ad, a = some ad → ∀ j u, (i64s ys)[j]? = some u → w.cell? (ad.add j) = some u := by
  obtain ⟨a', cap, e, hc, hm, h⟩ := h
  injection e with e1 e2 e3
  subst e1 e2 e3
  refine ⟨rfl, ?_⟩
  rintro ad rfl j u hu
  obtain ⟨h1, rfl⟩ := i64s_at ys j u hu
  rcases h with h0 | ⟨b, off, ha, h⟩
  · omega
  · cases ha
    obtain ⟨cs, q1, q2⟩ := h j h1
    obtain rfl := q2
    have := q1 0 (by simp)
    rw [addr_add]
    simpa [shI] using this

theorem wpList_append_at {ops : Array Oper} {rest : List Oper} {o : Oper} {ac : Act} {Q : Exit → Act → World → Prop} (w : World) (hgd : o.guard = none) (l x : Operand)
    (ho : o.op = Op.call { callee := Callee.builtin Builtin.append, args := #[l, x], argTypes := #[36, 36] })
    (g off n cap : Nat) (C : Array Value) (xs : List Int) (hs : ac.eval l = .slice (some ⟨g, off, none⟩) n cap) (hn : n = xs.length) (hb : w.heap[g]? = some (.cells C 3 (0, 0))) (hsz : off + cap ≤ C.size) (hc : ∀ k, k < xs.length → C[off + k]? = some (.int .i64 (xs.getD k 0)))
    (ao : Option Addr) (m c2 : Nat) (ys : List Int) (hx : ac.eval x = .slice ao m c2) (hao : ∃ ad, ao = some ad) (hr : RdL shI w (.slice ao m c2) ys) (hbnd : n + m ≤ 1000000) (base : Nat) (hbase : base ≤ g)
    (h : ∀ v' w', OwL shI w' base w'.heap.size v' (xs ++ ys) → w.grownBy w' (some g) → wpList Try.prog ops Q rest (ac.put o.dst v') w') : wpList Try.prog ops Q (o :: rest) ac w := by
  obtain ⟨ad, rfl⟩ := hao
  obtain ⟨i1_, hi1_, hz0_, hz1_, hz2_⟩ := info_parts infoInt
  obtain ⟨hm, hnews⟩ := rdI_at hr
  have hnews := hnews ad rfl
  have hlt : g < w.heap.size := (Array.getElem?_eq_some_iff.1 hb).1
  subst hn
  refine wpList_append_arg w hgd l x _ ho 3 i1_ _ 1 8 Try.underlying36 hi1_ hz0_ hz1_ hz2_ rfl (by decide) g off xs.length cap (i64s xs) hs (by simp [i64s]) (fun j u hu => ?_) ad m c2 (i64s ys) hx (by simp [i64s, hm]) hnews (fun u hu => ?_) (fun hle j hj => ?_) (by unfold maxLen; omega) (by omega) (fun hle => ?_) (fun hgt v' w' hown hgr => ?_)
  · obtain ⟨h1, rfl⟩ := i64s_at xs j u hu
    rw [cell_of_row w g _ C _ _ hb, hc j h1]
  · obtain ⟨y, _, rfl⟩ := List.mem_map.1 hu
    rfl
  · have hj' : j < m := by simpa [i64s, hm] using hj
    refine ⟨?_, frozen_of_row w g _ C _ hb⟩
    have hin : off + xs.length * 1 + j < C.size := by omega
    rw [cell_of_row w g _ C _ _ hb, Array.getElem?_eq_getElem hin]
    rfl
  · obtain ⟨C', hb', hsz'⟩ := heap_setCells_same (i64s ys) (off + xs.length * 1) w C hb
    have hcell : ∀ k, k < (xs ++ ys).length → C'[off + k]? = some (.int .i64 ((xs ++ ys).getD k 0)) := by
      intro k hk
      rw [← cell_of_row _ g _ C' _ _ hb']
      by_cases hk1 : k < xs.length
      · rw [World.cell?_setCells_out g _ _ _ _ (fun _ _ => Or.inl (by show off + k < off + xs.length * 1; omega)), cell_of_row w g _ C _ _ hb, hc k hk1, List.getD_eq_getElem?_getD, List.getD_eq_getElem?_getD, List.getElem?_append_left hk1]
      · rw [List.length_append] at hk
        have hj : k - xs.length < (i64s ys).length := by simp [i64s]; omega
        have q := World.cell?_setCells_in g (i64s ys) (off + xs.length * 1) w (fun j hj => by
          have hj' : j < m := by simpa [i64s, hm] using hj
          have hin : off + xs.length * 1 + j < C.size := by omega
          rw [cell_of_row w g _ C _ _ hb, Array.getElem?_eq_getElem hin]
          rfl) (k - xs.length) hj
        rw [show off + xs.length * 1 + (k - xs.length) = off + k by omega] at q
        rw [q, List.getD_eq_getElem?_getD, List.getElem?_append_right (by omega)]
        have hj2 : k - xs.length < ys.length := by omega
        simp [i64s, List.getElem?_eq_getElem hj2]
    have hl : (xs ++ ys).length = xs.length + m := by rw [List.length_append, hm]
    rw [← hl]
    exact h _ _ (owL_I_cells hb' hbase (by rw [size_setCells]; exact hlt) (by omega) (by omega) hcell) (gby_setCells _ _ _ (gby_refl _ _))
  · have hl : (xs ++ ys).length = xs.length + m := by rw [List.length_append, hm]
    have e : i64s xs ++ i64s ys = i64s (xs ++ ys) := (i64s_append _ _).symm
    rw [e] at hown
    exact h _ _ (OwL.wide (owI_out (by omega) (owI_row hown)) (by omega) (Nat.le_refl _)) ⟨hgr.os, hgr.tape, hgr.output, hgr.size, fun k hk _ => hgr.block k hk (by simp)⟩

/-- a row that is not empty: its block's cells -/
theorem row_blk {w : World} {base : Nat} {v : Value} {ys : List Int} (h : w.ownsRow base 3 1 v ys.length (i64s ys)) (h1 : 1 ≤ ys.length) : ∃ g cap C, v = .slice (some ⟨g, 0, none⟩) ys.length cap ∧ base ≤ g ∧ w.heap[g]? = some (.cells C 3 (0, 0)) ∧ ys.length ≤ cap ∧ C.size = cap ∧ ∀ k, k < ys.length → C[k]? = some (.int .i64 (ys.getD k 0)) := by
  rcases h.2 with ⟨_, h0⟩ | ⟨g, cap, cur, rfl, hb, hg, hn, hm, hs, ht⟩
  · omega
  · refine ⟨g, cap, cur, rfl, hb, hg, hn, by omega, fun k hk => ?_⟩
    have q : (cur.toList.take (ys.length * 1))[k]? = (i64s ys)[k]? := by rw [ht]
    rw [List.getElem?_take, if_pos (by omega), Array.getElem?_toList] at q
    rw [q, i64s, List.getElem?_map, List.getElem?_eq_getElem hk, List.getD_eq_getElem?_getD, List.getElem?_eq_getElem hk]; rfl

end Go.Proofs.Ytdddidnibelmhaa

namespace Go.Proofs
open Go.Shelf
def Try.lays122_ren : Go.Shelf.Ren := ⟨fun | 122 => 53 | 215 => 58 | n => n, fun | 3 => 3 | 4 => 4 | n => n, fun | n => n⟩
theorem Try.lays122 : Go.Proofs.Lays.n122 Try.prog Try.lays122_ren := {
  mixed := by kernel_rfl
  f122 := Try.func53.trans (congrArg some (by kernel_rfl))
  f215 := Try.func58.trans (congrArg some (by kernel_rfl))
  t3 := Try.underlying3
  a3 := Try.isAgg3
  z3 := Try.sizeOf3
  v3 := Try.zeroValue3
  t4 := Try.underlying4
  a4 := Try.isAgg4
  z4 := Try.sizeOf4
  v4 := Try.zeroValue4 }
open Go.RowKit in
theorem Try.cmp_Compare_int (x y : Int) (w : World) :
    Calls Try.prog 53 #[.int .i64 x, .int .i64 y] w fun e w' => e = .returned (.int .i64 (Lib.compareInt x y)) ∧ w' = w := Any.cmp_Compare_int Try.lays122 x y w
def Try.laysSlF6_f51_ren : Go.Shelf.Ren := ⟨fun | 6 => 51 | 15 => 57 | 14 => 56 | 28 => 68 | 29 => 69 | 20 => 60 | 21 => 61 | 22 => 62 | 23 => 63 | 24 => 64 | 25 => 65 | 26 => 66 | 27 => 67 | 46 => 70 | 47 => 71 | 48 => 72 | 49 => 73 | 50 => 74 | 57 => 75 | n => n, fun | 22 => 36 | 24 => 3 | 25 => 72 | 3 => 3 | 39 => 69 | 0 => 0 | 53 => 87 | 55 => 49 | 4 => 4 | 46 => 80 | 45 => 79 | 50 => 84 | 5 => 5 | 9 => 9 | 66 => 89 | 70 => 93 | 76 => 95 | 77 => 96 | n => n, fun | n => n⟩
theorem Try.laysSlF6_f51 : Go.Proofs.SlLaysF.n6 Try.prog Try.laysSlF6_f51_ren := {
  mixed := by kernel_rfl
  f6 := ⟨Try.f51.name, by decide, Try.func51.trans (congrArg some (by kernel_rfl))⟩
  f14 := ⟨Try.f56.name, by decide, Try.func56.trans (congrArg some (by kernel_rfl))⟩
  f15 := Try.func57.trans (congrArg some (by kernel_rfl))
  f20 := ⟨Try.f60.name, by decide, Try.func60.trans (congrArg some (by kernel_rfl))⟩
  f21 := ⟨Try.f61.name, by decide, Try.func61.trans (congrArg some (by kernel_rfl))⟩
  f22 := ⟨Try.f62.name, by decide, Try.func62.trans (congrArg some (by kernel_rfl))⟩
  f23 := ⟨Try.f63.name, by decide, Try.func63.trans (congrArg some (by kernel_rfl))⟩
  f24 := ⟨Try.f64.name, by decide, Try.func64.trans (congrArg some (by kernel_rfl))⟩
  f25 := ⟨Try.f65.name, by decide, Try.func65.trans (congrArg some (by kernel_rfl))⟩
  f26 := ⟨Try.f66.name, by decide, Try.func66.trans (congrArg some (by kernel_rfl))⟩
  f27 := ⟨Try.f67.name, by decide, Try.func67.trans (congrArg some (by kernel_rfl))⟩
  f28 := Try.func68.trans (congrArg some (by kernel_rfl))
  f29 := Try.func69.trans (congrArg some (by kernel_rfl))
  f46 := ⟨Try.f70.name, by decide, Try.func70.trans (congrArg some (by kernel_rfl))⟩
  f47 := Try.func71.trans (congrArg some (by kernel_rfl))
  f48 := Try.func72.trans (congrArg some (by kernel_rfl))
  f49 := ⟨Try.f73.name, by decide, Try.func73.trans (congrArg some (by kernel_rfl))⟩
  f50 := ⟨Try.f74.name, by decide, Try.func74.trans (congrArg some (by kernel_rfl))⟩
  f57 := ⟨Try.f75.name, by decide, Try.func75.trans (congrArg some (by kernel_rfl))⟩
  t0 := Try.underlying0
  a0 := Try.isAgg0
  z0 := Try.sizeOf0
  v0 := Try.zeroValue0
  t3 := Try.underlying3
  a3 := Try.isAgg3
  z3 := Try.sizeOf3
  v3 := Try.zeroValue3
  t4 := Try.underlying4
  a4 := Try.isAgg4
  z4 := Try.sizeOf4
  v4 := Try.zeroValue4
  t5 := Try.underlying5
  a5 := Try.isAgg5
  z5 := Try.sizeOf5
  v5 := Try.zeroValue5
  t9 := Try.underlying9
  a9 := Try.isAgg9
  z9 := Try.sizeOf9
  v9 := Try.zeroValue9
  t22 := Try.underlying36
  a22 := Try.isAgg36
  z22 := Try.sizeOf36
  v22 := Try.zeroValue36
  a24 := Try.isAgg3
  z24 := Try.sizeOf3
  t25 := Try.underlying72
  a25 := Try.isAgg72
  z25 := Try.sizeOf72
  v25 := Try.zeroValue72
  t39 := Try.underlying69
  a39 := Try.isAgg69
  z39 := Try.sizeOf69
  v39 := Try.zeroValue69
  t45 := Try.underlying79
  a45 := Try.isAgg79
  z45 := Try.sizeOf79
  v45 := Try.zeroValue79
  t46 := Try.underlying80
  a46 := Try.isAgg80
  z46 := Try.sizeOf80
  v46 := Try.zeroValue80
  t50 := Try.underlying84
  a50 := Try.isAgg84
  z50 := Try.sizeOf84
  v50 := Try.zeroValue84
  t53 := Try.underlying87
  a53 := Try.isAgg87
  z53 := Try.sizeOf87
  v53 := Try.zeroValue87
  t55 := Try.underlying49
  a55 := Try.isAgg49
  z55 := Try.sizeOf49
  v55 := Try.zeroValue49
  t66 := Try.underlying89
  a66 := Try.isAgg89
  z66 := Try.sizeOf89
  v66 := Try.zeroValue89
  t70 := Try.underlying93
  a70 := Try.isAgg93
  z70 := Try.sizeOf93
  v70 := Try.zeroValue93
  t76 := Try.underlying95
  a76 := Try.isAgg95
  z76 := Try.sizeOf95
  v76 := Try.zeroValue95
  t77 := Try.underlying96
  a77 := Try.isAgg96
  z77 := Try.sizeOf96
  v77 := Try.zeroValue96 }
open Go.RowKit Go.Lib Go.Sort in
theorem Try.slices_SortFunc {α : Type} [Inhabited α] (enc : α → Value) (h1 : OneCell enc) (cf : α → α → Int) (hO : SWO (ltOf cf)) (g : Nat) (cb : Array Value) (blk off cap : Nat) (d : Array α) (w : World) (eg : ∀ args w, (callFunc g args).run Try.prog w = .ok (.enter g args) w) (hcmp : CmpLays1 Try.prog g cb enc cf blk off d.size w) (hH : Holds enc w blk off d) (hblk : blk < w.heap.size) (hsz : d.size < 4611686018427387904) :
    Calls Try.prog 51 #[.slice (some ⟨blk, off, none⟩) d.size cap, .func (.func g) #[] cb] w fun e w' =>
      e = .returned (.tuple #[]) ∧ ∃ d' n os, PermIn 0 d.size d d' ∧ SortedIn (ltOf cf) 0 d.size d' ∧ w' = sortWorld enc w blk off n d' os := Any.slices_SortFunc Try.laysSlF6_f51 enc h1 cf hO g cb blk off cap d w eg hcmp hH hblk hsz
theorem Try.slices_SortFunc_none (p : Option Addr) (cap : Nat) (fv : Value) (w : World) : Calls Try.prog 51 #[.slice p 0 cap, fv] w fun e w' => e = .returned (.tuple #[]) ∧ w' = w :=
  AnyF.slices_SortFunc_none (P := Try.prog) (ρ := Try.laysSlF6_f51_ren) { Try.laysSlF6_f51 with } p cap fv w
end Go.Proofs

namespace Go.Proofs.Ytdddidnibelmhaa
open Go Go.RowKit
set_option linter.unusedVariables false

def dev (xs : List DNode) (n : Nat) : Int := (nd xs n).f1
set_option maxRecDepth 8000 in
set_option maxHeartbeats 2000000 in
theorem cmp_dev (W : World) (xs : List DNode) (tb b off n0 c0 x y : Nat) (hx : x < n0) (hy : y < n0) (hb : W.heap[tb]? = some (.cells #[.slice (some ⟨b, off, none⟩) n0 c0] 29 (0, 0))) (hc : ∀ k, k < n0 → W.cell? ⟨b, off + k * 3 + 1, none⟩ = some (.int .i64 (dev xs k))) :
    Calls Try.prog 52 #[.int .i64 (x : Int), .int .i64 (y : Int), .pointer (some ⟨tb, 0, none⟩)] W (Ans (.int .i64 (Lib.compareInt (dev xs x) (dev xs y))) W) := by
  have k0_ := cell_of_row W tb 0 _ _ _ hb
  have c1_ := hc x hx
  have c2_ := hc y hy
  clear hb hc
  generalize dev xs x = p at c1_ ⊢
  generalize dev xs y = q at c2_ ⊢
  have hx0 : (0 : Int) ≤ (x : Int) := by omega
  have hxt : ((x : Int)).toNat = x := by omega
  have hxn : (x : Int) < (n0 : Int) := by omega
  have hy0 : (0 : Int) ≤ (y : Int) := by omega
  have hyt : ((y : Int)).toNat = y := by omega
  have hyn : (y : Int) < (n0 : Int) := by omega
  have HCON := Lib.hid (fun W : World => (Try.cmp_Compare_int p q W).mono (fun e w' h => (⟨h.1, 0, h.2⟩ : Ans (.int .i64 (Lib.compareInt p q)) W e w')))
  generalize Lib.compareInt p q = r at HCON ⊢
  go_enter Try.func52, Try.ntmps52
  go_wp2_with fail
  go_quiet ((go_at_call 53; exact ans_quiet HCON.out))
  go_wp2
  go_ret
  exact ⟨rfl, _, rfl⟩

open Go.Shelf Go.Sort in
theorem heap_sw {enc : Nat → Value} {w : World} {g n : Nat} {C : Array Value} {t : TypeId} {os : Array Obj} (d : Array Nat) (h : w.heap[g]? = some (.cells C t (0, 0))) : (sortWorld enc w g 0 n d os).heap[g]? = some (.cells (putCells enc 0 d C) t (0, 0)) := by
  have h' : (Sort.ahead w n).heap[g]? = some (.cells C t (0, 0)) := h
  have hlt : g < w.heap.size := (Array.getElem?_eq_some_iff.1 h).1
  unfold sortWorld
  rw [heap_grow_old _ _ (by simpa [putRow, mapBlock, Sort.ahead] using hlt)]
  simp only [putRow, mapBlock, Array.getElem?_modify, if_true, h', Option.map_some]
  rfl
open Go.Shelf Go.Sort in
theorem grownBy_sw {enc : Nat → Value} {w : World} {g n : Nat} {os : Array Obj} (d : Array Nat) : w.grownBy (sortWorld enc w g 0 n d os) (some g) := by
  refine ⟨rfl, rfl, rfl, by simp [sortWorld, putRow, mapBlock, Sort.ahead, grow], fun k hk hne => ?_⟩
  unfold sortWorld
  rw [heap_grow_old _ _ (by simpa [putRow, mapBlock, Sort.ahead] using hk)]
  have : g ≠ k := fun e => hne (by rw [e])
  simp [putRow, mapBlock, Sort.ahead, Array.getElem?_modify, this]
theorem lt_dev (xs : List DNode) (c : Nat → Nat) (x y : Nat) : ltOf (fun x y => Lib.compareInt (dev xs (c x)) (dev xs (c y))) x y = decide (dev xs (c x) < dev xs (c y)) := by
  unfold ltOf Lib.compareInt
  by_cases h1 : dev xs (c x) < dev xs (c y)
  · simp [h1]
  · by_cases h2 : dev xs (c y) < dev xs (c x) <;> simp [h1, h2]
open Go.Shelf Go.Sort in
theorem swo_dev (xs : List DNode) (c : Nat → Nat) : SWO (ltOf (fun x y => Lib.compareInt (dev xs (c x)) (dev xs (c y)))) where
  irrefl x := by rw [lt_dev]; simp
  trans x y z h1 h2 := by rw [lt_dev] at *; simp at *; omega
  ntrans x y z h1 h2 := by rw [lt_dev] at *; simp at *; omega
theorem nums_at (ks : List Nat) (k : Nat) (h : k < ks.length) : (nums ks).getD k 0 = ((ks[k] : Nat) : Int) := by
  simp [nums, List.getD_eq_getElem?_getD, h]

def SortP (xs : List DNode) (base : Nat) (v : Value) (fl : List Nat) (W : World) (e : Ending) (w' : World) : Prop := e = .returned (.tuple #[]) ∧ ∃ ks : List Nat, ks.Perm fl ∧ ks.Pairwise (fun a b => dev xs a ≤ dev xs b) ∧ OwL shI w' base w'.heap.size v (nums ks) ∧ W.grownBy w' v.ownBlock
open Go.Shelf Go.Sort in
theorem sort_any (W : World) (xs : List DNode) (base tb b off n0 c0 : Nat) (v : Value) (fl : List Nat) (hrow : W.ownsRow base 3 1 v (nums fl).length (i64s (nums fl))) (hb : W.heap[tb]? = some (.cells #[.slice (some ⟨b, off, none⟩) n0 c0] 29 (0, 0))) (hc : ∀ k, k < n0 → W.cell? ⟨b, off + k * 3 + 1, none⟩ = some (.int .i64 (dev xs k))) (ht : tb < base) (hbb : b < base) (hfl : ∀ n ∈ fl, n < n0) (hm : fl.length ≤ 1000000) :
    Calls Try.prog 51 #[v, .func (.func 52) #[] #[.pointer (some ⟨tb, 0, none⟩)]] W (SortP xs base v fl W) := by
  by_cases h0 : fl = []
  · subst h0
    obtain ⟨p, n, c, rfl⟩ := RdL.form (owI_out (by simp [nums]) (owI_row hrow)).rd
    have hn : n = 0 := by obtain ⟨_, h2⟩ := hrow; rcases h2 with ⟨e, h0⟩ | ⟨_, _, _, e, _⟩ <;> injection e
    subst hn
    refine (Try.slices_SortFunc_none p c _ W).mono ?_
    rintro e w' ⟨rfl, rfl⟩
    exact ⟨rfl, [], List.Perm.refl _, List.Pairwise.nil, owI_out (by simp [nums]) (owI_row hrow), gby_refl _ _⟩
  · have hl1 : 1 ≤ (nums fl).length := by
      rw [nums_len]
      rcases Nat.eq_zero_or_pos fl.length with h | h
      · exact absurd (List.eq_nil_of_length_eq_zero h) h0
      · exact h
    obtain ⟨g, cap, C, rfl, hg, hgb, hcp, hsz, hC⟩ := row_blk hrow hl1
    rw [nums_len] at hcp hC ⊢
    have hn0 : 0 < n0 := by
      cases fl with
      | nil => exact absurd rfl h0
      | cons a l => have := hfl a List.mem_cons_self; omega
    let c : Nat → Nat := fun n => if n < n0 then n else 0
    let enc : Nat → Value := fun n => .int .i64 ((c n : Nat) : Int)
    have hcl : ∀ n, c n < n0 := fun n => by
      show (if n < n0 then n else 0) < n0
      split <;> omega
    have hce : ∀ n, n < n0 → c n = n := fun n hn => if_pos hn
    have hlt : g < W.heap.size := (Array.getElem?_eq_some_iff.1 hgb).1
    have hH : Holds enc W g 0 fl.toArray := by
      intro j hj
      have hj' : j < fl.length := by simpa using hj
      refine ⟨?_, frozen_of_row W g _ C _ hgb⟩
      rw [cell_of_row W g _ C _ _ hgb, Nat.zero_add, hC j hj', nums_at fl j hj']
      have e1 : fl.toArray[j]! = fl[j] := by simp [hj']
      rw [e1]
      show _ = some (Value.int .i64 ((c fl[j] : Nat) : Int))
      rw [hce _ (hfl _ (List.getElem_mem hj'))]
    have eg : ∀ args w, (callFunc 52 args).run Try.prog w = .ok (.enter 52 args) w := enters_of Try.func52 (by kernel_rfl) rfl
    have hcmp : CmpReads Try.prog 52 #[.pointer (some ⟨tb, 0, none⟩)] enc (fun x y => Lib.compareInt (dev xs (c x)) (dev xs (c y))) g 0 fl.toArray.size W := by
      intro m os dk hdk x y
      have hgr := grownBy_sw (enc := enc) (w := W) (g := g) (n := m) (os := os) dk
      have := cmp_dev (sortWorld enc W g 0 m dk os) xs tb b off n0 c0 (c x) (c y) (hcl x) (hcl y) ((hgr.block tb (Array.getElem?_eq_some_iff.1 hb).1 (by simp; omega)).trans hb) (fun k hk => hgr.cell (hc k hk) (by simp; omega))
      exact this.mono (fun e w' h => ⟨h.1, h.2⟩)
    have hcon := Try.slices_SortFunc enc (fun _ => rfl) _ (swo_dev xs c) 52 #[.pointer (some ⟨tb, 0, none⟩)] g 0 cap fl.toArray W eg hcmp.lays hH hlt (by simp; omega)
    rw [List.size_toArray] at hcon
    refine hcon.mono ?_
    rintro e w' ⟨rfl, d', n, os, hp, hs, rfl⟩
    obtain ⟨p1a, _, p3⟩ := hp
    have p1 : d'.size = fl.length := by simpa using p1a
    clear p1a
    have hperm : d'.toList.Perm fl := by
      have q := p3
      have e1 : d'.extract 0 fl.length = d' := by rw [← p1]; simp
      have e2 : fl.toArray.extract 0 fl.length = fl.toArray := by simp
      rw [e1, e2] at q
      simpa using q
    have hin : ∀ n ∈ d'.toList, n < n0 := fun n hn => hfl n (hperm.mem_iff.1 hn)
    have hlk : (nums d'.toList).length = fl.length := by rw [nums_len]; exact hperm.length_eq
    refine ⟨rfl, d'.toList, hperm, ?_, ?_, grownBy_sw d'⟩
    · rw [List.pairwise_iff_getElem]
      intro i j hi hj hij
      have hj2 : j < fl.length := by rw [← p1]; simpa using hj
      have q := hs i j (Nat.zero_le _) hij hj2
      rw [lt_dev] at q
      have ei : d'[i]! = d'.toList[i] := by rw [getElem!_pos d' i (by omega)]; simp
      have ej : d'[j]! = d'.toList[j] := by rw [getElem!_pos d' j (by omega)]; simp
      rw [ei, ej, hce _ (hin _ (List.getElem_mem hi)), hce _ (hin _ (List.getElem_mem hj))] at q
      simpa using q
    · rw [← hlk]
      refine owL_I_cells (heap_sw d' hgb) hg (Nat.lt_of_lt_of_le hlt (grownBy_sw d').size) (by omega) (by omega) (fun k hk => ?_)
      rw [hlk] at hk
      have hkc : k < C.size := by omega
      have hkd : k < d'.size := by omega
      rw [Nat.zero_add, putCells, Array.getElem?_mapIdx, Array.getElem?_eq_getElem hkc, Option.map_some, if_pos ⟨Nat.zero_le _, by omega⟩, Nat.sub_zero, getElem!_pos d' k hkd]
      show some (Value.int .i64 ((c d'[k] : Nat) : Int)) = _
      rw [nums_at _ _ (by simpa using hkd), hce _ (hin _ (by simp))]
      simp

/-- the nodes below k, as they come -/
def flk (xs : List DNode) (k : Int) (m : Nat) : List Nat := (List.range m).filter (fun n => decide ((nd xs n).f0 = k))
theorem flk_succ (xs : List DNode) (k : Int) (m : Nat) : flk xs k (m + 1) = flk xs k m ++ (if (nd xs m).f0 = k then [m] else []) := by
  unfold flk
  rw [List.range_succ, List.filter_append]
  congr 1
  by_cases h : (nd xs m).f0 = k <;> simp [h]
theorem flk_len (xs : List DNode) (k : Int) (m : Nat) : (flk xs k m).length ≤ m := by
  have := List.length_filter_le (fun n => decide ((nd xs n).f0 = k)) (List.range m)
  unfold flk; rw [List.length_range] at this; exact this
theorem mem_flk {xs : List DNode} {k : Int} {m n : Nat} : n ∈ flk xs k m ↔ n < m ∧ (nd xs n).f0 = k := by simp [flk]
theorem flk_kids {xs : List DNode} (h : TOk xs) {k : Int} (hk : 0 ≤ k) {ks : List Nat} (hp : ks.Perm (flk xs k xs.length)) (hs : ks.Pairwise (fun a b => dev xs a ≤ dev xs b)) : ks = kidsN xs k 4 := by
  refine kids_one (k := k) ⟨fun n => ?_, ?_⟩ (kids_is h k)
  · rw [hp.mem_iff, mem_flk]
    constructor
    · rintro ⟨h1, h2⟩
      refine ⟨?_, h1, h2⟩
      by_cases n0 : n = 0
      · subst n0; rw [h.2.1.1] at h2; omega
      · omega
    · rintro ⟨_, h1, h2⟩
      exact ⟨h1, h2⟩
  · have hnd : ks.Nodup := hp.nodup_iff.2 (List.Pairwise.filter _ List.nodup_range)
    refine (hs.and hnd).imp_of_mem (fun {a b} ha hb ⟨h1, h2⟩ => ?_)
    rw [hp.mem_iff, mem_flk] at ha hb
    have h3 : ¬ dev xs a = dev xs b := by
      intro e
      have hpos : ∀ n, (nd xs n).f0 = k → 1 ≤ n := fun n hn => by
        by_cases n0 : n = 0
        · subst n0; rw [h.2.1.1] at hn; omega
        · omega
      rcases Nat.lt_or_ge a b with hab | hab
      · exact (h.2.2 b (hpos b hb.2) hb.1).2.2.2.2 a (hpos a ha.2) hab ⟨ha.2.trans hb.2.symm, e⟩
      · exact (h.2.2 a (hpos a ha.2) ha.1).2.2.2.2 b (hpos b hb.2) (by omega) ⟨hb.2.trans ha.2.symm, e.symm⟩
    show dev xs a < dev xs b
    omega

set_option maxRecDepth 8000 in
set_option maxHeartbeats 4000000 in
theorem implKidsOf (W : World) (v : Value) (xs : List DNode) (k : Int) (H : RdL shNode W v xs) (hl : szL shNode xs ≤ 1048576) (hp : NodeP xs k) (hbw : ∀ b off n c, v = .slice (some ⟨b, off, none⟩) n c → b < W.heap.size) : Calls Try.prog 48 #[v, .int .i64 k] W (ResIChildrenOf (nums (kidsN xs k 4)) W) := by
  have HTO := Lib.hid hp.1
  have HK0 := Lib.hid hp.2.1
  have hx12 := hp.1.1.2
  have hx1 := hp.1.1.1
  clear hp
  obtain ⟨i1_, hi1_, hz0_, hz1_, hz2_⟩ := info_parts infoInt
  have HT := Lib.hid H
  have HL := Lib.hid hl
  have HMX := Lib.hid H.max
  obtain ⟨a0, c0, rfl, hcap, hi⟩ := rdN_in H
  obtain ⟨n0, hlen⟩ : ∃ n, n = xs.length := ⟨_, rfl⟩
  have HE := Lib.hid hlen
  unfold RdN at hi
  rw [← hlen] at hi HT ⊢
  have HA := Lib.hid hi
  have hlx : n0 ≤ 1048576 := by have := szL_len shNode xs; omega
  clear H hi hlen hl hcap
  have hn1 : 1 ≤ n0 := by have := HE.out; omega
  have hn12 : n0 ≤ 12 := by have := HE.out; omega
  obtain ⟨b, off, rfl, hcell⟩ := HA.out.resolve_left (by omega)
  have HC := Lib.hid hcell
  have HBW := Lib.hid (hbw _ _ _ _ rfl)
  clear hcell hx1 hx12 hbw
  go_enter Try.func48, Try.ntmps48
  have rT1_ := Lib.hid (show ((W.alloc (.cells #[.slice (some ⟨b, off, none⟩) n0 c0] 29))).heap[W.heap.size]? = some (.cells #[.slice (some ⟨b, off, none⟩) n0 c0] 29 (0, 0)) from by exact heap_alloc_new _ _)
  have G2_ := Lib.hid (show (W).grownBy ((W.alloc (.cells #[.slice (some ⟨b, off, none⟩) n0 c0] 29))) none from (gby_alloc (gby_refl _ _) _))
  have T_0_ : ((W.alloc (.cells #[.slice (some ⟨b, off, none⟩) n0 c0] 29))).cell? ⟨W.heap.size, 0, none⟩ = some (.slice (some ⟨b, off, none⟩) n0 c0) := cell_of_row _ _ 0 _ _ _ rT1_.out
  have HTM3_ := Lib.hid (gby_refl ((W.alloc (.cells #[.slice (some ⟨b, off, none⟩) n0 c0] 29))) none)
  have MG4_ := Lib.hid (show (W).grownBy ((W.alloc (.cells #[.slice (some ⟨b, off, none⟩) n0 c0] 29))) none from G2_.out)
  have MR5_ := Lib.hid rT1_.out
  go_wp2
  go_loopw [5, 6, 7, 10] (fun v z p i wr => ∃ n : Nat, i = .int .i64 (n : Int) ∧ n ≤ n0 ∧ (∃ q, z = q) ∧ (∃ q, p = q) ∧ wr.ownsRow (W.heap.size + 1) 3 1 v (nums (flk xs k n)).length (i64s (nums (flk xs k n))) ∧ ((W.alloc (.cells #[.slice (some ⟨b, off, none⟩) n0 c0] 29))).grownBy wr none) (fun _ _ _ i _ => n0 - (intOf i).toNat)
  case atStart => exact ⟨0, rfl, by omega, ⟨_, rfl⟩, ⟨_, rfl⟩, World.ownsRow_nil _ _ _ _, HTM3_.out⟩
  case round =>
    clear T_0_
    clear rT1_
    clear HTM3_
    obtain ⟨n, rfl, hn, ⟨z, rfl⟩, ⟨p, rfl⟩, hown, hg⟩ := hrel
    have szr_ := hg.size
    try simp only [World.size_alloc, World.size_setCell] at szr_
    have G6_ := Lib.hid (show (W).grownBy (wr) none from gby_trans MG4_.out hg)
    have rT7_ := Lib.hid (show (wr).heap[W.heap.size]? = some (.cells #[.slice (some ⟨b, off, none⟩) n0 c0] 29 (0, 0)) from row_held hg MR5_.out)
    have HTM8_ := Lib.hid hg
    clear hg
    have T_0_ : (wr).cell? ⟨W.heap.size, 0, none⟩ = some (.slice (some ⟨b, off, none⟩) n0 c0) := cell_of_row _ _ 0 _ _ _ rT7_.out
    have HO := Lib.hid hown
    clear hown
    have hi0 : (0 : Int) ≤ (n : Int) := by omega
    have htn : ((n : Int)).toNat = n := by omega
    by_cases hlt : n < n0
    rotate_left
    · obtain rfl : n = n0 := by omega
      have hki : ¬ (n : Int) < (n : Int) := by omega
      go_wp2_with fail
      go_at_call 51
      refine (sort_any _ xs (W.heap.size + 1) W.heap.size b off n c0 _ (flk xs k n) HO.out rT7_.out (fun j hj => (G6_.out).cell (HC.out j hj).2.1 (by simp)) (by omega) (by have := HBW.out; omega) (fun j hj => (mem_flk.1 hj).1) (by have := flk_len xs k n; omega)).mono ?_
      rintro e w5 ⟨rfl, ks, hp, hs, ho, g5⟩
      have hks : ks = kidsN xs k 4 := flk_kids HTO.out HK0.out (by rw [← HE.out]; exact hp) hs
      subst hks
      have HO5 := Lib.hid ho
      have HG5 := Lib.hid (gby_new G6_.out g5 (fun i hi => by have := own_from HO.out i hi; omega))
      clear hp hs ho g5
      go_wp2
      go_ret
      exact ⟨_, rfl, OwU.one (OwL.wide HO5.out (by omega) (Nat.le_refl _)), HG5.out⟩
    have hki : (n : Int) < (n0 : Int) := by omega
    obtain ⟨y, hy⟩ : ∃ y, y = nd xs n := ⟨_, rfl⟩
    have hyc := HC.out n hlt
    rw [← hy] at hyc
    have HY := Lib.hid hy
    have HY0 := Lib.hid hyc.1
    have HY1 := Lib.hid hyc.2.1
    have HY2 := Lib.hid hyc.2.2
    clear hy hyc
    obtain ⟨y0, y1, y2⟩ := y
    dsimp only at HY0 HY1 HY2
    have y0_ := (G6_.out).cell HY0.out (by simp)
    have y1_ := (G6_.out).cell HY1.out (by simp)
    have y2_ := (G6_.out).cell HY2.out (by simp)
    by_cases h0 : y0 = k
    rotate_left
    · have hb : (y0 == k) = false := by simpa using h0
      have HK : Hid (¬ (nd xs n).f0 = k) := Lib.hid (fun q => h0 (by rw [← HY.out] at q; exact q))
      clear h0
      go_wp2
      refine ⟨⟨n + 1, by go_num, by omega, ⟨_, rfl⟩, ⟨_, rfl⟩, ?_, gby_alloc HTM8_.out _⟩, by simp [intOf]; omega⟩
      rw [flk_succ, if_neg HK.out, List.append_nil]
      exact HO.out.alloc _
    have hb : (y0 == k) = true := by simpa using h0
    have HK : Hid ((nd xs n).f0 = k) := Lib.hid (by rw [← HY.out]; exact h0)
    clear h0
    obtain ⟨m, hm⟩ : ∃ m, m = (nums (flk xs k n)).length := ⟨_, rfl⟩
    have HO1 := Lib.hid (show wr.ownsRow (W.heap.size + 1) 3 1 _ m (i64s (nums (flk xs k n))) from by rw [hm]; exact HO.out)
    have hb1 : m ≤ 12 := by rw [hm, nums_len]; have := flk_len xs k n; omega
    have HM := Lib.hid hm
    clear hm
    go_wp2_with (at_builtin; refine wpList_append_lies _ (by rfl) _ _ _ (by rfl) (W.heap.size + 1) 3 i1_ _ 1 8 Try.underlying36 hi1_ hz0_ hz1_ hz2_ rfl (by omega) _ m (i64s (nums (flk xs k n))) (by rfl) ((HO1.out.alloc _).alloc _) ⟨wr.heap.size + 1, 0, none⟩ 1 1 _ (by rfl) (by rfl) (World.news_of_block (t := 3) (fr := (0, 0)) (heap_pair wr _ _)) (by simp [Value.oneCell']) (by omega) (by unfold maxLen; omega) (by omega) (by first | (simp; omega) | simp) (wr.heap.size + 1 + 1) (by simp) ?_; intro gg1 cap1 wa1 hown_ hgr_ hat_ hlt_; have HP1 := Lib.hid hown_; have HQ1 := Lib.hid (gby_new (gby_alloc (gby_alloc HTM8_.out _) _) hgr_ (fun i hi => by have := own_from HO1.out i hi; (try simp only [World.size_alloc] at *); omega)); clear hown_ hgr_ hat_ hlt_)
    refine ⟨⟨n + 1, by go_num, by omega, ⟨_, rfl⟩, ⟨_, rfl⟩, ?_, HQ1.out⟩, by simp [intOf]; omega⟩
    have e_ : nums (flk xs k (n + 1)) = (nums (flk xs k n)) ++ [(n : Int)] := by rw [flk_succ, if_pos HK.out, nums_app]; rfl
    rw [e_, List.length_append, List.length_singleton, ← HM.out, i64s_append]
    exact HP1.out

end Go.Proofs.Ytdddidnibelmhaa
