/-
  Numbers that begin anywhere in a block of the call's own: turned round, appended to.
-/
import Derived.Test.YtodfbodagjmfmabRevI
import Derived.Test.YtodfbodagjmfmabSetI
import Derived.ArgAppend
namespace Go.Proofs.Ytodfbodagjmfmab
open Go Go.RowKit
set_option linter.unusedVariables false

theorem owL_I_cells {w : World} {lo hi b off cap : Nat} {xs : List Int} {C : Array Value} (hb : w.heap[b]? = some (.cells C 3 (0, 0))) (h1 : lo ≤ b) (h2 : b < hi) (hm : xs.length ≤ 1000000) (hcap : xs.length ≤ cap) (hc : ∀ k, k < xs.length → C[off + k]? = some (.int .i64 (xs.getD k 0))) : OwL shI w lo hi (.slice (some ⟨b, off, none⟩) xs.length cap) xs := by
  refine ⟨_, cap, rfl, ⟨(fun e => by cases e), hcap⟩, by omega, (fun p hp => by cases hp; exact ⟨h1, h2⟩), .inr ⟨b, off, fun _ => b, fun _ => b, C, 3, rfl, hb, fun k hk => ⟨h1, Nat.le_of_lt h2, .inr (Nat.le_refl _), [.int .i64 (xs.getD k default)], fun j hj => ?_, rfl⟩, fun j k _ _ => .inl (Nat.le_refl _)⟩⟩
  obtain rfl : j = 0 := by simp at hj; omega
  show C[off + k * 1 + 0]? = _
  rw [Nat.mul_one, Nat.add_zero, hc k hk]
  rfl

theorem heap_setCells_same {g : Nat} {t : TypeId} : ∀ (vs : List Value) (o : Nat) (w : World) (C : Array Value), w.heap[g]? = some (.cells C t (0, 0)) → ∃ C', (w.setCells g o vs).heap[g]? = some (.cells C' t (0, 0)) ∧ C'.size = C.size
  | [], _, _, C, h => ⟨C, h, rfl⟩
  | v :: r, o, w, C, h => by
    obtain ⟨C', h1, h2⟩ := heap_setCells_same r (o + 1) (w.setCell ⟨g, o, none⟩ v) _ (heap_setCell_same w g o C t v h)
    exact ⟨C', h1, by simpa using h2⟩
theorem gby_setCells {g : Nat} {w : World} : ∀ (vs : List Value) (o : Nat) (a : World), w.grownBy a (some g) → w.grownBy (a.setCells g o vs) (some g)
  | [], _, _, h => h
  | v :: r, o, a, h => gby_setCells r (o + 1) _ (gby_set h o v)
theorem size_setCells {g : Nat} : ∀ (vs : List Value) (o : Nat) (a : World), (a.setCells g o vs).heap.size = a.heap.size
  | [], _, _ => rfl
  | v :: r, o, a => by rw [World.setCells, size_setCells r]; simp

open Go.Shelf Go.Sort in
theorem heap_put {w : World} {g off n : Nat} {C : Array Value} {t : TypeId} (d : Array Int) (h : w.heap[g]? = some (.cells C t (0, 0))) : (putRow (Value.int .i64) (Sort.ahead w n) g off d).heap[g]? = some (.cells (putCells (Value.int .i64) off d C) t (0, 0)) := by
  have h' : (Sort.ahead w n).heap[g]? = some (.cells C t (0, 0)) := h
  simp only [putRow, mapBlock, Array.getElem?_modify, if_true, h', Option.map_some]
  rfl
open Go.Shelf Go.Sort in
theorem grownBy_putAt {w : World} {g off n : Nat} (d : Array Int) : w.grownBy (putRow (Value.int .i64) (Sort.ahead w n) g off d) (some g) :=
  ⟨rfl, rfl, rfl, by simp [putRow, mapBlock, Sort.ahead], fun k hk hne => by
    have : g ≠ k := fun e => hne (by rw [e])
    simp [putRow, mapBlock, Sort.ahead, Array.getElem?_modify, this]⟩

def RevAt (W : World) (g off : Nat) (C : Array Value) (zs : List Int) (e : Ending) (w' : World) : Prop := e = .returned (.tuple #[]) ∧ ∃ C', w'.heap[g]? = some (.cells C' 3 (0, 0)) ∧ C'.size = C.size ∧ (∀ k, k < zs.length → C'[off + k]? = some (.int .i64 (zs.reverse.getD k 0))) ∧ W.grownBy w' (some g)
open Go.Shelf Go.Sort in
theorem rev_at (W : World) (g off cap : Nat) (C : Array Value) (zs : List Int) (hb : W.heap[g]? = some (.cells C 3 (0, 0))) (hc : ∀ k, k < zs.length → C[off + k]? = some (.int .i64 (zs.getD k 0))) (hm : zs.length ≤ 1000000) : Calls Try.prog 58 #[.slice (some ⟨g, off, none⟩) zs.length cap] W (RevAt W g off C zs) := by
  have hH : Holds (Value.int .i64) W g off zs.toArray := by
    intro j hj
    have hj' : j < zs.length := by simpa using hj
    refine ⟨?_, frozen_of_row W g _ C _ hb⟩
    rw [cell_of_row W g _ C _ _ hb, hc j hj']
    simp [hj']
  refine (Try.slices_Reverse_int g off cap zs W hH (by omega)).mono ?_
  rintro e w' ⟨rfl, q, rfl⟩
  refine ⟨rfl, _, heap_put _ hb, by simp [putCells], fun k hk => ?_, grownBy_putAt _⟩
  have h0 := hc k hk
  have hk2 : off + k < C.size := (Array.getElem?_eq_some_iff.1 h0).1
  rw [putCells, Array.getElem?_mapIdx, h0, Option.map_some, if_pos ⟨by omega, by simp; omega⟩]
  have e1 : off + k - off = k := by omega
  rw [e1]
  have hk3 : k < zs.reverse.length := by simpa using hk
  simp [hk]

theorem i64s_at (xs : List Int) (j : Nat) (u : Value) (h : (i64s xs)[j]? = some u) : j < xs.length ∧ u = .int .i64 (xs.getD j 0) := by
  rw [i64s, List.getElem?_map] at h
  cases e : xs[j]? with
  | none => rw [e] at h; cases h
  | some x =>
    rw [e] at h
    exact ⟨(List.getElem?_eq_some_iff.1 e).1, by rw [List.getD_eq_getElem?_getD, e]; exact (Option.some.inj h).symm⟩

theorem rdI_at {w : World} {a : Option Addr} {m c : Nat} {ys : List Int} (h : RdL shI w (.slice a m c) ys) : m = ys.length ∧ ∀ ad, a = some ad → ∀ j u, (i64s ys)[j]? = some u → w.cell? (ad.add j) = some u := by
  obtain ⟨a', cap, e, hc, hm, h⟩ := h
  injection e with e1 e2 e3
  subst e1 e2 e3
  refine ⟨rfl, ?_⟩
  rintro ad rfl j u hu
  obtain ⟨h1, rfl⟩ := i64s_at ys j u hu
  rcases h with h0 | ⟨b, off, ha, h⟩
  · omega
  · cases ha
    obtain ⟨cs, q1, q2⟩ := h j h1
    obtain rfl := q2
    have := q1 0 (by simp)
    rw [addr_add]
    simpa [shI] using this

theorem wpList_append_at {ops : Array Oper} {rest : List Oper} {o : Oper} {ac : Act} {Q : Exit → Act → World → Prop} (w : World) (hgd : o.guard = none) (l x : Operand)
    (ho : o.op = Op.call { callee := Callee.builtin Builtin.append, args := #[l, x], argTypes := #[24, 24] })
    (g off n cap : Nat) (C : Array Value) (xs : List Int) (hs : ac.eval l = .slice (some ⟨g, off, none⟩) n cap) (hn : n = xs.length) (hb : w.heap[g]? = some (.cells C 3 (0, 0))) (hsz : off + cap ≤ C.size) (hc : ∀ k, k < xs.length → C[off + k]? = some (.int .i64 (xs.getD k 0)))
    (ao : Option Addr) (m c2 : Nat) (ys : List Int) (hx : ac.eval x = .slice ao m c2) (hao : ∃ ad, ao = some ad) (hr : RdL shI w (.slice ao m c2) ys) (hbnd : n + m ≤ 1000000) (base : Nat) (hbase : base ≤ g)
    (h : ∀ v' w', OwL shI w' base w'.heap.size v' (xs ++ ys) → w.grownBy w' (some g) → wpList Try.prog ops Q rest (ac.put o.dst v') w') : wpList Try.prog ops Q (o :: rest) ac w := by
  obtain ⟨ad, rfl⟩ := hao
  obtain ⟨i1_, hi1_, hz0_, hz1_, hz2_⟩ := info_parts infoInt
  obtain ⟨hm, hnews⟩ := rdI_at hr
  have hnews := hnews ad rfl
  have hlt : g < w.heap.size := (Array.getElem?_eq_some_iff.1 hb).1
  subst hn
  refine wpList_append_arg w hgd l x _ ho 3 i1_ _ 1 8 Try.underlying24 hi1_ hz0_ hz1_ hz2_ rfl (by decide) g off xs.length cap (i64s xs) hs (by simp [i64s]) (fun j u hu => ?_) ad m c2 (i64s ys) hx (by simp [i64s, hm]) hnews (fun u hu => ?_) (fun hle j hj => ?_) (by unfold maxLen; omega) (by omega) (fun hle => ?_) (fun hgt v' w' hown hgr => ?_)
  · obtain ⟨h1, rfl⟩ := i64s_at xs j u hu
    rw [cell_of_row w g _ C _ _ hb, hc j h1]
  · obtain ⟨y, _, rfl⟩ := List.mem_map.1 hu
    rfl
  · have hj' : j < m := by simpa [i64s, hm] using hj
    refine ⟨?_, frozen_of_row w g _ C _ hb⟩
    have hin : off + xs.length * 1 + j < C.size := by omega
    rw [cell_of_row w g _ C _ _ hb, Array.getElem?_eq_getElem hin]
    rfl
  · obtain ⟨C', hb', hsz'⟩ := heap_setCells_same (i64s ys) (off + xs.length * 1) w C hb
    have hcell : ∀ k, k < (xs ++ ys).length → C'[off + k]? = some (.int .i64 ((xs ++ ys).getD k 0)) := by
      intro k hk
      rw [← cell_of_row _ g _ C' _ _ hb']
      by_cases hk1 : k < xs.length
      · rw [World.cell?_setCells_out g _ _ _ _ (fun _ _ => Or.inl (by show off + k < off + xs.length * 1; omega)), cell_of_row w g _ C _ _ hb, hc k hk1, List.getD_eq_getElem?_getD, List.getD_eq_getElem?_getD, List.getElem?_append_left hk1]
      · rw [List.length_append] at hk
        have hj : k - xs.length < (i64s ys).length := by simp [i64s]; omega
        have q := World.cell?_setCells_in g (i64s ys) (off + xs.length * 1) w (fun j hj => by
          have hj' : j < m := by simpa [i64s, hm] using hj
          have hin : off + xs.length * 1 + j < C.size := by omega
          rw [cell_of_row w g _ C _ _ hb, Array.getElem?_eq_getElem hin]
          rfl) (k - xs.length) hj
        rw [show off + xs.length * 1 + (k - xs.length) = off + k by omega] at q
        rw [q, List.getD_eq_getElem?_getD, List.getElem?_append_right (by omega)]
        have hj2 : k - xs.length < ys.length := by omega
        simp [i64s, List.getElem?_eq_getElem hj2]
    have hl : (xs ++ ys).length = xs.length + m := by rw [List.length_append, hm]
    rw [← hl]
    exact h _ _ (owL_I_cells hb' hbase (by rw [size_setCells]; exact hlt) (by omega) (by omega) hcell) (gby_setCells _ _ _ (gby_refl _ _))
  · have hl : (xs ++ ys).length = xs.length + m := by rw [List.length_append, hm]
    have e : i64s xs ++ i64s ys = i64s (xs ++ ys) := (i64s_append _ _).symm
    rw [e] at hown
    exact h _ _ (OwL.wide (owI_out (by omega) (owI_row hown)) (by omega) (Nat.le_refl _)) ⟨hgr.os, hgr.tape, hgr.output, hgr.size, fun k hk _ => hgr.block k hk (by simp)⟩

end Go.Proofs.Ytodfbodagjmfmab
