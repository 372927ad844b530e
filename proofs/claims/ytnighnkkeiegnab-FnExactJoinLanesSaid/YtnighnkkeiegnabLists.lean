/-
  Slices of slices of numbers: read, copied, measured, compared.
-/
import Derived.Test.YtnighnkkeiegnabChg
namespace Go.Proofs.Ytnighnkkeiegnab
open Go Go.RowKit

set_option maxRecDepth 100000 in
theorem infoSl : (Try.prog.info? 23).map (fun i => (i.zero, i.size, i.bytes)) = some (some (.slice none 0 0), 1, 24) := by kernel_rfl

/-- a slice of slices of numbers, read -/
def RLL (w : World) (a : Option Addr) (len : Nat) (L : List (List Int)) : Prop :=
  len = L.length ∧ (len = 0 ∨ ∃ b off, a = some ⟨b, off, none⟩ ∧ ∀ k, k < len → ∃ u, w.cell? ⟨b, off + k, none⟩ = some u ∧ RdI w u (L.getD k []))
theorem RLL.kept {w w' : World} {a : Option Addr} {len : Nat} {L : List (List Int)} (h : RLL w a len L) (g : w.grownBy w' none) : RLL w' a len L := by
  obtain ⟨h1, h2⟩ := h
  refine ⟨h1, ?_⟩
  rcases h2 with h0 | ⟨b, off, ha, hc⟩
  · exact .inl h0
  · refine .inr ⟨b, off, ha, fun k hk => ?_⟩
    obtain ⟨u, hu, hr⟩ := hc k hk
    exact ⟨u, g.cell hu (by simp), hr.kept g⟩
/-- .. as a value -/
def RdLL (w : World) (v : Value) (L : List (List Int)) : Prop := ∃ a cap, v = .slice a L.length cap ∧ RLL w a L.length L ∧ CapOk a L.length cap
theorem RdLL.kept {w w' : World} {v : Value} {L : List (List Int)} (h : RdLL w v L) (g : w.grownBy w' none) : RdLL w' v L := by
  obtain ⟨a, cap, rfl, h, hn⟩ := h
  exact ⟨a, cap, rfl, h.kept g, hn⟩

/-- a slice of slices of numbers, whose rows can be written: row k lies in the interval from P k to Q k; the intervals have no common block -/
def OwLL (w : World) (lo hi : Nat) (v : Value) (L : List (List Int)) : Prop :=
  ∃ a cap, v = .slice a L.length cap ∧ CapOk a L.length cap ∧ (L.length = 0 ∨ ∃ (b off : Nat) (P Q : Nat → Nat), a = some ⟨b, off, none⟩ ∧ lo ≤ b ∧ b < hi ∧
    (∀ k, k < L.length → lo ≤ P k ∧ Q k ≤ hi ∧ (b < P k ∨ Q k ≤ b) ∧ ∃ u, w.cell? ⟨b, off + k, none⟩ = some u ∧ OwI w (P k) (Q k) u (L.getD k [])) ∧
    ∀ j k, j < k → k < L.length → Q j ≤ P k ∨ Q k ≤ P j)
theorem OwLL.rd {w : World} {lo hi : Nat} {v : Value} {L : List (List Int)} (h : OwLL w lo hi v L) : RdLL w v L := by
  obtain ⟨a, cap, rfl, hc, h⟩ := h
  refine ⟨a, cap, rfl, ⟨rfl, ?_⟩, hc⟩
  rcases h with h0 | ⟨b, off, P, Q, ha, _, _, h, _⟩
  · exact .inl h0
  · refine .inr ⟨b, off, ha, fun k hk => ?_⟩
    obtain ⟨_, _, _, u, hu, ho⟩ := h k hk
    exact ⟨u, hu, ho.rd⟩
theorem OwLL.wide {w : World} {lo hi lo' hi' : Nat} {v : Value} {L : List (List Int)} (h : OwLL w lo hi v L) (h1 : lo' ≤ lo) (h2 : hi ≤ hi') : OwLL w lo' hi' v L := by
  obtain ⟨a, cap, rfl, hc, h⟩ := h
  refine ⟨a, cap, rfl, hc, ?_⟩
  rcases h with h0 | ⟨b, off, P, Q, ha, q1, q2, h, hd⟩
  · exact .inl h0
  · refine .inr ⟨b, off, P, Q, ha, by omega, by omega, fun k hk => ?_, hd⟩
    obtain ⟨p1, p2, p3, u, hu, ho⟩ := h k hk
    exact ⟨by omega, by omega, p3, u, hu, ho⟩
theorem chg_cell {w w' : World} {lo hi : Nat} (g : Chg w w' lo hi) {p : Addr} {v : Value} (h : w.cell? p = some v) (hb : p.block < lo ∨ hi ≤ p.block) : w'.cell? p = some v := by
  cases e : w.heap[p.block]? with
  | none => simp [World.cell?, e] at h
  | some o =>
    have := g.keep e hb
    simp only [World.cell?, e] at h
    simp only [World.cell?, this]
    exact h
theorem OwLL.kept {w w' : World} {lo hi lo' hi' : Nat} {v : Value} {L : List (List Int)} (h : OwLL w lo hi v L) (g : Chg w w' lo' hi') (hd : hi ≤ lo' ∨ hi' ≤ lo) : OwLL w' lo hi v L := by
  obtain ⟨a, cap, rfl, hc, h⟩ := h
  refine ⟨a, cap, rfl, hc, ?_⟩
  rcases h with h0 | ⟨b, off, P, Q, ha, q1, q2, h, hj⟩
  · exact .inl h0
  · refine .inr ⟨b, off, P, Q, ha, q1, q2, fun k hk => ?_, hj⟩
    obtain ⟨p1, p2, p3, u, hu, ho⟩ := h k hk
    exact ⟨p1, p2, p3, u, chg_cell g hu (by dsimp only; omega), ho.kept g (by omega)⟩
theorem OwLL.grow {w w' : World} {lo hi : Nat} {v : Value} {L : List (List Int)} (h : OwLL w lo hi v L) (g : w.grownBy w' none) : OwLL w' lo hi v L := h.kept (chg_gby g hi hi) (.inl (Nat.le_refl _))

theorem rll_rd {w : World} {lo hi n cap : Nat} {a : Option Addr} {L : List (List Int)} (h : OwLL w lo hi (.slice a n cap) L) : RLL w a n L := by
  obtain ⟨a', cap', e, h2, _⟩ := h.rd
  injection e with e1 e2 e3
  subst e1 e2
  exact h2

theorem own_lt {w : World} {base g : Nat} {e : TypeId} {n c s : Nat} {xs : List Value} (h : w.ownsRow base e s (.slice (some ⟨g, 0, none⟩) n c) n xs) : g < w.heap.size := by
  obtain ⟨_, h2⟩ := h
  rcases h2 with ⟨h, _⟩ | ⟨g', cap, cur, h, hb, hg, _⟩
  · cases h
  · injection h with h1
    injection h1 with h1
    injection h1 with h1
    subst h1
    exact block_in hg

/-- the first k rows are copied, each into blocks of its own -/
structure Copied (W wr : World) (L : List (List Int)) (ys : List Value) (P : Nat → Nat) (k : Nat) : Prop where
  start : W.heap.size < P 0
  last : P k = wr.heap.size
  step : ∀ j, j < k → P j ≤ P (j + 1)
  own : ∀ j, j < k → OwI wr (P j) (P (j + 1)) (ys.getD j (.slice none 0 0)) (L.getD j [])
theorem Copied.mono {W wr : World} {L : List (List Int)} {ys : List Value} {P : Nat → Nat} {k : Nat} (h : Copied W wr L ys P k) : ∀ i j, i ≤ j → j ≤ k → P i ≤ P j := by
  intro i j hij
  induction j with
  | zero => intro _; rw [show i = 0 by omega]; exact Nat.le_refl _
  | succ j ih =>
    intro hj
    by_cases e : i = j + 1
    · subst e; exact Nat.le_refl _
    · exact Nat.le_trans (ih (by omega) (by omega)) (h.step j (by omega))

theorem chg_set1 (w : World) (b k : Nat) (v : Value) : Chg w (w.setCell ⟨b, k, none⟩ v) b (b + 1) :=
  ⟨rfl, rfl, rfl, by simp, fun j hj hn => Below.heap_setCell _ _ _ _ (by dsimp only; omega)⟩
theorem getD_set_eq {α : Type} (ys : List α) (k : Nat) (v d : α) (hk : k < ys.length) : (ys.set k v).getD k d = v := by
  rw [List.getD_eq_getElem?_getD, List.getElem?_set_self hk]; rfl
theorem getD_set_ne {α : Type} (ys : List α) (k j : Nat) (v d : α) (hj : k ≠ j) : (ys.set k v).getD j d = ys.getD j d := by
  rw [List.getD_eq_getElem?_getD, List.getElem?_set_ne hj, ← List.getD_eq_getElem?_getD]

theorem copied_next {W wr w1 : World} {L : List (List Int)} {ys : List Value} {P : Nat → Nat} {k : Nat} {v : Value} (h : Copied W wr L ys P k) (hk : k < ys.length) (g : wr.grownBy w1 none) (o : OwI w1 wr.heap.size w1.heap.size v (L.getD k [])) :
    Copied W (w1.setCell ⟨W.heap.size, k, none⟩ v) L (ys.set k v) (fun j => if j = k + 1 then w1.heap.size else P j) (k + 1) := by
  have hs := h.start
  have hl := h.last
  have hgs := g.size
  have hm := h.mono
  refine ⟨by simpa using hs, by simp, fun j hj => ?_, fun j hj => ?_⟩
  · by_cases e : j = k
    · subst e; simp; omega
    · have := h.step j (by omega)
      rw [if_neg (by omega), if_neg (by omega)]; exact this
  · by_cases e : j = k
    · subst e
      rw [if_neg (by omega), if_pos rfl, getD_set_eq _ _ _ _ hk, hl]
      have := hm 0 j (by omega) (Nat.le_refl _)
      exact o.kept (chg_set1 _ _ _ _) (.inr (by omega))
    · rw [if_neg (by omega), if_neg (by omega), getD_set_ne _ _ _ _ _ (by omega)]
      have := hm 0 j (by omega) (by omega)
      exact ((h.own j (by omega)).grow g).kept (chg_set1 _ _ _ _) (.inr (by omega))

theorem copied_all {W w : World} {L : List (List Int)} {ys : List Value} {P : Nat → Nat} (h : Copied W w L ys P L.length) (hy : ys.length = L.length) (ho : w.ownsRow W.heap.size 23 1 (.slice (some ⟨W.heap.size, 0, none⟩) L.length L.length) L.length ys) :
    OwLL w W.heap.size w.heap.size (.slice (some ⟨W.heap.size, 0, none⟩) L.length L.length) L := by
  have hs := h.start
  have hl := h.last
  have hm := h.mono
  refine ⟨_, _, rfl, ⟨(fun e => by cases e), Nat.le_refl _⟩, .inr ⟨W.heap.size, 0, P, fun k => P (k + 1), rfl, Nat.le_refl _, own_lt ho, fun k hk => ?_, fun j k hj hk => .inl (hm (j + 1) k (by omega) (by omega))⟩⟩
  have := hm 0 k (by omega) (by omega)
  have := hm (k + 1) L.length (by omega) (Nat.le_refl _)
  refine ⟨by omega, by dsimp only; omega, .inl (by omega), ys.getD k (.slice none 0 0), ?_, h.own k hk⟩
  have hc := ho.cellAt k (by omega)
  rw [List.getElem?_eq_getElem (by omega)] at hc
  rw [Nat.zero_add, List.getD_eq_getElem?_getD, List.getElem?_eq_getElem (by omega)]
  exact hc

set_option maxHeartbeats 1000000 in
/-- the law's copy of a slice of slices of numbers -/
theorem toLL_any (W : World) (a : Option Addr) (len cap : Nat) (L : List (List Int)) (H : RLL W a len L) (hl : len ≤ 1048576) (hb : ∀ x ∈ L, x.length ≤ 1048576) :
    Calls Try.prog 22 #[.slice a len cap] W (fun e w' => ∃ v, e = .returned v ∧ OwLL w' W.heap.size w'.heap.size v L ∧ W.grownBy w' none) := by
  obtain ⟨e, H2⟩ := H
  have HC := Lib.hid H2
  have HE := Lib.hid e
  have HB := Lib.hid hb
  clear H2 e hb
  obtain ⟨i0, hi0, hz0, hz1, hz2⟩ := info_parts infoSl
  go_enter Try.func22, Try.ntmps22
  go_wp2_with (at_make; refine wpList_make_full _ rfl _ _ 25 rfl W.heap.size 23 i0 (.slice none 0 0) 1 Try.underlying25 hi0 hz0 hz1 .i64 .i64 _ _ len rfl rfl rfl rfl (by rw [hz2]; omega) (by unfold maxLen; omega) (Nat.le_refl _) ?_; intro w0 hown0 hgrow0; have HO0 := Lib.hid hown0; have HG0 := Lib.hid hgrow0; clear hown0 hgrow0)
  go_loopw [4] (fun i wr => ∃ (k : Nat) (ys : List Value) (P : Nat → Nat), k ≤ len ∧ i = .int .i64 (k : Int) ∧ ys.length = len ∧ Copied W wr L ys P k ∧ wr.ownsRow W.heap.size 23 1 (.slice (some ⟨W.heap.size, 0, none⟩) len len) len ys ∧ W.grownBy wr none) (fun i _ => len - (intOf i).toNat)
  case atStart =>
    refine ⟨0, List.replicate len (.slice none 0 0), fun _ => w0.heap.size, Nat.zero_le _, rfl, by simp, ⟨own_lt HO0.out, rfl, fun j hj => absurd hj (Nat.not_lt_zero _), fun j hj => absurd hj (Nat.not_lt_zero _)⟩, ?_, HG0.out⟩
    have := HO0.out
    rw [show (Value.slice none 0 0).cells = #[Value.slice none 0 0] from rfl, Nat.mul_one, toList_madeCells_one] at this
    exact this
  case round =>
    obtain ⟨k, ys, P, hk, rfl, hlen, heq, hown, hg⟩ := hrel
    have HO := Lib.hid hown
    have HG := Lib.hid hg
    have HQ := Lib.hid heq
    have HL := Lib.hid hlen
    by_cases hlt : k < len
    · obtain ⟨b, off, rfl, hcell⟩ := HC.out.resolve_left (by omega)
      obtain ⟨u, hu, ra, rc, rfl, hri, hrc⟩ := hcell k hlt
      have hc := hg.cell hu (by simp)
      have hxl : (L.getD k []).length ≤ 1048576 := by
        have := HE.out
        rw [List.getD_eq_getElem?_getD, List.getElem?_eq_getElem (by omega)]
        exact HB.out _ (List.getElem_mem _)
      have HR := Lib.hid hri
      generalize hx : L.getD k [] = x at hc hxl HR
      generalize hn : x.length = n at hc hxl HR
      have HX := Lib.hid hx
      have HN := Lib.hid hn
      clear hown hg heq hlen hcell hx hn hri hrc hu
      have hi0' : (0 : Int) ≤ (k : Int) := by omega
      have hi1 : (k : Int) < (len : Int) := by omega
      have htn : ((k : Int)).toNat = k := by omega
      go_wp2_with fail
      go_at_call 35
      refine (toI_any _ ra n rc x (HR.out.kept HG.out) hxl).mono ?_
      rintro e w1 ⟨v1, rfl, o1, g1⟩
      have hown1 := HO.out.grown g1
      have hf := hown1.frozenAt k
      have hc0 := hown1.cellAt k (by omega)
      obtain ⟨y, hy⟩ : ∃ y, ys[k]? = some y := ⟨_, List.getElem?_eq_getElem (by have := HL.out; omega)⟩
      rw [hy] at hc0
      have HO1 := Lib.hid hown1
      have G1 := Lib.hid g1
      have T1 := Lib.hid o1
      obtain ⟨a1, c1, hv1, _⟩ := o1
      clear hown1 g1 HO
      subst hv1
      go_wp2
      refine ⟨⟨k + 1, ys.set k (.slice a1 x.length c1), fun j => if j = k + 1 then w1.heap.size else P j, by omega, by go_num, by simp [HL.out], copied_next HQ.out (by have := HL.out; omega) G1.out (by rw [HX.out]; exact T1.out), ?_, gby_setnew (gby_trans HG.out G1.out) _ (Nat.le_refl _) _⟩, by simp [intOf]; omega⟩
      exact (HO1.out.stored k (.slice a1 x.length c1)).1
    · clear hown hg heq hlen
      have hi1 : ¬ (k : Int) < (len : Int) := by omega
      go_wp2
      go_ret
      have e1 : len = L.length := HE.out
      have e2 : k = L.length := by omega
      have hq := HQ.out
      have hy := HL.out
      have ho := HO.out
      rw [e2] at hq
      rw [e1] at ho hy
      rw [e1]
      exact ⟨_, rfl, copied_all hq hy ho, HG.out⟩

end Go.Proofs.Ytnighnkkeiegnab
