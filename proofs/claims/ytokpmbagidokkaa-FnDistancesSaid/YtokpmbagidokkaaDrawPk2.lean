/-
  Contract of the model's l04Packet: a drawn valid packet.
-/
import Derived.Test.YtokpmbagidokkaaDrawPk1
import Derived.Test.YtokpmbagidokkaaPkChk2
import Derived.Deep.RegionHeld3
namespace Go.Proofs.Ytokpmbagidokkaa
open Go Go.RowKit

theorem cells4 (w : World) (P : Int → Prop) (a b c d : Int) (ha : P a) (hb : P b) (hc : P c) (hd : P d) : ∀ k, k < 4 → ∃ n, (w.alloc (.cells #[.int .i64 a, .int .i64 b, .int .i64 c, .int .i64 d] 3)).cell? ⟨w.heap.size, k, none⟩ = some (.int .i64 n) ∧ P n := by
  intro k hk
  rw [cell_of_row _ _ _ _ _ _ (heap_alloc_new w _)]
  match k, hk with
  | 0, _ => exact ⟨_, rfl, ha⟩
  | 1, _ => exact ⟨_, rfl, hb⟩
  | 2, _ => exact ⟨_, rfl, hc⟩
  | 3, _ => exact ⟨_, rfl, hd⟩
  | n + 4, h => omega

theorem cells5 (w : World) (P : Int → Prop) (a b c d e : Int) (ha : P a) (hb : P b) (hc : P c) (hd : P d) (he : P e) : ∀ k, k < 5 → ∃ n, (w.alloc (.cells #[.int .i64 a, .int .i64 b, .int .i64 c, .int .i64 d, .int .i64 e] 3)).cell? ⟨w.heap.size, k, none⟩ = some (.int .i64 n) ∧ P n := by
  intro k hk
  rw [cell_of_row _ _ _ _ _ _ (heap_alloc_new w _)]
  match k, hk with
  | 0, _ => exact ⟨_, rfl, ha⟩
  | 1, _ => exact ⟨_, rfl, hb⟩
  | 2, _ => exact ⟨_, rfl, hc⟩
  | 3, _ => exact ⟨_, rfl, hd⟩
  | 4, _ => exact ⟨_, rfl, he⟩
  | n + 5, h => omega

theorem cells4n (w : World) (n : Nat) (hn : n = w.heap.size) (P : Int → Prop) (a b c d : Int) (ha : P a) (hb : P b) (hc : P c) (hd : P d) : ∀ k, k < 4 → ∃ m, (w.alloc (.cells #[.int .i64 a, .int .i64 b, .int .i64 c, .int .i64 d] 3)).cell? ⟨n, k, none⟩ = some (.int .i64 m) ∧ P m := by
  subst hn
  exact cells4 w P a b c d ha hb hc hd

theorem cells5n (w : World) (n : Nat) (hn : n = w.heap.size) (P : Int → Prop) (a b c d e : Int) (ha : P a) (hb : P b) (hc : P c) (hd : P d) (he : P e) : ∀ k, k < 5 → ∃ m, (w.alloc (.cells #[.int .i64 a, .int .i64 b, .int .i64 c, .int .i64 d, .int .i64 e] 3)).cell? ⟨n, k, none⟩ = some (.int .i64 m) ∧ P m := by
  subst hn
  exact cells5 w P a b c d e ha hb hc hd he

/-- a packet's eight cells -/
theorem cells_pk {w : World} {b : Nat} {k f t a l g s : Int} {d : Option Addr} {len cap : Nat} {ty : TypeId} (h : w.heap[b]? = some (.cells #[.int .i64 k, .int .i64 f, .int .i64 t, .int .i64 a, .int .i64 l, .int .i64 g, .int .i64 s, .slice d len cap] ty (0, 0))) :
    w.cell? ⟨b, 0, none⟩ = some (.int .i64 k) ∧ w.cell? ⟨b, 1, none⟩ = some (.int .i64 f) ∧ w.cell? ⟨b, 2, none⟩ = some (.int .i64 t) ∧ w.cell? ⟨b, 3, none⟩ = some (.int .i64 a) ∧ w.cell? ⟨b, 4, none⟩ = some (.int .i64 l) ∧ w.cell? ⟨b, 5, none⟩ = some (.int .i64 g) ∧ w.cell? ⟨b, 6, none⟩ = some (.int .i64 s) ∧ w.cell? ⟨b, 7, none⟩ = some (.slice d len cap) :=
  ⟨cell_of_row w b 0 _ _ _ h, cell_of_row w b 1 _ _ _ h, cell_of_row w b 2 _ _ _ h, cell_of_row w b 3 _ _ _ h, cell_of_row w b 4 _ _ _ h, cell_of_row w b 5 _ _ _ h, cell_of_row w b 6 _ _ _ h, cell_of_row w b 7 _ _ _ h⟩

/-- the numbers of a slice stay where only another block is written -/
theorem ISl.keptBy {w w' : World} {a : Option Addr} {len : Nat} {xs : List Int} {r : Option Nat} (h : ISl w a len xs) (g : w.grownBy w' r) (hne : ∀ p, a = some p → r ≠ some p.block) : ISl w' a len xs := by
  obtain ⟨h1, h2⟩ := h
  refine ⟨h1, ?_⟩
  rcases h2 with h0 | ⟨b, off, ha, hc⟩
  · exact .inl h0
  · exact .inr ⟨b, off, ha, fun k hk => g.cell (hc k hk) (by have := hne _ ha; simpa [eq_comm] using this)⟩

/-- a packet that is being made, in block b -/
structure Mid (W w : World) (c b : Nat) (k f t a l g s : Int) (d : Option Addr) (len cap : Nat) (xs : List Int) : Prop where
  cur : Cur w c
  gby : W.grownBy w (some c)
  row : w.heap[b]? = some (.cells #[.int .i64 k, .int .i64 f, .int .i64 t, .int .i64 a, .int .i64 l, .int .i64 g, .int .i64 s, .slice d len cap] 26 (0, 0))
  res : w.heap[W.heap.size]? = some (.cells #[.int .i64 0, .int .i64 0, .int .i64 0, .int .i64 0, .int .i64 0, .int .i64 0, .int .i64 0, .slice none 0 0] 26 (0, 0))
  lt : W.heap.size < b
  low : c < W.heap.size
  isl : ISl w d len xs
  far : ∀ p, d = some p → b < p.block

theorem block_there {w : World} {b : Nat} {o : Obj} (h : w.heap[b]? = some o) : b < w.heap.size := by
  rcases Nat.lt_or_ge b w.heap.size with h' | h'
  · exact h'
  · rw [Array.getElem?_eq_none h'] at h; cases h

theorem Mid.kept {W w w' : World} {c b : Nat} {k f t a l g s : Int} {d : Option Addr} {len cap : Nat} {xs : List Int} (h : Mid W w c b k f t a l g s d len cap xs) (G : w.grownBy w' (some c)) (H : Cur w' c) : Mid W w' c b k f t a l g s d len cap xs :=
  ⟨H, gby_trans h.gby G, (G.block b (block_there h.row) (fun e => by have := Option.some.inj e; have := h.lt; have := h.low; omega)).trans h.row,
    (G.block _ (block_there h.res) (fun e => by have := Option.some.inj e; have := h.low; omega)).trans h.res, h.lt, h.low,
    h.isl.keptBy G (fun p hp e => by have := Option.some.inj e; have := h.far p hp; have := h.lt; have := h.low; omega), h.far⟩

theorem Mid.alloc {W w : World} {c b : Nat} {k f t a l g s : Int} {d : Option Addr} {len cap : Nat} {xs : List Int} (h : Mid W w c b k f t a l g s d len cap xs) (o : Obj) : Mid W (w.alloc o) c b k f t a l g s d len cap xs :=
  h.kept (gby_alloc (gby_refl _ _) o) (cur_kept h.cur (World.grownBy_alloc w o none) (by simp))

theorem Mid.drewN {W w : World} {c b : Nat} {k f t a l g s : Int} {d : Option Addr} {len cap : Nat} {xs : List Int} (h : Mid W w c b k f t a l g s d len cap xs) (n : Nat) : Mid W (w.drewN n) c b k f t a l g s d len cap xs :=
  ⟨h.cur, gby_drewN h.gby n, h.row, h.res, h.lt, h.low, h.isl, h.far⟩

theorem Mid.put2 {W w : World} {c b : Nat} {k f t a l g s : Int} {d : Option Addr} {len cap : Nat} {xs : List Int} (h : Mid W w c b k f t a l g s d len cap xs) (v : Int) : Mid W (w.setCell ⟨b, 2, none⟩ (.int .i64 v)) c b k f v a l g s d len cap xs := by
  have G := gby_set (gby_refl w (some b)) 2 (.int .i64 v)
  refine ⟨cur_other h.cur G (fun q hq => by have := Option.some.inj hq; have := h.lt; have := h.low; omega), gby_setnew h.gby _ (by have := h.lt; show W.heap.size ≤ b; omega) _, ?_, ?_, h.lt, h.low, h.isl.keptBy G (fun p hp e => by have := Option.some.inj e; have := h.far p hp; omega), h.far⟩
  · rw [heap_setCell_same w b 2 _ _ _ h.row]; rfl
  · rw [heap_setCell_other _ _ _ _ (by have := h.lt; show W.heap.size ≠ b; omega)]; exact h.res

theorem Mid.put3 {W w : World} {c b : Nat} {k f t a l g s : Int} {d : Option Addr} {len cap : Nat} {xs : List Int} (h : Mid W w c b k f t a l g s d len cap xs) (v : Int) : Mid W (w.setCell ⟨b, 3, none⟩ (.int .i64 v)) c b k f t v l g s d len cap xs := by
  have G := gby_set (gby_refl w (some b)) 3 (.int .i64 v)
  refine ⟨cur_other h.cur G (fun q hq => by have := Option.some.inj hq; have := h.lt; have := h.low; omega), gby_setnew h.gby _ (by have := h.lt; show W.heap.size ≤ b; omega) _, ?_, ?_, h.lt, h.low, h.isl.keptBy G (fun p hp e => by have := Option.some.inj e; have := h.far p hp; omega), h.far⟩
  · rw [heap_setCell_same w b 3 _ _ _ h.row]; rfl
  · rw [heap_setCell_other _ _ _ _ (by have := h.lt; show W.heap.size ≠ b; omega)]; exact h.res

theorem Mid.put4 {W w : World} {c b : Nat} {k f t a l g s : Int} {d : Option Addr} {len cap : Nat} {xs : List Int} (h : Mid W w c b k f t a l g s d len cap xs) (v : Int) : Mid W (w.setCell ⟨b, 4, none⟩ (.int .i64 v)) c b k f t a v g s d len cap xs := by
  have G := gby_set (gby_refl w (some b)) 4 (.int .i64 v)
  refine ⟨cur_other h.cur G (fun q hq => by have := Option.some.inj hq; have := h.lt; have := h.low; omega), gby_setnew h.gby _ (by have := h.lt; show W.heap.size ≤ b; omega) _, ?_, ?_, h.lt, h.low, h.isl.keptBy G (fun p hp e => by have := Option.some.inj e; have := h.far p hp; omega), h.far⟩
  · rw [heap_setCell_same w b 4 _ _ _ h.row]; rfl
  · rw [heap_setCell_other _ _ _ _ (by have := h.lt; show W.heap.size ≠ b; omega)]; exact h.res

theorem Mid.put5 {W w : World} {c b : Nat} {k f t a l g s : Int} {d : Option Addr} {len cap : Nat} {xs : List Int} (h : Mid W w c b k f t a l g s d len cap xs) (v : Int) : Mid W (w.setCell ⟨b, 5, none⟩ (.int .i64 v)) c b k f t a l v s d len cap xs := by
  have G := gby_set (gby_refl w (some b)) 5 (.int .i64 v)
  refine ⟨cur_other h.cur G (fun q hq => by have := Option.some.inj hq; have := h.lt; have := h.low; omega), gby_setnew h.gby _ (by have := h.lt; show W.heap.size ≤ b; omega) _, ?_, ?_, h.lt, h.low, h.isl.keptBy G (fun p hp e => by have := Option.some.inj e; have := h.far p hp; omega), h.far⟩
  · rw [heap_setCell_same w b 5 _ _ _ h.row]; rfl
  · rw [heap_setCell_other _ _ _ _ (by have := h.lt; show W.heap.size ≠ b; omega)]; exact h.res

theorem Mid.put6 {W w : World} {c b : Nat} {k f t a l g s : Int} {d : Option Addr} {len cap : Nat} {xs : List Int} (h : Mid W w c b k f t a l g s d len cap xs) (v : Int) : Mid W (w.setCell ⟨b, 6, none⟩ (.int .i64 v)) c b k f t a l g v d len cap xs := by
  have G := gby_set (gby_refl w (some b)) 6 (.int .i64 v)
  refine ⟨cur_other h.cur G (fun q hq => by have := Option.some.inj hq; have := h.lt; have := h.low; omega), gby_setnew h.gby _ (by have := h.lt; show W.heap.size ≤ b; omega) _, ?_, ?_, h.lt, h.low, h.isl.keptBy G (fun p hp e => by have := Option.some.inj e; have := h.far p hp; omega), h.far⟩
  · rw [heap_setCell_same w b 6 _ _ _ h.row]; rfl
  · rw [heap_setCell_other _ _ _ _ (by have := h.lt; show W.heap.size ≠ b; omega)]; exact h.res

theorem Mid.put7 {W w : World} {c b : Nat} {k f t a l g s : Int} {d : Option Addr} {len cap : Nat} {xs : List Int} (h : Mid W w c b k f t a l g s d len cap xs) (d' : Option Addr) (len' cap' : Nat) (ys : List Int) (hi : ISl w d' len' ys) (hf : ∀ p, d' = some p → b < p.block) : Mid W (w.setCell ⟨b, 7, none⟩ (.slice d' len' cap')) c b k f t a l g s d' len' cap' ys := by
  have G := gby_set (gby_refl w (some b)) 7 (.slice d' len' cap')
  refine ⟨cur_other h.cur G (fun q hq => by have := Option.some.inj hq; have := h.lt; have := h.low; omega), gby_setnew h.gby _ (by have := h.lt; show W.heap.size ≤ b; omega) _, ?_, ?_, h.lt, h.low, hi.keptBy G (fun p hp e => by have := Option.some.inj e; have := hf p hp; omega), hf⟩
  · rw [heap_setCell_same w b 7 _ _ _ h.row]; rfl
  · rw [heap_setCell_other _ _ _ _ (by have := h.lt; show W.heap.size ≠ b; omega)]; exact h.res

/-- the eight cells, and that they can be written -/
theorem Mid.facts {W w : World} {c b : Nat} {k f t a l g s : Int} {d : Option Addr} {len cap : Nat} {xs : List Int} (h : Mid W w c b k f t a l g s d len cap xs) : (w.cell? ⟨b, 0, none⟩ = some (.int .i64 k) ∧ w.cell? ⟨b, 1, none⟩ = some (.int .i64 f) ∧ w.cell? ⟨b, 2, none⟩ = some (.int .i64 t) ∧ w.cell? ⟨b, 3, none⟩ = some (.int .i64 a) ∧ w.cell? ⟨b, 4, none⟩ = some (.int .i64 l) ∧ w.cell? ⟨b, 5, none⟩ = some (.int .i64 g) ∧ w.cell? ⟨b, 6, none⟩ = some (.int .i64 s) ∧ w.cell? ⟨b, 7, none⟩ = some (.slice d len cap)) ∧ (w.frozen? ⟨b, 0, none⟩ = false ∧ w.frozen? ⟨b, 1, none⟩ = false ∧ w.frozen? ⟨b, 2, none⟩ = false ∧ w.frozen? ⟨b, 3, none⟩ = false ∧ w.frozen? ⟨b, 4, none⟩ = false ∧ w.frozen? ⟨b, 5, none⟩ = false ∧ w.frozen? ⟨b, 6, none⟩ = false ∧ w.frozen? ⟨b, 7, none⟩ = false) :=
  ⟨cells_pk h.row, frozen_of_row w b 0 _ _ h.row, frozen_of_row w b 1 _ _ h.row, frozen_of_row w b 2 _ _ h.row, frozen_of_row w b 3 _ _ h.row, frozen_of_row w b 4 _ _ h.row, frozen_of_row w b 5 _ _ h.row, frozen_of_row w b 6 _ _ h.row, frozen_of_row w b 7 _ _ h.row⟩

theorem Mid.zeros {W w : World} {c b : Nat} {k f t a l g s : Int} {d : Option Addr} {len cap : Nat} {xs : List Int} (h : Mid W w c b k f t a l g s d len cap xs) : (w.cell? ⟨W.heap.size, 0, none⟩ = some (.int .i64 0) ∧ w.cell? ⟨W.heap.size, 1, none⟩ = some (.int .i64 0) ∧ w.cell? ⟨W.heap.size, 2, none⟩ = some (.int .i64 0) ∧ w.cell? ⟨W.heap.size, 3, none⟩ = some (.int .i64 0) ∧ w.cell? ⟨W.heap.size, 4, none⟩ = some (.int .i64 0) ∧ w.cell? ⟨W.heap.size, 5, none⟩ = some (.int .i64 0) ∧ w.cell? ⟨W.heap.size, 6, none⟩ = some (.int .i64 0) ∧ w.cell? ⟨W.heap.size, 7, none⟩ = some (.slice none 0 0)) ∧ (w.frozen? ⟨W.heap.size, 0, none⟩ = false ∧ w.frozen? ⟨W.heap.size, 1, none⟩ = false ∧ w.frozen? ⟨W.heap.size, 2, none⟩ = false ∧ w.frozen? ⟨W.heap.size, 3, none⟩ = false ∧ w.frozen? ⟨W.heap.size, 4, none⟩ = false ∧ w.frozen? ⟨W.heap.size, 5, none⟩ = false ∧ w.frozen? ⟨W.heap.size, 6, none⟩ = false ∧ w.frozen? ⟨W.heap.size, 7, none⟩ = false) :=
  ⟨cells_pk h.res, frozen_of_row w _ 0 _ _ h.res, frozen_of_row w _ 1 _ _ h.res, frozen_of_row w _ 2 _ _ h.res, frozen_of_row w _ 3 _ _ h.res, frozen_of_row w _ 4 _ _ h.res, frozen_of_row w _ 5 _ _ h.res, frozen_of_row w _ 6 _ _ h.res, frozen_of_row w _ 7 _ _ h.res⟩

theorem Mid.drew1 {W w : World} {c b : Nat} {k f t a l g s : Int} {d : Option Addr} {len cap : Nat} {xs : List Int} (h : Mid W w c b k f t a l g s d len cap xs) : Mid W (World.drew w) c b k f t a l g s d len cap xs :=
  ⟨h.cur, gby_drew h.gby, h.row, h.res, h.lt, h.low, h.isl, h.far⟩

theorem Mid.f47 {W w : World} {c b : Nat} {k f t a l g s : Int} {d : Option Addr} {len cap : Nat} {xs : List Int} (h : Mid W w c b k f t a l g s d len cap xs) : w.cell? ⟨b, 4, none⟩ = some (.int .i64 l) ∧ w.cell? ⟨b, 7, none⟩ = some (.slice d len cap) ∧ w.frozen? ⟨b, 7, none⟩ = false :=
  ⟨cell_of_row w b 4 _ _ _ h.row, cell_of_row w b 7 _ _ _ h.row, frozen_of_row w b 7 _ _ h.row⟩

theorem min_nat (x l : Int) (h0 : 0 ≤ x) (h1 : x < 9) (h2 : 0 ≤ l) : ∃ n : Nat, (if x < l then x else l) = (n : Int) ∧ n ≤ 8 ∧ (n : Int) ≤ l := by
  by_cases h : x < l
  · exact ⟨x.toNat, by rw [if_pos h]; omega, by omega, by omega⟩
  · exact ⟨l.toNat, by rw [if_neg h]; omega, by omega, by omega⟩

def InA (m z : Int) : Prop := 0 ≤ z ∧ z ≤ m
def In64 (z : Int) : Prop := 1 ≤ z ∧ z ≤ 64

/-- the result is written -/
theorem Mid.done {W w : World} {c b : Nat} {k f t a l g s : Int} {d : Option Addr} {len cap : Nat} {xs : List Int} (h : Mid W w c b k f t a l g s d len cap xs) (v0 v1 v2 v3 v4 v5 v6 v7 : Value) :
    ISl ((((((((w.setCell ⟨W.heap.size, 0, none⟩ v0).setCell ⟨W.heap.size, 1, none⟩ v1).setCell ⟨W.heap.size, 2, none⟩ v2).setCell ⟨W.heap.size, 3, none⟩ v3).setCell ⟨W.heap.size, 4, none⟩ v4).setCell ⟨W.heap.size, 5, none⟩ v5).setCell ⟨W.heap.size, 6, none⟩ v6).setCell ⟨W.heap.size, 7, none⟩ v7 ) d len xs ∧ (∀ p, d = some p → W.heap.size < p.block) ∧ Cur ((((((((w.setCell ⟨W.heap.size, 0, none⟩ v0).setCell ⟨W.heap.size, 1, none⟩ v1).setCell ⟨W.heap.size, 2, none⟩ v2).setCell ⟨W.heap.size, 3, none⟩ v3).setCell ⟨W.heap.size, 4, none⟩ v4).setCell ⟨W.heap.size, 5, none⟩ v5).setCell ⟨W.heap.size, 6, none⟩ v6).setCell ⟨W.heap.size, 7, none⟩ v7) c ∧ W.grownBy ((((((((w.setCell ⟨W.heap.size, 0, none⟩ v0).setCell ⟨W.heap.size, 1, none⟩ v1).setCell ⟨W.heap.size, 2, none⟩ v2).setCell ⟨W.heap.size, 3, none⟩ v3).setCell ⟨W.heap.size, 4, none⟩ v4).setCell ⟨W.heap.size, 5, none⟩ v5).setCell ⟨W.heap.size, 6, none⟩ v6).setCell ⟨W.heap.size, 7, none⟩ v7) (some c) := by
  have G := gby_set (gby_set (gby_set (gby_set (gby_set (gby_set (gby_set (gby_set (gby_refl w (some W.heap.size)) 0 v0) 1 v1) 2 v2) 3 v3) 4 v4) 5 v5) 6 v6) 7 v7
  refine ⟨h.isl.keptBy G (fun p hp e => by have := Option.some.inj e; have := h.far p hp; have := h.lt; omega), fun p hp => Nat.lt_trans h.lt (h.far p hp), cur_other h.cur G (fun q hq => by have := Option.some.inj hq; have := h.low; omega), ?_⟩
  iterate 8 (with_reducible refine gby_setnew ?_ _ (Nat.le_refl _) _)
  exact h.gby

/-- the fields fit the kind, for the kinds 1 to 6 -/
def FitK (k t a l g s n : Int) : Prop := (k = 1 ∧ W1 t a l g s n) ∨ (k = 2 ∧ W2 t a l g s n) ∨ (k = 3 ∧ W3 t a l g s n) ∨ (k = 4 ∧ W4 t a l g s n) ∨ (k = 5 ∧ W5 t a l g s n) ∨ (k = 6 ∧ W6 t a l g s n)

/-- a drawn packet, and the cursor -/
def DrawnPk (W : World) (c : Nat) (e : Ending) (w' : World) : Prop := ∃ k f t a l g s d len cap xs, e = .returned (pkV k f t a l g s d len cap) ∧ (0 ≤ f ∧ f ≤ 255) ∧ AreW xs ∧ FitK k t a l g s len ∧ ISl w' d len xs ∧ (∀ p, d = some p → W.heap.size < p.block) ∧ Cur w' c ∧ W.grownBy w' (some c)

set_option maxRecDepth 8000 in
set_option maxHeartbeats 8000000 in
theorem l04Packet_any (W : World) (c : Nat) (H : Cur W c) :
    Calls Try.prog 49 #[.pointer (some ⟨c, 0, none⟩)] W (DrawnPk W c) := by
  have hcl := cur_lt H
  have HC0 := Lib.hid H
  clear H
  go_enter Try.func49, Try.ntmps49
  go_wp2_with fail
  go_at_call 62
  refine (below_any _ _ _ (cur_kept HC0.out (World.grownBy_alloc W _ none) (by simp)) (by omega) (by omega)).mono ?_
  rintro e w1 ⟨x, ⟨x0, x1⟩, rfl, H1, G1⟩
  have HC1 := Lib.hid H1
  have hz := (G1.block W.heap.size (by simp) (fun e => by have := Option.some.inj e; omega)).trans (heap_alloc_new W _)
  have HZ1 := Lib.hid hz
  have HG1 := Lib.hid (gby_trans (gby_alloc (gby_refl W (some c)) _) G1)
  clear H1 G1 hz
  go_wp2_with fail
  go_at_call 62
  refine (below_any _ _ _ HC1.out (by omega) (by omega)).mono ?_
  rintro e w2 ⟨f, ⟨f0, f1⟩, rfl, H2, G2⟩
  have hz := (G2.block W.heap.size (block_there HZ1.out) (fun e => by have := Option.some.inj e; omega)).trans HZ1.out
  have hsz := block_there hz
  have HC2 := Lib.hid H2
  have HZ2 := Lib.hid hz
  have HG2 := Lib.hid (gby_trans HG1.out G2)
  clear H2 G2 hz
  rcases (show x = 0 ∨ x = 1 ∨ x = 2 ∨ x = 3 ∨ x = 4 ∨ x = 5 by omega) with rfl | rfl | rfl | rfl | rfl | rfl
  · have M2 := Lib.hid (show Mid W (w2.alloc (.cells #[.int .i64 1, .int .i64 f, .int .i64 0, .int .i64 0, .int .i64 0, .int .i64 0, .int .i64 0, .slice none 0 0] 26)) c w2.heap.size 1 f 0 0 0 0 0 none 0 0 [] from
      ⟨cur_kept HC2.out (World.grownBy_alloc w2 _ none) (by simp), gby_alloc HG2.out _, heap_alloc_new w2 _, (heap_alloc_old _ _ hsz).trans HZ2.out, hsz, hcl, ⟨rfl, .inl rfl⟩, fun p hp => by cases hp⟩)
    go_wp2_with fail
    go_at_call 62
    refine (below_any _ _ _ (Mid.cur M2.out) (by omega) (by omega)).mono ?_
    rintro e w3 ⟨x, ⟨x0, x1⟩, rfl, H, G⟩
    have M3 := Lib.hid (Mid.kept M2.out G H)
    clear G H
    obtain ⟨⟨r0, r1, r2, r3, r4, r5, r6, r7⟩, ⟨z0, z1, z2, z3, z4, z5, z6, z7⟩⟩ := M3.out.facts
    obtain ⟨n, hn⟩ : ∃ n : Nat, 1 + x = (n : Int) := ⟨(1 + x).toNat, by omega⟩
    go_wp2_with fail
    go_at_call 70
    refine (data_any _ _ n (Mid.cur M3.out) (by omega)).mono ?_
    rintro e w4 ⟨d, dc, dx, rfl, dw, di, df, H, G⟩
    have db := block_there (Mid.row M3.out)
    have dI := Lib.hid di
    have dW := Lib.hid dw
    have dF := Lib.hid df
    clear di dw df
    have M4 := Lib.hid (Mid.kept M3.out G H)
    clear r0 r1 r2 r3 r4 r5 r6 r7 z0 z1 z2 z3 z4 z5 z6 z7
    clear G H
    obtain ⟨⟨r0, r1, r2, r3, r4, r5, r6, r7⟩, ⟨z0, z1, z2, z3, z4, z5, z6, z7⟩⟩ := M4.out.facts
    go_wp2_with fail
    go_at_call 62
    refine (below_any _ _ _ (Mid.cur (Mid.put7 M4.out d n dc dx dI.out (fun p hp => by have := dF.out p hp; omega))) (by omega) (by omega)).mono ?_
    rintro e w5 ⟨y, ⟨y0, y1⟩, rfl, H, G⟩
    have M5 := Lib.hid (Mid.kept (Mid.put7 M4.out d n dc dx dI.out (fun p hp => by have := dF.out p hp; omega)) G H)
    clear r0 r1 r2 r3 r4 r5 r6 r7 z0 z1 z2 z3 z4 z5 z6 z7
    clear G H
    obtain ⟨⟨r0, r1, r2, r3, r4, r5, r6, r7⟩, ⟨z0, z1, z2, z3, z4, z5, z6, z7⟩⟩ := M5.out.facts
    go_wp2_with fail
    go_at_call 67
    refine (pickInt_any _ _ _ _ _ (InA 65528) (Mid.cur (Mid.alloc M5.out _)) (by omega) (by omega) (by have q := cur_lt (Mid.cur M5.out); (try simp at q); omega) (cells5n _ _ (by simp) _ 0 100 4096 65528 y ⟨by omega, by omega⟩ ⟨by omega, by omega⟩ ⟨by omega, by omega⟩ ⟨by omega, by omega⟩ ⟨by omega, by omega⟩)).mono ?_
    rintro e w6 ⟨a, ha, rfl, H, G⟩
    have M6 := Lib.hid (Mid.kept (Mid.alloc M5.out _) G H)
    clear r0 r1 r2 r3 r4 r5 r6 r7 z0 z1 z2 z3 z4 z5 z6 z7
    clear G H
    obtain ⟨⟨r0, r1, r2, r3, r4, r5, r6, r7⟩, ⟨z0, z1, z2, z3, z4, z5, z6, z7⟩⟩ := M6.out.facts
    obtain ⟨a0, a1⟩ := ha
    obtain ⟨⟨q0, q1, q2, q3, q4, q5, q6, q7⟩, ⟨y0, y1, y2, y3, y4, y5, y6, y7⟩⟩ := M6.out.zeros
    have hlt := M6.out.lt
    have HM := Lib.hid (Mid.put3 M6.out a)
    go_wp2
    refine bodyPost_ret (v := pkV 1 f 0 a 0 0 0 d n dc) (by simp [results, go_sem, pkV, q0, q1, q2, q3, q4, q5, q6, q7]) rfl ⟨_, _, _, _, _, _, _, d, n, dc, dx, rfl, ⟨by omega, by omega⟩, dW.out, .inl ⟨rfl, by omega, by omega, a0, by omega, rfl, rfl, rfl, rfl⟩, ?_⟩
    exact HM.out.done _ _ _ _ _ _ _ _
  · have M2 := Lib.hid (show Mid W (w2.alloc (.cells #[.int .i64 2, .int .i64 f, .int .i64 0, .int .i64 0, .int .i64 0, .int .i64 0, .int .i64 0, .slice none 0 0] 26)) c w2.heap.size 2 f 0 0 0 0 0 none 0 0 [] from
      ⟨cur_kept HC2.out (World.grownBy_alloc w2 _ none) (by simp), gby_alloc HG2.out _, heap_alloc_new w2 _, (heap_alloc_old _ _ hsz).trans HZ2.out, hsz, hcl, ⟨rfl, .inl rfl⟩, fun p hp => by cases hp⟩)
    go_wp2_with fail
    go_at_call 62
    refine (below_any _ _ _ (Mid.cur M2.out) (by omega) (by omega)).mono ?_
    rintro e w3 ⟨x, ⟨x0, x1⟩, rfl, H, G⟩
    have M3 := Lib.hid (Mid.kept M2.out G H)
    clear G H
    obtain ⟨⟨r0, r1, r2, r3, r4, r5, r6, r7⟩, ⟨z0, z1, z2, z3, z4, z5, z6, z7⟩⟩ := M3.out.facts
    obtain ⟨n, hn⟩ : ∃ n : Nat, 1 + x = (n : Int) := ⟨(1 + x).toNat, by omega⟩
    go_wp2_with fail
    go_at_call 70
    refine (data_any _ _ n (Mid.cur M3.out) (by omega)).mono ?_
    rintro e w4 ⟨d, dc, dx, rfl, dw, di, df, H, G⟩
    have db := block_there (Mid.row M3.out)
    have dI := Lib.hid di
    have dW := Lib.hid dw
    have dF := Lib.hid df
    clear di dw df
    have M4 := Lib.hid (Mid.kept M3.out G H)
    clear r0 r1 r2 r3 r4 r5 r6 r7 z0 z1 z2 z3 z4 z5 z6 z7
    clear G H
    obtain ⟨⟨r0, r1, r2, r3, r4, r5, r6, r7⟩, ⟨z0, z1, z2, z3, z4, z5, z6, z7⟩⟩ := M4.out.facts
    obtain ⟨⟨q0, q1, q2, q3, q4, q5, q6, q7⟩, ⟨y0, y1, y2, y3, y4, y5, y6, y7⟩⟩ := M4.out.zeros
    have hlt := M4.out.lt
    have HM := Lib.hid (Mid.put7 M4.out d n dc dx dI.out (fun p hp => by have := dF.out p hp; omega))
    go_wp2
    refine bodyPost_ret (v := pkV 2 f 0 0 0 0 0 d n dc) (by simp [results, go_sem, pkV, q0, q1, q2, q3, q4, q5, q6, q7]) rfl ⟨_, _, _, _, _, _, _, d, n, dc, dx, rfl, ⟨by omega, by omega⟩, dW.out, .inr (.inl ⟨rfl, by omega, by omega, rfl, rfl, rfl, rfl, rfl⟩), ?_⟩
    exact HM.out.done _ _ _ _ _ _ _ _
  · have M2 := Lib.hid (show Mid W (w2.alloc (.cells #[.int .i64 3, .int .i64 f, .int .i64 0, .int .i64 0, .int .i64 0, .int .i64 0, .int .i64 0, .slice none 0 0] 26)) c w2.heap.size 3 f 0 0 0 0 0 none 0 0 [] from
      ⟨cur_kept HC2.out (World.grownBy_alloc w2 _ none) (by simp), gby_alloc HG2.out _, heap_alloc_new w2 _, (heap_alloc_old _ _ hsz).trans HZ2.out, hsz, hcl, ⟨rfl, .inl rfl⟩, fun p hp => by cases hp⟩)
    go_wp2_with fail
    go_at_call 67
    refine (pickInt_any _ _ _ _ _ In64 (Mid.cur (Mid.alloc M2.out _)) (by omega) (by omega) (by have q := cur_lt (Mid.cur M2.out); (try simp at q); omega) (cells5n _ _ (by simp) _ 1 4 8 20 64 ⟨by omega, by omega⟩ ⟨by omega, by omega⟩ ⟨by omega, by omega⟩ ⟨by omega, by omega⟩ ⟨by omega, by omega⟩)).mono ?_
    rintro e w3 ⟨l, hl, rfl, H, G⟩
    have M3 := Lib.hid (Mid.kept (Mid.alloc M2.out _) G H)
    clear G H
    obtain ⟨⟨r0, r1, r2, r3, r4, r5, r6, r7⟩, ⟨z0, z1, z2, z3, z4, z5, z6, z7⟩⟩ := M3.out.facts
    obtain ⟨l0, l1⟩ := hl
    go_wp2_with fail
    go_at_call 62
    refine (below_any _ _ _ (Mid.cur (Mid.put4 M3.out l)) (by omega) (by omega)).mono ?_
    rintro e w4 ⟨y, ⟨y0, y1⟩, rfl, H, G⟩
    have M4 := Lib.hid (Mid.kept (Mid.put4 M3.out l) G H)
    clear r0 r1 r2 r3 r4 r5 r6 r7 z0 z1 z2 z3 z4 z5 z6 z7
    clear G H
    obtain ⟨⟨r0, r1, r2, r3, r4, r5, r6, r7⟩, ⟨z0, z1, z2, z3, z4, z5, z6, z7⟩⟩ := M4.out.facts
    go_wp2_with fail
    go_at_call 67
    refine (pickInt_any _ _ _ _ _ (InA 65472) (Mid.cur (Mid.alloc M4.out _)) (by omega) (by omega) (by have q := cur_lt (Mid.cur M4.out); (try simp at q); omega) (cells5n _ _ (by simp) _ 0 100 4096 65472 y ⟨by omega, by omega⟩ ⟨by omega, by omega⟩ ⟨by omega, by omega⟩ ⟨by omega, by omega⟩ ⟨by omega, by omega⟩)).mono ?_
    rintro e w5 ⟨a, ha, rfl, H, G⟩
    have M5 := Lib.hid (Mid.kept (Mid.alloc M4.out _) G H)
    clear r0 r1 r2 r3 r4 r5 r6 r7 z0 z1 z2 z3 z4 z5 z6 z7
    clear G H
    obtain ⟨⟨r0, r1, r2, r3, r4, r5, r6, r7⟩, ⟨z0, z1, z2, z3, z4, z5, z6, z7⟩⟩ := M5.out.facts
    obtain ⟨a0, a1⟩ := ha
    go_wp2_with fail
    go_at_call 62
    refine (below_any _ _ _ (Mid.cur (Mid.put3 M5.out a)) (by omega) (by omega)).mono ?_
    rintro e w6 ⟨g, ⟨g0, g1⟩, rfl, H, G⟩
    have M6 := Lib.hid (Mid.kept (Mid.put3 M5.out a) G H)
    clear r0 r1 r2 r3 r4 r5 r6 r7 z0 z1 z2 z3 z4 z5 z6 z7
    clear G H
    obtain ⟨⟨r0, r1, r2, r3, r4, r5, r6, r7⟩, ⟨z0, z1, z2, z3, z4, z5, z6, z7⟩⟩ := M6.out.facts
    obtain ⟨⟨q0, q1, q2, q3, q4, q5, q6, q7⟩, ⟨y0, y1, y2, y3, y4, y5, y6, y7⟩⟩ := M6.out.zeros
    have hlt := M6.out.lt
    have HM := Lib.hid (Mid.put5 M6.out g)
    go_wp2
    refine bodyPost_ret (v := pkV 3 f 0 a l g 0 none 0 0) (by simp [results, go_sem, pkV, q0, q1, q2, q3, q4, q5, q6, q7]) rfl ⟨_, _, _, _, _, _, _, none, 0, 0, [], rfl, ⟨by omega, by omega⟩, (fun x hx => by cases hx), .inr (.inr (.inl ⟨rfl, by omega, by omega, a0, by omega, g0, by omega, rfl, rfl, rfl⟩)), ?_⟩
    exact HM.out.done _ _ _ _ _ _ _ _
  · have M2 := Lib.hid (show Mid W (w2.alloc (.cells #[.int .i64 4, .int .i64 f, .int .i64 0, .int .i64 0, .int .i64 0, .int .i64 0, .int .i64 0, .slice none 0 0] 26)) c w2.heap.size 4 f 0 0 0 0 0 none 0 0 [] from
      ⟨cur_kept HC2.out (World.grownBy_alloc w2 _ none) (by simp), gby_alloc HG2.out _, heap_alloc_new w2 _, (heap_alloc_old _ _ hsz).trans HZ2.out, hsz, hcl, ⟨rfl, .inl rfl⟩, fun p hp => by cases hp⟩)
    go_wp2_with fail
    go_at_call 62
    refine (below_any _ _ _ (Mid.cur M2.out) (by omega) (by omega)).mono ?_
    rintro e w3 ⟨t, ⟨t0, t1⟩, rfl, H, G⟩
    have M3 := Lib.hid (Mid.kept M2.out G H)
    clear G H
    obtain ⟨⟨r0, r1, r2, r3, r4, r5, r6, r7⟩, ⟨z0, z1, z2, z3, z4, z5, z6, z7⟩⟩ := M3.out.facts
    go_wp2_with fail
    go_at_call 62
    refine (below_any _ _ _ (Mid.cur (Mid.put2 M3.out t)) (by omega) (by omega)).mono ?_
    rintro e w4 ⟨a, ⟨a0, a1⟩, rfl, H, G⟩
    have M4 := Lib.hid (Mid.kept (Mid.put2 M3.out t) G H)
    clear r0 r1 r2 r3 r4 r5 r6 r7 z0 z1 z2 z3 z4 z5 z6 z7
    clear G H
    obtain ⟨⟨r0, r1, r2, r3, r4, r5, r6, r7⟩, ⟨z0, z1, z2, z3, z4, z5, z6, z7⟩⟩ := M4.out.facts
    go_wp2_with fail
    go_at_call 62
    refine (below_any _ _ _ (Mid.cur (Mid.put3 M4.out a)) (by omega) (by omega)).mono ?_
    rintro e w5 ⟨g, ⟨g0, g1⟩, rfl, H, G⟩
    have M5 := Lib.hid (Mid.kept (Mid.put3 M4.out a) G H)
    clear r0 r1 r2 r3 r4 r5 r6 r7 z0 z1 z2 z3 z4 z5 z6 z7
    clear G H
    obtain ⟨⟨r0, r1, r2, r3, r4, r5, r6, r7⟩, ⟨z0, z1, z2, z3, z4, z5, z6, z7⟩⟩ := M5.out.facts
    obtain ⟨⟨q0, q1, q2, q3, q4, q5, q6, q7⟩, ⟨y0, y1, y2, y3, y4, y5, y6, y7⟩⟩ := M5.out.zeros
    have hlt := M5.out.lt
    have HM := Lib.hid (Mid.put5 M5.out g)
    go_wp2
    refine bodyPost_ret (v := pkV 4 f t a 0 g 0 none 0 0) (by simp [results, go_sem, pkV, q0, q1, q2, q3, q4, q5, q6, q7]) rfl ⟨_, _, _, _, _, _, _, none, 0, 0, [], rfl, ⟨by omega, by omega⟩, (fun x hx => by cases hx), .inr (.inr (.inr (.inl ⟨rfl, ⟨t0, by omega, a0, by omega, g0, by omega, rfl, rfl⟩, rfl⟩))), ?_⟩
    exact HM.out.done _ _ _ _ _ _ _ _
  · have M2 := Lib.hid (show Mid W (w2.alloc (.cells #[.int .i64 5, .int .i64 f, .int .i64 0, .int .i64 0, .int .i64 0, .int .i64 0, .int .i64 0, .slice none 0 0] 26)) c w2.heap.size 5 f 0 0 0 0 0 none 0 0 [] from
      ⟨cur_kept HC2.out (World.grownBy_alloc w2 _ none) (by simp), gby_alloc HG2.out _, heap_alloc_new w2 _, (heap_alloc_old _ _ hsz).trans HZ2.out, hsz, hcl, ⟨rfl, .inl rfl⟩, fun p hp => by cases hp⟩)
    go_wp2_with fail
    go_at_call 62
    refine (below_any _ _ _ (Mid.cur M2.out) (by omega) (by omega)).mono ?_
    rintro e w3 ⟨t, ⟨t0, t1⟩, rfl, H, G⟩
    have M3 := Lib.hid (Mid.kept M2.out G H)
    clear G H
    obtain ⟨⟨r0, r1, r2, r3, r4, r5, r6, r7⟩, ⟨z0, z1, z2, z3, z4, z5, z6, z7⟩⟩ := M3.out.facts
    go_wp2_with fail
    go_at_call 62
    refine (below_any _ _ _ (Mid.cur (Mid.put2 M3.out t)) (by omega) (by omega)).mono ?_
    rintro e w4 ⟨a, ⟨a0, a1⟩, rfl, H, G⟩
    have M4 := Lib.hid (Mid.kept (Mid.put2 M3.out t) G H)
    clear r0 r1 r2 r3 r4 r5 r6 r7 z0 z1 z2 z3 z4 z5 z6 z7
    clear G H
    obtain ⟨⟨r0, r1, r2, r3, r4, r5, r6, r7⟩, ⟨z0, z1, z2, z3, z4, z5, z6, z7⟩⟩ := M4.out.facts
    go_wp2_with fail
    go_at_call 62
    refine (below_any _ _ _ (Mid.cur (Mid.put3 M4.out a)) (by omega) (by omega)).mono ?_
    rintro e w5 ⟨g, ⟨g0, g1⟩, rfl, H, G⟩
    have M5 := Lib.hid (Mid.kept (Mid.put3 M4.out a) G H)
    clear r0 r1 r2 r3 r4 r5 r6 r7 z0 z1 z2 z3 z4 z5 z6 z7
    clear G H
    obtain ⟨⟨r0, r1, r2, r3, r4, r5, r6, r7⟩, ⟨z0, z1, z2, z3, z4, z5, z6, z7⟩⟩ := M5.out.facts
    go_wp2_with fail
    go_at_call 70
    refine (data_any _ _ 1 (Mid.cur (Mid.put5 M5.out g)) (by omega)).mono ?_
    rintro e w6 ⟨d, dc, dx, rfl, dw, di, df, H, G⟩
    have db := block_there (Mid.row (Mid.put5 M5.out g))
    have dI := Lib.hid di
    have dW := Lib.hid dw
    have dF := Lib.hid df
    clear di dw df
    have M6 := Lib.hid (Mid.kept (Mid.put5 M5.out g) G H)
    clear r0 r1 r2 r3 r4 r5 r6 r7 z0 z1 z2 z3 z4 z5 z6 z7
    clear G H
    obtain ⟨⟨r0, r1, r2, r3, r4, r5, r6, r7⟩, ⟨z0, z1, z2, z3, z4, z5, z6, z7⟩⟩ := M6.out.facts
    obtain ⟨⟨q0, q1, q2, q3, q4, q5, q6, q7⟩, ⟨y0, y1, y2, y3, y4, y5, y6, y7⟩⟩ := M6.out.zeros
    have hlt := M6.out.lt
    have HM := Lib.hid (Mid.put7 M6.out d 1 dc dx dI.out (fun p hp => by have := dF.out p hp; omega))
    go_wp2
    refine bodyPost_ret (v := pkV 5 f t a 0 g 0 d 1 dc) (by simp [results, go_sem, pkV, q0, q1, q2, q3, q4, q5, q6, q7]) rfl ⟨_, _, _, _, _, _, _, d, 1, dc, dx, rfl, ⟨by omega, by omega⟩, dW.out, .inr (.inr (.inr (.inr (.inl ⟨rfl, ⟨t0, by omega, a0, by omega, g0, by omega, rfl, rfl⟩, rfl⟩)))), ?_⟩
    exact HM.out.done _ _ _ _ _ _ _ _
  · have M2 := Lib.hid (show Mid W (w2.alloc (.cells #[.int .i64 6, .int .i64 f, .int .i64 0, .int .i64 0, .int .i64 0, .int .i64 0, .int .i64 0, .slice none 0 0] 26)) c w2.heap.size 6 f 0 0 0 0 0 none 0 0 [] from
      ⟨cur_kept HC2.out (World.grownBy_alloc w2 _ none) (by simp), gby_alloc HG2.out _, heap_alloc_new w2 _, (heap_alloc_old _ _ hsz).trans HZ2.out, hsz, hcl, ⟨rfl, .inl rfl⟩, fun p hp => by cases hp⟩)
    go_wp2_with fail
    go_at_call 62
    refine (below_any _ _ _ (Mid.cur M2.out) (by omega) (by omega)).mono ?_
    rintro e w3 ⟨t, ⟨t0, t1⟩, rfl, H, G⟩
    have M3 := Lib.hid (Mid.kept M2.out G H)
    clear G H
    obtain ⟨⟨r0, r1, r2, r3, r4, r5, r6, r7⟩, ⟨z0, z1, z2, z3, z4, z5, z6, z7⟩⟩ := M3.out.facts
    go_wp2_with fail
    go_at_call 62
    refine (below_any _ _ _ (Mid.cur (Mid.put2 M3.out t)) (by omega) (by omega)).mono ?_
    rintro e w4 ⟨g, ⟨g0, g1⟩, rfl, H, G⟩
    have M4 := Lib.hid (Mid.kept (Mid.put2 M3.out t) G H)
    clear r0 r1 r2 r3 r4 r5 r6 r7 z0 z1 z2 z3 z4 z5 z6 z7
    clear G H
    obtain ⟨⟨r0, r1, r2, r3, r4, r5, r6, r7⟩, ⟨z0, z1, z2, z3, z4, z5, z6, z7⟩⟩ := M4.out.facts
    go_wp2_with fail
    go_at_call 67
    refine (pickInt_any _ _ _ _ _ (InA 2) (Mid.cur (Mid.alloc (Mid.put5 M4.out g) _)) (by omega) (by omega) (by have q := cur_lt (Mid.cur (Mid.put5 M4.out g)); (try simp at q); omega) (cells5n _ _ (by simp) _ 0 0 0 1 2 ⟨by omega, by omega⟩ ⟨by omega, by omega⟩ ⟨by omega, by omega⟩ ⟨by omega, by omega⟩ ⟨by omega, by omega⟩)).mono ?_
    rintro e w5 ⟨st, hst, rfl, H, G⟩
    have M5 := Lib.hid (Mid.kept (Mid.alloc (Mid.put5 M4.out g) _) G H)
    clear r0 r1 r2 r3 r4 r5 r6 r7 z0 z1 z2 z3 z4 z5 z6 z7
    clear G H
    obtain ⟨⟨r0, r1, r2, r3, r4, r5, r6, r7⟩, ⟨z0, z1, z2, z3, z4, z5, z6, z7⟩⟩ := M5.out.facts
    obtain ⟨st0, st1⟩ := hst
    go_wp2_with fail
    go_at_call 67
    refine (pickInt_any _ _ _ _ _ (InA 64) (Mid.cur (Mid.alloc (Mid.put6 M5.out st) _)) (by omega) (by omega) (by have q := cur_lt (Mid.cur (Mid.put6 M5.out st)); (try simp at q); omega) (cells4n _ _ (by simp) _ 8 0 20 64 ⟨by omega, by omega⟩ ⟨by omega, by omega⟩ ⟨by omega, by omega⟩ ⟨by omega, by omega⟩)).mono ?_
    rintro e w6 ⟨l, hl, rfl, H, G⟩
    have M6 := Lib.hid (Mid.kept (Mid.alloc (Mid.put6 M5.out st) _) G H)
    clear r0 r1 r2 r3 r4 r5 r6 r7 z0 z1 z2 z3 z4 z5 z6 z7
    clear G H
    obtain ⟨⟨r0, r1, r2, r3, r4, r5, r6, r7⟩, ⟨z0, z1, z2, z3, z4, z5, z6, z7⟩⟩ := M6.out.facts
    obtain ⟨l0, l1⟩ := hl
    by_cases hs : st = 0
    · subst hs
      have HM0 := Lib.hid (Mid.put4 M6.out l)
      have MF := HM0.out.f47
      go_wp2_with fail
      clear r0 r1 r2 r3 r4 r5 r6 r7 z0 z1 z2 z3 z4 z5 z6 z7
      go_region_held3 (fun w' => w'.cell? ⟨w2.heap.size, 4, none⟩ = some (.int .i64 l))
        (first
          | exact MF.1
          | exact (Mid.kept HM0.out.drew1 G8 H8).f47.1
          | exact m4
          | exact (Mid.put7 (Mid.kept (Mid.kept HM0.out.drew1 G8 H8) G9 H9) d n dc dx di (fun p hp => by have := df p hp; have := block_there (Mid.kept HM0.out.drew1 G8 H8).row; omega)).f47.1)
        (first
          | (go_at_call 62; refine (below_any _ _ _ (Mid.cur HM0.out.drew1) (by omega) (by omega)).mono ?_; rintro e w8 ⟨x, ⟨x0, x1⟩, rfl, H8, G8⟩)
          | (go_at_call 70; obtain ⟨n, hn, hn0, hn1⟩ := min_nat x l x0 x1 l0; rw [hn]; refine (data_any _ _ n H8 hn0).mono ?_; rintro e w9 ⟨d, dc, dx, rfl, dw, di, df, H9, G9⟩; have m9 := (Mid.kept (Mid.kept HM0.out.drew1 G8 H8) G9 H9).f47; obtain ⟨m4, m7, mz⟩ := m9))
      all_goals
        have M8 := Mid.kept HM0.out.drew1 G8 H8
        have hb8 := block_there M8.row
        have M9 := Lib.hid (Mid.kept M8 G9 H9)
        have dI := Lib.hid di
        have dF := Lib.hid df
        have dW := Lib.hid dw
        clear M8 G8 H8 G9 H9 di df dw m4 m7 mz MF
        obtain ⟨⟨r0, r1, r2, r3, r4, r5, r6, r7⟩, ⟨z0, z1, z2, z3, z4, z5, z6, z7⟩⟩ := M9.out.facts
        obtain ⟨⟨q0, q1, q2, q3, q4, q5, q6, q7⟩, ⟨y0, y1, y2, y3, y4, y5, y6, y7⟩⟩ := M9.out.zeros
        have hlt := M9.out.lt
        have HM := Lib.hid (Mid.put7 M9.out d n dc dx dI.out (fun p hp => by have := dF.out p hp; omega))
        go_wp2
        refine bodyPost_ret (v := pkV 6 f t 0 l g 0 d n dc) (by simp [results, go_sem, pkV, q0, q1, q2, q3, q4, q5, q6, q7]) rfl ⟨_, _, _, _, _, _, _, d, n, dc, dx, rfl, ⟨by omega, by omega⟩, dW.out, .inr (.inr (.inr (.inr (.inr ⟨rfl, t0, by omega, l0, l1, g0, by omega, by omega, by omega, rfl, .inr ⟨rfl, by omega, hn1⟩⟩)))), ?_⟩
        exact HM.out.done _ _ _ _ _ _ _ _
    · have bs : (st == 0) = false := by simpa using hs
      obtain ⟨⟨q0, q1, q2, q3, q4, q5, q6, q7⟩, ⟨y0, y1, y2, y3, y4, y5, y6, y7⟩⟩ := M6.out.zeros
      have hlt := M6.out.lt
      have HM := Lib.hid (Mid.put4 M6.out l)
      go_wp2
      refine bodyPost_ret (v := pkV 6 f t 0 l g st none 0 0) (by simp [results, go_sem, pkV, q0, q1, q2, q3, q4, q5, q6, q7]) rfl ⟨_, _, _, _, _, _, _, none, 0, 0, [], rfl, ⟨by omega, by omega⟩, (fun x hx => by cases hx), .inr (.inr (.inr (.inr (.inr ⟨rfl, t0, by omega, l0, l1, g0, by omega, st0, st1, rfl, .inl rfl⟩)))), ?_⟩
      exact HM.out.done _ _ _ _ _ _ _ _

end Go.Proofs.Ytokpmbagidokkaa
