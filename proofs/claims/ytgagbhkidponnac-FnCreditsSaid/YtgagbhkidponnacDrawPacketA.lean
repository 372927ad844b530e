/-
  Contract of the model's DrawPacket: a valid packet.
-/
import Derived.Test.YtgagbhkidponnacDrawNumber
import Derived.Test.YtgagbhkidponnacChg
import Derived.Test.YtgagbhkidponnacInts
import Derived.Test.YtgagbhkidponnacPkChk2
import Derived.Deep.RegionHeld3
import Derived.Test.YtgagbhkidponnacBig
namespace Go.Proofs.Ytgagbhkidponnac
open Go Go.RowKit

theorem own_kept {w w' : World} {base c n size : Nat} {e : TypeId} {v : Value} {xs : List Value} (h : w.ownsRow base e size v n xs) (g : w.grownBy w' (some c)) (hc : c < base) : w'.ownsRow base e size v n xs :=
  h.kept g (by
    rcases hv : v.ownBlock with _ | b
    · exact .inl rfl
    · right; intro q; have := own_from h b hv; have := Option.some.inj q; omega)

def IsW (x : Int) : Prop := 0 ≤ x ∧ x ≤ 65535

theorem data_cells (w : World) (x y : Int) (hx : IsW x) (hy : IsW y) : ∀ k, k < 5 → ∃ n, (w.alloc (.cells #[.int .i64 0, .int .i64 1, .int .i64 65535, .int .i64 x, .int .i64 y] 3)).cell? ⟨w.heap.size, k, none⟩ = some (.int .i64 n) ∧ IsW n := by
  intro k hk
  rw [cell_of_row _ _ _ _ _ _ (heap_alloc_new w _)]
  match k, hk with
  | 0, _ => exact ⟨_, rfl, by unfold IsW; omega⟩
  | 1, _ => exact ⟨_, rfl, by unfold IsW; omega⟩
  | 2, _ => exact ⟨_, rfl, by unfold IsW; omega⟩
  | 3, _ => exact ⟨_, rfl, hx⟩
  | 4, _ => exact ⟨_, rfl, hy⟩
  | n + 5, h => omega

/-- a drawn list of n words -/
def DrawnData (n : Nat) (w : World) (c : Nat) (e : Ending) (w' : World) : Prop := ∃ a cap xs, e = .returned (.slice a n cap) ∧ (AreW xs ∧ CapOk a n cap) ∧ ISl w' a n xs ∧ (∀ p, a = some p → w.heap.size ≤ p.block) ∧ Cur w' c ∧ w.grownBy w' (some c)

theorem isl_own {w : World} {base n : Nat} {v : Value} {xs : List Int} (h : w.ownsRow base 3 1 v n (i64s xs)) (hn : xs.length = n) : ∃ a cap, v = .slice a n cap ∧ CapOk a n cap ∧ ISl w a n xs ∧ ∀ p, a = some p → base ≤ p.block := by
  rcases h.2 with ⟨hv, h0⟩ | ⟨g, cp, cur, hv, hg, _, hc9, _⟩
  · subst hv
    subst h0
    exact ⟨none, 0, rfl, ⟨fun _ => rfl, Nat.le_refl _⟩, ⟨hn.symm, .inl rfl⟩, fun p hp => by cases hp⟩
  · subst hv
    refine ⟨_, cp, rfl, ⟨fun e => (by cases e), hc9⟩, ⟨hn.symm, .inr ⟨g, 0, rfl, fun j hj => ?_⟩⟩, fun p hp => by obtain rfl := Option.some.inj hp; exact hg⟩
    have := h.cellAt j (by omega)
    rw [i64s, List.getElem?_map, List.getElem?_eq_getElem (by omega)] at this
    rw [List.getD_eq_getElem?_getD, List.getElem?_eq_getElem (by omega)]
    simpa using this

set_option maxHeartbeats 2000000 in
theorem data_any (w : World) (c n : Nat) (H : Cur w c) (hn : n ≤ 8) :
    Calls Try.prog 127 #[.pointer (some ⟨c, 0, none⟩), .int .i64 (n : Int)] w (DrawnData n w c) := by
  obtain ⟨i0, hi0, hz0, hz1, hz2⟩ := info_parts infoInt
  have hcl := cur_lt H
  have HC1 := Lib.hid H
  clear H
  go_enter Try.func127, Try.ntmps127
  go_wp2
  go_loopw [5, 6] (fun v i wr => ∃ (k : Nat) (xs : List Int), k ≤ n ∧ i = .int .i64 (k : Int) ∧ xs.length = k ∧ AreW xs ∧ wr.ownsRow w.heap.size 3 1 v k (i64s xs) ∧ Cur wr c ∧ w.grownBy wr (some c)) (fun _ i _ => n - (intOf i).toNat)
  case atStart =>
    refine ⟨0, [], Nat.zero_le _, rfl, rfl, by intro x hx; simp at hx, ?_, cur_kept HC1.out (World.grownBy_alloc w _ none) (by simp), gby_alloc (gby_refl _ _) _⟩
    exact World.ownsRow_made w #[] 0 (Nat.le_refl _) (by unfold maxLen; omega) rfl
  case round =>
    obtain ⟨k, xs, hk, rfl, hlen, hb, hown, hcur, hg⟩ := hrel
    have hsz := hg.size
    have HO := Lib.hid hown
    have HG := Lib.hid hg
    have HC := Lib.hid hcur
    have HL := Lib.hid hlen
    have HBD := Lib.hid hb
    clear hown hg hcur hlen hb
    by_cases hlt : k < n
    · have hki : (k : Int) < (n : Int) := by omega
      go_wp2_with fail
      go_at_call 75
      refine (below_any _ _ _ HC.out (by omega) (by omega)).mono ?_
      rintro e w2 ⟨x, ⟨hx0, hx1⟩, rfl, H2, G2⟩
      have HO2 := Lib.hid (own_kept HO.out G2 hcl)
      have HG2 := Lib.hid (gby_trans HG.out G2)
      have HC2 := Lib.hid H2
      clear G2 H2
      go_wp2_with fail
      go_at_call 75
      refine (below_any _ _ _ HC2.out (by omega) (by omega)).mono ?_
      rintro e w3 ⟨y, ⟨hy0, hy1⟩, rfl, H3, G3⟩
      have HO3 := Lib.hid (own_kept HO2.out G3 hcl)
      have HG3 := Lib.hid (gby_trans HG2.out G3)
      have HC3 := Lib.hid H3
      have hs3 := HG3.out.size
      clear G3 H3
      go_wp2_with fail
      go_at_call 111
      refine (pickInt_any _ _ _ _ _ IsW (cur_kept HC3.out (World.grownBy_alloc w3 _ none) (by simp)) (by omega) (by omega) (by omega) (data_cells w3 x y ⟨by omega, by omega⟩ ⟨by omega, by omega⟩)).mono ?_
      rintro e w4 ⟨z, hz, rfl, H4, G4⟩
      have HO4 := Lib.hid (own_kept (HO3.out.alloc _) G4 hcl)
      have HG4 := Lib.hid (gby_trans (gby_alloc HG3.out _) G4)
      have HC4 := Lib.hid H4
      have hs4 := HG4.out.size
      have HZ := Lib.hid hz
      clear G4 H4 hz
      go_wp2_with (at_builtin; refine wpList_append_lies _ (by rfl) _ _ _ (by rfl) w.heap.size 3 i0 _ 1 8 Try.underlying27 hi0 hz0 hz1 hz2 rfl (by omega) _ k (i64s xs) (by rfl) (HO4.out.alloc _) ⟨w4.heap.size, 0, none⟩ 1 1 _ (by rfl) (by rfl) (World.news_of_block (t := 3) (fr := (0, 0)) (heap_alloc_new w4 _)) (by simp [Value.oneCell']) (by omega) (by unfold maxLen; omega) (by omega) (by simp; omega) (w4.heap.size + 1) (by simp) ?_; intro gg cap2 w5 hown5 hgrow5 hat hlt1; have HO5 := Lib.hid hown5; have HG5 := Lib.hid hgrow5; clear hown5 hgrow5 hat hlt1)
      refine ⟨⟨k + 1, xs ++ [z], by omega, by go_num, by have := HL.out; simp [this], ?_, by rw [i64s_append]; exact HO5.out, ?_, ?_⟩, by simp [intOf]; omega⟩
      · intro q hq
        rcases List.mem_append.1 hq with hq | hq
        · exact HBD.out q hq
        · obtain rfl := List.mem_singleton.1 hq; exact HZ.out
      · exact cur_other (cur_kept HC4.out (World.grownBy_alloc w4 _ none) (by simp)) HG5.out (fun b hb => by have := own_from HO4.out b hb; omega)
      · exact gby_new (gby_alloc HG4.out _) HG5.out (fun b hb => own_from HO4.out b hb)
    · have hki : ¬ (k : Int) < (n : Int) := by omega
      obtain rfl : k = n := by omega
      obtain ⟨a, cap, hv, hcap, hi, hfar⟩ := isl_own HO.out HL.out
      have HCAP := Lib.hid hcap
      clear hcap
      have HI := Lib.hid hi
      subst hv
      clear hi
      go_wp2
      go_ret
      exact ⟨a, cap, xs, rfl, ⟨HBD.out, HCAP.out⟩, HI.out, hfar, HC.out, HG.out⟩

end Go.Proofs.Ytgagbhkidponnac

namespace Go.Proofs.Ytgagbhkidponnac
open Go Go.RowKit

theorem cells4 (w : World) (P : Int → Prop) (a b c d : Int) (ha : P a) (hb : P b) (hc : P c) (hd : P d) : ∀ k, k < 4 → ∃ n, (w.alloc (.cells #[.int .i64 a, .int .i64 b, .int .i64 c, .int .i64 d] 3)).cell? ⟨w.heap.size, k, none⟩ = some (.int .i64 n) ∧ P n := by
  intro k hk
  rw [cell_of_row _ _ _ _ _ _ (heap_alloc_new w _)]
  match k, hk with
  | 0, _ => exact ⟨_, rfl, ha⟩
  | 1, _ => exact ⟨_, rfl, hb⟩
  | 2, _ => exact ⟨_, rfl, hc⟩
  | 3, _ => exact ⟨_, rfl, hd⟩
  | n + 4, h => omega

theorem cells5 (w : World) (P : Int → Prop) (a b c d e : Int) (ha : P a) (hb : P b) (hc : P c) (hd : P d) (he : P e) : ∀ k, k < 5 → ∃ n, (w.alloc (.cells #[.int .i64 a, .int .i64 b, .int .i64 c, .int .i64 d, .int .i64 e] 3)).cell? ⟨w.heap.size, k, none⟩ = some (.int .i64 n) ∧ P n := by
  intro k hk
  rw [cell_of_row _ _ _ _ _ _ (heap_alloc_new w _)]
  match k, hk with
  | 0, _ => exact ⟨_, rfl, ha⟩
  | 1, _ => exact ⟨_, rfl, hb⟩
  | 2, _ => exact ⟨_, rfl, hc⟩
  | 3, _ => exact ⟨_, rfl, hd⟩
  | 4, _ => exact ⟨_, rfl, he⟩
  | n + 5, h => omega

theorem cells4n (w : World) (n : Nat) (hn : n = w.heap.size) (P : Int → Prop) (a b c d : Int) (ha : P a) (hb : P b) (hc : P c) (hd : P d) : ∀ k, k < 4 → ∃ m, (w.alloc (.cells #[.int .i64 a, .int .i64 b, .int .i64 c, .int .i64 d] 3)).cell? ⟨n, k, none⟩ = some (.int .i64 m) ∧ P m := by
  subst hn
  exact cells4 w P a b c d ha hb hc hd

theorem cells5n (w : World) (n : Nat) (hn : n = w.heap.size) (P : Int → Prop) (a b c d e : Int) (ha : P a) (hb : P b) (hc : P c) (hd : P d) (he : P e) : ∀ k, k < 5 → ∃ m, (w.alloc (.cells #[.int .i64 a, .int .i64 b, .int .i64 c, .int .i64 d, .int .i64 e] 3)).cell? ⟨n, k, none⟩ = some (.int .i64 m) ∧ P m := by
  subst hn
  exact cells5 w P a b c d e ha hb hc hd he

/-- a packet's eight cells -/
theorem cells_pk {w : World} {b : Nat} {k f t a l g s : Int} {d : Option Addr} {len cap : Nat} {ty : TypeId} (h : w.heap[b]? = some (.cells #[.int .i64 k, .int .i64 f, .int .i64 t, .int .i64 a, .int .i64 l, .int .i64 g, .int .i64 s, .slice d len cap] ty (0, 0))) :
    w.cell? ⟨b, 0, none⟩ = some (.int .i64 k) ∧ w.cell? ⟨b, 1, none⟩ = some (.int .i64 f) ∧ w.cell? ⟨b, 2, none⟩ = some (.int .i64 t) ∧ w.cell? ⟨b, 3, none⟩ = some (.int .i64 a) ∧ w.cell? ⟨b, 4, none⟩ = some (.int .i64 l) ∧ w.cell? ⟨b, 5, none⟩ = some (.int .i64 g) ∧ w.cell? ⟨b, 6, none⟩ = some (.int .i64 s) ∧ w.cell? ⟨b, 7, none⟩ = some (.slice d len cap) :=
  ⟨cell_of_row w b 0 _ _ _ h, cell_of_row w b 1 _ _ _ h, cell_of_row w b 2 _ _ _ h, cell_of_row w b 3 _ _ _ h, cell_of_row w b 4 _ _ _ h, cell_of_row w b 5 _ _ _ h, cell_of_row w b 6 _ _ _ h, cell_of_row w b 7 _ _ _ h⟩

/-- the numbers of a slice stay where only another block is written -/
theorem ISl.keptBy {w w' : World} {a : Option Addr} {len : Nat} {xs : List Int} {r : Option Nat} (h : ISl w a len xs) (g : w.grownBy w' r) (hne : ∀ p, a = some p → r ≠ some p.block) : ISl w' a len xs := by
  obtain ⟨h1, h2⟩ := h
  refine ⟨h1, ?_⟩
  rcases h2 with h0 | ⟨b, off, ha, hc⟩
  · exact .inl h0
  · exact .inr ⟨b, off, ha, fun k hk => g.cell (hc k hk) (by have := hne _ ha; simpa [eq_comm] using this)⟩

/-- a packet that is being made, in block b -/
structure Mid (W w : World) (c b : Nat) (k f t a l g s : Int) (d : Option Addr) (len cap : Nat) (xs : List Int) : Prop where
  cur : Cur w c
  gby : W.grownBy w (some c)
  row : w.heap[b]? = some (.cells #[.int .i64 k, .int .i64 f, .int .i64 t, .int .i64 a, .int .i64 l, .int .i64 g, .int .i64 s, .slice d len cap] 29 (0, 0))
  res : w.heap[W.heap.size]? = some (.cells #[.int .i64 0, .int .i64 0, .int .i64 0, .int .i64 0, .int .i64 0, .int .i64 0, .int .i64 0, .slice none 0 0] 29 (0, 0))
  lt : W.heap.size < b
  low : c < W.heap.size
  isl : ISl w d len xs
  far : ∀ p, d = some p → b < p.block

theorem block_there {w : World} {b : Nat} {o : Obj} (h : w.heap[b]? = some o) : b < w.heap.size := by
  rcases Nat.lt_or_ge b w.heap.size with h' | h'
  · exact h'
  · rw [Array.getElem?_eq_none h'] at h; cases h

theorem Mid.kept {W w w' : World} {c b : Nat} {k f t a l g s : Int} {d : Option Addr} {len cap : Nat} {xs : List Int} (h : Mid W w c b k f t a l g s d len cap xs) (G : w.grownBy w' (some c)) (H : Cur w' c) : Mid W w' c b k f t a l g s d len cap xs :=
  ⟨H, gby_trans h.gby G, (G.block b (block_there h.row) (fun e => by have := Option.some.inj e; have := h.lt; have := h.low; omega)).trans h.row,
    (G.block _ (block_there h.res) (fun e => by have := Option.some.inj e; have := h.low; omega)).trans h.res, h.lt, h.low,
    h.isl.keptBy G (fun p hp e => by have := Option.some.inj e; have := h.far p hp; have := h.lt; have := h.low; omega), h.far⟩

theorem Mid.alloc {W w : World} {c b : Nat} {k f t a l g s : Int} {d : Option Addr} {len cap : Nat} {xs : List Int} (h : Mid W w c b k f t a l g s d len cap xs) (o : Obj) : Mid W (w.alloc o) c b k f t a l g s d len cap xs :=
  h.kept (gby_alloc (gby_refl _ _) o) (cur_kept h.cur (World.grownBy_alloc w o none) (by simp))

theorem Mid.drewN {W w : World} {c b : Nat} {k f t a l g s : Int} {d : Option Addr} {len cap : Nat} {xs : List Int} (h : Mid W w c b k f t a l g s d len cap xs) (n : Nat) : Mid W (w.drewN n) c b k f t a l g s d len cap xs :=
  ⟨h.cur, gby_drewN h.gby n, h.row, h.res, h.lt, h.low, h.isl, h.far⟩

theorem Mid.put2 {W w : World} {c b : Nat} {k f t a l g s : Int} {d : Option Addr} {len cap : Nat} {xs : List Int} (h : Mid W w c b k f t a l g s d len cap xs) (v : Int) : Mid W (w.setCell ⟨b, 2, none⟩ (.int .i64 v)) c b k f v a l g s d len cap xs := by
  have G := gby_set (gby_refl w (some b)) 2 (.int .i64 v)
  refine ⟨cur_other h.cur G (fun q hq => by have := Option.some.inj hq; have := h.lt; have := h.low; omega), gby_setnew h.gby _ (by have := h.lt; show W.heap.size ≤ b; omega) _, ?_, ?_, h.lt, h.low, h.isl.keptBy G (fun p hp e => by have := Option.some.inj e; have := h.far p hp; omega), h.far⟩
  · rw [heap_setCell_same w b 2 _ _ _ h.row]; rfl
  · rw [heap_setCell_other _ _ _ _ (by have := h.lt; show W.heap.size ≠ b; omega)]; exact h.res

theorem Mid.put3 {W w : World} {c b : Nat} {k f t a l g s : Int} {d : Option Addr} {len cap : Nat} {xs : List Int} (h : Mid W w c b k f t a l g s d len cap xs) (v : Int) : Mid W (w.setCell ⟨b, 3, none⟩ (.int .i64 v)) c b k f t v l g s d len cap xs := by
  have G := gby_set (gby_refl w (some b)) 3 (.int .i64 v)
  refine ⟨cur_other h.cur G (fun q hq => by have := Option.some.inj hq; have := h.lt; have := h.low; omega), gby_setnew h.gby _ (by have := h.lt; show W.heap.size ≤ b; omega) _, ?_, ?_, h.lt, h.low, h.isl.keptBy G (fun p hp e => by have := Option.some.inj e; have := h.far p hp; omega), h.far⟩
  · rw [heap_setCell_same w b 3 _ _ _ h.row]; rfl
  · rw [heap_setCell_other _ _ _ _ (by have := h.lt; show W.heap.size ≠ b; omega)]; exact h.res

theorem Mid.put4 {W w : World} {c b : Nat} {k f t a l g s : Int} {d : Option Addr} {len cap : Nat} {xs : List Int} (h : Mid W w c b k f t a l g s d len cap xs) (v : Int) : Mid W (w.setCell ⟨b, 4, none⟩ (.int .i64 v)) c b k f t a v g s d len cap xs := by
  have G := gby_set (gby_refl w (some b)) 4 (.int .i64 v)
  refine ⟨cur_other h.cur G (fun q hq => by have := Option.some.inj hq; have := h.lt; have := h.low; omega), gby_setnew h.gby _ (by have := h.lt; show W.heap.size ≤ b; omega) _, ?_, ?_, h.lt, h.low, h.isl.keptBy G (fun p hp e => by have := Option.some.inj e; have := h.far p hp; omega), h.far⟩
  · rw [heap_setCell_same w b 4 _ _ _ h.row]; rfl
  · rw [heap_setCell_other _ _ _ _ (by have := h.lt; show W.heap.size ≠ b; omega)]; exact h.res

theorem Mid.put5 {W w : World} {c b : Nat} {k f t a l g s : Int} {d : Option Addr} {len cap : Nat} {xs : List Int} (h : Mid W w c b k f t a l g s d len cap xs) (v : Int) : Mid W (w.setCell ⟨b, 5, none⟩ (.int .i64 v)) c b k f t a l v s d len cap xs := by
  have G := gby_set (gby_refl w (some b)) 5 (.int .i64 v)
  refine ⟨cur_other h.cur G (fun q hq => by have := Option.some.inj hq; have := h.lt; have := h.low; omega), gby_setnew h.gby _ (by have := h.lt; show W.heap.size ≤ b; omega) _, ?_, ?_, h.lt, h.low, h.isl.keptBy G (fun p hp e => by have := Option.some.inj e; have := h.far p hp; omega), h.far⟩
  · rw [heap_setCell_same w b 5 _ _ _ h.row]; rfl
  · rw [heap_setCell_other _ _ _ _ (by have := h.lt; show W.heap.size ≠ b; omega)]; exact h.res

theorem Mid.put6 {W w : World} {c b : Nat} {k f t a l g s : Int} {d : Option Addr} {len cap : Nat} {xs : List Int} (h : Mid W w c b k f t a l g s d len cap xs) (v : Int) : Mid W (w.setCell ⟨b, 6, none⟩ (.int .i64 v)) c b k f t a l g v d len cap xs := by
  have G := gby_set (gby_refl w (some b)) 6 (.int .i64 v)
  refine ⟨cur_other h.cur G (fun q hq => by have := Option.some.inj hq; have := h.lt; have := h.low; omega), gby_setnew h.gby _ (by have := h.lt; show W.heap.size ≤ b; omega) _, ?_, ?_, h.lt, h.low, h.isl.keptBy G (fun p hp e => by have := Option.some.inj e; have := h.far p hp; omega), h.far⟩
  · rw [heap_setCell_same w b 6 _ _ _ h.row]; rfl
  · rw [heap_setCell_other _ _ _ _ (by have := h.lt; show W.heap.size ≠ b; omega)]; exact h.res

theorem Mid.put7 {W w : World} {c b : Nat} {k f t a l g s : Int} {d : Option Addr} {len cap : Nat} {xs : List Int} (h : Mid W w c b k f t a l g s d len cap xs) (d' : Option Addr) (len' cap' : Nat) (ys : List Int) (hi : ISl w d' len' ys) (hf : ∀ p, d' = some p → b < p.block) : Mid W (w.setCell ⟨b, 7, none⟩ (.slice d' len' cap')) c b k f t a l g s d' len' cap' ys := by
  have G := gby_set (gby_refl w (some b)) 7 (.slice d' len' cap')
  refine ⟨cur_other h.cur G (fun q hq => by have := Option.some.inj hq; have := h.lt; have := h.low; omega), gby_setnew h.gby _ (by have := h.lt; show W.heap.size ≤ b; omega) _, ?_, ?_, h.lt, h.low, hi.keptBy G (fun p hp e => by have := Option.some.inj e; have := hf p hp; omega), hf⟩
  · rw [heap_setCell_same w b 7 _ _ _ h.row]; rfl
  · rw [heap_setCell_other _ _ _ _ (by have := h.lt; show W.heap.size ≠ b; omega)]; exact h.res

/-- the eight cells, and that they can be written -/
theorem Mid.facts {W w : World} {c b : Nat} {k f t a l g s : Int} {d : Option Addr} {len cap : Nat} {xs : List Int} (h : Mid W w c b k f t a l g s d len cap xs) : (w.cell? ⟨b, 0, none⟩ = some (.int .i64 k) ∧ w.cell? ⟨b, 1, none⟩ = some (.int .i64 f) ∧ w.cell? ⟨b, 2, none⟩ = some (.int .i64 t) ∧ w.cell? ⟨b, 3, none⟩ = some (.int .i64 a) ∧ w.cell? ⟨b, 4, none⟩ = some (.int .i64 l) ∧ w.cell? ⟨b, 5, none⟩ = some (.int .i64 g) ∧ w.cell? ⟨b, 6, none⟩ = some (.int .i64 s) ∧ w.cell? ⟨b, 7, none⟩ = some (.slice d len cap)) ∧ (w.frozen? ⟨b, 0, none⟩ = false ∧ w.frozen? ⟨b, 1, none⟩ = false ∧ w.frozen? ⟨b, 2, none⟩ = false ∧ w.frozen? ⟨b, 3, none⟩ = false ∧ w.frozen? ⟨b, 4, none⟩ = false ∧ w.frozen? ⟨b, 5, none⟩ = false ∧ w.frozen? ⟨b, 6, none⟩ = false ∧ w.frozen? ⟨b, 7, none⟩ = false) :=
  ⟨cells_pk h.row, frozen_of_row w b 0 _ _ h.row, frozen_of_row w b 1 _ _ h.row, frozen_of_row w b 2 _ _ h.row, frozen_of_row w b 3 _ _ h.row, frozen_of_row w b 4 _ _ h.row, frozen_of_row w b 5 _ _ h.row, frozen_of_row w b 6 _ _ h.row, frozen_of_row w b 7 _ _ h.row⟩

theorem Mid.zeros {W w : World} {c b : Nat} {k f t a l g s : Int} {d : Option Addr} {len cap : Nat} {xs : List Int} (h : Mid W w c b k f t a l g s d len cap xs) : (w.cell? ⟨W.heap.size, 0, none⟩ = some (.int .i64 0) ∧ w.cell? ⟨W.heap.size, 1, none⟩ = some (.int .i64 0) ∧ w.cell? ⟨W.heap.size, 2, none⟩ = some (.int .i64 0) ∧ w.cell? ⟨W.heap.size, 3, none⟩ = some (.int .i64 0) ∧ w.cell? ⟨W.heap.size, 4, none⟩ = some (.int .i64 0) ∧ w.cell? ⟨W.heap.size, 5, none⟩ = some (.int .i64 0) ∧ w.cell? ⟨W.heap.size, 6, none⟩ = some (.int .i64 0) ∧ w.cell? ⟨W.heap.size, 7, none⟩ = some (.slice none 0 0)) ∧ (w.frozen? ⟨W.heap.size, 0, none⟩ = false ∧ w.frozen? ⟨W.heap.size, 1, none⟩ = false ∧ w.frozen? ⟨W.heap.size, 2, none⟩ = false ∧ w.frozen? ⟨W.heap.size, 3, none⟩ = false ∧ w.frozen? ⟨W.heap.size, 4, none⟩ = false ∧ w.frozen? ⟨W.heap.size, 5, none⟩ = false ∧ w.frozen? ⟨W.heap.size, 6, none⟩ = false ∧ w.frozen? ⟨W.heap.size, 7, none⟩ = false) :=
  ⟨cells_pk h.res, frozen_of_row w _ 0 _ _ h.res, frozen_of_row w _ 1 _ _ h.res, frozen_of_row w _ 2 _ _ h.res, frozen_of_row w _ 3 _ _ h.res, frozen_of_row w _ 4 _ _ h.res, frozen_of_row w _ 5 _ _ h.res, frozen_of_row w _ 6 _ _ h.res, frozen_of_row w _ 7 _ _ h.res⟩

theorem Mid.drew1 {W w : World} {c b : Nat} {k f t a l g s : Int} {d : Option Addr} {len cap : Nat} {xs : List Int} (h : Mid W w c b k f t a l g s d len cap xs) : Mid W (World.drew w) c b k f t a l g s d len cap xs :=
  ⟨h.cur, gby_drew h.gby, h.row, h.res, h.lt, h.low, h.isl, h.far⟩

theorem Mid.f47 {W w : World} {c b : Nat} {k f t a l g s : Int} {d : Option Addr} {len cap : Nat} {xs : List Int} (h : Mid W w c b k f t a l g s d len cap xs) : w.cell? ⟨b, 4, none⟩ = some (.int .i64 l) ∧ w.cell? ⟨b, 7, none⟩ = some (.slice d len cap) ∧ w.frozen? ⟨b, 7, none⟩ = false :=
  ⟨cell_of_row w b 4 _ _ _ h.row, cell_of_row w b 7 _ _ _ h.row, frozen_of_row w b 7 _ _ h.row⟩

theorem min_nat (x l : Int) (h0 : 0 ≤ x) (h1 : x < 9) (h2 : 0 ≤ l) : ∃ n : Nat, (if x < l then x else l) = (n : Int) ∧ n ≤ 8 ∧ (n : Int) ≤ l := by
  by_cases h : x < l
  · exact ⟨x.toNat, by rw [if_pos h]; omega, by omega, by omega⟩
  · exact ⟨l.toNat, by rw [if_neg h]; omega, by omega, by omega⟩

def InA (m z : Int) : Prop := 0 ≤ z ∧ z ≤ m
def In64 (z : Int) : Prop := 1 ≤ z ∧ z ≤ 64

/-- the result is written -/
theorem Mid.done {W w : World} {c b : Nat} {k f t a l g s : Int} {d : Option Addr} {len cap : Nat} {xs : List Int} (h : Mid W w c b k f t a l g s d len cap xs) (v0 v1 v2 v3 v4 v5 v6 v7 : Value) :
    ISl ((((((((w.setCell ⟨W.heap.size, 0, none⟩ v0).setCell ⟨W.heap.size, 1, none⟩ v1).setCell ⟨W.heap.size, 2, none⟩ v2).setCell ⟨W.heap.size, 3, none⟩ v3).setCell ⟨W.heap.size, 4, none⟩ v4).setCell ⟨W.heap.size, 5, none⟩ v5).setCell ⟨W.heap.size, 6, none⟩ v6).setCell ⟨W.heap.size, 7, none⟩ v7 ) d len xs ∧ (∀ p, d = some p → W.heap.size < p.block) ∧ Cur ((((((((w.setCell ⟨W.heap.size, 0, none⟩ v0).setCell ⟨W.heap.size, 1, none⟩ v1).setCell ⟨W.heap.size, 2, none⟩ v2).setCell ⟨W.heap.size, 3, none⟩ v3).setCell ⟨W.heap.size, 4, none⟩ v4).setCell ⟨W.heap.size, 5, none⟩ v5).setCell ⟨W.heap.size, 6, none⟩ v6).setCell ⟨W.heap.size, 7, none⟩ v7) c ∧ W.grownBy ((((((((w.setCell ⟨W.heap.size, 0, none⟩ v0).setCell ⟨W.heap.size, 1, none⟩ v1).setCell ⟨W.heap.size, 2, none⟩ v2).setCell ⟨W.heap.size, 3, none⟩ v3).setCell ⟨W.heap.size, 4, none⟩ v4).setCell ⟨W.heap.size, 5, none⟩ v5).setCell ⟨W.heap.size, 6, none⟩ v6).setCell ⟨W.heap.size, 7, none⟩ v7) (some c) := by
  have G := gby_set (gby_set (gby_set (gby_set (gby_set (gby_set (gby_set (gby_set (gby_refl w (some W.heap.size)) 0 v0) 1 v1) 2 v2) 3 v3) 4 v4) 5 v5) 6 v6) 7 v7
  refine ⟨h.isl.keptBy G (fun p hp e => by have := Option.some.inj e; have := h.far p hp; have := h.lt; omega), fun p hp => Nat.lt_trans h.lt (h.far p hp), cur_other h.cur G (fun q hq => by have := Option.some.inj hq; have := h.low; omega), ?_⟩
  iterate 8 (with_reducible refine gby_setnew ?_ _ (Nat.le_refl _) _)
  exact h.gby

/-- the fields fit the kind, for the kinds 1 to 6 -/
def FitK (k t a l g s n : Int) : Prop := (k = 1 ∧ W1 t a l g s n) ∨ (k = 2 ∧ W2 t a l g s n) ∨ (k = 3 ∧ W3 t a l g s n) ∨ (k = 4 ∧ W4 t a l g s n) ∨ (k = 5 ∧ W5 t a l g s n) ∨ (k = 6 ∧ W6 t a l g s n)

/-- a drawn packet, and the cursor -/
def DrawnPk (W : World) (c : Nat) (e : Ending) (w' : World) : Prop := ∃ k f t a l g s d len cap xs, e = .returned (pkV k f t a l g s d len cap) ∧ (0 ≤ f ∧ f ≤ 255) ∧ (AreW xs ∧ CapOk d len cap) ∧ FitK k t a l g s len ∧ ISl w' d len xs ∧ (∀ p, d = some p → W.heap.size < p.block) ∧ Cur w' c ∧ W.grownBy w' (some c)

set_option maxRecDepth 8000 in
set_option maxHeartbeats 8000000 in
theorem l04Packet_any (W : World) (c : Nat) (H : Cur W c) :
    Calls Try.prog 92 #[.pointer (some ⟨c, 0, none⟩)] W (DrawnPk W c) := by
  have hcl := cur_lt H
  have HC0 := Lib.hid H
  clear H
  go_enter Try.func92, Try.ntmps92
  go_wp2_with fail
  go_at_call 75
  refine (below_any _ _ _ (cur_kept HC0.out (World.grownBy_alloc W _ none) (by simp)) (by omega) (by omega)).mono ?_
  rintro e w1 ⟨x, ⟨x0, x1⟩, rfl, H1, G1⟩
  have HC1 := Lib.hid H1
  have hz := (G1.block W.heap.size (by simp) (fun e => by have := Option.some.inj e; omega)).trans (heap_alloc_new W _)
  have HZ1 := Lib.hid hz
  have HG1 := Lib.hid (gby_trans (gby_alloc (gby_refl W (some c)) _) G1)
  clear H1 G1 hz
  go_wp2_with fail
  go_at_call 75
  refine (below_any _ _ _ HC1.out (by omega) (by omega)).mono ?_
  rintro e w2 ⟨f, ⟨f0, f1⟩, rfl, H2, G2⟩
  have hz := (G2.block W.heap.size (block_there HZ1.out) (fun e => by have := Option.some.inj e; omega)).trans HZ1.out
  have hsz := block_there hz
  have HC2 := Lib.hid H2
  have HZ2 := Lib.hid hz
  have HG2 := Lib.hid (gby_trans HG1.out G2)
  clear H2 G2 hz
  rcases (show x = 0 ∨ x = 1 ∨ x = 2 ∨ x = 3 ∨ x = 4 ∨ x = 5 by omega) with rfl | rfl | rfl | rfl | rfl | rfl
  · have M2 := Lib.hid (show Mid W (w2.alloc (.cells #[.int .i64 1, .int .i64 f, .int .i64 0, .int .i64 0, .int .i64 0, .int .i64 0, .int .i64 0, .slice none 0 0] 29)) c w2.heap.size 1 f 0 0 0 0 0 none 0 0 [] from
      ⟨cur_kept HC2.out (World.grownBy_alloc w2 _ none) (by simp), gby_alloc HG2.out _, heap_alloc_new w2 _, (heap_alloc_old _ _ hsz).trans HZ2.out, hsz, hcl, ⟨rfl, .inl rfl⟩, fun p hp => by cases hp⟩)
    go_wp2_with fail
    go_at_call 75
    refine (below_any _ _ _ (Mid.cur M2.out) (by omega) (by omega)).mono ?_
    rintro e w3 ⟨x, ⟨x0, x1⟩, rfl, H, G⟩
    have M3 := Lib.hid (Mid.kept M2.out G H)
    clear G H
    obtain ⟨⟨r0, r1, r2, r3, r4, r5, r6, r7⟩, ⟨z0, z1, z2, z3, z4, z5, z6, z7⟩⟩ := M3.out.facts
    obtain ⟨n, hn⟩ : ∃ n : Nat, 1 + x = (n : Int) := ⟨(1 + x).toNat, by omega⟩
    go_wp2_with fail
    go_at_call 127
    refine (data_any _ _ n (Mid.cur M3.out) (by omega)).mono ?_
    rintro e w4 ⟨d, dc, dx, rfl, dw, di, df, H, G⟩
    have db := block_there (Mid.row M3.out)
    have dI := Lib.hid di
    have dW := Lib.hid dw
    have dF := Lib.hid df
    clear di dw df
    have M4 := Lib.hid (Mid.kept M3.out G H)
    clear r0 r1 r2 r3 r4 r5 r6 r7 z0 z1 z2 z3 z4 z5 z6 z7
    clear G H
    obtain ⟨⟨r0, r1, r2, r3, r4, r5, r6, r7⟩, ⟨z0, z1, z2, z3, z4, z5, z6, z7⟩⟩ := M4.out.facts
    go_wp2_with fail
    go_at_call 75
    refine (below_any _ _ _ (Mid.cur (Mid.put7 M4.out d n dc dx dI.out (fun p hp => by have := dF.out p hp; omega))) (by omega) (by omega)).mono ?_
    rintro e w5 ⟨y, ⟨y0, y1⟩, rfl, H, G⟩
    have M5 := Lib.hid (Mid.kept (Mid.put7 M4.out d n dc dx dI.out (fun p hp => by have := dF.out p hp; omega)) G H)
    clear r0 r1 r2 r3 r4 r5 r6 r7 z0 z1 z2 z3 z4 z5 z6 z7
    clear G H
    obtain ⟨⟨r0, r1, r2, r3, r4, r5, r6, r7⟩, ⟨z0, z1, z2, z3, z4, z5, z6, z7⟩⟩ := M5.out.facts
    go_wp2_with fail
    go_at_call 111
    refine (pickInt_any _ _ _ _ _ (InA 65528) (Mid.cur (Mid.alloc M5.out _)) (by omega) (by omega) (by have q := cur_lt (Mid.cur M5.out); (try simp at q); omega) (cells5n _ _ (by simp) _ 0 100 4096 65528 y ⟨by omega, by omega⟩ ⟨by omega, by omega⟩ ⟨by omega, by omega⟩ ⟨by omega, by omega⟩ ⟨by omega, by omega⟩)).mono ?_
    rintro e w6 ⟨a, ha, rfl, H, G⟩
    have M6 := Lib.hid (Mid.kept (Mid.alloc M5.out _) G H)
    clear r0 r1 r2 r3 r4 r5 r6 r7 z0 z1 z2 z3 z4 z5 z6 z7
    clear G H
    obtain ⟨⟨r0, r1, r2, r3, r4, r5, r6, r7⟩, ⟨z0, z1, z2, z3, z4, z5, z6, z7⟩⟩ := M6.out.facts
    obtain ⟨a0, a1⟩ := ha
    obtain ⟨⟨q0, q1, q2, q3, q4, q5, q6, q7⟩, ⟨y0, y1, y2, y3, y4, y5, y6, y7⟩⟩ := M6.out.zeros
    have hlt := M6.out.lt
    have HM := Lib.hid (Mid.put3 M6.out a)
    go_wp2
    refine bodyPost_ret (v := pkV 1 f 0 a 0 0 0 d n dc) (by simp [results, go_sem, pkV, q0, q1, q2, q3, q4, q5, q6, q7]) rfl ⟨_, _, _, _, _, _, _, d, n, dc, dx, rfl, ⟨by omega, by omega⟩, dW.out, .inl ⟨rfl, by omega, by omega, a0, by omega, rfl, rfl, rfl, rfl⟩, ?_⟩
    exact HM.out.done _ _ _ _ _ _ _ _
  · have M2 := Lib.hid (show Mid W (w2.alloc (.cells #[.int .i64 2, .int .i64 f, .int .i64 0, .int .i64 0, .int .i64 0, .int .i64 0, .int .i64 0, .slice none 0 0] 29)) c w2.heap.size 2 f 0 0 0 0 0 none 0 0 [] from
      ⟨cur_kept HC2.out (World.grownBy_alloc w2 _ none) (by simp), gby_alloc HG2.out _, heap_alloc_new w2 _, (heap_alloc_old _ _ hsz).trans HZ2.out, hsz, hcl, ⟨rfl, .inl rfl⟩, fun p hp => by cases hp⟩)
    go_wp2_with fail
    go_at_call 75
    refine (below_any _ _ _ (Mid.cur M2.out) (by omega) (by omega)).mono ?_
    rintro e w3 ⟨x, ⟨x0, x1⟩, rfl, H, G⟩
    have M3 := Lib.hid (Mid.kept M2.out G H)
    clear G H
    obtain ⟨⟨r0, r1, r2, r3, r4, r5, r6, r7⟩, ⟨z0, z1, z2, z3, z4, z5, z6, z7⟩⟩ := M3.out.facts
    obtain ⟨n, hn⟩ : ∃ n : Nat, 1 + x = (n : Int) := ⟨(1 + x).toNat, by omega⟩
    go_wp2_with fail
    go_at_call 127
    refine (data_any _ _ n (Mid.cur M3.out) (by omega)).mono ?_
    rintro e w4 ⟨d, dc, dx, rfl, dw, di, df, H, G⟩
    have db := block_there (Mid.row M3.out)
    have dI := Lib.hid di
    have dW := Lib.hid dw
    have dF := Lib.hid df
    clear di dw df
    have M4 := Lib.hid (Mid.kept M3.out G H)
    clear r0 r1 r2 r3 r4 r5 r6 r7 z0 z1 z2 z3 z4 z5 z6 z7
    clear G H
    obtain ⟨⟨r0, r1, r2, r3, r4, r5, r6, r7⟩, ⟨z0, z1, z2, z3, z4, z5, z6, z7⟩⟩ := M4.out.facts
    obtain ⟨⟨q0, q1, q2, q3, q4, q5, q6, q7⟩, ⟨y0, y1, y2, y3, y4, y5, y6, y7⟩⟩ := M4.out.zeros
    have hlt := M4.out.lt
    have HM := Lib.hid (Mid.put7 M4.out d n dc dx dI.out (fun p hp => by have := dF.out p hp; omega))
    go_wp2
    refine bodyPost_ret (v := pkV 2 f 0 0 0 0 0 d n dc) (by simp [results, go_sem, pkV, q0, q1, q2, q3, q4, q5, q6, q7]) rfl ⟨_, _, _, _, _, _, _, d, n, dc, dx, rfl, ⟨by omega, by omega⟩, dW.out, .inr (.inl ⟨rfl, by omega, by omega, rfl, rfl, rfl, rfl, rfl⟩), ?_⟩
    exact HM.out.done _ _ _ _ _ _ _ _
  · have M2 := Lib.hid (show Mid W (w2.alloc (.cells #[.int .i64 3, .int .i64 f, .int .i64 0, .int .i64 0, .int .i64 0, .int .i64 0, .int .i64 0, .slice none 0 0] 29)) c w2.heap.size 3 f 0 0 0 0 0 none 0 0 [] from
      ⟨cur_kept HC2.out (World.grownBy_alloc w2 _ none) (by simp), gby_alloc HG2.out _, heap_alloc_new w2 _, (heap_alloc_old _ _ hsz).trans HZ2.out, hsz, hcl, ⟨rfl, .inl rfl⟩, fun p hp => by cases hp⟩)
    go_wp2_with fail
    go_at_call 111
    refine (pickInt_any _ _ _ _ _ In64 (Mid.cur (Mid.alloc M2.out _)) (by omega) (by omega) (by have q := cur_lt (Mid.cur M2.out); (try simp at q); omega) (cells5n _ _ (by simp) _ 1 4 8 20 64 ⟨by omega, by omega⟩ ⟨by omega, by omega⟩ ⟨by omega, by omega⟩ ⟨by omega, by omega⟩ ⟨by omega, by omega⟩)).mono ?_
    rintro e w3 ⟨l, hl, rfl, H, G⟩
    have M3 := Lib.hid (Mid.kept (Mid.alloc M2.out _) G H)
    clear G H
    obtain ⟨⟨r0, r1, r2, r3, r4, r5, r6, r7⟩, ⟨z0, z1, z2, z3, z4, z5, z6, z7⟩⟩ := M3.out.facts
    obtain ⟨l0, l1⟩ := hl
    go_wp2_with fail
    go_at_call 75
    refine (below_any _ _ _ (Mid.cur (Mid.put4 M3.out l)) (by omega) (by omega)).mono ?_
    rintro e w4 ⟨y, ⟨y0, y1⟩, rfl, H, G⟩
    have M4 := Lib.hid (Mid.kept (Mid.put4 M3.out l) G H)
    clear r0 r1 r2 r3 r4 r5 r6 r7 z0 z1 z2 z3 z4 z5 z6 z7
    clear G H
    obtain ⟨⟨r0, r1, r2, r3, r4, r5, r6, r7⟩, ⟨z0, z1, z2, z3, z4, z5, z6, z7⟩⟩ := M4.out.facts
    go_wp2_with fail
    go_at_call 111
    refine (pickInt_any _ _ _ _ _ (InA 65472) (Mid.cur (Mid.alloc M4.out _)) (by omega) (by omega) (by have q := cur_lt (Mid.cur M4.out); (try simp at q); omega) (cells5n _ _ (by simp) _ 0 100 4096 65472 y ⟨by omega, by omega⟩ ⟨by omega, by omega⟩ ⟨by omega, by omega⟩ ⟨by omega, by omega⟩ ⟨by omega, by omega⟩)).mono ?_
    rintro e w5 ⟨a, ha, rfl, H, G⟩
    have M5 := Lib.hid (Mid.kept (Mid.alloc M4.out _) G H)
    clear r0 r1 r2 r3 r4 r5 r6 r7 z0 z1 z2 z3 z4 z5 z6 z7
    clear G H
    obtain ⟨⟨r0, r1, r2, r3, r4, r5, r6, r7⟩, ⟨z0, z1, z2, z3, z4, z5, z6, z7⟩⟩ := M5.out.facts
    obtain ⟨a0, a1⟩ := ha
    go_wp2_with fail
    go_at_call 75
    refine (below_any _ _ _ (Mid.cur (Mid.put3 M5.out a)) (by omega) (by omega)).mono ?_
    rintro e w6 ⟨g, ⟨g0, g1⟩, rfl, H, G⟩
    have M6 := Lib.hid (Mid.kept (Mid.put3 M5.out a) G H)
    clear r0 r1 r2 r3 r4 r5 r6 r7 z0 z1 z2 z3 z4 z5 z6 z7
    clear G H
    obtain ⟨⟨r0, r1, r2, r3, r4, r5, r6, r7⟩, ⟨z0, z1, z2, z3, z4, z5, z6, z7⟩⟩ := M6.out.facts
    obtain ⟨⟨q0, q1, q2, q3, q4, q5, q6, q7⟩, ⟨y0, y1, y2, y3, y4, y5, y6, y7⟩⟩ := M6.out.zeros
    have hlt := M6.out.lt
    have HM := Lib.hid (Mid.put5 M6.out g)
    go_wp2
    refine bodyPost_ret (v := pkV 3 f 0 a l g 0 none 0 0) (by simp [results, go_sem, pkV, q0, q1, q2, q3, q4, q5, q6, q7]) rfl ⟨_, _, _, _, _, _, _, none, 0, 0, [], rfl, ⟨by omega, by omega⟩, ⟨(fun x hx => by cases hx), fun _ => rfl, Nat.le_refl _⟩, .inr (.inr (.inl ⟨rfl, by omega, by omega, a0, by omega, g0, by omega, rfl, rfl, rfl⟩)), ?_⟩
    exact HM.out.done _ _ _ _ _ _ _ _
  · have M2 := Lib.hid (show Mid W (w2.alloc (.cells #[.int .i64 4, .int .i64 f, .int .i64 0, .int .i64 0, .int .i64 0, .int .i64 0, .int .i64 0, .slice none 0 0] 29)) c w2.heap.size 4 f 0 0 0 0 0 none 0 0 [] from
      ⟨cur_kept HC2.out (World.grownBy_alloc w2 _ none) (by simp), gby_alloc HG2.out _, heap_alloc_new w2 _, (heap_alloc_old _ _ hsz).trans HZ2.out, hsz, hcl, ⟨rfl, .inl rfl⟩, fun p hp => by cases hp⟩)
    go_wp2_with fail
    go_at_call 75
    refine (below_any _ _ _ (Mid.cur M2.out) (by omega) (by omega)).mono ?_
    rintro e w3 ⟨t, ⟨t0, t1⟩, rfl, H, G⟩
    have M3 := Lib.hid (Mid.kept M2.out G H)
    clear G H
    obtain ⟨⟨r0, r1, r2, r3, r4, r5, r6, r7⟩, ⟨z0, z1, z2, z3, z4, z5, z6, z7⟩⟩ := M3.out.facts
    go_wp2_with fail
    go_at_call 75
    refine (below_any _ _ _ (Mid.cur (Mid.put2 M3.out t)) (by omega) (by omega)).mono ?_
    rintro e w4 ⟨a, ⟨a0, a1⟩, rfl, H, G⟩
    have M4 := Lib.hid (Mid.kept (Mid.put2 M3.out t) G H)
    clear r0 r1 r2 r3 r4 r5 r6 r7 z0 z1 z2 z3 z4 z5 z6 z7
    clear G H
    obtain ⟨⟨r0, r1, r2, r3, r4, r5, r6, r7⟩, ⟨z0, z1, z2, z3, z4, z5, z6, z7⟩⟩ := M4.out.facts
    go_wp2_with fail
    go_at_call 75
    refine (below_any _ _ _ (Mid.cur (Mid.put3 M4.out a)) (by omega) (by omega)).mono ?_
    rintro e w5 ⟨g, ⟨g0, g1⟩, rfl, H, G⟩
    have M5 := Lib.hid (Mid.kept (Mid.put3 M4.out a) G H)
    clear r0 r1 r2 r3 r4 r5 r6 r7 z0 z1 z2 z3 z4 z5 z6 z7
    clear G H
    obtain ⟨⟨r0, r1, r2, r3, r4, r5, r6, r7⟩, ⟨z0, z1, z2, z3, z4, z5, z6, z7⟩⟩ := M5.out.facts
    obtain ⟨⟨q0, q1, q2, q3, q4, q5, q6, q7⟩, ⟨y0, y1, y2, y3, y4, y5, y6, y7⟩⟩ := M5.out.zeros
    have hlt := M5.out.lt
    have HM := Lib.hid (Mid.put5 M5.out g)
    go_wp2
    refine bodyPost_ret (v := pkV 4 f t a 0 g 0 none 0 0) (by simp [results, go_sem, pkV, q0, q1, q2, q3, q4, q5, q6, q7]) rfl ⟨_, _, _, _, _, _, _, none, 0, 0, [], rfl, ⟨by omega, by omega⟩, ⟨(fun x hx => by cases hx), fun _ => rfl, Nat.le_refl _⟩, .inr (.inr (.inr (.inl ⟨rfl, ⟨t0, by omega, a0, by omega, g0, by omega, rfl, rfl⟩, rfl⟩))), ?_⟩
    exact HM.out.done _ _ _ _ _ _ _ _
  · have M2 := Lib.hid (show Mid W (w2.alloc (.cells #[.int .i64 5, .int .i64 f, .int .i64 0, .int .i64 0, .int .i64 0, .int .i64 0, .int .i64 0, .slice none 0 0] 29)) c w2.heap.size 5 f 0 0 0 0 0 none 0 0 [] from
      ⟨cur_kept HC2.out (World.grownBy_alloc w2 _ none) (by simp), gby_alloc HG2.out _, heap_alloc_new w2 _, (heap_alloc_old _ _ hsz).trans HZ2.out, hsz, hcl, ⟨rfl, .inl rfl⟩, fun p hp => by cases hp⟩)
    go_wp2_with fail
    go_at_call 75
    refine (below_any _ _ _ (Mid.cur M2.out) (by omega) (by omega)).mono ?_
    rintro e w3 ⟨t, ⟨t0, t1⟩, rfl, H, G⟩
    have M3 := Lib.hid (Mid.kept M2.out G H)
    clear G H
    obtain ⟨⟨r0, r1, r2, r3, r4, r5, r6, r7⟩, ⟨z0, z1, z2, z3, z4, z5, z6, z7⟩⟩ := M3.out.facts
    go_wp2_with fail
    go_at_call 75
    refine (below_any _ _ _ (Mid.cur (Mid.put2 M3.out t)) (by omega) (by omega)).mono ?_
    rintro e w4 ⟨a, ⟨a0, a1⟩, rfl, H, G⟩
    have M4 := Lib.hid (Mid.kept (Mid.put2 M3.out t) G H)
    clear r0 r1 r2 r3 r4 r5 r6 r7 z0 z1 z2 z3 z4 z5 z6 z7
    clear G H
    obtain ⟨⟨r0, r1, r2, r3, r4, r5, r6, r7⟩, ⟨z0, z1, z2, z3, z4, z5, z6, z7⟩⟩ := M4.out.facts
    go_wp2_with fail
    go_at_call 75
    refine (below_any _ _ _ (Mid.cur (Mid.put3 M4.out a)) (by omega) (by omega)).mono ?_
    rintro e w5 ⟨g, ⟨g0, g1⟩, rfl, H, G⟩
    have M5 := Lib.hid (Mid.kept (Mid.put3 M4.out a) G H)
    clear r0 r1 r2 r3 r4 r5 r6 r7 z0 z1 z2 z3 z4 z5 z6 z7
    clear G H
    obtain ⟨⟨r0, r1, r2, r3, r4, r5, r6, r7⟩, ⟨z0, z1, z2, z3, z4, z5, z6, z7⟩⟩ := M5.out.facts
    go_wp2_with fail
    go_at_call 127
    refine (data_any _ _ 1 (Mid.cur (Mid.put5 M5.out g)) (by omega)).mono ?_
    rintro e w6 ⟨d, dc, dx, rfl, dw, di, df, H, G⟩
    have db := block_there (Mid.row (Mid.put5 M5.out g))
    have dI := Lib.hid di
    have dW := Lib.hid dw
    have dF := Lib.hid df
    clear di dw df
    have M6 := Lib.hid (Mid.kept (Mid.put5 M5.out g) G H)
    clear r0 r1 r2 r3 r4 r5 r6 r7 z0 z1 z2 z3 z4 z5 z6 z7
    clear G H
    obtain ⟨⟨r0, r1, r2, r3, r4, r5, r6, r7⟩, ⟨z0, z1, z2, z3, z4, z5, z6, z7⟩⟩ := M6.out.facts
    obtain ⟨⟨q0, q1, q2, q3, q4, q5, q6, q7⟩, ⟨y0, y1, y2, y3, y4, y5, y6, y7⟩⟩ := M6.out.zeros
    have hlt := M6.out.lt
    have HM := Lib.hid (Mid.put7 M6.out d 1 dc dx dI.out (fun p hp => by have := dF.out p hp; omega))
    go_wp2
    refine bodyPost_ret (v := pkV 5 f t a 0 g 0 d 1 dc) (by simp [results, go_sem, pkV, q0, q1, q2, q3, q4, q5, q6, q7]) rfl ⟨_, _, _, _, _, _, _, d, 1, dc, dx, rfl, ⟨by omega, by omega⟩, dW.out, .inr (.inr (.inr (.inr (.inl ⟨rfl, ⟨t0, by omega, a0, by omega, g0, by omega, rfl, rfl⟩, rfl⟩)))), ?_⟩
    exact HM.out.done _ _ _ _ _ _ _ _
  · have M2 := Lib.hid (show Mid W (w2.alloc (.cells #[.int .i64 6, .int .i64 f, .int .i64 0, .int .i64 0, .int .i64 0, .int .i64 0, .int .i64 0, .slice none 0 0] 29)) c w2.heap.size 6 f 0 0 0 0 0 none 0 0 [] from
      ⟨cur_kept HC2.out (World.grownBy_alloc w2 _ none) (by simp), gby_alloc HG2.out _, heap_alloc_new w2 _, (heap_alloc_old _ _ hsz).trans HZ2.out, hsz, hcl, ⟨rfl, .inl rfl⟩, fun p hp => by cases hp⟩)
    go_wp2_with fail
    go_at_call 75
    refine (below_any _ _ _ (Mid.cur M2.out) (by omega) (by omega)).mono ?_
    rintro e w3 ⟨t, ⟨t0, t1⟩, rfl, H, G⟩
    have M3 := Lib.hid (Mid.kept M2.out G H)
    clear G H
    obtain ⟨⟨r0, r1, r2, r3, r4, r5, r6, r7⟩, ⟨z0, z1, z2, z3, z4, z5, z6, z7⟩⟩ := M3.out.facts
    go_wp2_with fail
    go_at_call 75
    refine (below_any _ _ _ (Mid.cur (Mid.put2 M3.out t)) (by omega) (by omega)).mono ?_
    rintro e w4 ⟨g, ⟨g0, g1⟩, rfl, H, G⟩
    have M4 := Lib.hid (Mid.kept (Mid.put2 M3.out t) G H)
    clear r0 r1 r2 r3 r4 r5 r6 r7 z0 z1 z2 z3 z4 z5 z6 z7
    clear G H
    obtain ⟨⟨r0, r1, r2, r3, r4, r5, r6, r7⟩, ⟨z0, z1, z2, z3, z4, z5, z6, z7⟩⟩ := M4.out.facts
    go_wp2_with fail
    go_at_call 111
    refine (pickInt_any _ _ _ _ _ (InA 2) (Mid.cur (Mid.alloc (Mid.put5 M4.out g) _)) (by omega) (by omega) (by have q := cur_lt (Mid.cur (Mid.put5 M4.out g)); (try simp at q); omega) (cells5n _ _ (by simp) _ 0 0 0 1 2 ⟨by omega, by omega⟩ ⟨by omega, by omega⟩ ⟨by omega, by omega⟩ ⟨by omega, by omega⟩ ⟨by omega, by omega⟩)).mono ?_
    rintro e w5 ⟨st, hst, rfl, H, G⟩
    have M5 := Lib.hid (Mid.kept (Mid.alloc (Mid.put5 M4.out g) _) G H)
    clear r0 r1 r2 r3 r4 r5 r6 r7 z0 z1 z2 z3 z4 z5 z6 z7
    clear G H
    obtain ⟨⟨r0, r1, r2, r3, r4, r5, r6, r7⟩, ⟨z0, z1, z2, z3, z4, z5, z6, z7⟩⟩ := M5.out.facts
    obtain ⟨st0, st1⟩ := hst
    go_wp2_with fail
    go_at_call 111
    refine (pickInt_any _ _ _ _ _ (InA 64) (Mid.cur (Mid.alloc (Mid.put6 M5.out st) _)) (by omega) (by omega) (by have q := cur_lt (Mid.cur (Mid.put6 M5.out st)); (try simp at q); omega) (cells4n _ _ (by simp) _ 8 0 20 64 ⟨by omega, by omega⟩ ⟨by omega, by omega⟩ ⟨by omega, by omega⟩ ⟨by omega, by omega⟩)).mono ?_
    rintro e w6 ⟨l, hl, rfl, H, G⟩
    have M6 := Lib.hid (Mid.kept (Mid.alloc (Mid.put6 M5.out st) _) G H)
    clear r0 r1 r2 r3 r4 r5 r6 r7 z0 z1 z2 z3 z4 z5 z6 z7
    clear G H
    obtain ⟨⟨r0, r1, r2, r3, r4, r5, r6, r7⟩, ⟨z0, z1, z2, z3, z4, z5, z6, z7⟩⟩ := M6.out.facts
    obtain ⟨l0, l1⟩ := hl
    by_cases hs : st = 0
    · subst hs
      have HM0 := Lib.hid (Mid.put4 M6.out l)
      have MF := HM0.out.f47
      go_wp2_with fail
      clear r0 r1 r2 r3 r4 r5 r6 r7 z0 z1 z2 z3 z4 z5 z6 z7
      go_region_held3 (fun w' => w'.cell? ⟨w2.heap.size, 4, none⟩ = some (.int .i64 l))
        (first
          | exact MF.1
          | exact (Mid.kept HM0.out.drew1 G8 H8).f47.1
          | exact m4
          | exact (Mid.put7 (Mid.kept (Mid.kept HM0.out.drew1 G8 H8) G9 H9) d n dc dx di (fun p hp => by have := df p hp; have := block_there (Mid.kept HM0.out.drew1 G8 H8).row; omega)).f47.1)
        (first
          | (go_at_call 75; refine (below_any _ _ _ (Mid.cur HM0.out.drew1) (by omega) (by omega)).mono ?_; rintro e w8 ⟨x, ⟨x0, x1⟩, rfl, H8, G8⟩)
          | (go_at_call 127; obtain ⟨n, hn, hn0, hn1⟩ := min_nat x l x0 x1 l0; rw [hn]; refine (data_any _ _ n H8 hn0).mono ?_; rintro e w9 ⟨d, dc, dx, rfl, dw, di, df, H9, G9⟩; have m9 := (Mid.kept (Mid.kept HM0.out.drew1 G8 H8) G9 H9).f47; obtain ⟨m4, m7, mz⟩ := m9))
      all_goals
        have M8 := Mid.kept HM0.out.drew1 G8 H8
        have hb8 := block_there M8.row
        have M9 := Lib.hid (Mid.kept M8 G9 H9)
        have dI := Lib.hid di
        have dF := Lib.hid df
        have dW := Lib.hid dw
        clear M8 G8 H8 G9 H9 di df dw m4 m7 mz MF
        obtain ⟨⟨r0, r1, r2, r3, r4, r5, r6, r7⟩, ⟨z0, z1, z2, z3, z4, z5, z6, z7⟩⟩ := M9.out.facts
        obtain ⟨⟨q0, q1, q2, q3, q4, q5, q6, q7⟩, ⟨y0, y1, y2, y3, y4, y5, y6, y7⟩⟩ := M9.out.zeros
        have hlt := M9.out.lt
        have HM := Lib.hid (Mid.put7 M9.out d n dc dx dI.out (fun p hp => by have := dF.out p hp; omega))
        go_wp2
        refine bodyPost_ret (v := pkV 6 f t 0 l g 0 d n dc) (by simp [results, go_sem, pkV, q0, q1, q2, q3, q4, q5, q6, q7]) rfl ⟨_, _, _, _, _, _, _, d, n, dc, dx, rfl, ⟨by omega, by omega⟩, dW.out, .inr (.inr (.inr (.inr (.inr ⟨rfl, t0, by omega, l0, l1, g0, by omega, by omega, by omega, rfl, .inr ⟨rfl, by omega, hn1⟩⟩)))), ?_⟩
        exact HM.out.done _ _ _ _ _ _ _ _
    · have bs : (st == 0) = false := by simpa using hs
      obtain ⟨⟨q0, q1, q2, q3, q4, q5, q6, q7⟩, ⟨y0, y1, y2, y3, y4, y5, y6, y7⟩⟩ := M6.out.zeros
      have hlt := M6.out.lt
      have HM := Lib.hid (Mid.put4 M6.out l)
      go_wp2
      refine bodyPost_ret (v := pkV 6 f t 0 l g st none 0 0) (by simp [results, go_sem, pkV, q0, q1, q2, q3, q4, q5, q6, q7]) rfl ⟨_, _, _, _, _, _, _, none, 0, 0, [], rfl, ⟨by omega, by omega⟩, ⟨(fun x hx => by cases hx), fun _ => rfl, Nat.le_refl _⟩, .inr (.inr (.inr (.inr (.inr ⟨rfl, t0, by omega, l0, l1, g0, by omega, st0, st1, rfl, .inl rfl⟩)))), ?_⟩
      exact HM.out.done _ _ _ _ _ _ _ _

end Go.Proofs.Ytgagbhkidponnac

namespace Go.Proofs.Ytgagbhkidponnac
open Go Go.RowKit

theorem bytes_kept {w w' : World} {a : Option Addr} {len : Nat} {zs : List Int} (h : Bytes w a len zs) (g : w.grownBy w' none) : Bytes w' a len zs := by
  rcases h with h0 | ⟨b, off, ha, hk⟩
  · exact .inl h0
  · exact .inr ⟨b, off, ha, fun k hlt => ⟨g.cell (hk k hlt).1 (by simp), (hk k hlt).2⟩⟩

set_option maxRecDepth 8000 in
set_option maxHeartbeats 2000000 in
theorem drawPacket_any (w : World) (a : Option Addr) (len cap : Nat) (zs : List Int) (hB : Bytes w a len zs) (hl : len ≤ 1048576) :
    Calls Try.prog 44 #[.slice a len cap] w fun e w' => ∃ k f t a l g s d len cap xs, e = .returned (pkV k f t a l g s d len cap) ∧ (PkOk k f t a l g s xs ∧ CapOk d len cap) ∧ ISl w' d len xs ∧ len ≤ 8 ∧ w.grownBy w' none := by
  have HB := Lib.hid hB
  clear hB
  go_enter Try.func44, Try.ntmps44
  go_wp2_with fail
  go_at_call 74
  refine (new_any _ _ _ _ _ (bytes_kept HB.out (gby_alloc (gby_refl _ _) _)) hl).mono ?_
  rintro e w1 ⟨c, rfl, hc, H1, G1⟩
  have hr1 := row_later G1 (heap_alloc_new w _)
  have hc' : w.heap.size < c := by simp only [World.size_alloc] at hc; omega
  have HR1 := Lib.hid hr1
  have HG1 := Lib.hid (gby_trans (gby_alloc (gby_refl w none) _) G1)
  clear G1 hr1 hc
  go_wp2_with fail
  go_at_call 92
  refine (l04Packet_any _ _ H1).mono ?_
  rintro e w2 ⟨k, f, t, a', l, g, s, d, n, cp, xs, rfl, hf, hx, hk, hi, hfar, H2, G2⟩
  have HG2 := Lib.hid (gby_own HG1.out G2 (by omega))
  have hr2 := (G2.block w.heap.size (block_there HR1.out) (fun e => by have := Option.some.inj e; omega)).trans HR1.out
  obtain ⟨r0, r1, r2, r3, r4, r5, r6, r7⟩ := cells_pk hr2
  have z0 := frozen_of_row w2 _ 0 _ _ hr2
  have z1 := frozen_of_row w2 _ 1 _ _ hr2
  have z2 := frozen_of_row w2 _ 2 _ _ hr2
  have z3 := frozen_of_row w2 _ 3 _ _ hr2
  have z4 := frozen_of_row w2 _ 4 _ _ hr2
  have z5 := frozen_of_row w2 _ 5 _ _ hr2
  have z6 := frozen_of_row w2 _ 6 _ _ hr2
  have z7 := frozen_of_row w2 _ 7 _ _ hr2
  have hlen := hi.1
  have h8 : n ≤ 8 := by
    rcases hk with ⟨_, h⟩ | ⟨_, h⟩ | ⟨_, h⟩ | ⟨_, h⟩ | ⟨_, h⟩ | ⟨_, h⟩
    · unfold W1 at h; omega
    · unfold W2 at h; omega
    · unfold W3 at h; omega
    · unfold W4 at h; omega
    · unfold W5 at h; omega
    · unfold W6 at h; omega
  have HP := Lib.hid (show PkOk k f t a' l g s xs ∧ CapOk d n cp from ⟨⟨hf, hx.1, by rw [hlen] at hk; exact hk⟩, hx.2⟩)
  have HI := Lib.hid hi
  have HFAR := Lib.hid hfar
  have hlt1 := block_there HR1.out
  clear G2 H2 hi hk hx hf hlen hr2 hfar
  unfold pkV
  go_wp2
  refine bodyPost_ret (v := pkV k f t a' l g s d n cp) (by simp [results, go_sem, pkV, r0, r1, r2, r3, r4, r5, r6, r7]) rfl ⟨k, f, t, a', l, g, s, d, n, cp, xs, rfl, HP.out, ?_, h8, ?_⟩
  · have G : w2.grownBy _ (some w.heap.size) := gby_set (gby_set (gby_set (gby_set (gby_set (gby_set (gby_set (gby_set (gby_refl w2 (some w.heap.size)) 0 (.int .i64 k)) 1 (.int .i64 f)) 2 (.int .i64 t)) 3 (.int .i64 a')) 4 (.int .i64 l)) 5 (.int .i64 g)) 6 (.int .i64 s)) 7 (.slice d n cp)
    exact HI.out.keptBy G (fun p hp e => by have := Option.some.inj e; have := HFAR.out p hp; omega)
  · iterate 8 (with_reducible refine gby_setnew ?_ _ (Nat.le_refl _) _)
    exact HG2.out

end Go.Proofs.Ytgagbhkidponnac
