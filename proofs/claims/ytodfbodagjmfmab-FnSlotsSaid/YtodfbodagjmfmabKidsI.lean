/-
  The nodes below one, sorted by their devices.
-/
import Derived.Test.YtodfbodagjmfmabKidsMath
import Derived.Test.YtodfbodagjmfmabNodeOf
import Derived.Test.YtodfbodagjmfmabRChildrenOf
import Derived.Test.YtodfbodagjmfmabRowAt
import Derived.Test.YtodfbodagjmfmabBtwMath
import Derived.Test.YtodfbodagjmfmabShelfSort
import Derived.Deep.QuietTactic
namespace Go.Proofs.Ytodfbodagjmfmab
open Go Go.RowKit
set_option linter.unusedVariables false

def dev (xs : List DNode) (n : Nat) : Int := (nd xs n).f1
set_option maxRecDepth 8000 in
set_option maxHeartbeats 2000000 in
theorem cmp_dev (W : World) (xs : List DNode) (tb b off n0 c0 x y : Nat) (hx : x < n0) (hy : y < n0) (hb : W.heap[tb]? = some (.cells #[.slice (some ⟨b, off, none⟩) n0 c0] 26 (0, 0))) (hc : ∀ k, k < n0 → W.cell? ⟨b, off + k * 3 + 1, none⟩ = some (.int .i64 (dev xs k))) :
    Calls Try.prog 79 #[.int .i64 (x : Int), .int .i64 (y : Int), .pointer (some ⟨tb, 0, none⟩)] W (Ans (.int .i64 (Lib.compareInt (dev xs x) (dev xs y))) W) := by
  have k0_ := cell_of_row W tb 0 _ _ _ hb
  have c1_ := hc x hx
  have c2_ := hc y hy
  clear hb hc
  generalize dev xs x = p at c1_ ⊢
  generalize dev xs y = q at c2_ ⊢
  have hx0 : (0 : Int) ≤ (x : Int) := by omega
  have hxt : ((x : Int)).toNat = x := by omega
  have hxn : (x : Int) < (n0 : Int) := by omega
  have hy0 : (0 : Int) ≤ (y : Int) := by omega
  have hyt : ((y : Int)).toNat = y := by omega
  have hyn : (y : Int) < (n0 : Int) := by omega
  have HCON := Lib.hid (fun W : World => (Try.cmp_Compare_int p q W).mono (fun e w' h => (⟨h.1, 0, h.2⟩ : Ans (.int .i64 (Lib.compareInt p q)) W e w')))
  generalize Lib.compareInt p q = r at HCON ⊢
  go_enter Try.func79, Try.ntmps79
  go_wp2_with fail
  go_quiet ((go_at_call 80; exact ans_quiet HCON.out))
  go_wp2
  go_ret
  exact ⟨rfl, _, rfl⟩

open Go.Shelf Go.Sort in
theorem heap_sw {enc : Nat → Value} {w : World} {g n : Nat} {C : Array Value} {t : TypeId} {os : Array Obj} (d : Array Nat) (h : w.heap[g]? = some (.cells C t (0, 0))) : (sortWorld enc w g 0 n d os).heap[g]? = some (.cells (putCells enc 0 d C) t (0, 0)) := by
  have h' : (Sort.ahead w n).heap[g]? = some (.cells C t (0, 0)) := h
  have hlt : g < w.heap.size := (Array.getElem?_eq_some_iff.1 h).1
  unfold sortWorld
  rw [heap_grow_old _ _ (by simpa [putRow, mapBlock, Sort.ahead] using hlt)]
  simp only [putRow, mapBlock, Array.getElem?_modify, if_true, h', Option.map_some]
  rfl
open Go.Shelf Go.Sort in
theorem grownBy_sw {enc : Nat → Value} {w : World} {g n : Nat} {os : Array Obj} (d : Array Nat) : w.grownBy (sortWorld enc w g 0 n d os) (some g) := by
  refine ⟨rfl, rfl, rfl, by simp [sortWorld, putRow, mapBlock, Sort.ahead, grow], fun k hk hne => ?_⟩
  unfold sortWorld
  rw [heap_grow_old _ _ (by simpa [putRow, mapBlock, Sort.ahead] using hk)]
  have : g ≠ k := fun e => hne (by rw [e])
  simp [putRow, mapBlock, Sort.ahead, Array.getElem?_modify, this]
theorem lt_dev (xs : List DNode) (c : Nat → Nat) (x y : Nat) : ltOf (fun x y => Lib.compareInt (dev xs (c x)) (dev xs (c y))) x y = decide (dev xs (c x) < dev xs (c y)) := by
  unfold ltOf Lib.compareInt
  by_cases h1 : dev xs (c x) < dev xs (c y)
  · simp [h1]
  · by_cases h2 : dev xs (c y) < dev xs (c x) <;> simp [h1, h2]
open Go.Shelf Go.Sort in
theorem swo_dev (xs : List DNode) (c : Nat → Nat) : SWO (ltOf (fun x y => Lib.compareInt (dev xs (c x)) (dev xs (c y)))) where
  irrefl x := by rw [lt_dev]; simp
  trans x y z h1 h2 := by rw [lt_dev] at *; simp at *; omega
  ntrans x y z h1 h2 := by rw [lt_dev] at *; simp at *; omega
theorem nums_at (ks : List Nat) (k : Nat) (h : k < ks.length) : (nums ks).getD k 0 = ((ks[k] : Nat) : Int) := by
  simp [nums, List.getD_eq_getElem?_getD, h]

def SortP (xs : List DNode) (base : Nat) (v : Value) (fl : List Nat) (W : World) (e : Ending) (w' : World) : Prop := e = .returned (.tuple #[]) ∧ ∃ ks : List Nat, ks.Perm fl ∧ ks.Pairwise (fun a b => dev xs a ≤ dev xs b) ∧ OwL shI w' base w'.heap.size v (nums ks) ∧ W.grownBy w' v.ownBlock
open Go.Shelf Go.Sort in
theorem sort_any (W : World) (xs : List DNode) (base tb b off n0 c0 : Nat) (v : Value) (fl : List Nat) (hrow : W.ownsRow base 3 1 v (nums fl).length (i64s (nums fl))) (hb : W.heap[tb]? = some (.cells #[.slice (some ⟨b, off, none⟩) n0 c0] 26 (0, 0))) (hc : ∀ k, k < n0 → W.cell? ⟨b, off + k * 3 + 1, none⟩ = some (.int .i64 (dev xs k))) (ht : tb < base) (hbb : b < base) (hfl : ∀ n ∈ fl, n < n0) (hm : fl.length ≤ 1000000) :
    Calls Try.prog 78 #[v, .func (.func 79) #[] #[.pointer (some ⟨tb, 0, none⟩)]] W (SortP xs base v fl W) := by
  by_cases h0 : fl = []
  · subst h0
    obtain ⟨p, n, c, rfl⟩ := RdL.form (owI_out (by simp [nums]) (owI_row hrow)).rd
    have hn : n = 0 := by obtain ⟨_, h2⟩ := hrow; rcases h2 with ⟨e, h0⟩ | ⟨_, _, _, e, _⟩ <;> injection e
    subst hn
    refine (Try.slices_SortFunc_none p c _ W).mono ?_
    rintro e w' ⟨rfl, rfl⟩
    exact ⟨rfl, [], List.Perm.refl _, List.Pairwise.nil, owI_out (by simp [nums]) (owI_row hrow), gby_refl _ _⟩
  · have hl1 : 1 ≤ (nums fl).length := by
      rw [nums_len]
      rcases Nat.eq_zero_or_pos fl.length with h | h
      · exact absurd (List.eq_nil_of_length_eq_zero h) h0
      · exact h
    obtain ⟨g, cap, C, rfl, hg, hgb, hcp, hsz, hC⟩ := row_blk hrow hl1
    rw [nums_len] at hcp hC ⊢
    have hn0 : 0 < n0 := by
      cases fl with
      | nil => exact absurd rfl h0
      | cons a l => have := hfl a List.mem_cons_self; omega
    let c : Nat → Nat := fun n => if n < n0 then n else 0
    let enc : Nat → Value := fun n => .int .i64 ((c n : Nat) : Int)
    have hcl : ∀ n, c n < n0 := fun n => by
      show (if n < n0 then n else 0) < n0
      split <;> omega
    have hce : ∀ n, n < n0 → c n = n := fun n hn => if_pos hn
    have hlt : g < W.heap.size := (Array.getElem?_eq_some_iff.1 hgb).1
    have hH : Holds enc W g 0 fl.toArray := by
      intro j hj
      have hj' : j < fl.length := by simpa using hj
      refine ⟨?_, frozen_of_row W g _ C _ hgb⟩
      rw [cell_of_row W g _ C _ _ hgb, Nat.zero_add, hC j hj', nums_at fl j hj']
      have e1 : fl.toArray[j]! = fl[j] := by simp [hj']
      rw [e1]
      show _ = some (Value.int .i64 ((c fl[j] : Nat) : Int))
      rw [hce _ (hfl _ (List.getElem_mem hj'))]
    have eg : ∀ args w, (callFunc 79 args).run Try.prog w = .ok (.enter 79 args) w := enters_of Try.func79 (by kernel_rfl) rfl
    have hcmp : CmpReads Try.prog 79 #[.pointer (some ⟨tb, 0, none⟩)] enc (fun x y => Lib.compareInt (dev xs (c x)) (dev xs (c y))) g 0 fl.toArray.size W := by
      intro m os dk hdk x y
      have hgr := grownBy_sw (enc := enc) (w := W) (g := g) (n := m) (os := os) dk
      have := cmp_dev (sortWorld enc W g 0 m dk os) xs tb b off n0 c0 (c x) (c y) (hcl x) (hcl y) ((hgr.block tb (Array.getElem?_eq_some_iff.1 hb).1 (by simp; omega)).trans hb) (fun k hk => hgr.cell (hc k hk) (by simp; omega))
      exact this.mono (fun e w' h => ⟨h.1, h.2⟩)
    have hcon := Try.slices_SortFunc enc (fun _ => rfl) _ (swo_dev xs c) 79 #[.pointer (some ⟨tb, 0, none⟩)] g 0 cap fl.toArray W eg hcmp.lays hH hlt (by simp; omega)
    rw [List.size_toArray] at hcon
    refine hcon.mono ?_
    rintro e w' ⟨rfl, d', n, os, hp, hs, rfl⟩
    obtain ⟨p1a, _, p3⟩ := hp
    have p1 : d'.size = fl.length := by simpa using p1a
    clear p1a
    have hperm : d'.toList.Perm fl := by
      have q := p3
      have e1 : d'.extract 0 fl.length = d' := by rw [← p1]; simp
      have e2 : fl.toArray.extract 0 fl.length = fl.toArray := by simp
      rw [e1, e2] at q
      simpa using q
    have hin : ∀ n ∈ d'.toList, n < n0 := fun n hn => hfl n (hperm.mem_iff.1 hn)
    have hlk : (nums d'.toList).length = fl.length := by rw [nums_len]; exact hperm.length_eq
    refine ⟨rfl, d'.toList, hperm, ?_, ?_, grownBy_sw d'⟩
    · rw [List.pairwise_iff_getElem]
      intro i j hi hj hij
      have hj2 : j < fl.length := by rw [← p1]; simpa using hj
      have q := hs i j (Nat.zero_le _) hij hj2
      rw [lt_dev] at q
      have ei : d'[i]! = d'.toList[i] := by rw [getElem!_pos d' i (by omega)]; simp
      have ej : d'[j]! = d'.toList[j] := by rw [getElem!_pos d' j (by omega)]; simp
      rw [ei, ej, hce _ (hin _ (List.getElem_mem hi)), hce _ (hin _ (List.getElem_mem hj))] at q
      simpa using q
    · rw [← hlk]
      refine owL_I_cells (heap_sw d' hgb) hg (Nat.lt_of_lt_of_le hlt (grownBy_sw d').size) (by omega) (by omega) (fun k hk => ?_)
      rw [hlk] at hk
      have hkc : k < C.size := by omega
      have hkd : k < d'.size := by omega
      rw [Nat.zero_add, putCells, Array.getElem?_mapIdx, Array.getElem?_eq_getElem hkc, Option.map_some, if_pos ⟨Nat.zero_le _, by omega⟩, Nat.sub_zero, getElem!_pos d' k hkd]
      show some (Value.int .i64 ((c d'[k] : Nat) : Int)) = _
      rw [nums_at _ _ (by simpa using hkd), hce _ (hin _ (by simp))]
      simp

/-- the nodes below k, as they come -/
def flk (xs : List DNode) (k : Int) (m : Nat) : List Nat := (List.range m).filter (fun n => decide ((nd xs n).f0 = k))
theorem flk_succ (xs : List DNode) (k : Int) (m : Nat) : flk xs k (m + 1) = flk xs k m ++ (if (nd xs m).f0 = k then [m] else []) := by
  unfold flk
  rw [List.range_succ, List.filter_append]
  congr 1
  by_cases h : (nd xs m).f0 = k <;> simp [h]
theorem flk_len (xs : List DNode) (k : Int) (m : Nat) : (flk xs k m).length ≤ m := by
  have := List.length_filter_le (fun n => decide ((nd xs n).f0 = k)) (List.range m)
  unfold flk; rw [List.length_range] at this; exact this
theorem mem_flk {xs : List DNode} {k : Int} {m n : Nat} : n ∈ flk xs k m ↔ n < m ∧ (nd xs n).f0 = k := by simp [flk]
theorem flk_kids {xs : List DNode} (h : TOk xs) {k : Int} (hk : 0 ≤ k) {ks : List Nat} (hp : ks.Perm (flk xs k xs.length)) (hs : ks.Pairwise (fun a b => dev xs a ≤ dev xs b)) : ks = kidsN xs k 4 := by
  refine kids_one (k := k) ⟨fun n => ?_, ?_⟩ (kids_is h k)
  · rw [hp.mem_iff, mem_flk]
    constructor
    · rintro ⟨h1, h2⟩
      refine ⟨?_, h1, h2⟩
      by_cases n0 : n = 0
      · subst n0; rw [h.2.1.1] at h2; omega
      · omega
    · rintro ⟨_, h1, h2⟩
      exact ⟨h1, h2⟩
  · have hnd : ks.Nodup := hp.nodup_iff.2 (List.Pairwise.filter _ List.nodup_range)
    refine (hs.and hnd).imp_of_mem (fun {a b} ha hb ⟨h1, h2⟩ => ?_)
    rw [hp.mem_iff, mem_flk] at ha hb
    have h3 : ¬ dev xs a = dev xs b := by
      intro e
      have hpos : ∀ n, (nd xs n).f0 = k → 1 ≤ n := fun n hn => by
        by_cases n0 : n = 0
        · subst n0; rw [h.2.1.1] at hn; omega
        · omega
      rcases Nat.lt_or_ge a b with hab | hab
      · exact (h.2.2 b (hpos b hb.2) hb.1).2.2.2.2 a (hpos a ha.2) hab ⟨ha.2.trans hb.2.symm, e⟩
      · exact (h.2.2 a (hpos a ha.2) ha.1).2.2.2.2 b (hpos b hb.2) (by omega) ⟨hb.2.trans ha.2.symm, e.symm⟩
    show dev xs a < dev xs b
    omega

set_option maxRecDepth 8000 in
set_option maxHeartbeats 4000000 in
theorem implKidsOf (W : World) (v : Value) (xs : List DNode) (k : Int) (H : RdL shNode W v xs) (hl : szL shNode xs ≤ 1048576) (hp : NodeP xs k) (hbw : ∀ b off n c, v = .slice (some ⟨b, off, none⟩) n c → b < W.heap.size) : Calls Try.prog 53 #[v, .int .i64 k] W (ResIChildrenOf (nums (kidsN xs k 4)) W) := by
  have HTO := Lib.hid hp.1
  have HK0 := Lib.hid hp.2.1
  have hx12 := hp.1.1.2
  have hx1 := hp.1.1.1
  clear hp
  obtain ⟨i1_, hi1_, hz0_, hz1_, hz2_⟩ := info_parts infoInt
  have HT := Lib.hid H
  have HL := Lib.hid hl
  have HMX := Lib.hid H.max
  obtain ⟨a0, c0, rfl, hcap, hi⟩ := rdN_in H
  obtain ⟨n0, hlen⟩ : ∃ n, n = xs.length := ⟨_, rfl⟩
  have HE := Lib.hid hlen
  unfold RdN at hi
  rw [← hlen] at hi HT ⊢
  have HA := Lib.hid hi
  have hlx : n0 ≤ 1048576 := by have := szL_len shNode xs; omega
  clear H hi hlen hl hcap
  have hn1 : 1 ≤ n0 := by have := HE.out; omega
  have hn12 : n0 ≤ 12 := by have := HE.out; omega
  obtain ⟨b, off, rfl, hcell⟩ := HA.out.resolve_left (by omega)
  have HC := Lib.hid hcell
  have HBW := Lib.hid (hbw _ _ _ _ rfl)
  clear hcell hx1 hx12 hbw
  go_enter Try.func53, Try.ntmps53
  have rT1_ := Lib.hid (show ((W.alloc (.cells #[.slice (some ⟨b, off, none⟩) n0 c0] 26))).heap[W.heap.size]? = some (.cells #[.slice (some ⟨b, off, none⟩) n0 c0] 26 (0, 0)) from by exact heap_alloc_new _ _)
  have G2_ := Lib.hid (show (W).grownBy ((W.alloc (.cells #[.slice (some ⟨b, off, none⟩) n0 c0] 26))) none from (gby_alloc (gby_refl _ _) _))
  have T_0_ : ((W.alloc (.cells #[.slice (some ⟨b, off, none⟩) n0 c0] 26))).cell? ⟨W.heap.size, 0, none⟩ = some (.slice (some ⟨b, off, none⟩) n0 c0) := cell_of_row _ _ 0 _ _ _ rT1_.out
  have HTM3_ := Lib.hid (gby_refl ((W.alloc (.cells #[.slice (some ⟨b, off, none⟩) n0 c0] 26))) none)
  have MG4_ := Lib.hid (show (W).grownBy ((W.alloc (.cells #[.slice (some ⟨b, off, none⟩) n0 c0] 26))) none from G2_.out)
  have MR5_ := Lib.hid rT1_.out
  go_wp2
  go_loopw [5, 6, 7, 10] (fun v z p i wr => ∃ n : Nat, i = .int .i64 (n : Int) ∧ n ≤ n0 ∧ (∃ q, z = q) ∧ (∃ q, p = q) ∧ wr.ownsRow (W.heap.size + 1) 3 1 v (nums (flk xs k n)).length (i64s (nums (flk xs k n))) ∧ ((W.alloc (.cells #[.slice (some ⟨b, off, none⟩) n0 c0] 26))).grownBy wr none) (fun _ _ _ i _ => n0 - (intOf i).toNat)
  case atStart => exact ⟨0, rfl, by omega, ⟨_, rfl⟩, ⟨_, rfl⟩, World.ownsRow_nil _ _ _ _, HTM3_.out⟩
  case round =>
    clear T_0_
    clear rT1_
    clear HTM3_
    obtain ⟨n, rfl, hn, ⟨z, rfl⟩, ⟨p, rfl⟩, hown, hg⟩ := hrel
    have szr_ := hg.size
    try simp only [World.size_alloc, World.size_setCell] at szr_
    have G6_ := Lib.hid (show (W).grownBy (wr) none from gby_trans MG4_.out hg)
    have rT7_ := Lib.hid (show (wr).heap[W.heap.size]? = some (.cells #[.slice (some ⟨b, off, none⟩) n0 c0] 26 (0, 0)) from row_held hg MR5_.out)
    have HTM8_ := Lib.hid hg
    clear hg
    have T_0_ : (wr).cell? ⟨W.heap.size, 0, none⟩ = some (.slice (some ⟨b, off, none⟩) n0 c0) := cell_of_row _ _ 0 _ _ _ rT7_.out
    have HO := Lib.hid hown
    clear hown
    have hi0 : (0 : Int) ≤ (n : Int) := by omega
    have htn : ((n : Int)).toNat = n := by omega
    by_cases hlt : n < n0
    rotate_left
    · obtain rfl : n = n0 := by omega
      have hki : ¬ (n : Int) < (n : Int) := by omega
      go_wp2_with fail
      go_at_call 78
      refine (sort_any _ xs (W.heap.size + 1) W.heap.size b off n c0 _ (flk xs k n) HO.out rT7_.out (fun j hj => (G6_.out).cell (HC.out j hj).2.1 (by simp)) (by omega) (by have := HBW.out; omega) (fun j hj => (mem_flk.1 hj).1) (by have := flk_len xs k n; omega)).mono ?_
      rintro e w5 ⟨rfl, ks, hp, hs, ho, g5⟩
      have hks : ks = kidsN xs k 4 := flk_kids HTO.out HK0.out (by rw [← HE.out]; exact hp) hs
      subst hks
      have HO5 := Lib.hid ho
      have HG5 := Lib.hid (gby_new G6_.out g5 (fun i hi => by have := own_from HO.out i hi; omega))
      clear hp hs ho g5
      go_wp2
      go_ret
      exact ⟨_, rfl, OwU.one (OwL.wide HO5.out (by omega) (Nat.le_refl _)), HG5.out⟩
    have hki : (n : Int) < (n0 : Int) := by omega
    obtain ⟨y, hy⟩ : ∃ y, y = nd xs n := ⟨_, rfl⟩
    have hyc := HC.out n hlt
    rw [← hy] at hyc
    have HY := Lib.hid hy
    have HY0 := Lib.hid hyc.1
    have HY1 := Lib.hid hyc.2.1
    have HY2 := Lib.hid hyc.2.2
    clear hy hyc
    obtain ⟨y0, y1, y2⟩ := y
    dsimp only at HY0 HY1 HY2
    have y0_ := (G6_.out).cell HY0.out (by simp)
    have y1_ := (G6_.out).cell HY1.out (by simp)
    have y2_ := (G6_.out).cell HY2.out (by simp)
    by_cases h0 : y0 = k
    rotate_left
    · have hb : (y0 == k) = false := by simpa using h0
      have HK : Hid (¬ (nd xs n).f0 = k) := Lib.hid (fun q => h0 (by rw [← HY.out] at q; exact q))
      clear h0
      go_wp2
      refine ⟨⟨n + 1, by go_num, by omega, ⟨_, rfl⟩, ⟨_, rfl⟩, ?_, gby_alloc HTM8_.out _⟩, by simp [intOf]; omega⟩
      rw [flk_succ, if_neg HK.out, List.append_nil]
      exact HO.out.alloc _
    have hb : (y0 == k) = true := by simpa using h0
    have HK : Hid ((nd xs n).f0 = k) := Lib.hid (by rw [← HY.out]; exact h0)
    clear h0
    obtain ⟨m, hm⟩ : ∃ m, m = (nums (flk xs k n)).length := ⟨_, rfl⟩
    have HO1 := Lib.hid (show wr.ownsRow (W.heap.size + 1) 3 1 _ m (i64s (nums (flk xs k n))) from by rw [hm]; exact HO.out)
    have hb1 : m ≤ 12 := by rw [hm, nums_len]; have := flk_len xs k n; omega
    have HM := Lib.hid hm
    clear hm
    go_wp2_with (at_builtin; refine wpList_append_lies _ (by rfl) _ _ _ (by rfl) (W.heap.size + 1) 3 i1_ _ 1 8 Try.underlying24 hi1_ hz0_ hz1_ hz2_ rfl (by omega) _ m (i64s (nums (flk xs k n))) (by rfl) ((HO1.out.alloc _).alloc _) ⟨wr.heap.size + 1, 0, none⟩ 1 1 _ (by rfl) (by rfl) (World.news_of_block (t := 3) (fr := (0, 0)) (heap_pair wr _ _)) (by simp [Value.oneCell']) (by omega) (by unfold maxLen; omega) (by omega) (by first | (simp; omega) | simp) (wr.heap.size + 1 + 1) (by simp) ?_; intro gg1 cap1 wa1 hown_ hgr_ hat_ hlt_; have HP1 := Lib.hid hown_; have HQ1 := Lib.hid (gby_new (gby_alloc (gby_alloc HTM8_.out _) _) hgr_ (fun i hi => by have := own_from HO1.out i hi; (try simp only [World.size_alloc] at *); omega)); clear hown_ hgr_ hat_ hlt_)
    refine ⟨⟨n + 1, by go_num, by omega, ⟨_, rfl⟩, ⟨_, rfl⟩, ?_, HQ1.out⟩, by simp [intOf]; omega⟩
    have e_ : nums (flk xs k (n + 1)) = (nums (flk xs k n)) ++ [(n : Int)] := by rw [flk_succ, if_pos HK.out, nums_app]; rfl
    rw [e_, List.length_append, List.length_singleton, ← HM.out, i64s_append]
    exact HP1.out

theorem cell_lt {w : World} {a : Addr} {v : Value} (h : w.cell? a = some v) : a.block < w.heap.size := by
  cases e : w.heap[a.block]? with
  | none => simp [World.cell?, e] at h
  | some o => exact (Array.getElem?_eq_some_iff.1 e).1
set_option maxHeartbeats 1000000 in
theorem implKids_no (W : World) (v : Value) (xs : List DNode) (k : Int) (H : RdL shNode W v xs) (hl : szL shNode xs ≤ 1048576) (hp : ¬ NodeP xs k) : Calls Try.prog 18 #[v, .int .i64 k] W (ResIChildrenOf [] W) := by
  have HP_ := Lib.hid hp
  clear hp
  have HT := Lib.hid H
  have HL := Lib.hid hl
  obtain ⟨a0, n0, c0, rfl⟩ := RdL.form H
  have hn0 : n0 = xs.length := by obtain ⟨_, _, e, _⟩ := H; injection e
  have HE := Lib.hid hn0
  have hlx : n0 ≤ 1048576 := by have := szL_len shNode xs; omega
  clear H hn0 hl
  go_enter Try.func18, Try.ntmps18
  go_wp2_with fail
  go_at_call 52
  refine (implNode_no _ _ xs _ (HT.out.grow (gby_refl _ _)) HL.out HP_.out).mono ?_
  rintro e w1 ⟨rfl, g⟩
  have szw1 := g.size
  try simp only [World.size_alloc] at szw1
  try simp only [World.size_setCell] at szw1
  have G1_ := Lib.hid (show (W).grownBy (w1) none from gby_trans (gby_refl _ _) g)
  clear g
  go_wp2
  go_ret
  exact ⟨_, rfl, OwU.one owL_nil, G1_.out⟩

set_option maxHeartbeats 1000000 in
theorem implKids_yes (W : World) (v : Value) (xs : List DNode) (k : Int) (H : RdL shNode W v xs) (hl : szL shNode xs ≤ 1048576) (hp : NodeP xs k) : Calls Try.prog 18 #[v, .int .i64 k] W (ResIChildrenOf (nums (kidsN xs k 4)) W) := by
  have HP_ := Lib.hid hp
  have hbl : ∀ b off n c, v = .slice (some ⟨b, off, none⟩) n c → b < W.heap.size := by
    obtain ⟨a0, c0, rfl, _, hi⟩ := rdN_in H
    rcases hi with h0 | ⟨b, off, rfl, h⟩
    · have := hp.1.1.1; omega
    · intro b' off' n c e
      injection e with e1 e2 e3
      injection e1 with e1
      injection e1 with e4 e5
      subst e4
      exact cell_lt (h 0 hp.1.1.1).1
  clear hp
  have HT := Lib.hid H
  have HL := Lib.hid hl
  obtain ⟨a0, n0, c0, rfl⟩ := RdL.form H
  have hn0 : n0 = xs.length := by obtain ⟨_, _, e, _⟩ := H; injection e
  have HE := Lib.hid hn0
  have hlx : n0 ≤ 1048576 := by have := szL_len shNode xs; omega
  clear H hn0 hl
  have HBL : Hid (∀ b off, a0 = some ⟨b, off, none⟩ → b < W.heap.size) := Lib.hid (fun b off e => hbl b off n0 c0 (by rw [e]))
  clear hbl
  go_enter Try.func18, Try.ntmps18
  go_wp2_with fail
  go_at_call 52
  refine (implNode_yes _ _ xs _ (HT.out.grow (gby_refl _ _)) HL.out HP_.out).mono ?_
  rintro e w1 ⟨rfl, g⟩
  have szw1 := g.size
  try simp only [World.size_alloc] at szw1
  try simp only [World.size_setCell] at szw1
  have G1_ := Lib.hid (show (W).grownBy (w1) none from gby_trans (gby_refl _ _) g)
  clear g
  go_wp2_with fail
  go_at_call 53
  refine (implKidsOf _ _ xs k (HT.out.grow G1_.out) HL.out HP_.out (fun b off n c e => by injection e with e1 e2 e3; subst e1; have := HBL.out b off rfl; have := gby_size G1_.out; omega)).mono ?_
  rintro e w2 ⟨vr, rfl, o, g⟩
  go_wp2
  go_ret
  exact ⟨_, rfl, OwU.wide (gby_size G1_.out) (Nat.le_refl _) o, gby_trans G1_.out g⟩

end Go.Proofs.Ytodfbodagjmfmab
