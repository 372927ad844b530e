/-
  Lists of packets copied, on both sides: rows that can be appended to.
-/
import Derived.Test.YtnighnkkeiegnaaPkCp
import Derived.Test.YtnighnkkeiegnaaOwR
import Derived.Test.YtnighnkkeiegnaaQSPacket
import Derived.Lib.SliceRun
import Derived.Deep.AppendLies
namespace Go.Proofs.Ytnighnkkeiegnaa
open Go Go.RowKit
set_option linter.unusedVariables false

/-- what a list of packets copied is -/
def CopiedPks (xs : List DPacket) (W : World) (e : Ending) (w' : World) : Prop := ∃ v', e = .returned v' ∧ OwR shPacket 60 w' W.heap.size v' xs ∧ W.grownBy w' none
theorem take_nextP (xs : List DPacket) (k : Nat) (hk : k < xs.length) : xs.take (k + 1) = xs.take k ++ [xs.getD k default] := by
  rw [List.take_succ_eq_append_getElem hk, List.getD_eq_getElem?_getD, List.getElem?_eq_getElem hk]; rfl
theorem own_blockP {a : Option Addr} {n c : Nat} {w : World} {base : Nat} {e : TypeId} {size m : Nat} {xs : List Value} (h : w.ownsRow base e size (.slice a n c) m xs) : ∀ i, (Value.slice a n c).ownBlock = some i → i < w.heap.size := fun i hi => (h.lt i hi).2
theorem gby_sizeC {w w' : World} {r : Option Nat} (g : w.grownBy w' r) : w.heap.size ≤ w'.heap.size := g.size
/-- copies told as a row -/
theorem copd_row {α : Type} [Inhabited α] {s : Shp α} {w : World} {g base c : Nat} {xs : List α} {C : Array Value} {t : TypeId} {P : Nat → Nat} (h : Copd s g w xs C P xs.length) (hg : base ≤ g) (hc : xs.length ≤ c) (hcm : c ≤ maxLen) (hs : C.size = c * s.n) (hh : w.heap[g]? = some (.cells C t (0, 0))) : OwR s t w base (.slice (some ⟨g, 0, none⟩) xs.length c) xs := by
  have h0 := h.start
  have hl := h.last
  have hm := h.mono
  have key : ∀ k : Nat, ∃ cs : List Value, k < xs.length → (∀ j, j < cs.length → C[k * s.n + j]? = cs[j]?) ∧ s.ow w (P k) (P (k + 1)) cs (xs.getD k default) := by
    intro k
    by_cases hk : k < xs.length
    · obtain ⟨cs, q1, q2, q3⟩ := h.own k hk
      exact ⟨cs, fun _ => ⟨q2, q3⟩⟩
    · exact ⟨[], fun q => absurd q hk⟩
  obtain ⟨cs, hcs⟩ := Classical.axiomOfChoice key
  have hlen : ∀ k, k < xs.length → (cs k).length = s.n := fun k hk => s.len (s.read (hcs k hk).2)
  refine ⟨cs, P, fun k => P (k + 1), ⟨flatN_len hlen, .inr ⟨g, c, C, rfl, hg, hh, hc, hcm, hs, ?_⟩⟩, fun k hk => ?_, fun j k hj hk => .inl (hm (j + 1) k (by omega) (by omega))⟩
  · apply List.ext_getElem?
    intro i
    by_cases hi : i < xs.length * s.n
    · rw [List.getElem?_take, if_pos hi, Array.getElem?_toList]
      have hn : 0 < s.n := by
        rcases Nat.eq_zero_or_pos s.n with e | e
        · rw [e, Nat.mul_zero] at hi; omega
        · exact e
      have e1 : i = (i / s.n) * s.n + i % s.n := by rw [Nat.mul_comm]; exact (Nat.div_add_mod i s.n).symm
      have hk : i / s.n < xs.length := Nat.div_lt_of_lt_mul (by rw [Nat.mul_comm]; exact hi)
      have hj : i % s.n < s.n := Nat.mod_lt _ hn
      generalize i / s.n = k at e1 hk
      generalize i % s.n = j at e1 hj
      rw [e1, flatN_at hlen hk hj]
      exact (hcs k hk).1 j (by rw [hlen k hk]; exact hj)
    · rw [List.getElem?_take, if_neg hi]
      symm
      rw [List.getElem?_eq_none_iff, flatN_len hlen]
      omega
  · have q1 := hm 0 k (by omega) (by omega)
    have q2 := hm (k + 1) xs.length (by omega) (Nat.le_refl _)
    exact ⟨by omega, by dsimp only; omega, hlen k hk, (hcs k hk).2, fun i hi => by
      have := Option.some.inj (show some g = some i from hi)
      exact .inl (by omega)⟩

set_option maxRecDepth 8000 in
set_option maxHeartbeats 4000000 in
theorem l15Copies_d (W : World) (v : Value) (xs : List DPacket) (H : RdL shPacket W v xs) (hl : szL shPacket xs ≤ 1048576) : Calls Try.prog 119 #[v] W (CopiedPks xs W) := by
  have HS := Lib.hid hl
  have HRD := Lib.hid H
  obtain ⟨a0, cap0, rfl, hcap, _, H⟩ := H
  have HC := Lib.hid H
  have hcap2 := hcap.2
  obtain ⟨n0, hn0⟩ : ∃ n, n = xs.length := ⟨_, rfl⟩
  have HE := Lib.hid hn0
  have hlx : n0 ≤ 1048576 := by have := szL_len shPacket xs; omega
  rw [← hn0] at hcap2 ⊢
  rw [← hn0] at HRD HC
  clear H hcap hl hn0
  go_enter Try.func119, Try.ntmps119
  have HTM1_ := Lib.hid (gby_refl (W) none)
  have MG2_ := Lib.hid (show (W).grownBy (W) none from (gby_refl _ _))
  have al_ : (W).grownBy ((W).alloc (.cells #[] 60)) none := gby_alloc (gby_refl _ _) _
  have G3_ := Lib.hid (show (W).grownBy ((W.alloc (.cells #[] 60))) none from gby_trans (gby_refl _ _) al_)
  have HTM4_ := Lib.hid (show (W).grownBy ((W.alloc (.cells #[] 60))) none from gby_trans HTM1_.out al_)
  clear HTM1_
  have rO5_ := Lib.hid (show ((W.alloc (.cells #[] 60))).heap[W.heap.size]? = some (.cells #[] 60 (0, 0)) from by first | exact heap_alloc_new _ _ | exact heap_pair _ _ _ | exact heap_trip _ _ _ _)
  clear al_
  have hst_ : OwR shPacket 60 ((W.alloc (.cells #[] 60))) (W.heap.size) (.slice (some ⟨W.heap.size, 0, none⟩) 0 0) (xs.take 0) := by rw [List.take_zero]; exact owR_of (own_emptyP (e := 60) (n := 8) rO5_.out (Nat.le_refl _))
  go_wp2
  go_loopw [3, 4] (fun v i wr => ∃ k : Nat, i = .int .i64 (k : Int) ∧ k ≤ n0 ∧ OwR shPacket 60 wr (W.heap.size) v (xs.take k) ∧ (W).grownBy wr none) (fun _ i _ => n0 - (intOf i).toNat)
  case atStart => exact ⟨0, rfl, by omega, hst_, HTM4_.out⟩
  case round =>
    clear rO5_
    clear HTM4_
    obtain ⟨k, rfl, hk, hor_, hg⟩ := hrel
    have szr_ := hg.size
    try simp only [World.size_alloc] at szr_
    try simp only [World.size_setCell] at szr_
    have G6_ := Lib.hid (show (W).grownBy (wr) none from gby_trans MG2_.out hg)
    have HTM7_ := Lib.hid hg
    clear hg
    clear hst_
    have hlk_ : (xs.take k).length = k := by rw [List.length_take]; have := HE.out; omega
    obtain ⟨p1, d1, hv_⟩ := OwR.form hor_
    rw [hlk_] at hv_
    subst hv_
    have HOR := Lib.hid hor_
    clear hor_
    have hk0 : (0 : Int) ≤ (k : Int) := by omega
    have htk : ((k : Int)).toNat = k := by omega
    by_cases hlt : k < n0
    rotate_left
    · obtain rfl : k = n0 := by omega
      have hki : ¬ (k : Int) < (k : Int) := by omega
      have HOX := Lib.hid (show OwR shPacket 60 wr W.heap.size (.slice p1 k d1) xs from by have q := HOR.out; rwa [show xs.take k = xs from by rw [HE.out, List.take_length]] at q)
      clear hlk_
      go_wp2
      go_ret
      exact ⟨_, rfl, HOX.out, G6_.out⟩
    have hki : (k : Int) < (n0 : Int) := by omega
    obtain ⟨ab, ao, rfl, hcell_⟩ := HC.out.resolve_left (by omega)
    have HCE := Lib.hid hcell_
    clear hcell_
    have hq_ : k < n0 := hlt
    obtain ⟨cs_, hat_, hrd_⟩ := HCE.out k (by omega)
    obtain ⟨xk, hx_⟩ : ∃ x, x = xs.getD k default := ⟨_, rfl⟩
    rw [← hx_] at hrd_
    have hzk_ : szL shI xk.f7 ≤ 1048576 := by have q1 := szL_at shPacket xs k (by have := HE.out; omega); rw [← hx_] at q1; exact Nat.le_trans q1 HS.out
    have HXk := Lib.hid hx_
    obtain ⟨v7_, rfl, r7_⟩ := hrd_
    obtain ⟨pk, nk, ck, hv_⟩ := RdL.form r7_
    subst hv_
    have Rk := Lib.hid r7_
    have HEk0 := Lib.hid (show W.cell? ⟨ab, ao + k * 8, none⟩ = some (.int .i64 xk.f0) from at_cell (j := 0) hat_ rfl)
    have HEk1 := Lib.hid (show W.cell? ⟨ab, ao + k * 8 + 1, none⟩ = some (.int .i64 xk.f1) from at_cell (j := 1) hat_ rfl)
    have HEk2 := Lib.hid (show W.cell? ⟨ab, ao + k * 8 + 2, none⟩ = some (.int .i64 xk.f2) from at_cell (j := 2) hat_ rfl)
    have HEk3 := Lib.hid (show W.cell? ⟨ab, ao + k * 8 + 3, none⟩ = some (.int .i64 xk.f3) from at_cell (j := 3) hat_ rfl)
    have HEk4 := Lib.hid (show W.cell? ⟨ab, ao + k * 8 + 4, none⟩ = some (.int .i64 xk.f4) from at_cell (j := 4) hat_ rfl)
    have HEk5 := Lib.hid (show W.cell? ⟨ab, ao + k * 8 + 5, none⟩ = some (.int .i64 xk.f5) from at_cell (j := 5) hat_ rfl)
    have HEk6 := Lib.hid (show W.cell? ⟨ab, ao + k * 8 + 6, none⟩ = some (.int .i64 xk.f6) from at_cell (j := 6) hat_ rfl)
    have HEk7 := Lib.hid (show W.cell? ⟨ab, ao + k * 8 + 7, none⟩ = some (.slice pk nk ck) from at_cell (j := 7) hat_ rfl)
    clear hat_ r7_ hx_ hq_
    have ek0_ := (G6_.out).cell HEk0.out (by simp)
    have ek1_ := (G6_.out).cell HEk1.out (by simp)
    have ek2_ := (G6_.out).cell HEk2.out (by simp)
    have ek3_ := (G6_.out).cell HEk3.out (by simp)
    have ek4_ := (G6_.out).cell HEk4.out (by simp)
    have ek5_ := (G6_.out).cell HEk5.out (by simp)
    have ek6_ := (G6_.out).cell HEk6.out (by simp)
    have ek7_ := (G6_.out).cell HEk7.out (by simp)
    obtain ⟨cs, P, Q, hr_, hel_⟩ := HOR.out
    rw [hlk_] at hr_
    have HR1 := Lib.hid hr_
    have HEL := Lib.hid hel_
    have HLK := Lib.hid hlk_
    clear hr_ hel_ hlk_
    obtain ⟨i1_, hi1_, hz0_, hz1_, hz2_⟩ := info_parts infoPacketS
    have HGZ := Lib.hid (gby_refl (wr) none)
    go_wp2_with fail
    go_at_call 92
    refine (l04Copy_d _ xk.f0 xk.f1 xk.f2 xk.f3 xk.f4 xk.f5 xk.f6 _ xk.f7 (Rk.out.grow G6_.out) hzk_).mono ?_
    rintro e w1 ⟨d7, rfl, oA, g⟩
    have szw1 := g.size
    try simp only [World.size_alloc] at szw1
    try simp only [World.size_setCell] at szw1
    clear ek0_ ek1_ ek2_ ek3_ ek4_ ek5_ ek6_ ek7_
    have G8_ := Lib.hid (show (W).grownBy (w1) none from gby_trans G6_.out g)
    have HTM9_ := Lib.hid (show (W).grownBy (w1) none from gby_trans HTM7_.out g)
    clear HTM7_
    have HTZ10_ := Lib.hid (show (wr).grownBy (w1) none from gby_trans HGZ.out g)
    clear HGZ
    clear g
    have ek0_ := (G8_.out).cell HEk0.out (by simp)
    have ek1_ := (G8_.out).cell HEk1.out (by simp)
    have ek2_ := (G8_.out).cell HEk2.out (by simp)
    have ek3_ := (G8_.out).cell HEk3.out (by simp)
    have ek4_ := (G8_.out).cell HEk4.out (by simp)
    have ek5_ := (G8_.out).cell HEk5.out (by simp)
    have ek6_ := (G8_.out).cell HEk6.out (by simp)
    have ek7_ := (G8_.out).cell HEk7.out (by simp)
    obtain ⟨pf, nf, cf, hv_⟩ := RdL.form (OwU.rd oA)
    subst hv_
    unfold vPacket
    have HOA := Lib.hid oA
    clear oA
    have HR2 := Lib.hid (HR1.out.grown HTZ10_.out)
    have szz_ := (HTZ10_.out).size
    have szm_ := gby_sizeC (MG2_.out)
    try simp only [World.size_alloc] at szm_
    go_wp2_with (at_builtin; refine wpList_append_lies _ (by rfl) _ _ _ (by rfl) (W.heap.size) 60 i1_ _ 8 80 Try.underlying30 hi1_ hz0_ hz1_ hz2_ rfl (by omega) _ k (flatN cs k) (by rfl) (HR2.out.alloc _) ⟨(w1).heap.size, 0, none⟩ 1 1 _ (by rfl) (by rfl) (World.news_of_block (t := 60) (fr := (0, 0)) (heap_alloc_new (w1) _)) (by simp [Value.oneCell']) (by omega) (by unfold maxLen; omega) (by omega) (by simp; omega) ((w1).heap.size + 1) (by simp) ?_; intro gg cap3 wB hown_ hgr_ hat_ hlt_; have HPo := Lib.hid hown_; have HPg := Lib.hid hgr_; have HPa := Lib.hid hat_; clear hown_ hgr_ hat_ hlt_)
    have HOB := Lib.hid (show OwR shPacket 60 wB (W.heap.size) (.slice (some ⟨gg, 0, none⟩) (k + 1) cap3) (xs.take (k + 1)) from by
      rw [take_nextP xs k (by have := HE.out; omega), show xs.getD k default = xk from HXk.out.symm]
      refine owR_app (own_blockP HR1.out) HEL.out (gby_alloc HTZ10_.out (.cells #[.int .i64 xk.f0, .int .i64 xk.f1, .int .i64 xk.f2, .int .i64 xk.f3, .int .i64 xk.f4, .int .i64 xk.f5, .int .i64 xk.f6, .slice pf nf cf] 60)) (a := (wr).heap.size) (b := w1.heap.size) ⟨_, rfl, OwU.grow HOA.out (gby_alloc (gby_refl w1 none) _)⟩ (Nat.le_refl _) (by omega) (by simp only [World.size_alloc]; omega) (by rw [HLK.out]; exact HPo.out) HPg.out (fun i hi => ?_)
      have hi2 : gg = i := Option.some.inj hi
      rcases HPa.out with q | q
      · exact .inl (by rw [← hi2]; exact q)
      · exact .inr (by rw [← hi2, q]; simp only [World.size_alloc]; omega))
    have HGB := Lib.hid (show (W).grownBy wB none from gby_new (gby_alloc HTM9_.out (.cells #[.int .i64 xk.f0, .int .i64 xk.f1, .int .i64 xk.f2, .int .i64 xk.f3, .int .i64 xk.f4, .int .i64 xk.f5, .int .i64 xk.f6, .slice pf nf cf] 60)) HPg.out (fun i hi => by have := own_from HR2.out i hi; (try simp only [World.size_alloc]); omega))
    refine ⟨⟨k + 1, by go_num, by omega, HOB.out, HGB.out⟩, by simp [intOf]; omega⟩

/-- a packet as it lies in its cells -/
structure RawP where
  f0 : Int
  f1 : Int
  f2 : Int
  f3 : Int
  f4 : Int
  f5 : Int
  f6 : Int
  p : Option Addr
  n : Nat
  c : Nat
instance : Inhabited RawP := ⟨⟨0, 0, 0, 0, 0, 0, 0, none, 0, 0⟩⟩
def rawPC (x : RawP) : List Value := [.int .i64 x.f0, .int .i64 x.f1, .int .i64 x.f2, .int .i64 x.f3, .int .i64 x.f4, .int .i64 x.f5, .int .i64 x.f6, .slice x.p x.n x.c]
def shRawP : Shp RawP where
  n := 8
  rd w cs x := cs = rawPC x
  ow w lo hi cs x := cs = rawPC x
  size x := 0
  ec x := 0
  em m x := x
  c := 0
  len := by rintro w cs x rfl; rfl
  grow := by rintro w w' cs x h g; exact h
  keep := by rintro w w' lo hi lo' hi' cs x h g hd; exact h
  read := by rintro w lo hi cs x h; exact h
  ecb := by intro x; exact Nat.zero_le _
theorem plainRawP : Plain shRawP rawPC := ⟨fun _ => rfl, by decide, fun h => h, fun _ _ => rfl, fun _ _ _ _ => rfl, fun x u hu => by simp only [rawPC, List.mem_cons, List.not_mem_nil, or_false] at hu; rcases hu with rfl | rfl | rfl | rfl | rfl | rfl | rfl | rfl <;> rfl⟩
theorem slTPacket : SlT 30 60 8 := slT_of Try.underlying30 infoPacketS rfl (by omega)
def rawPL (xs : List DPacket) (p : Nat → Option Addr) (n c : Nat → Nat) : List RawP := (List.range xs.length).map fun k => ⟨(xs.getD k default).f0, (xs.getD k default).f1, (xs.getD k default).f2, (xs.getD k default).f3, (xs.getD k default).f4, (xs.getD k default).f5, (xs.getD k default).f6, p k, n k, c k⟩
theorem rawPL_len (xs : List DPacket) (p : Nat → Option Addr) (n c : Nat → Nat) : (rawPL xs p n c).length = xs.length := by simp [rawPL]
theorem rawPL_at (xs : List DPacket) (p : Nat → Option Addr) (n c : Nat → Nat) {k : Nat} (hk : k < xs.length) : (rawPL xs p n c).getD k default = ⟨(xs.getD k default).f0, (xs.getD k default).f1, (xs.getD k default).f2, (xs.getD k default).f3, (xs.getD k default).f4, (xs.getD k default).f5, (xs.getD k default).f6, p k, n k, c k⟩ := by
  unfold rawPL
  rw [List.getD_eq_getElem?_getD, List.getElem?_map, List.getElem?_range hk]
  rfl
theorem rawP_of {W : World} {a : Option Addr} {n0 c0 : Nat} {xs : List DPacket} (H : RdL shPacket W (.slice a n0 c0) xs) : ∃ (p : Nat → Option Addr) (n c : Nat → Nat), RdL shRawP W (.slice a n0 c0) (rawPL xs p n c) ∧ ∀ k, k < xs.length → RdL shI W (.slice (p k) (n k) (c k)) (xs.getD k default).f7 := by
  obtain ⟨a', c', e, h1, h2, h3⟩ := H
  injection e with e1 e2 e3
  subst e1 e2 e3
  rcases h3 with h3 | ⟨b, off, ha, h3⟩
  · exact ⟨fun _ => none, fun _ => 0, fun _ => 0, ⟨a, c0, by rw [rawPL_len], by rw [rawPL_len]; exact h1, by rw [rawPL_len]; exact h2, .inl (by rw [rawPL_len]; exact h3)⟩, fun k hk => by omega⟩
  · have key : ∀ k : Nat, ∃ r : Option Addr × Nat × Nat, k < xs.length → At W b (off + k * 8) [.int .i64 (xs.getD k default).f0, .int .i64 (xs.getD k default).f1, .int .i64 (xs.getD k default).f2, .int .i64 (xs.getD k default).f3, .int .i64 (xs.getD k default).f4, .int .i64 (xs.getD k default).f5, .int .i64 (xs.getD k default).f6, .slice r.1 r.2.1 r.2.2] ∧ RdL shI W (.slice r.1 r.2.1 r.2.2) (xs.getD k default).f7 := by
      intro k
      by_cases hk : k < xs.length
      · obtain ⟨cs, hat, v7, rfl, hr⟩ := h3 k hk
        obtain ⟨p, n, c, hv⟩ := RdL.form hr
        subst hv
        exact ⟨(p, n, c), fun _ => ⟨hat, hr⟩⟩
      · exact ⟨(none, 0, 0), fun h => absurd h hk⟩
    obtain ⟨f, hf⟩ := Classical.axiomOfChoice key
    refine ⟨fun k => (f k).1, fun k => (f k).2.1, fun k => (f k).2.2, ⟨a, c0, by rw [rawPL_len], by rw [rawPL_len]; exact h1, by rw [rawPL_len]; exact h2, .inr ⟨b, off, ha, fun k hk => ?_⟩⟩, fun k hk => (hf k hk).2⟩
    rw [rawPL_len] at hk
    obtain ⟨q1, q2⟩ := hf k hk
    refine ⟨_, q1, ?_⟩
    rw [rawPL_at _ _ _ _ hk]
    rfl
theorem row_cellsP {α : Type} [Inhabited α] {w : World} {base g n cap m : Nat} {e : TypeId} {rs : List α} (cc : α → List Value) (hcc : ∀ x, (cc x).length = m) (hn : n = rs.length) (h : w.ownsRow base e m (.slice (some ⟨g, 0, none⟩) n cap) n (rs.flatMap cc)) : ∃ C : Array Value, w.heap[g]? = some (.cells C e (0, 0)) ∧ C.size = cap * m ∧ n ≤ cap ∧ cap ≤ maxLen ∧ ∀ j i, j < n → i < m → C[j * m + i]? = (cc (rs.getD j default))[i]? := by
  rcases h.2 with ⟨h', _⟩ | ⟨g', cap', cur, h', _, hg, hc, hm, hs, ht⟩
  · simp at h'
  · simp only [Value.slice.injEq, Option.some.injEq, Addr.mk.injEq, and_true, true_and] at h'
    obtain ⟨rfl, rfl⟩ := h'
    refine ⟨cur, hg, hs, hc, hm, fun j i hj hi => ?_⟩
    have q := flat_at cc m hcc rs j i (by omega) hi
    have hlt : j * m + i < n * m := by
      have := Nat.mul_le_mul_right m (show j + 1 ≤ n from hj)
      rw [Nat.succ_mul] at this; omega
    rw [← ht, List.getElem?_take, if_pos hlt, Array.getElem?_toList] at q
    exact q

/-- .. as a row -/
def ClonedRowP (xs : List RawP) (W : World) (e : Ending) (w' : World) : Prop := ∃ v', e = .returned v' ∧ w'.ownsRow W.heap.size 60 8 v' xs.length (xs.flatMap rawPC) ∧ W.grownBy w' none
set_option maxHeartbeats 1000000 in
theorem clonePk_row (W : World) (v : Value) (xs : List RawP) (H : RdL shRawP W v xs) (hl0 : xs.length ≤ 1048576) :
    Calls Try.prog 127 #[v] W (ClonedRowP xs W) := by
  have q22 : ∀ (w : World) (a : Option Addr) (n c n' c' : Nat), (binOp .eql 30 (.slice a n c) (.slice none n' c')).run Try.prog w = .ok (.bool a.isNone) w := fun w a n c n' c' => Lib.run_eql_slice_nil w _ _ a n c n' c' Try.underlying30
  have hl1 : xs.length ≤ 1048576 := hl0
  have hl := hl1
  clear hl0
  have hmx := H.max
  obtain ⟨a, n, cap, rfl⟩ := RdL.form H
  cases a with
  | none =>
    have hr := rdP_cells plainRawP H
    have h0 : n = 0 := by
      rcases hr.2.2 with h | ⟨b, off, h, _⟩
      · exact h
      · cases h
    obtain rfl : xs = [] := List.eq_nil_of_length_eq_zero (hr.1.symm.trans h0)
    subst h0
    obtain rfl := hr.2.1 rfl
    clear hr H hmx hl hl1
    go_enter Try.func127, Try.ntmps127
    go_wp2
    go_ret
    exact ⟨_, rfl, World.ownsRow_nil _ _ _ _, gby_refl _ _⟩
  | some p =>
    have hn : n = xs.length := (rdP_cells plainRawP H).1
    have HX := Lib.hid H
    have HN := Lib.hid hn
    have hn1 : n ≤ 1048576 := by omega
    have HM := Lib.hid hmx
    clear H hmx hl hl1 hn
    go_enter Try.func127, Try.ntmps127
    go_wp2_with (at_builtin; refine wpList_append_plain plainRawP slTPacket _ rfl _ _ rfl W.heap.size _ 0 [] rfl (World.ownsRow_made W #[] 0 (Nat.le_refl _) (by unfold maxLen; omega) (by simp)) (some p) n cap xs rfl (HX.out.grow (gby_alloc (gby_refl _ _) _)) (by omega) (by simp) ?_; intro v2 w2 hown2 hg2; have HO2 := Lib.hid (show w2.ownsRow W.heap.size 60 8 v2 xs.length (xs.flatMap rawPC) by have q := hown2; rw [Nat.zero_add, List.nil_append, HN.out] at q; exact q); have HG2 := Lib.hid (gby_new (gby_alloc (gby_refl W none) _) (show (W.alloc (.cells #[] 60)).grownBy w2 (some W.heap.size) from hg2) (fun i hi => by obtain rfl := Option.some.inj hi; exact Nat.le_refl _)); clear hown2 hg2)
    go_ret
    exact ⟨_, rfl, HO2.out, HG2.out⟩


set_option maxRecDepth 8000 in
set_option maxHeartbeats 4000000 in
theorem copyPks_d (W : World) (v : Value) (xs : List DPacket) (H : RdL shPacket W v xs) (hl : szL shPacket xs ≤ 1048576) : Calls Try.prog 106 #[v] W (CopiedPks xs W) := by
  obtain ⟨a0, n0, cap0, rfl⟩ := RdL.form H
  have hn0 : n0 = xs.length := by obtain ⟨_, _, e, _⟩ := H; injection e
  obtain ⟨p, n, c, hraw_, hd_⟩ := rawP_of H
  have HRAW := Lib.hid hraw_
  have HDAT := Lib.hid hd_
  have HE := Lib.hid hn0
  have HS := Lib.hid hl
  have hlx : n0 ≤ 1048576 := by have := szL_len shPacket xs; omega
  clear hraw_ hd_ H hl hn0
  go_enter Try.func106, Try.ntmps106
  go_wp2_with fail
  go_at_call 127
  refine (clonePk_row _ _ (rawPL xs p n c) HRAW.out (by rw [rawPL_len]; have := HE.out; omega)).mono ?_
  rintro e w1 ⟨vq, rfl, hrow_, g⟩
  have szw1 := g.size
  have G1_ := Lib.hid (show (W).grownBy (w1) none from gby_trans (gby_refl _ _) g)
  rw [rawPL_len, ← HE.out] at hrow_
  have HROW := Lib.hid hrow_
  clear g hrow_
  by_cases h0 : n0 = 0
  rotate_left
  · skip
    obtain ⟨g, capq, hvq_⟩ : ∃ g c', vq = .slice (some ⟨g, 0, none⟩) n0 c' := by
      rcases HROW.out.2 with ⟨_, q⟩ | ⟨g', cap', _, q, _⟩
      · exact absurd q h0
      · exact ⟨g', cap', q⟩
    subst hvq_
    have hgb_ := own_from HROW.out g rfl
    obtain ⟨C0, hC0_, hs0_, hcap_, hcm_, hc0_⟩ := row_cellsP rawPC (fun _ => rfl) (by rw [rawPL_len]; exact HE.out) HROW.out
    have HC0 := Lib.hid hC0_
    have HS0 := Lib.hid hs0_
    have HCM := Lib.hid hcm_
    have HX0 := Lib.hid (show ∀ j, j < n0 → ∀ t, t < 8 → C0[j * 8 + t]? = (rawPC ⟨(xs.getD j default).f0, (xs.getD j default).f1, (xs.getD j default).f2, (xs.getD j default).f3, (xs.getD j default).f4, (xs.getD j default).f5, (xs.getD j default).f6, p j, n j, c j⟩)[t]? from fun j hj t ht => by
      have q := hc0_ j t hj ht
      rwa [rawPL_at xs p n c (show j < xs.length by have := HE.out; omega)] at q)
    have hgl_ := lt_of_block HC0.out
    clear hC0_ hs0_ hc0_ hcm_
    go_wp2
    go_loopw [10] (fun i wr => ∃ (k : Nat) (C : Array Value) (P : Nat → Nat), i = .int .i64 (k : Int) ∧ k ≤ n0 ∧ wr.heap[g]? = some (.cells C 60 (0, 0)) ∧ C.size = capq * 8 ∧ Copd shPacket g wr xs C P k ∧ (∀ j, k ≤ j → j < n0 → ∀ t, t < 8 → C[j * 8 + t]? = (rawPC ⟨(xs.getD j default).f0, (xs.getD j default).f1, (xs.getD j default).f2, (xs.getD j default).f3, (xs.getD j default).f4, (xs.getD j default).f5, (xs.getD j default).f6, p j, n j, c j⟩)[t]?) ∧ W.grownBy wr none) (fun i _ => n0 - (intOf i).toNat)
    case atStart => exact ⟨0, C0, fun _ => w1.heap.size, rfl, by omega, HC0.out, HS0.out, ⟨hgl_, rfl, fun j hj => absurd hj (Nat.not_lt_zero _), fun j hj => absurd hj (Nat.not_lt_zero _)⟩, fun j _ hj => HX0.out j hj, G1_.out⟩
    case round =>
      clear HC0 HX0 HS0 HROW hgl_
      obtain ⟨k, C, P, rfl, hk, hG_, hCs_, hcp_, hx_, hg_⟩ := hrel
      have HGB := Lib.hid hG_
      have HCS := Lib.hid hCs_
      have HCP := Lib.hid hcp_
      have HXX := Lib.hid hx_
      clear hG_ hCs_ hcp_ hx_
      have hgl_ := lt_of_block HGB.out
      have hk0 : (0 : Int) ≤ (k : Int) := by omega
      have htk : ((k : Int)).toNat = k := by omega
      have G2_ := Lib.hid (show (W).grownBy (wr) none from hg_)
      clear hg_
      by_cases hlt : k < n0
      rotate_left
      · obtain rfl : k = n0 := by omega
        have hki : ¬ (k : Int) < (k : Int) := by omega
        have HOX := Lib.hid (show OwR shPacket 60 wr W.heap.size (.slice (some ⟨g, 0, none⟩) k capq) xs from by have q := copd_row (c := capq) (base := W.heap.size) (by rw [← HE.out]; exact HCP.out) (by omega) (by rw [← HE.out]; exact hcap_) HCM.out HCS.out HGB.out; rw [← HE.out] at q; exact q)
        go_wp2
        go_ret
        exact ⟨_, rfl, HOX.out, G2_.out⟩
      have hki : (k : Int) < (n0 : Int) := by omega
      obtain ⟨xk, hxk_⟩ : ∃ x, x = xs.getD k default := ⟨_, rfl⟩
      have HXk := Lib.hid hxk_
      have hzk_ : szL shI xk.f7 ≤ 1048576 := by have q1 := szL_at shPacket xs k (by have := HE.out; omega); rw [← hxk_] at q1; exact Nat.le_trans q1 HS.out
      clear hxk_
      have hq_ := HXX.out k (Nat.le_refl _) hlt
      rw [← HXk.out] at hq_
      obtain ⟨pk, nk, ck, hpk_⟩ : ∃ a b d, a = p k ∧ b = n k ∧ d = c k := ⟨_, _, _, rfl, rfl, rfl⟩
      rw [← hpk_.1, ← hpk_.2.1, ← hpk_.2.2] at hq_
      have HDK := Lib.hid (show RdL shI W (.slice pk nk ck) xk.f7 from by have q := HDAT.out k (by have := HE.out; omega); rw [← HXk.out, ← hpk_.1, ← hpk_.2.1, ← hpk_.2.2] at q; exact q)
      clear hpk_
      have HQ := Lib.hid hq_
      clear hq_
      have HCk0 := Lib.hid (show wr.cell? ⟨g, k * 8, none⟩ = some (.int .i64 xk.f0) from (cell_of_row wr _ _ _ _ _ HGB.out).trans (HQ.out 0 (by omega)))
      have HCk1 := Lib.hid (show wr.cell? ⟨g, k * 8 + 1, none⟩ = some (.int .i64 xk.f1) from (cell_of_row wr _ _ _ _ _ HGB.out).trans (HQ.out 1 (by omega)))
      have HCk2 := Lib.hid (show wr.cell? ⟨g, k * 8 + 2, none⟩ = some (.int .i64 xk.f2) from (cell_of_row wr _ _ _ _ _ HGB.out).trans (HQ.out 2 (by omega)))
      have HCk3 := Lib.hid (show wr.cell? ⟨g, k * 8 + 3, none⟩ = some (.int .i64 xk.f3) from (cell_of_row wr _ _ _ _ _ HGB.out).trans (HQ.out 3 (by omega)))
      have HCk4 := Lib.hid (show wr.cell? ⟨g, k * 8 + 4, none⟩ = some (.int .i64 xk.f4) from (cell_of_row wr _ _ _ _ _ HGB.out).trans (HQ.out 4 (by omega)))
      have HCk5 := Lib.hid (show wr.cell? ⟨g, k * 8 + 5, none⟩ = some (.int .i64 xk.f5) from (cell_of_row wr _ _ _ _ _ HGB.out).trans (HQ.out 5 (by omega)))
      have HCk6 := Lib.hid (show wr.cell? ⟨g, k * 8 + 6, none⟩ = some (.int .i64 xk.f6) from (cell_of_row wr _ _ _ _ _ HGB.out).trans (HQ.out 6 (by omega)))
      have HCk7 := Lib.hid (show wr.cell? ⟨g, k * 8 + 7, none⟩ = some (.slice pk nk ck) from (cell_of_row wr _ _ _ _ _ HGB.out).trans (HQ.out 7 (by omega)))
      have e0_ := HCk0.out
      have e1_ := HCk1.out
      have e2_ := HCk2.out
      have e3_ := HCk3.out
      have e4_ := HCk4.out
      have e5_ := HCk5.out
      have e6_ := HCk6.out
      have e7_ := HCk7.out
      have HTZ3_ := Lib.hid (gby_refl (wr) none)
      have MG4_ := Lib.hid (show (W).grownBy (wr) none from G2_.out)
      have al_ : (wr).grownBy ((wr).alloc (.cells #[.int .i64 xk.f0, .int .i64 xk.f1, .int .i64 xk.f2, .int .i64 xk.f3, .int .i64 xk.f4, .int .i64 xk.f5, .int .i64 xk.f6, .slice pk nk ck] 60)) none := gby_alloc (gby_refl _ _) _
      have G5_ := Lib.hid (show (W).grownBy ((wr.alloc (.cells #[.int .i64 xk.f0, .int .i64 xk.f1, .int .i64 xk.f2, .int .i64 xk.f3, .int .i64 xk.f4, .int .i64 xk.f5, .int .i64 xk.f6, .slice pk nk ck] 60))) none from gby_trans G2_.out al_)
      have HTZ6_ := Lib.hid (show (wr).grownBy ((wr.alloc (.cells #[.int .i64 xk.f0, .int .i64 xk.f1, .int .i64 xk.f2, .int .i64 xk.f3, .int .i64 xk.f4, .int .i64 xk.f5, .int .i64 xk.f6, .slice pk nk ck] 60))) none from gby_trans HTZ3_.out al_)
      clear HTZ3_
      have rE7_ := Lib.hid (show ((wr.alloc (.cells #[.int .i64 xk.f0, .int .i64 xk.f1, .int .i64 xk.f2, .int .i64 xk.f3, .int .i64 xk.f4, .int .i64 xk.f5, .int .i64 xk.f6, .slice pk nk ck] 60))).heap[wr.heap.size]? = some (.cells #[.int .i64 xk.f0, .int .i64 xk.f1, .int .i64 xk.f2, .int .i64 xk.f3, .int .i64 xk.f4, .int .i64 xk.f5, .int .i64 xk.f6, .slice pk nk ck] 60 (0, 0)) from by first | exact heap_alloc_new _ _ | exact heap_pair _ _ _ | exact heap_trip _ _ _ _)
      clear al_
      have E_0_ : ((wr.alloc (.cells #[.int .i64 xk.f0, .int .i64 xk.f1, .int .i64 xk.f2, .int .i64 xk.f3, .int .i64 xk.f4, .int .i64 xk.f5, .int .i64 xk.f6, .slice pk nk ck] 60))).cell? ⟨wr.heap.size, 0, none⟩ = some (.int .i64 xk.f0) := cell_of_row _ _ 0 _ _ _ rE7_.out
      have E_1_ : ((wr.alloc (.cells #[.int .i64 xk.f0, .int .i64 xk.f1, .int .i64 xk.f2, .int .i64 xk.f3, .int .i64 xk.f4, .int .i64 xk.f5, .int .i64 xk.f6, .slice pk nk ck] 60))).cell? ⟨wr.heap.size, 1, none⟩ = some (.int .i64 xk.f1) := cell_of_row _ _ 1 _ _ _ rE7_.out
      have E_2_ : ((wr.alloc (.cells #[.int .i64 xk.f0, .int .i64 xk.f1, .int .i64 xk.f2, .int .i64 xk.f3, .int .i64 xk.f4, .int .i64 xk.f5, .int .i64 xk.f6, .slice pk nk ck] 60))).cell? ⟨wr.heap.size, 2, none⟩ = some (.int .i64 xk.f2) := cell_of_row _ _ 2 _ _ _ rE7_.out
      have E_3_ : ((wr.alloc (.cells #[.int .i64 xk.f0, .int .i64 xk.f1, .int .i64 xk.f2, .int .i64 xk.f3, .int .i64 xk.f4, .int .i64 xk.f5, .int .i64 xk.f6, .slice pk nk ck] 60))).cell? ⟨wr.heap.size, 3, none⟩ = some (.int .i64 xk.f3) := cell_of_row _ _ 3 _ _ _ rE7_.out
      have E_4_ : ((wr.alloc (.cells #[.int .i64 xk.f0, .int .i64 xk.f1, .int .i64 xk.f2, .int .i64 xk.f3, .int .i64 xk.f4, .int .i64 xk.f5, .int .i64 xk.f6, .slice pk nk ck] 60))).cell? ⟨wr.heap.size, 4, none⟩ = some (.int .i64 xk.f4) := cell_of_row _ _ 4 _ _ _ rE7_.out
      have E_5_ : ((wr.alloc (.cells #[.int .i64 xk.f0, .int .i64 xk.f1, .int .i64 xk.f2, .int .i64 xk.f3, .int .i64 xk.f4, .int .i64 xk.f5, .int .i64 xk.f6, .slice pk nk ck] 60))).cell? ⟨wr.heap.size, 5, none⟩ = some (.int .i64 xk.f5) := cell_of_row _ _ 5 _ _ _ rE7_.out
      have E_6_ : ((wr.alloc (.cells #[.int .i64 xk.f0, .int .i64 xk.f1, .int .i64 xk.f2, .int .i64 xk.f3, .int .i64 xk.f4, .int .i64 xk.f5, .int .i64 xk.f6, .slice pk nk ck] 60))).cell? ⟨wr.heap.size, 6, none⟩ = some (.int .i64 xk.f6) := cell_of_row _ _ 6 _ _ _ rE7_.out
      have E_7_ : ((wr.alloc (.cells #[.int .i64 xk.f0, .int .i64 xk.f1, .int .i64 xk.f2, .int .i64 xk.f3, .int .i64 xk.f4, .int .i64 xk.f5, .int .i64 xk.f6, .slice pk nk ck] 60))).cell? ⟨wr.heap.size, 7, none⟩ = some (.slice pk nk ck) := cell_of_row _ _ 7 _ _ _ rE7_.out
      go_wp2_with fail
      go_at_call 122
      refine (copiedPk_d _ xk.f0 xk.f1 xk.f2 xk.f3 xk.f4 xk.f5 xk.f6 _ xk.f7 (HDK.out.grow G5_.out) hzk_).mono ?_
      rintro e w2 ⟨d7, rfl, oA, g1⟩
      obtain ⟨pf, nf, cf, hv_⟩ := RdL.form (OwU.rd oA)
      subst hv_
      unfold vPacket
      have szA_ := g1.size
      try simp only [World.size_alloc] at szA_ oA
      clear E_0_ E_1_ E_2_ E_3_ E_4_ E_5_ E_6_ E_7_
      have rE8_ := Lib.hid (show (w2).heap[wr.heap.size]? = some (.cells #[.int .i64 xk.f0, .int .i64 xk.f1, .int .i64 xk.f2, .int .i64 xk.f3, .int .i64 xk.f4, .int .i64 xk.f5, .int .i64 xk.f6, .slice pk nk ck] 60 (0, 0)) from row_held g1 rE7_.out)
      clear rE7_
      have G9_ := Lib.hid (show (W).grownBy (w2) none from gby_trans G5_.out g1)
      have HTZ10_ := Lib.hid (show (wr).grownBy (w2) none from gby_trans HTZ6_.out g1)
      clear HTZ6_
      clear g1
      have GZ := Lib.hid (HTZ10_.out)
      have R1 := Lib.hid (row_held GZ.out HGB.out)
      have O1 := Lib.hid (show OwU w2 wr.heap.size w2.heap.size [] [own shI (.slice pf nf cf) xk.f7] from OwU.wide (by omega) (Nat.le_refl _) oA)
      clear oA
      have t0_ : w2.cell? ⟨g, k * 8, none⟩ = some (.int .i64 xk.f0) := (cell_of_row w2 _ _ _ _ _ R1.out).trans (HQ.out 0 (by omega))
      have u0_ : w2.frozen? ⟨g, k * 8, none⟩ = false := frozen_of_row w2 _ _ _ _ R1.out
      have t1_ : w2.cell? ⟨g, k * 8 + 1, none⟩ = some (.int .i64 xk.f1) := (cell_of_row w2 _ _ _ _ _ R1.out).trans (HQ.out 1 (by omega))
      have u1_ : w2.frozen? ⟨g, k * 8 + 1, none⟩ = false := frozen_of_row w2 _ _ _ _ R1.out
      have t2_ : w2.cell? ⟨g, k * 8 + 2, none⟩ = some (.int .i64 xk.f2) := (cell_of_row w2 _ _ _ _ _ R1.out).trans (HQ.out 2 (by omega))
      have u2_ : w2.frozen? ⟨g, k * 8 + 2, none⟩ = false := frozen_of_row w2 _ _ _ _ R1.out
      have t3_ : w2.cell? ⟨g, k * 8 + 3, none⟩ = some (.int .i64 xk.f3) := (cell_of_row w2 _ _ _ _ _ R1.out).trans (HQ.out 3 (by omega))
      have u3_ : w2.frozen? ⟨g, k * 8 + 3, none⟩ = false := frozen_of_row w2 _ _ _ _ R1.out
      have t4_ : w2.cell? ⟨g, k * 8 + 4, none⟩ = some (.int .i64 xk.f4) := (cell_of_row w2 _ _ _ _ _ R1.out).trans (HQ.out 4 (by omega))
      have u4_ : w2.frozen? ⟨g, k * 8 + 4, none⟩ = false := frozen_of_row w2 _ _ _ _ R1.out
      have t5_ : w2.cell? ⟨g, k * 8 + 5, none⟩ = some (.int .i64 xk.f5) := (cell_of_row w2 _ _ _ _ _ R1.out).trans (HQ.out 5 (by omega))
      have u5_ : w2.frozen? ⟨g, k * 8 + 5, none⟩ = false := frozen_of_row w2 _ _ _ _ R1.out
      have t6_ : w2.cell? ⟨g, k * 8 + 6, none⟩ = some (.int .i64 xk.f6) := (cell_of_row w2 _ _ _ _ _ R1.out).trans (HQ.out 6 (by omega))
      have u6_ : w2.frozen? ⟨g, k * 8 + 6, none⟩ = false := frozen_of_row w2 _ _ _ _ R1.out
      have t7_ : w2.cell? ⟨g, k * 8 + 7, none⟩ = some (.slice pk nk ck) := (cell_of_row w2 _ _ _ _ _ R1.out).trans (HQ.out 7 (by omega))
      have u7_ : w2.frozen? ⟨g, k * 8 + 7, none⟩ = false := frozen_of_row w2 _ _ _ _ R1.out
      have hkc_ : k * 8 + 7 < C.size := by have := HCS.out; omega
      have hn := copd_next (m := capq) (cs := [.int .i64 xk.f0, .int .i64 xk.f1, .int .i64 xk.f2, .int .i64 xk.f3, .int .i64 xk.f4, .int .i64 xk.f5, .int .i64 xk.f6, .slice pf nf cf]) HCP.out (by omega) HCS.out GZ.out (show shPacket.ow _ _ _ _ _ from by rw [show xs.getD k default = xk from HXk.out.symm]; exact ⟨(.slice pf nf cf), rfl, O1.out⟩)
      have HN := Lib.hid hn
      clear hn
      go_wp2
      refine ⟨⟨k + 1, putC C (k * shPacket.n) [.int .i64 xk.f0, .int .i64 xk.f1, .int .i64 xk.f2, .int .i64 xk.f3, .int .i64 xk.f4, .int .i64 xk.f5, .int .i64 xk.f6, .slice pf nf cf], (fun j => if j = k + 1 then w2.heap.size else P j), by go_num, by omega, putW_heap [.int .i64 xk.f0, .int .i64 xk.f1, .int .i64 xk.f2, .int .i64 xk.f3, .int .i64 xk.f4, .int .i64 xk.f5, .int .i64 xk.f6, .slice pf nf cf] R1.out, by rw [putC_size]; exact HCS.out, HN.out, fun j hj1 hj2 t ht => ?_, ?_⟩, by simp [intOf]; omega⟩
      · rw [putC_out _ _ _ _ (.inr (by show k * 8 + 8 ≤ j * 8 + t; omega))]
        exact HXX.out j (by omega) hj2 t ht
      · repeat (with_reducible refine gby_setnew ?_ _ (by dsimp only; omega) _)
        exact G9_.out
  · subst h0
    have hx0_ : xs = [] := List.eq_nil_of_length_eq_zero HE.out.symm
    obtain ⟨gq, capq, hvq_⟩ : ∃ a c', vq = .slice a 0 c' := by
      rcases HROW.out.2 with ⟨q, _⟩ | ⟨g', cap', _, q, _⟩
      · exact ⟨_, _, q⟩
      · exact ⟨_, cap', q⟩
    subst hvq_
    have HOX := Lib.hid (show OwR shPacket 60 w1 W.heap.size (.slice gq 0 capq) xs from by
      have q := HROW.out
      subst hx0_
      exact owR_of (s := shPacket) (show w1.ownsRow W.heap.size 60 8 (.slice gq 0 capq) 0 [] from by simpa [rawPL] using q))
    go_wp2
    go_loopw [10] (fun i wr => i = .int .i64 0 ∧ OwR shPacket 60 wr W.heap.size (.slice gq 0 capq) xs ∧ W.grownBy wr none) (fun _ _ => 0)
    case atStart => exact ⟨rfl, HOX.out, G1_.out⟩
    case round =>
      clear HOX HROW
      obtain ⟨rfl, hox_, hg_⟩ := hrel
      have HOX := Lib.hid hox_
      have HG9 := Lib.hid hg_
      clear hox_ hg_
      go_wp2
      go_ret
      exact ⟨_, rfl, HOX.out, HG9.out⟩

end Go.Proofs.Ytnighnkkeiegnaa
