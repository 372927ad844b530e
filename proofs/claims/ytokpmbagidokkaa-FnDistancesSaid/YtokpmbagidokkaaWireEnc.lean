/-
  Contract of the model's EncodePacket.
-/
import Derived.Test.YtokpmbagidokkaaOwnInts
import Derived.Test.YtokpmbagidokkaaPkSpec
import Derived.Deep.RegionHeld3
import Derived.Deep.Onto
namespace Go.Proofs.Ytokpmbagidokkaa
open Go Go.RowKit

/-- the two bytes of each word -/
def halves (xs : List Int) : List Int := xs.flatMap fun x => [x / 256, x % 256]
theorem halves_snoc (xs : List Int) (x : Int) : halves (xs ++ [x]) = halves xs ++ [x / 256, x % 256] := by simp [halves]
theorem halves_length (xs : List Int) : (halves xs).length = 2 * xs.length := by
  induction xs with
  | nil => rfl
  | cons x xs ih =>
    have : halves (x :: xs) = [x / 256, x % 256] ++ halves xs := by simp [halves]
    rw [this, List.length_append, ih, List.length_cons]; simp; omega

/-- a packet's bytes -/
def encL (k f t a l g s : Int) (xs : List Int) : List Int := [k, f, t, a / 256, a % 256, l, g * 16 + s, (xs.length : Int)] ++ halves xs
theorem encL_length (k f t a l g s : Int) (xs : List Int) : (encL k f t a l g s xs).length = 8 + 2 * xs.length := by
  unfold encL; rw [List.length_append, halves_length]; simp

/-- bounds that a valid packet keeps -/
theorem pk_bounds {k f t a l g s : Int} {xs : List Int} (h : PkOk k f t a l g s xs) : (1 ≤ k ∧ k ≤ 6) ∧ (0 ≤ f ∧ f ≤ 255) ∧ (0 ≤ t ∧ t ≤ 255) ∧ (0 ≤ a ∧ a ≤ 65535) ∧ (0 ≤ l ∧ l ≤ 64) ∧ (0 ≤ g ∧ g ≤ 7) ∧ (0 ≤ s ∧ s ≤ 2) ∧ xs.length ≤ 8 := by
  obtain ⟨hf, _, hk⟩ := h
  rcases hk with ⟨h1, h⟩ | ⟨h1, h⟩ | ⟨h1, h⟩ | ⟨h1, h⟩ | ⟨h1, h⟩ | ⟨h1, h⟩
  · unfold W1 at h; omega
  · unfold W2 at h; omega
  · unfold W3 at h; omega
  · unfold W4 WC at h; omega
  · unfold W5 WC at h; omega
  · unfold W6 at h; omega

/-- a row of the call's own -/
def RowG (base n : Nat) (L : List Int) (w : World) (e : Ending) (w' : World) : Prop := ∃ v, e = .returned v ∧ w'.ownsRow base 3 1 v n (i64s L) ∧ w.grownBy w' none

theorem pk_row {w : World} {b : Nat} {k f t a l g s : Int} {d : Option Addr} {len cap : Nat} {ty : TypeId} (h : w.heap[b]? = some (.cells #[.int .i64 k, .int .i64 f, .int .i64 t, .int .i64 a, .int .i64 l, .int .i64 g, .int .i64 s, .slice d len cap] ty (0, 0))) :
    w.cell? ⟨b, 0, none⟩ = some (.int .i64 k) ∧ w.cell? ⟨b, 1, none⟩ = some (.int .i64 f) ∧ w.cell? ⟨b, 2, none⟩ = some (.int .i64 t) ∧ w.cell? ⟨b, 3, none⟩ = some (.int .i64 a) ∧ w.cell? ⟨b, 4, none⟩ = some (.int .i64 l) ∧ w.cell? ⟨b, 5, none⟩ = some (.int .i64 g) ∧ w.cell? ⟨b, 6, none⟩ = some (.int .i64 s) ∧ w.cell? ⟨b, 7, none⟩ = some (.slice d len cap) :=
  ⟨cell_of_row w b 0 _ _ _ h, cell_of_row w b 1 _ _ _ h, cell_of_row w b 2 _ _ _ h, cell_of_row w b 3 _ _ _ h, cell_of_row w b 4 _ _ _ h, cell_of_row w b 5 _ _ _ h, cell_of_row w b 6 _ _ _ h, cell_of_row w b 7 _ _ _ h⟩

theorem areW_at {xs : List Int} (h : AreW xs) {k : Nat} (hk : k < xs.length) : 0 ≤ xs.getD k 0 ∧ xs.getD k 0 ≤ 65535 := by
  rw [List.getD_eq_getElem?_getD, List.getElem?_eq_getElem hk]
  exact h _ (List.getElem_mem hk)

set_option maxRecDepth 4000 in
set_option maxHeartbeats 1000000 in
theorem specEnc_yes (W : World) (k f t a l g s : Int) (d : Option Addr) (len cap : Nat) (xs : List Int) (H : ISl W d len xs) (hl : len ≤ 1048576) (h : PkOk k f t a l g s xs) :
    Calls Try.prog 25 #[pkV k f t a l g s d len cap] W (RowG W.heap.size (8 + 2 * len) (encL k f t a l g s xs) W) := by
  obtain ⟨i0, hi0, hz0, hz1, hz2⟩ := info_parts infoInt
  obtain ⟨hk, hf, ht, ha, hll, hg, hs, hxs⟩ := pk_bounds h
  have HH := Lib.hid h
  have HX := Lib.hid H
  clear h H
  unfold pkV
  go_enter Try.func25, Try.ntmps25
  go_wp2_with fail
  go_at_call 60
  refine (specPk_true _ _ _ _ _ _ _ _ _ _ _ xs (HX.out.kept (gby_alloc (gby_refl _ _) _)) hl HH.out).mono ?_
  rintro e w1 ⟨rfl, g1⟩
  have hr := row_later g1 (heap_alloc_new W _)
  obtain ⟨r0, r1, r2, r3, r4, r5, r6, r7⟩ := pk_row hr
  have hs1 : W.heap.size < w1.heap.size := by have := g1.size; simp only [World.size_alloc] at this; omega
  have G1 := Lib.hid (gby_trans (gby_alloc (gby_refl W none) _) g1)
  have HR := Lib.hid hr
  clear g1 hr
  go_wp2
  go_loopw [3, 4] (fun v i wr => ∃ n : Nat, n ≤ len ∧ i = .int .i64 (n : Int) ∧ wr.ownsRow w1.heap.size 3 1 v (8 + 2 * n) (i64s ([k, f, t, a / 256, a % 256, l, g * 16 + s, (len : Int)] ++ halves (xs.take n))) ∧ w1.grownBy wr none) (fun _ i _ => len - (intOf i).toNat)
  case atStart =>
    refine ⟨0, Nat.zero_le _, rfl, ?_, gby_alloc (gby_refl _ _) _⟩
    have := World.ownsRow_lit (e := 3) (size := 1) w1 #[.int .i64 k, .int .i64 f, .int .i64 t, .int .i64 (a / 256), .int .i64 (a % 256), .int .i64 l, .int .i64 (g * 16 + s), .int .i64 (len : Int)] 8 (Nat.le_refl _) (by unfold maxLen; omega) rfl
    simpa [i64s, halves] using this
  case round =>
    obtain ⟨n, hn, rfl, hown, hg⟩ := hrel
    have hsz := hg.size
    have r7' := (pk_row (row_later hg HR.out)).2.2.2.2.2.2.2
    have HO := Lib.hid hown
    have HG := Lib.hid hg
    clear hown hg
    by_cases hlt : n < len
    · have hki : (n : Int) < (len : Int) := by omega
      have hi0' : (0 : Int) ≤ (n : Int) := by omega
      obtain ⟨b, off, rfl, hcell⟩ := (HX.out.kept (gby_trans G1.out HG.out)).2.resolve_left (by omega)
      have hc := hcell n hlt
      clear hcell
      have hbw : b < w1.heap.size := by
        obtain ⟨b', off', e', hc'⟩ := (HX.out.kept G1.out).2.resolve_left (by omega)
        obtain ⟨rfl, rfl⟩ : b = b' ∧ off = off' := by simpa using e'
        exact block_lt_of_cell (hc' n hlt)
      have htn : ((n : Int)).toNat = n := by omega
      obtain ⟨x, hx⟩ : ∃ x : Int, x = xs.getD n 0 := ⟨_, rfl⟩
      rw [← hx] at hc
      have hxb : 0 ≤ x ∧ x ≤ 65535 := hx ▸ areW_at HH.out.2.1 (by have := HX.out.1; omega)
      have HXX := Lib.hid hx
      clear hx
      have q1 : x / 256 ≤ 255 := by omega
      have q2 : 0 ≤ x / 256 := by omega
      have q3 : x % 256 ≤ 255 := by omega
      have q4 : 0 ≤ x % 256 := by omega
      go_wp2_with fail
      go_region_held3 (fun w' => w'.cell? ⟨W.heap.size, 7, none⟩ = some (.slice (some ⟨b, off, none⟩) len cap) ∧ w'.cell? ⟨b, off + n, none⟩ = some (.int .i64 x))
        (first | (exact ⟨k1, k2⟩) | go_keep)
        (first
          | ((refine step_append_lies _ (by rfl) _ _ _ (by rfl) w1.heap.size 3 i0 _ 1 8 Try.underlying24 (by assumption) hz0 hz1 hz2 rfl (by omega) _ (8 + 2 * n) _ (by rfl) ((HO.out.alloc _).drew) ⟨wr.heap.size, 0, none⟩ 2 2 _ (by rfl) (by rfl) (World.news_of_block (t := 3) (fr := (0, 0)) (heap_alloc_new wr _)) (by simp [Value.oneCell']) (by omega) (by unfold maxLen; omega) (by omega) (by simp; omega) (wr.heap.size + 1) (by simp) ?_; intro gg cap2 w2 hown1 hgrow hat hlt1
              have k1 : w2.cell? ⟨W.heap.size, 7, none⟩ = some (.slice (some ⟨b, off, none⟩) len cap) := hgrow.cell (by go_keep) (fun e => by have := own_from HO.out _ e.symm; simp at this; omega)
              have k2 : w2.cell? ⟨b, off + n, none⟩ = some (.int .i64 x) := hgrow.cell (by go_keep) (fun e => by have := own_from HO.out _ e.symm; simp at this; omega))))
      all_goals
        have HH1 := Lib.hid hown1
        have HG1 := Lib.hid hgrow
        clear hown1 hgrow hat hlt1
        go_wp2
        refine ⟨⟨n + 1, by omega, by go_num, ?_, ?_⟩, by simp [intOf]; omega⟩
        · have q := HH1.out
          have e1 : x.tdiv 256 = x / 256 := Int.tdiv_eq_ediv_of_nonneg hxb.1
          have e2 : x.tmod 256 = x % 256 := Int.tmod_eq_emod_of_nonneg hxb.1
          have e3 : IntKind.i64.wrap (x / 256) = x / 256 := wrap_small _ (by omega) (by omega)
          rw [e1, e2, e3] at q
          have ht : xs.take (n + 1) = xs.take n ++ [x] := by
            have hlx := HX.out.1
            rw [HXX.out, List.take_succ_eq_append_getElem (by omega), List.getD_eq_getElem?_getD, List.getElem?_eq_getElem (by omega)]; rfl
          rw [ht, halves_snoc, ← List.append_assoc, i64s_append]
          exact q
        · exact gby_new (gby_drew (gby_alloc HG.out _)) HG1.out (fun i hi => own_from HO.out i hi)
    · have hki : ¬ (n : Int) < (len : Int) := by omega
      obtain rfl : n = len := by omega
      go_wp2
      go_ret
      have q := HO.out.mono (Nat.le_of_lt hs1)
      rw [List.take_of_length_le (by have := HX.out.1; omega)] at q
      refine ⟨_, rfl, ?_, gby_trans G1.out HG.out⟩
      unfold encL
      rw [← HX.out.1]
      exact q

set_option maxHeartbeats 1000000 in
theorem specEnc_no (W : World) (k f t a l g s : Int) (d : Option Addr) (len cap : Nat) (xs : List Int) (H : ISl W d len xs) (hl : len ≤ 1048576) (h : ¬ PkOk k f t a l g s xs) :
    Calls Try.prog 25 #[pkV k f t a l g s d len cap] W (RowG W.heap.size 0 [] W) := by
  have HX := Lib.hid H
  clear H
  unfold pkV
  go_enter Try.func25, Try.ntmps25
  go_wp2_with fail
  go_at_call 60
  refine (specPk_false _ _ _ _ _ _ _ _ _ _ _ xs (HX.out.kept (gby_alloc (gby_refl _ _) _)) hl h).mono ?_
  rintro e w1 ⟨rfl, g1⟩
  have G1 := Lib.hid (gby_trans (gby_alloc (gby_refl W none) _) g1)
  clear g1
  have hs1 : W.heap.size ≤ w1.heap.size := G1.out.size
  go_wp2
  go_ret
  exact ⟨_, rfl, World.ownsRow_made w1 #[] 0 hs1 (by unfold maxLen; omega) rfl, gby_alloc G1.out _⟩

/-- what EncodePacket answers -/
theorem specEnc_any (k f t a l g s : Int) (xs : List Int) (hl : xs.length ≤ 1048576) : ∃ L : List Int, L.length ≤ 24 ∧ (PkOk k f t a l g s xs → L = encL k f t a l g s xs) ∧ (¬ PkOk k f t a l g s xs → L = []) ∧
    ∀ (W : World) (d : Option Addr) (len cap : Nat), ISl W d len xs → Calls Try.prog 25 #[pkV k f t a l g s d len cap] W (RowG W.heap.size L.length L W) := by
  by_cases h : PkOk k f t a l g s xs
  · refine ⟨encL k f t a l g s xs, ?_, fun _ => rfl, fun n => absurd h n, fun W d len cap H => ?_⟩
    · rw [encL_length]; have := (pk_bounds h).2.2.2.2.2.2.2; omega
    · rw [encL_length, ← H.1]
      exact specEnc_yes W k f t a l g s d len cap xs H (by have := H.1; omega) h
  · exact ⟨[], by simp, fun n => absurd n h, fun _ => rfl, fun W d len cap H => specEnc_no W k f t a l g s d len cap xs H (by have := H.1; omega) h⟩

end Go.Proofs.Ytokpmbagidokkaa
