/-
  Contracts of the model's l01Long and l01Text: texts of a bounded length.
-/
import Derived.Test.YtmgdcnlbpghjjaaDoorDraw
import Derived.Test.YtmgdcnlbpghjjaaDoorFigure
namespace Go.Proofs.YtmgdcnlbpghjjaaDoor
open Go Go.RowKit

theorem toList_made (z : Value) (n : Nat) : (madeCells #[z] n).toList = List.replicate n z := toList_madeCells_one z n

set_option maxHeartbeats 1000000 in
/-- n bytes of one kind -/
theorem long_any (w : World) (n : Nat) (x : Int) (hn : n ≤ 1000000) :
    Calls Tryd.prog 21 #[.int .i64 (n : Int), .int .u8 x] w (fun e w' => (∃ s : ByteArray, e = .returned (.string s) ∧ s.size = n) ∧ w.grownBy w' none) := by
  obtain ⟨i0, hi0, hz0, hz1, hz2⟩ := info_parts infoU8
  go_enter Tryd.func21, Tryd.ntmps21
  go_wp2_with (at_make; refine wpList_make_full _ rfl _ _ 22 rfl w.heap.size 5 i0 (.int .u8 0) 1 Tryd.underlying22 hi0 hz0 hz1 .i64 .i64 _ _ n rfl rfl rfl rfl (by rw [hz2]; omega) (by unfold maxLen; omega) (Nat.le_refl _) ?_; intro w0 hown0 hgrow0; have HO0 := Lib.hid hown0; have HG0 := Lib.hid hgrow0; clear hown0 hgrow0)
  go_loopw [6] (fun i wr => ∃ (k : Nat) (xs : List Int), k ≤ n ∧ i = .int .i64 (k : Int) ∧ wr.ownsRow w.heap.size 5 1 (.slice (some ⟨w.heap.size, 0, none⟩) n n) n (u8s xs) ∧ w.grownBy wr none) (fun i _ => n - (intOf i).toNat)
  case atStart =>
    refine ⟨0, List.replicate n 0, Nat.zero_le _, rfl, ?_, HG0.out⟩
    have := HO0.out
    rw [show (Value.int .u8 0).cells = #[Value.int .u8 0] from rfl, Nat.mul_one, toList_made] at this
    simpa [u8s] using this
  case round =>
    obtain ⟨k, xs, hk, rfl, hown, hg⟩ := hrel
    have hlen : xs.length = n := by have := hown.1; simpa [u8s] using this
    have HO := Lib.hid hown
    have HG := Lib.hid hg
    by_cases hlt : k < n
    · have hc := hown.cellAt k (by omega)
      rw [u8s, List.getElem?_map, List.getElem?_eq_getElem (by omega)] at hc
      have hf := hown.frozenAt k
      clear hown hg
      generalize xs[k] = y at hc
      have hi0' : (0 : Int) ≤ (k : Int) := by omega
      have hi1 : (k : Int) < (n : Int) := by omega
      have htn : ((k : Int)).toNat = k := by omega
      have HL := Lib.hid hlen
      clear hlen
      go_wp2
      refine ⟨⟨k + 1, xs.set k x, by omega, by go_num, ?_, ?_⟩, by simp [intOf]; omega⟩
      · have := HO.out.stored k (.int .u8 x)
        rw [u8s, ← List.map_set] at this
        exact this.1
      · exact gby_setnew HG.out _ (Nat.le_refl _) _
    · clear hown hg
      have hcv := owned_string (P := Tryd.prog) (w := wr) Tryd.underlying22 Tryd.underlying5 Tryd.underlying9 HO.out
      go_wp2
      go_ret
      exact ⟨⟨_, rfl, by rw [strOfNums_size]; exact hlen⟩, HG.out⟩

theorem long_int (w : World) (n x : Int) (h0 : 0 ≤ n) (h1 : n ≤ 1000000) :
    Calls Tryd.prog 21 #[.int .i64 n, .int .u8 x] w (fun e w' => (∃ s : ByteArray, e = .returned (.string s) ∧ (s.size : Int) = n) ∧ w.grownBy w' none) := by
  obtain ⟨m, rfl⟩ := Int.eq_ofNat_of_zero_le h0
  refine (long_any w m x (by omega)).mono ?_
  rintro e w' ⟨⟨s, he, hs⟩, hg⟩
  exact ⟨⟨s, he, by omega⟩, hg⟩

/-- a drawn text of at most n bytes: the cursor goes on, and new blocks are made -/
def DrawnText (n : Nat) (w : World) (c : Nat) (e : Ending) (w' : World) : Prop := ∃ s : ByteArray, s.size ≤ n ∧ e = .returned (.string s) ∧ Cur w' c ∧ w.grownBy w' (some c)

set_option maxHeartbeats 1000000 in
theorem text_any (w : World) (c n : Nat) (H : Cur w c) (hn : n ≤ 5000) :
    Calls Tryd.prog 23 #[.pointer (some ⟨c, 0, none⟩), .int .i64 (n : Int)] w (DrawnText n w c) := by
  obtain ⟨i0, hi0, hz0, hz1, hz2⟩ := info_parts infoU8
  have hclt := cur_lt H
  go_enter Tryd.func23, Tryd.ntmps23
  go_wp2
  go_loopw [5, 6] (fun v i wr => ∃ (k : Nat) (xs : List Int), k ≤ n ∧ i = .int .i64 (k : Int) ∧ xs.length = k ∧ wr.ownsRow w.heap.size 5 1 v k (u8s xs) ∧ Cur wr c ∧ w.grownBy wr (some c)) (fun _ i _ => n - (intOf i).toNat)
  case atStart =>
    refine ⟨0, [], Nat.zero_le _, rfl, rfl, ?_, cur_kept H (World.grownBy_alloc w _ none) (by simp), gby_alloc (gby_refl _ _) _⟩
    exact World.ownsRow_made w #[] 0 (Nat.le_refl _) (by unfold maxLen; omega) rfl
  case round =>
    obtain ⟨k, xs, hk, rfl, hlen, hown, hcur, hg⟩ := hrel
    have hsz := hg.size
    have HO := Lib.hid hown
    have HG := Lib.hid hg
    have HC := Lib.hid hcur
    have HL := Lib.hid hlen
    clear hown hg hcur hlen
    by_cases hlt : k < n
    · go_wp2_with fail
      go_at_call 30
      refine (byte_any _ _ HC.out).mono ?_
      rintro e w1 ⟨x, ⟨hx0, hx1⟩, rfl, H1, G1⟩
      have hs1 := G1.size
      have HO1 := Lib.hid (HO.out.kept G1 (by
        rcases hv : u5.ownBlock with _ | g
        · exact .inl rfl
        · right; intro e; have := own_from HO.out g hv; have := Option.some.inj e; omega))
      have HG1 := Lib.hid (gby_trans HG.out G1)
      have HC1 := Lib.hid H1
      clear G1 H1
      go_wp2_with (at_builtin; refine wpList_append_lies _ (by rfl) _ _ _ (by rfl) w.heap.size 5 i0 _ 1 1 Tryd.underlying22 hi0 hz0 hz1 hz2 rfl (by omega) _ k (u8s xs) (by rfl) (HO1.out.alloc _) ⟨w1.heap.size, 0, none⟩ 1 1 _ (by rfl) (by rfl) (World.news_of_block (t := 5) (fr := (0, 0)) (heap_alloc_new w1 _)) (by simp [Value.oneCell']) (by omega) (by unfold maxLen; omega) (by omega) (by simp; omega) (w1.heap.size + 1) (by simp) ?_; intro gg cap w2 hown2 hgrow2 hat hlt1; have HO2 := Lib.hid hown2; have HG2 := Lib.hid hgrow2; clear hown2 hgrow2 hat hlt1)
      refine ⟨⟨k + 1, xs ++ [x], by omega, by go_num, by have := HL.out; simp [this], by rw [u8s_append]; exact HO2.out, ?_, ?_⟩, by simp [intOf]; omega⟩
      · exact cur_other (cur_kept HC1.out (World.grownBy_alloc w1 _ none) (by simp)) HG2.out (fun b hb => by have := own_from HO1.out b hb; omega)
      · exact gby_new (gby_alloc HG1.out _) HG2.out (fun b hb => own_from HO1.out b hb)
    · have hcv := owned_string (P := Tryd.prog) (w := wr) Tryd.underlying22 Tryd.underlying5 Tryd.underlying9 HO.out
      go_wp2
      go_ret
      exact ⟨_, by rw [strOfNums_size]; have := HL.out; omega, rfl, HC.out, HG.out⟩

end Go.Proofs.YtmgdcnlbpghjjaaDoor
