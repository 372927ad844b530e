/-
  Contract of the model's SplitFields.
-/
import Derived.Test.YtmgdcnlbpghjjaaDoorFigure
import Derived.Test.YtmgdcnlbpghjjaaDoorFieldsMath
namespace Go.Proofs.YtmgdcnlbpghjjaaDoor
open Go Go.RowKit Go.PlainAid

theorem infoStr : (Tryd.prog.info? 9).map (fun i => (i.zero, i.size, i.bytes)) = some (some (.string ⟨#[]⟩), 1, 16) := by kernel_rfl

/-- the fields in a row of the call's own, and whether there are any -/
def SplitRes (s : ByteArray) (w : World) (e : Ending) (w' : World) : Prop := ∃ (v : Value) (xs : List ByteArray) (b : Bool),
  e = .returned (.tuple #[v, .bool b]) ∧ w'.ownsRow w.heap.size 9 1 v xs.length (strs xs) ∧ Below w.heap.size w w' ∧ ((SplitOk s ∧ xs = fields s ∧ b = true) ∨ (¬ SplitOk s ∧ xs = [] ∧ b = false))

set_option maxHeartbeats 400000 in
theorem specSplit_long (s : ByteArray) (w : World) (h : 600 < s.size) (hs : s.size ≤ maxLen) :
    Calls Tryd.prog 14 #[.string s] w (SplitRes s w) := by
  unfold maxLen at hs
  have hi : (600 : Int) < (s.size : Int) := by omega
  have HN := Lib.hid (show ¬ SplitOk s from fun g => by have := g.1; omega)
  go_enter Tryd.func14, Tryd.ntmps14
  go_wp2
  go_ret2
  exact ⟨_, [], false, rfl, World.ownsRow_made w #[] 0 (Nat.le_refl _) (by unfold maxLen; omega) rfl, (Below.refl _ _).alloc (Nat.le_refl _) _, .inr ⟨HN.out, rfl, rfl⟩⟩

set_option maxRecDepth 4000 in
set_option maxHeartbeats 2000000 in
theorem specSplit_short (s : ByteArray) (w : World) (h : s.size ≤ 600) :
    Calls Tryd.prog 14 #[.string s] w (SplitRes s w) := by
  obtain ⟨i0, hi0, hz0, hz1, hz2⟩ := info_parts infoStr
  go_enter Tryd.func14, Tryd.ntmps14
  go_wp2
  go_loopw [4, 5, 6] (fun v b i wr => ∃ (k bg : Nat) (xs : List ByteArray), k ≤ s.size + 1 ∧ i = .int .i64 (k : Int) ∧ b = .int .i64 (bg : Int) ∧ St s k xs bg ∧ Clean s k ∧ wr.ownsRow w.heap.size 9 1 v xs.length (strs xs) ∧ Below w.heap.size w wr) (fun _ _ i _ => s.size + 1 - (intOf i).toNat)
  case atStart =>
    refine ⟨0, 0, [], Nat.zero_le _, rfl, rfl, St.zero s, Clean.zero s, ?_, (Below.refl _ _).alloc (Nat.le_refl _) _⟩
    exact World.ownsRow_made w #[] 0 (Nat.le_refl _) (by unfold maxLen; omega) rfl
  case round =>
    obtain ⟨k, bg, xs, hk, rfl, rfl, hst, hcl, hown, hbel⟩ := hrel
    have hsz := hbel.size
    have hbg := hst.le.1
    have hxl := hst.le.2
    have HO := Lib.hid hown
    have HB := Lib.hid hbel
    have HS := Lib.hid hst
    have HC := Lib.hid hcl
    clear hown hbel hst hcl
    have hk0 : (0 : Int) ≤ (k : Int) := by omega
    have hb0 : (0 : Int) ≤ (bg : Int) := by omega
    have hbk : (bg : Int) ≤ (k : Int) := by omega
    by_cases hlt : k < s.size
    · have hb := get_bt s
      have hki : (k : Int) < (s.size : Int) := by omega
      have hks : (k : Int) ≤ (s.size : Int) := by omega
      by_cases c1 : bt s k < 32
      · have HN := Lib.hid (not_clean hlt (.inl c1))
        go_wp2
        go_ret2
        exact ⟨_, [], false, rfl, World.ownsRow_made wr #[] 0 hsz (by unfold maxLen; omega) rfl, HB.out.alloc hsz _, .inr ⟨HN.out, rfl, rfl⟩⟩
      · by_cases c2 : 126 < bt s k
        · have HN := Lib.hid (not_clean hlt (.inr c2))
          go_wp2
          go_ret2
          exact ⟨_, [], false, rfl, World.ownsRow_made wr #[] 0 hsz (by unfold maxLen; omega) rfl, HB.out.alloc hsz _, .inr ⟨HN.out, rfl, rfl⟩⟩
        · have HC1 := Lib.hid (HC.out.succ (fun _ => ⟨by omega, by omega⟩))
          by_cases c3 : bt s k = 32
          · by_cases hlt2 : (bg : Int) < (k : Int)
            · have HS1 := Lib.hid (HS.out.close (fun _ => c3) (by omega))
              go_wp2_with (at_builtin; refine wpList_append_lies _ (by rfl) _ _ _ (by rfl) w.heap.size 9 i0 _ 1 16 Tryd.underlying28 hi0 hz0 hz1 hz2 rfl (by omega) _ xs.length (strs xs) (by rfl) (HO.out.alloc _) ⟨wr.heap.size, 0, none⟩ 1 1 _ (by rfl) (by rfl) (World.news_of_block (t := 9) (fr := (0, 0)) (heap_alloc_new wr _)) (by simp [Value.oneCell']) (by omega) (by unfold maxLen; omega) (by omega) (by simp; omega) (wr.heap.size + 1) (by simp) ?_; intro gg cap w1 hown1 hgrow hat hlt1; have HH := Lib.hid hown1; have HG := Lib.hid hgrow; clear hown1 hgrow hat hlt1)
              refine ⟨⟨k + 1, k + 1, xs ++ [s.extract bg k], by omega, by go_num, by go_num, HS1.out, HC1.out, ?_, ?_⟩, by simp [intOf]; omega⟩
              · rw [List.length_append, strs_append]; exact HH.out
              · exact (HB.out.alloc hsz _).grown HG.out (by simp; omega) (own_from HO.out)
            · have HS1 := Lib.hid (HS.out.none (fun _ => c3) (by omega))
              go_wp2
              exact ⟨⟨k + 1, k + 1, xs, by omega, by go_num, by go_num, HS1.out, HC1.out, HO.out, HB.out⟩, by simp [intOf]; omega⟩
          · have HS1 := Lib.hid (HS.out.word hlt c3)
            have hc3 : (bt s k == 32) = false := by simpa using c3
            have hc4 : (bt s k != 32) = true := by simpa using c3
            clear c3
            go_wp2
            exact ⟨⟨k + 1, bg, xs, by omega, by go_num, rfl, HS1.out, HC1.out, HO.out, HB.out⟩, by simp [intOf]; omega⟩
    · by_cases hke : k = s.size
      · have hki : ¬ (k : Int) < (s.size : Int) := by omega
        have hks : (k : Int) ≤ (s.size : Int) := by omega
        have HC1 := Lib.hid (HC.out.succ (fun g => absurd g hlt))
        by_cases hlt2 : (bg : Int) < (k : Int)
        · have HS1 := Lib.hid (HS.out.close (fun g => absurd g hlt) (by omega))
          have HK := Lib.hid hke
          clear hke hlt
          go_wp2_with (at_builtin; refine wpList_append_lies _ (by rfl) _ _ _ (by rfl) w.heap.size 9 i0 _ 1 16 Tryd.underlying28 hi0 hz0 hz1 hz2 rfl (by omega) _ xs.length (strs xs) (by rfl) (HO.out.alloc _) ⟨wr.heap.size, 0, none⟩ 1 1 _ (by rfl) (by rfl) (World.news_of_block (t := 9) (fr := (0, 0)) (heap_alloc_new wr _)) (by simp [Value.oneCell']) (by omega) (by unfold maxLen; omega) (by omega) (by simp; omega) (wr.heap.size + 1) (by simp) ?_; intro gg cap w1 hown1 hgrow hat hlt1; have HH := Lib.hid hown1; have HG := Lib.hid hgrow; clear hown1 hgrow hat hlt1)
          refine ⟨⟨k + 1, k + 1, xs ++ [s.extract bg k], by have := HK.out; omega, by go_num, by go_num, HS1.out, HC1.out, ?_, ?_⟩, by have := HK.out; simp [intOf]; omega⟩
          · rw [List.length_append, strs_append]; exact HH.out
          · exact (HB.out.alloc hsz _).grown HG.out (by simp; omega) (own_from HO.out)
        · have HS1 := Lib.hid (HS.out.none (fun g => absurd g hlt) (by omega))
          have HK := Lib.hid hke
          clear hke hlt
          go_wp2
          exact ⟨⟨k + 1, k + 1, xs, by have := HK.out; omega, by go_num, by go_num, HS1.out, HC1.out, HO.out, HB.out⟩, by have := HK.out; simp [intOf]; omega⟩
      · have hke1 : k = s.size + 1 := by omega
        have hki : (s.size : Int) < (k : Int) := by omega
        have HF := Lib.hid (fields_of HS.out hke1)
        have HK := Lib.hid hke1
        have HCA := Lib.hid (clean_all HC.out (show s.size ≤ k from by omega))
        obtain ⟨a, cap, rfl⟩ := own_slice HO.out
        clear hke hke1 hlt
        by_cases hmany : (24 : Int) < (xs.length : Int)
        · have HN := Lib.hid (show ¬ SplitOk s from fun g => by have := g.2.2; rw [HF.out] at this; omega)
          go_wp2
          go_ret2
          exact ⟨_, [], false, rfl, World.ownsRow_made wr #[] 0 hsz (by unfold maxLen; omega) rfl, HB.out.alloc hsz _, .inr ⟨HN.out, rfl, rfl⟩⟩
        · have HY := Lib.hid (show SplitOk s from ⟨h, HCA.out, by rw [HF.out]; omega⟩)
          go_wp2
          go_ret2
          exact ⟨_, xs, true, rfl, HO.out, HB.out, .inl ⟨HY.out, HF.out.symm, rfl⟩⟩

theorem specSplit_any (s : ByteArray) (w : World) (hs : s.size ≤ maxLen) :
    Calls Tryd.prog 14 #[.string s] w (SplitRes s w) := by
  by_cases h : s.size ≤ 600
  · exact specSplit_short s w h
  · exact specSplit_long s w (by omega) hs

end Go.Proofs.YtmgdcnlbpghjjaaDoor
