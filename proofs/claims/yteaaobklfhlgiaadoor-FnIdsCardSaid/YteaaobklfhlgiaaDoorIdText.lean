/-
  Contracts of ids: the texts.
-/
import Derived.Test.YteaaobklfhlgiaaDoorIdLaws
import Derived.Test.YteaaobklfhlgiaaDoorIdMath
import Derived.Test.YteaaobklfhlgiaaDoorParseWalk
import Derived.Test.YteaaobklfhlgiaaDoorShelfIndex
namespace Go.Proofs.YteaaobklfhlgiaaDoor
open Go Go.RowKit Go.Lib

theorem drew_below {w w' : World} (h : Drew w w') : Below w.heap.size w w' := gby_below (h.gby none)

theorem itoa_nat (m : Nat) : itoa (m : Int) = decDigits m := by
  unfold itoa
  rw [if_neg (by omega)]
  rfl

theorem idL_bytes (k : Nat) : (((((⟨(decDigits (k / 16)).toArray⟩ : ByteArray) ++ (⟨#[58]⟩ : ByteArray)) ++ (⟨(decDigits (k / 4 % 4)).toArray⟩ : ByteArray)) ++ (⟨#[46]⟩ : ByteArray)) ++ (⟨(decDigits (k % 4)).toArray⟩ : ByteArray)) = ⟨(idL k).toArray⟩ := by
  apply ByteArray.ext
  simp [idL]

theorem specFormat_nat (m : Nat) (n : Int) (w : World) (h : n = (m : Int)) (hm : m ≤ 1000000) : Calls Tryd.prog 28 #[.int .i64 n] w (TextIs ⟨(decDigits m).toArray⟩ w) := by
  subst h
  rw [← itoa_nat]
  exact specFormat_any _ w (by omega) (by omega)

theorem implFormat_nat (m : Nat) (n : Int) (w : World) (h : n = (m : Int)) (hm : m ≤ 1000000) (htab : TabIs Tryd.prog w "internal/strconv.uint64pow10" .u64 pow10Tab) : Calls Tryd.prog 32 #[.int .i64 n] w (TextIs ⟨(decDigits m).toArray⟩ w) := by
  subst h
  rw [← itoa_nat]
  exact implFormat_any _ w (by omega) (by omega) htab

/-- the three parts of an id's text -/
structure Parts (k : Nat) (s1 s2 s3 : ByteArray) : Prop where
  e1 : s1 = ⟨(decDigits (k / 16)).toArray⟩
  e2 : s2 = ⟨(decDigits (k / 4 % 4)).toArray⟩
  e3 : s3 = ⟨(decDigits (k % 4)).toArray⟩

theorem parts_any (k : Nat) (h : k ≤ 255) : ∃ s1 s2 s3 : ByteArray, Parts k s1 s2 s3 ∧ s1.size ≤ 2 ∧ s2.size ≤ 2 ∧ s3.size ≤ 2 := by
  refine ⟨_, _, _, ⟨rfl, rfl, rfl⟩, ?_, ?_, ?_⟩
  · have := short_dig (k / 16) (by omega); simpa [ByteArray.size] using this
  · have := short_dig (k / 4 % 4) (by omega); simpa [ByteArray.size] using this
  · have := short_dig (k % 4) (by omega); simpa [ByteArray.size] using this

theorem parts_text {k : Nat} {s1 s2 s3 : ByteArray} (h : Parts k s1 s2 s3) : (((s1 ++ (⟨#[58]⟩ : ByteArray)) ++ s2) ++ (⟨#[46]⟩ : ByteArray)) ++ s3 = ⟨(idL k).toArray⟩ := by
  obtain ⟨rfl, rfl, rfl⟩ := h
  exact idL_bytes k

set_option maxHeartbeats 400000 in
theorem specFormatId_in (k : Nat) (w : World) (h : k ≤ 255) : Calls Tryd.prog 15 #[.int .i64 (k : Int)] w (TextIs ⟨(idL k).toArray⟩ w) := by
  obtain ⟨s1, s2, s3, hp, l1, l2, l3⟩ := parts_any k h
  have HP := Lib.hid hp
  clear hp
  go_enter Tryd.func15, Tryd.ntmps15
  go_wp2_with fail
  go_at_call 27
  refine (isId_yes _ _ (by omega) (by omega)).mono ?_
  rintro e w1 ⟨rfl, d1⟩
  have B1 := Lib.hid (drew_below d1)
  clear d1
  go_wp2_with fail
  go_at_call 28
  refine (show Calls _ _ _ _ (TextIs s1 _) from HP.out.e1 ▸ specFormat_nat (k / 16) _ _ (by omega) (by omega)).mono ?_
  rintro e w2 ⟨rfl, b2⟩
  have B2 := Lib.hid (below_then B1.out b2)
  clear b2
  go_wp2_with fail
  go_at_call 28
  refine (show Calls _ _ _ _ (TextIs s2 _) from HP.out.e2 ▸ specFormat_nat (k / 4 % 4) _ _ (by omega) (by omega)).mono ?_
  rintro e w3 ⟨rfl, b3⟩
  have B3 := Lib.hid (below_then B2.out b3)
  clear b3
  go_wp2_with fail
  go_at_call 28
  refine (show Calls _ _ _ _ (TextIs s3 _) from HP.out.e3 ▸ specFormat_nat (k % 4) _ _ (by omega) (by omega)).mono ?_
  rintro e w4 ⟨rfl, b4⟩
  have B4 := Lib.hid (below_then B3.out b4)
  clear b4
  go_wp2
  go_ret
  exact ⟨ret_str (parts_text HP.out), B4.out⟩

theorem specFormatId_out (x : Int) (w : World) (h : x < 0 ∨ 255 < x) : Calls Tryd.prog 15 #[.int .i64 x] w (TextIs ⟨#[]⟩ w) := by
  have H := Lib.hid h
  clear h
  go_enter Tryd.func15, Tryd.ntmps15
  go_wp2_with (go_at_call 27; refine (isId_no _ _ H.out).mono ?_; rintro e w1 ⟨rfl, d1⟩; have D1 := Lib.hid d1; clear d1)
  go_ret
  exact ⟨rfl, drew_below D1.out⟩

set_option maxHeartbeats 400000 in
theorem text_in (k : Nat) (w : World) (h : k ≤ 255) (htab : TabIs Tryd.prog w "internal/strconv.uint64pow10" .u64 pow10Tab) : Calls Tryd.prog 21 #[.int .i64 (k : Int)] w (TextIs ⟨(idL k).toArray⟩ w) := by
  obtain ⟨s1, s2, s3, hp, l1, l2, l3⟩ := parts_any k h
  have HP := Lib.hid hp
  clear hp
  have HT := Lib.hid htab
  clear htab
  go_enter Tryd.func21, Tryd.ntmps21
  go_wp2_with fail
  go_at_call 22
  refine (valid_yes _ _ (by omega) (by omega)).mono ?_
  rintro e w1 ⟨rfl, d1⟩
  have B1 := Lib.hid (drew_below d1)
  clear d1
  go_wp2_with fail
  go_at_call 24
  refine (mBusOf_in _ _ h).mono ?_
  rintro e w2 ⟨rfl, d2⟩
  have B2 := Lib.hid (below_then B1.out (drew_below d2))
  clear d2
  go_wp2_with fail
  go_at_call 32
  refine (show Calls _ _ _ _ (TextIs s1 _) from HP.out.e1 ▸ implFormat_nat (k / 16) _ _ (by omega) (by omega) (tab_below B2.out HT.out)).mono ?_
  rintro e w3 ⟨rfl, b3⟩
  have B3 := Lib.hid (below_then B2.out b3)
  clear b3
  go_wp2_with fail
  go_at_call 25
  refine (mDeviceOf_in _ _ h).mono ?_
  rintro e w4 ⟨rfl, d4⟩
  have B4 := Lib.hid (below_then B3.out (drew_below d4))
  clear d4
  go_wp2_with fail
  go_at_call 32
  refine (show Calls _ _ _ _ (TextIs s2 _) from HP.out.e2 ▸ implFormat_nat (k / 4 % 4) _ _ (by omega) (by omega) (tab_below B4.out HT.out)).mono ?_
  rintro e w5 ⟨rfl, b5⟩
  have B5 := Lib.hid (below_then B4.out b5)
  clear b5
  go_wp2_with fail
  go_at_call 26
  refine (mFunctionOf_in _ _ h).mono ?_
  rintro e w6 ⟨rfl, d6⟩
  have B6 := Lib.hid (below_then B5.out (drew_below d6))
  clear d6
  go_wp2_with fail
  go_at_call 32
  refine (show Calls _ _ _ _ (TextIs s3 _) from HP.out.e3 ▸ implFormat_nat (k % 4) _ _ (by omega) (by omega) (tab_below B6.out HT.out)).mono ?_
  rintro e w7 ⟨rfl, b7⟩
  have B7 := Lib.hid (below_then B6.out b7)
  clear b7
  go_wp2
  go_ret
  exact ⟨ret_str (parts_text HP.out), B7.out⟩

theorem text_out (x : Int) (w : World) (h : x < 0 ∨ 255 < x) : Calls Tryd.prog 21 #[.int .i64 x] w (TextIs ⟨#[]⟩ w) := by
  have H := Lib.hid h
  clear h
  go_enter Tryd.func21, Tryd.ntmps21
  go_wp2_with (go_at_call 22; refine (valid_no _ _ H.out).mono ?_; rintro e w1 ⟨rfl, d1⟩; have D1 := Lib.hid d1; clear d1)
  go_ret
  exact ⟨rfl, drew_below D1.out⟩

theorem implFormatId_in (k : Nat) (w : World) (h : k ≤ 255) (htab : TabIs Tryd.prog w "internal/strconv.uint64pow10" .u64 pow10Tab) : Calls Tryd.prog 9 #[.int .i64 (k : Int)] w (TextIs ⟨(idL k).toArray⟩ w) := by
  have HT := Lib.hid htab
  clear htab
  go_enter Tryd.func9, Tryd.ntmps9
  go_wp2_with (go_at_call 21; refine (text_in _ _ h HT.out).mono ?_; rintro e w1 ⟨rfl, b1⟩; have B1 := Lib.hid b1; clear b1)
  go_ret
  exact ⟨rfl, B1.out⟩

theorem implFormatId_out (x : Int) (w : World) (h : x < 0 ∨ 255 < x) : Calls Tryd.prog 9 #[.int .i64 x] w (TextIs ⟨#[]⟩ w) := by
  have H := Lib.hid h
  clear h
  go_enter Tryd.func9, Tryd.ntmps9
  go_wp2_with (go_at_call 21; refine (text_out _ _ H.out).mono ?_; rintro e w1 ⟨rfl, b1⟩; have B1 := Lib.hid b1; clear b1)
  go_ret
  exact ⟨rfl, B1.out⟩

theorem walk_exactFormatId (x : Int) (w : World) (htab : TabIs Tryd.prog w "internal/strconv.uint64pow10" .u64 pow10Tab) :
    Calls Tryd.prog 4 #[.int .i64 x] w fun e w' => e = .returned (.bool true) ∧ Below w.heap.size w w' := by
  have HT := Lib.hid htab
  clear htab
  obtain ⟨s, h1, h2⟩ : ∃ s : ByteArray, (∀ W : World, Calls Tryd.prog 15 #[.int .i64 x] W (TextIs s W)) ∧ ∀ W : World, TabIs Tryd.prog W "internal/strconv.uint64pow10" .u64 pow10Tab → Calls Tryd.prog 9 #[.int .i64 x] W (TextIs s W) := by
    by_cases h : 0 ≤ x ∧ x ≤ 255
    · obtain ⟨n, rfl⟩ : ∃ n : Nat, x = n := ⟨x.toNat, by omega⟩
      exact ⟨_, fun W => specFormatId_in n W (by omega), fun W ht => implFormatId_in n W (by omega) ht⟩
    · exact ⟨_, fun W => specFormatId_out x W (by omega), fun W _ => implFormatId_out x W (by omega)⟩
  have H1 := Lib.hid h1
  have H2 := Lib.hid h2
  clear h1 h2
  go_enter Tryd.func4, Tryd.ntmps4
  go_wp2_with fail
  go_at_call 15
  refine (H1.out _).mono ?_
  rintro e w1 ⟨rfl, b1⟩
  have B1 := Lib.hid b1
  clear b1
  go_wp2_with fail
  go_at_call 9
  refine (H2.out _ (tab_below B1.out HT.out)).mono ?_
  rintro e w2 ⟨rfl, b2⟩
  have B2 := Lib.hid (below_then B1.out b2)
  clear b2
  go_wp2
  go_ret
  exact ⟨rfl, B2.out⟩

end Go.Proofs.YteaaobklfhlgiaaDoor
