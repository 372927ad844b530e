/-
  LinkOk, on both sides.
-/
import Derived.Test.YtnighnkkeiegnabLinkOkS
import Derived.Test.YtnighnkkeiegnabLinkOkI
namespace Go.Proofs.Ytnighnkkeiegnab
open Go Go.RowKit
set_option linter.unusedVariables false

theorem specLnk (W : World) (m r e : Int) (v vl vf va : Value) (xs : List DFrame) (L fl : List (List Int)) (zs : List Int) (H : RdL shFrame W v xs) (HL_ : RdL (shL shI) W vl L) (HF_ : RdL (shL shI) W vf fl) (HA_ : RdL shI W va zs) (hl : szL shFrame xs ≤ 1048576) (hlL : szL (shL shI) L ≤ 1048576) (hlf : szL (shL shI) fl ≤ 1048576) (hla : szL shI zs ≤ 1048576) : Calls Try.prog 16 #[.agg #[.int .i64 m, v, .int .i64 r, .int .i64 e, vl, vf, va]] W (BPost (LnkP m r xs e L fl zs) W) := by
  by_cases hs : SndP m r xs
  · by_cases hr : ROk e L
    · exact specLnk_y W m r e v vl vf va xs L fl zs H HL_ HF_ HA_ hl hlL hlf hla hs hr
    · exact specLnk_r W m r e v vl vf va xs L fl zs H HL_ HF_ HA_ hl hlL hlf hla hs hr
  · exact specLnk_s W m r e v vl vf va xs L fl zs H HL_ HF_ HA_ hl hlL hlf hla hs
theorem implLnk (W : World) (m r e : Int) (v vl vf va : Value) (xs : List DFrame) (L fl : List (List Int)) (zs : List Int) (H : RdL shFrame W v xs) (HL_ : RdL (shL shI) W vl L) (HF_ : RdL (shL shI) W vf fl) (HA_ : RdL shI W va zs) (hl : szL shFrame xs ≤ 1048576) (hlL : szL (shL shI) L ≤ 1048576) (hlf : szL (shL shI) fl ≤ 1048576) (hla : szL shI zs ≤ 1048576) : Calls Try.prog 18 #[.agg #[.int .i64 m, v, .int .i64 r, .int .i64 e, vl, vf, va]] W (BPost (LnkP m r xs e L fl zs) W) := by
  by_cases hs : SndP m r xs
  · by_cases hr : ROk e L
    · by_cases hb : AreBL fl
      · by_cases h8 : fl.length ≤ 8
        · by_cases h9 : zs.length ≤ 8
          · by_cases ha : AnsP zs
            · exact implLnk_y W m r e v vl vf va xs L fl zs H HL_ HF_ HA_ hl hlL hlf hla hs hr hb h8 h9 ha
            · exact implLnk_n W m r e v vl vf va xs L fl zs H HL_ HF_ HA_ hl hlL hlf hla hs hr hb h8 h9 ha
          · exact implLnk_a W m r e v vl vf va xs L fl zs H HL_ HF_ HA_ hl hlL hlf hla hs hr hb h8 h9
        · exact implLnk_f W m r e v vl vf va xs L fl zs H HL_ HF_ HA_ hl hlL hlf hla hs hr hb h8
      · exact implLnk_b W m r e v vl vf va xs L fl zs H HL_ HF_ HA_ hl hlL hlf hla hs hr hb
    · exact implLnk_r W m r e v vl vf va xs L fl zs H HL_ HF_ HA_ hl hlL hlf hla hs hr
  · exact implLnk_s W m r e v vl vf va xs L fl zs H HL_ HF_ HA_ hl hlL hlf hla hs

theorem linkOk_both (i0_0 : Int) (xs0_1 : List DFrame) (i0_2 i0_3 : Int) (xs0_4 xs0_5 : List (List Int)) (xs0_6 : List Int) (h1 : szL shFrame xs0_1 ≤ 1048576) (h4 : szL (shL shI) xs0_4 ≤ 1048576) (h5 : szL (shL shI) xs0_5 ≤ 1048576) (h6 : szL shI xs0_6 ≤ 1048576) : ∃ br0 : Bool, (∀ (W : World), ∀ u0_1 u0_4 u0_5 u0_6, RdL shFrame W u0_1 xs0_1 → RdL (shL shI) W u0_4 xs0_4 → RdL (shL shI) W u0_5 xs0_5 → RdL shI W u0_6 xs0_6 → Calls Try.prog 16 #[.agg #[.int .i64 i0_0, u0_1, .int .i64 i0_2, .int .i64 i0_3, u0_4, u0_5, u0_6]] W (ResSLinkOk br0 W)) ∧ ∀ (W : World), ∀ u0_1 u0_4 u0_5 u0_6, RdL shFrame W u0_1 xs0_1 → RdL (shL shI) W u0_4 xs0_4 → RdL (shL shI) W u0_5 xs0_5 → RdL shI W u0_6 xs0_6 → Calls Try.prog 18 #[.agg #[.int .i64 i0_0, u0_1, .int .i64 i0_2, .int .i64 i0_3, u0_4, u0_5, u0_6]] W (ResILinkOk br0 W) := by
  by_cases hq : LnkP i0_0 i0_2 xs0_1 i0_3 xs0_4 xs0_5 xs0_6
  · exact ⟨true, fun W u1 u4 u5 u6 r1 r4 r5 r6 => (specLnk W i0_0 i0_2 i0_3 u1 u4 u5 u6 xs0_1 xs0_4 xs0_5 xs0_6 r1 r4 r5 r6 h1 h4 h5 h6).mono (bpost_yes hq), fun W u1 u4 u5 u6 r1 r4 r5 r6 => (implLnk W i0_0 i0_2 i0_3 u1 u4 u5 u6 xs0_1 xs0_4 xs0_5 xs0_6 r1 r4 r5 r6 h1 h4 h5 h6).mono (bpost_yes hq)⟩
  · exact ⟨false, fun W u1 u4 u5 u6 r1 r4 r5 r6 => (specLnk W i0_0 i0_2 i0_3 u1 u4 u5 u6 xs0_1 xs0_4 xs0_5 xs0_6 r1 r4 r5 r6 h1 h4 h5 h6).mono (bpost_no hq), fun W u1 u4 u5 u6 r1 r4 r5 r6 => (implLnk W i0_0 i0_2 i0_3 u1 u4 u5 u6 xs0_1 xs0_4 xs0_5 xs0_6 r1 r4 r5 r6 h1 h4 h5 h6).mono (bpost_no hq)⟩

end Go.Proofs.Ytnighnkkeiegnab
