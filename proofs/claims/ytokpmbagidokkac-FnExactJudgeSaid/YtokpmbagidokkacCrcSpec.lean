/-
  Contract of the model's CheckOf.
-/
import Derived.Test.YtokpmbagidokkacWireNum
import Derived.Test.YtokpmbagidokkacCrcMath
namespace Go.Proofs.Ytokpmbagidokkac
open Go Go.RowKit

theorem xor_nat (a b : Nat) (ha : a < 9223372036854775808) (hb : b < 9223372036854775808) : bits .xor .i64 (a : Int) (b : Int) = ((a ^^^ b : Nat) : Int) := by
  show IntKind.i64.wrap ((BitVec.ofInt 64 (a : Int) ^^^ BitVec.ofInt 64 (b : Int)).toNat : Int) = _
  rw [BitVec.toNat_xor, bv_nat a ha, bv_nat b hb]
  have : a ^^^ b < 2 ^ 63 := Nat.xor_lt_two_pow (by omega) (by omega)
  exact wrap_small _ (by omega) (by omega)

/-- the bytes as natural numbers -/
def toN (xs : List Int) : List Nat := xs.map Int.toNat
theorem toN_length (xs : List Int) : (toN xs).length = xs.length := by simp [toN]
theorem toN_byte {xs : List Int} (h : ∀ x ∈ xs, 0 ≤ x ∧ x ≤ 255) : ∀ b ∈ toN xs, b < 256 := by
  intro b hb
  obtain ⟨x, hx, rfl⟩ := List.mem_map.1 hb
  have := h x hx
  omega

theorem toN_take_snoc (xs : List Int) (k : Nat) (hk : k < xs.length) : toN (xs.take (k + 1)) = toN (xs.take k) ++ [(xs.getD k 0).toNat] := by
  rw [List.take_succ_eq_append_getElem hk, List.getD_eq_getElem?_getD, List.getElem?_eq_getElem hk]
  rw [toN, List.map_append]; rfl

theorem crc_snoc (x b : Nat) (l : List Nat) : crc x (l ++ [b]) = cbits 8 (crc x l ^^^ b * 256) := by
  rw [crc_append, crc_cons, crc_nil]; rfl

theorem cbits_snoc (n x : Nat) : cbits (n + 1) x = cbit (cbits n x) := by
  rw [cbits_add]; rfl

set_option maxHeartbeats 2000000 in
theorem specCheck_in (W : World) (a : Option Addr) (len cap : Nat) (xs : List Int) (H : ISl W a len xs) (hb : AreB xs) :
    Calls Try.prog 86 #[.slice a len cap] W (Ans (.int .i64 (crc 65535 (toN xs) : Int)) W) := by
  have hd : decide (AreB xs) = true := decide_eq_true hb
  have HB := Lib.hid hb
  have HI := Lib.hid H
  have hlen : len ≤ 40 := by have := H.1; have := hb.2; omega
  clear H hb
  go_enter Try.func86, Try.ntmps86
  go_wp2_with fail
  go_at_call 82
  refine (specBytes_any _ _ _ _ _ HI.out (by omega)).mono ?_
  rw [hd]
  rintro e w' ⟨rfl, rfl⟩
  clear hd
  go_wp2
  go_loopw [3, 4] (fun x i wr => ∃ k : Nat, k ≤ len ∧ i = .int .i64 (k : Int) ∧ x = .int .i64 (crc 65535 (toN (xs.take k)) : Int) ∧ Drew W wr) (fun _ i _ => len - (intOf i).toNat)
  case atStart => exact ⟨0, Nat.zero_le _, rfl, rfl, Drew.refl _⟩
  case round =>
    obtain ⟨k, hk, rfl, rfl, hdr⟩ := hrel
    have HD := Lib.hid hdr
    clear hdr
    by_cases hlt : k < len
    · have hki : (k : Int) < (len : Int) := by omega
      have hkx : k < xs.length := by have := HI.out.1; omega
      obtain ⟨b, off, rfl, hcell⟩ := HI.out.2.resolve_left (by omega)
      have hc := (HD.out.gby none).cell (hcell k hlt) (by simp)
      clear hcell
      have hv := areB_at HB.out hkx
      obtain ⟨v, hvn⟩ : ∃ v : Nat, xs.getD k 0 = (v : Int) := ⟨(xs.getD k 0).toNat, by omega⟩
      have hs := toN_take_snoc xs k hkx
      rw [hvn] at hc hv hs
      have hcl := crc_lt (toN (xs.take k)) 65535 (by decide) (toN_byte (fun x hx => HB.out.1 x (List.mem_of_mem_take hx)))
      have HS := Lib.hid hs
      clear hs
      obtain ⟨c, hcn⟩ : ∃ c : Nat, c = crc 65535 (toN (xs.take k)) := ⟨_, rfl⟩
      rw [← hcn] at hcl ⊢
      have hxor : bits .xor .i64 (c : Int) ((v : Int) * 256) = ((c ^^^ v * 256 : Nat) : Int) := by
        have q := xor_nat c (v * 256) (by omega) (by omega)
        rw [Int.natCast_mul] at q
        exact q
      obtain ⟨y, hy⟩ : ∃ y : Nat, y = c ^^^ v * 256 := ⟨_, rfl⟩
      have hyl : y < 65536 := by rw [hy]; exact Nat.xor_lt_two_pow (n := 16) hcl (by omega)
      rw [← hy] at hxor
      have HY := Lib.hid hy
      have HCN := Lib.hid hcn
      have HVN := Lib.hid hvn
      clear hy hcn hvn
      have hv0 := hv.1
      have hv1 := hv.2
      clear hv
      go_wp2
      try go_quiet (fail)
      go_wp2
      go_loopw [3, 5] (fun x i w2 => ∃ j : Nat, j ≤ 8 ∧ i = .int .i64 (j : Int) ∧ x = .int .i64 (cbits j y : Int) ∧ Drew W w2) (fun _ i _ => 8 - (intOf i).toNat)
      case atStart => exact ⟨0, Nat.zero_le _, rfl, rfl, by repeat (first | exact HD.out | apply Drew.drewN)⟩
      case round =>
        obtain ⟨j, hj, rfl, rfl, hd2⟩ := hrel
        have HD2 := Lib.hid hd2
        clear hd2
        by_cases hj8 : j < 8
        · have hji : (j : Int) < 8 := by omega
          have hz := cbits_lt j y hyl
          have hsn := cbits_snoc j y
          obtain ⟨z, hzn⟩ : ∃ z : Nat, z = cbits j y := ⟨_, rfl⟩
          rw [← hzn] at hz hsn ⊢
          have HSN := Lib.hid hsn
          have HZN := Lib.hid hzn
          clear hsn hzn
          by_cases hbig : 65535 < z * 2
          · have hbi : (65535 : Int) < (z : Int) * 2 := by omega
            have hx3 : bits .xor .i64 ((z : Int) * 2) 69665 = ((cbit z : Nat) : Int) := by
              have q := xor_nat (z * 2) 69665 (by omega) (by decide)
              rw [Int.natCast_mul] at q
              rw [show cbit z = z * 2 ^^^ 69665 from if_pos hbig]
              exact q
            go_wp2
            exact ⟨⟨j + 1, by omega, by go_num, by rw [HSN.out], HD2.out⟩, by simp [intOf]; omega⟩
          · have hbi : ¬ (65535 : Int) < (z : Int) * 2 := by omega
            have hx3 : cbit z = z * 2 := if_neg hbig
            have HX3 := Lib.hid hx3
            clear hx3
            go_wp2
            exact ⟨⟨j + 1, by omega, by go_num, by rw [HSN.out, HX3.out]; rfl, HD2.out⟩, by simp [intOf]; omega⟩
        · have hji : ¬ (j : Int) < 8 := by omega
          obtain rfl : j = 8 := by omega
          go_wp2
          refine ⟨⟨k + 1, by omega, by go_num, ?_, HD2.out⟩, by simp [intOf]; omega⟩
          rw [HS.out, show ((v : Int)).toNat = v by omega, crc_snoc, ← HCN.out, ← HY.out]
    · have hki : ¬ (k : Int) < (len : Int) := by omega
      have hkx : k = xs.length := by have := HI.out.1; omega
      have HK := Lib.hid (show xs.take k = xs by rw [hkx]; exact List.take_length)
      clear hkx
      go_wp2
      go_ret
      exact ⟨ret_i64 (by rw [HK.out]), HD.out⟩

theorem specCheck_out (W : World) (a : Option Addr) (len cap : Nat) (xs : List Int) (H : ISl W a len xs) (hl : len ≤ 1048576) (hb : ¬ AreB xs) :
    Calls Try.prog 86 #[.slice a len cap] W (Ans (.int .i64 (-1)) W) := by
  have hd : decide (AreB xs) = false := decide_eq_false hb
  have HI := Lib.hid H
  clear H hb
  go_enter Try.func86, Try.ntmps86
  go_wp2_with fail
  go_at_call 82
  refine (specBytes_any _ _ _ _ _ HI.out (by omega)).mono ?_
  rw [hd]
  rintro e w' ⟨rfl, rfl⟩
  go_wp2
  go_ret
  exact ⟨rfl, Drew.refl _⟩

end Go.Proofs.Ytokpmbagidokkac
