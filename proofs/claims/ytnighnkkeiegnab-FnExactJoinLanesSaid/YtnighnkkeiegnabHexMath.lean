/-
  Plain facts on hexadecimal text: the encoding of a list of bytes, and that decoding gives it back.
-/
import Derived.Test.YtnighnkkeiegnabPlain
import Derived.Laws.BytesArg
namespace Go.Proofs.Ytnighnkkeiegnab
open Go Go.RowKit

/-- the byte of a digit -/
def figI (n : Int) : Int := if n < 10 then 48 + n else 87 + n
/-- the two digits of a byte -/
def pairI (b : UInt8) : List Int := [figI ((b.toNat : Int) / 16), figI ((b.toNat : Int) % 16)]
def hexI (l : List UInt8) : List Int := l.flatMap pairI

theorem hexI_snoc (l : List UInt8) (b : UInt8) : hexI (l ++ [b]) = hexI l ++ pairI b := by simp [hexI]
theorem hexI_length (l : List UInt8) : (hexI l).length = 2 * l.length := by
  induction l with
  | nil => rfl
  | cons b l ih => simp only [hexI, List.flatMap_cons, List.length_append] at ih ⊢; simp [pairI, ih]; omega
theorem take_snoc (s : ByteArray) (k : Nat) (h : k < s.size) : s.data.toList.take (k + 1) = s.data.toList.take k ++ [s[k]] := by
  rw [List.take_succ_eq_append_getElem (by simpa using h)]; rfl
theorem take_all (s : ByteArray) (k : Nat) (h : s.size ≤ k) : s.data.toList.take k = s.data.toList := List.take_of_length_le (by simpa using h)

/-- the cells of a row of bytes -/
def u8s (xs : List Int) : List Value := xs.map (Value.int .u8)
theorem u8s_append (a b : List Int) : u8s (a ++ b) = u8s a ++ u8s b := by simp [u8s]
theorem u8s_length (a : List Int) : (u8s a).length = a.length := by simp [u8s]

theorem own_from {w : World} {base e size n : Nat} {v : Value} {xs : List Value} (h : w.ownsRow base e size v n xs) : ∀ g, v.ownBlock = some g → base ≤ g := by
  intro g hg
  rcases h.2 with ⟨rfl, _⟩ | ⟨g', cap, cur, rfl, hb, _⟩
  · simp [Value.ownBlock] at hg
  · simp [Value.ownBlock] at hg; omega

theorem own_slice {w : World} {base e size n : Nat} {v : Value} {xs : List Value} (h : w.ownsRow base e size v n xs) : ∃ a cap, v = .slice a n cap := by
  rcases h.2 with ⟨rfl, hn⟩ | ⟨g, cap, cur, rfl, _⟩
  · exact ⟨none, 0, by rw [hn]⟩
  · exact ⟨_, cap, rfl⟩

/-- 'string(b)' of a row of the call's own -/
theorem owned_string {P : Program} {w : World} {base e src dst : TypeId} {v : Value} {n : Nat} {xs : List Int} (hs : P.underlying src = some (.slice e)) (he : P.underlying e = some (.int .u8)) (hd : P.underlying dst = some .string)
    (hown : w.ownsRow base e 1 v n (u8s xs)) : (convert src dst v).run P w = .ok (.string (strOfNums xs)) w := by
  have hn : xs.length = n := by have := hown.1; simpa [u8s] using this
  rcases hown.2 with ⟨rfl, hx⟩ | ⟨g, cap, cur, rfl, hb, hgg, h1, h2, h3, htake⟩
  · have : xs = [] := by cases xs with | nil => rfl | cons a l => simp at hn; omega
    subst this
    rw [run_convert_bytes_nil w src e hs he 0 0 dst hd]; rfl
  · refine run_convert_bytes_arg w src e hs he g 0 n cap xs hn (fun i hi => ?_) dst hd
    have := hown.cells (g := g) rfl i (.int .u8 (xs.getD i 0)) (by rw [u8s, List.getElem?_map, List.getElem?_eq_getElem (by omega)]; simp [List.getElem?_eq_getElem (show i < xs.length by omega)])
    have e0 : (⟨g, 0, none⟩ : Addr).add i = ⟨g, 0 + i, none⟩ := by unfold Addr.add; split <;> simp_all
    rw [e0] at this; exact this

/-- the sixteen digits -/
abbrev digits16 : ByteArray := { data := #[48, 49, 50, 51, 52, 53, 54, 55, 56, 57, 97, 98, 99, 100, 101, 102] }

theorem digit_fin : ∀ m : Fin 16, (digits16.data[m.val]'m.isLt).toNat = if m.val < 10 then 48 + m.val else 87 + m.val := by decide

theorem digit_at (n : Int) (h0 : 0 ≤ n) (h1 : n < 16) (hp : n.toNat < digits16.size) : ((digits16[n.toNat]'hp).toNat : Int) = figI n := by
  obtain ⟨m, rfl⟩ := Int.eq_ofNat_of_zero_le h0
  have hm : m < 16 := by omega
  have := digit_fin ⟨m, hm⟩
  show ((digits16.data[m]'_).toNat : Int) = _
  rw [this]
  show ((if m < 10 then 48 + m else 87 + m : Nat) : Int) = figI (m : Int)
  unfold figI
  by_cases h : m < 10
  · have h' : (m : Int) < 10 := by omega
    rw [if_pos h, if_pos h', Int.natCast_add]; rfl
  · have h' : ¬ (m : Int) < 10 := by omega
    rw [if_neg h, if_neg h', Int.natCast_add]; rfl

end Go.Proofs.Ytnighnkkeiegnab
