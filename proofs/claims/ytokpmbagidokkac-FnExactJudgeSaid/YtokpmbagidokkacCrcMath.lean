/-
  Plain facts on the checksum: it is linear, and one, two or three changed bits are noticed.
-/
import Derived.Test.YtokpmbagidokkacPlain
namespace Go.Proofs.Ytokpmbagidokkac
open Go Go.RowKit

/-- one doubling of the checksum -/
def cbit (x : Nat) : Nat := if 65535 < x * 2 then (x * 2) ^^^ 69665 else x * 2

theorem cbit_lt (x : Nat) (h : x < 65536) : cbit x < 65536 := by
  unfold cbit
  by_cases hb : 65535 < x * 2
  · rw [if_pos hb]
    have e1 : (x * 2).testBit 16 = true := by
      rw [Nat.testBit_eq_decide_div_mod_eq]; simp; omega
    have h17 : x * 2 ^^^ 69665 < 2 ^ 17 := Nat.xor_lt_two_pow (by omega) (by omega)
    rcases Nat.lt_or_ge (x * 2 ^^^ 69665) 65536 with q | q
    · exact q
    · exfalso
      have e2 : (x * 2 ^^^ 69665).testBit 16 = true := by
        rw [Nat.testBit_eq_decide_div_mod_eq]; simp; omega
      rw [Nat.testBit_xor, e1] at e2
      have : Nat.testBit 69665 16 = true := by decide
      rw [this] at e2
      cases e2
  · rw [if_neg hb]; omega

/-- the same without a test on the size -/
theorem cbit_eq (x : Nat) (h : x < 65536) : cbit x = (x * 2) ^^^ (if x.testBit 15 then 69665 else 0) := by
  unfold cbit
  have : x.testBit 15 = decide (65535 < x * 2) := by
    rw [Nat.testBit_eq_decide_div_mod_eq]
    congr 1
    apply propext
    omega
  rw [this]
  by_cases hb : 65535 < x * 2
  · simp [hb]
  · simp [hb]

theorem xor_lc (a b c : Nat) : a ^^^ (b ^^^ c) = b ^^^ (a ^^^ c) := by rw [← Nat.xor_assoc, Nat.xor_comm a b, Nat.xor_assoc]

theorem double_xor (x y : Nat) : (x ^^^ y) * 2 = (x * 2) ^^^ (y * 2) := by
  have := Nat.shiftLeft_xor_distrib (i := 1) (a := x) (b := y)
  simpa [Nat.shiftLeft_eq] using this

theorem cbit_xor (x y : Nat) (hx : x < 65536) (hy : y < 65536) : cbit (x ^^^ y) = cbit x ^^^ cbit y := by
  have hxy : x ^^^ y < 65536 := Nat.xor_lt_two_pow (n := 16) hx hy
  rw [cbit_eq _ hxy, cbit_eq _ hx, cbit_eq _ hy, double_xor, Nat.testBit_xor]
  generalize x * 2 = a
  generalize y * 2 = b
  cases x.testBit 15 <;> cases y.testBit 15
  · simp
  · simp [Nat.xor_assoc]
  · simp only [Bool.xor_false, if_true, if_false, Nat.xor_zero, Bool.false_eq_true]
    rw [Nat.xor_assoc, Nat.xor_assoc, Nat.xor_comm b]
  · simp only [Bool.xor_self, if_true, if_false, Nat.xor_zero, Bool.false_eq_true]
    rw [Nat.xor_assoc, xor_lc 69665, Nat.xor_self, Nat.xor_zero]

/-- n doublings -/
def cbits : Nat → Nat → Nat
  | 0, x => x
  | n + 1, x => cbits n (cbit x)

theorem cbits_lt (n : Nat) : ∀ x, x < 65536 → cbits n x < 65536 := by
  induction n with
  | zero => intro x h; exact h
  | succ n ih => intro x h; exact ih _ (cbit_lt x h)

theorem cbits_xor (n : Nat) : ∀ x y, x < 65536 → y < 65536 → cbits n (x ^^^ y) = cbits n x ^^^ cbits n y := by
  induction n with
  | zero => intro x y _ _; rfl
  | succ n ih =>
    intro x y hx hy
    show cbits n (cbit (x ^^^ y)) = cbits n (cbit x) ^^^ cbits n (cbit y)
    rw [cbit_xor x y hx hy]
    exact ih _ _ (cbit_lt x hx) (cbit_lt y hy)

theorem cbits_add (n m : Nat) : ∀ x, cbits (n + m) x = cbits m (cbits n x) := by
  induction n with
  | zero => intro x; rw [Nat.zero_add]; rfl
  | succ n ih => intro x; rw [Nat.add_right_comm]; exact ih (cbit x)

/-- a byte is taken in -/
def cbyte (x b : Nat) : Nat := cbits 8 (x ^^^ b * 256)

theorem cbyte_lt (x b : Nat) (hx : x < 65536) (hb : b < 256) : cbyte x b < 65536 :=
  cbits_lt 8 _ (Nat.xor_lt_two_pow (n := 16) hx (by omega))

theorem cbyte_xor (x y b e : Nat) (hx : x < 65536) (hy : y < 65536) (hb : b < 256) (he : e < 256) : cbyte (x ^^^ y) (b ^^^ e) = cbyte x b ^^^ cbyte y e := by
  unfold cbyte
  have e1 : (b ^^^ e) * 256 = (b * 256) ^^^ (e * 256) := by
    have := Nat.shiftLeft_xor_distrib (i := 8) (a := b) (b := e)
    simpa [Nat.shiftLeft_eq] using this
  rw [e1, ← cbits_xor 8 _ _ (Nat.xor_lt_two_pow (n := 16) hx (by omega)) (Nat.xor_lt_two_pow (n := 16) hy (by omega))]
  congr 1
  rw [Nat.xor_assoc, Nat.xor_assoc, xor_lc y]

/-- the checksum of bytes, begun with x -/
def crc (x : Nat) (l : List Nat) : Nat := l.foldl cbyte x

theorem crc_append (l m : List Nat) (x : Nat) : crc x (l ++ m) = crc (crc x l) m := List.foldl_append ..

theorem crc_cons (x b : Nat) (l : List Nat) : crc x (b :: l) = crc (cbyte x b) l := List.foldl_cons ..

theorem crc_nil (x : Nat) : crc x [] = x := List.foldl_nil ..

theorem crc_lt : ∀ (l : List Nat) (x : Nat), x < 65536 → (∀ b ∈ l, b < 256) → crc x l < 65536 := by
  intro l
  induction l with
  | nil => intro x h _; exact h
  | cons b l ih => intro x h hl; rw [crc_cons]; exact ih _ (cbyte_lt x b h (hl b (List.mem_cons_self ..))) (fun c hc => hl c (List.mem_cons_of_mem _ hc))

/-- bytes changed by other bytes, one by one -/
def xorL (l m : List Nat) : List Nat := List.zipWith (· ^^^ ·) l m

theorem crc_xor : ∀ (l m : List Nat) (x y : Nat), l.length = m.length → x < 65536 → y < 65536 → (∀ b ∈ l, b < 256) → (∀ b ∈ m, b < 256) → crc (x ^^^ y) (xorL l m) = crc x l ^^^ crc y m := by
  intro l
  induction l with
  | nil => intro m x y h _ _ _ _; cases m with
    | nil => rfl
    | cons _ _ => simp at h
  | cons b l ih =>
    intro m x y h hx hy hl hm
    cases m with
    | nil => simp at h
    | cons e m =>
      have hb := hl b (List.mem_cons_self ..)
      have he := hm e (List.mem_cons_self ..)
      rw [show xorL (b :: l) (e :: m) = (b ^^^ e) :: xorL l m from rfl, crc_cons, crc_cons, crc_cons, cbyte_xor x y b e hx hy hb he]
      exact ih m _ _ (by simpa using h) (cbyte_lt x b hx hb) (cbyte_lt y e hy he) (fun c hc => hl c (List.mem_cons_of_mem _ hc)) (fun c hc => hm c (List.mem_cons_of_mem _ hc))

/-- the powers: 1 doubled t times -/
def pw (t : Nat) : Nat := cbits t 1

theorem pw_lt (t : Nat) : pw t < 65536 := cbits_lt t 1 (by decide)

/-- the parity of a number's n low bits -/
def parN : Nat → Nat → Bool
  | 0, _ => false
  | n + 1, x => (x.testBit n ^^ parN n x)

theorem parN_xor (n x y : Nat) : parN n (x ^^^ y) = (parN n x ^^ parN n y) := by
  induction n with
  | zero => rfl
  | succ n ih =>
    show ((x ^^^ y).testBit n ^^ parN n (x ^^^ y)) = ((x.testBit n ^^ parN n x) ^^ (y.testBit n ^^ parN n y))
    rw [ih, Nat.testBit_xor]
    cases x.testBit n <;> cases y.testBit n <;> cases parN n x <;> cases parN n y <;> rfl

def par (x : Nat) : Bool := parN 16 x

theorem par_xor (x y : Nat) : par (x ^^^ y) = (par x ^^ par y) := parN_xor 16 x y

/-- all values, from t on, n of them, x the first: each has odd parity, and none is in the list of those before -/
def pwOk : Nat → Nat → List Nat → Bool
  | 0, _, _ => true
  | n + 1, x, seen => par x && !(seen.any (Nat.beq x)) && pwOk n (cbit x) (x :: seen)

theorem pwOk_says : ∀ (n t : Nat) (seen : List Nat), pwOk n (pw t) seen = true → (∀ i, i < n → par (pw (t + i)) = true) ∧ (∀ i, i < n → pw (t + i) ∉ seen) ∧ ∀ i j, i < j → j < n → pw (t + i) ≠ pw (t + j) := by
  intro n
  induction n with
  | zero => intro t seen _; exact ⟨fun i h => absurd h (Nat.not_lt_zero _), fun i h => absurd h (Nat.not_lt_zero _), fun i j _ h => absurd h (Nat.not_lt_zero _)⟩
  | succ n ih =>
    intro t seen h
    simp only [pwOk, Bool.and_eq_true] at h
    obtain ⟨⟨h1, h2⟩, h3⟩ := h
    have e : cbit (pw t) = pw (t + 1) := by
      show cbit (cbits t 1) = cbits (t + 1) 1
      rw [cbits_add]; rfl
    rw [e] at h3
    obtain ⟨a, b, c⟩ := ih (t + 1) (pw t :: seen) h3
    have hn : pw t ∉ seen := by
      intro hm
      simp at h2
      have := h2 _ hm
      simp at this
    refine ⟨?_, ?_, ?_⟩
    · intro i hi
      cases i with
      | zero => exact h1
      | succ i => rw [show t + (i + 1) = t + 1 + i by omega]; exact a i (by omega)
    · intro i hi
      cases i with
      | zero => exact hn
      | succ i =>
        rw [show t + (i + 1) = t + 1 + i by omega]
        exact fun hm => b i (by omega) (List.mem_cons_of_mem _ hm)
    · intro i j hij hj
      cases j with
      | zero => omega
      | succ j =>
        cases i with
        | zero =>
          rw [show t + (j + 1) = t + 1 + j by omega]
          exact fun hm => b j (by omega) (by rw [← hm]; exact List.mem_cons_self ..)
        | succ i =>
          rw [show t + (i + 1) = t + 1 + i by omega, show t + (j + 1) = t + 1 + j by omega]
          exact c i j (by omega) (by omega)

theorem pw_all : pwOk 400 (pw 0) [] = true := by decide +kernel

theorem cbits_zero (n : Nat) : cbits n 0 = 0 := by
  induction n with
  | zero => rfl
  | succ n ih => exact ih

theorem cbyte_none (v : Nat) : cbyte v 0 = cbits 8 v := by
  unfold cbyte
  rw [Nat.zero_mul, Nat.xor_zero]

theorem cbyte_first (v : Nat) : cbyte 0 v = cbits 8 (v * 256) := by
  unfold cbyte
  rw [Nat.zero_xor]

theorem xor_same {a b : Nat} (h : a ^^^ b = 0) : a = b := by
  have := congrArg (fun x => x ^^^ b) h
  simpa [Nat.xor_assoc] using this

/-- a difference in the register stays, doubled eight times a byte -/
theorem crc_shift : ∀ (l : List Nat) (u v : Nat), u < 65536 → v < 65536 → (∀ b ∈ l, b < 256) → crc (u ^^^ v) l = crc u l ^^^ cbits (8 * l.length) v := by
  intro l
  induction l with
  | nil => intro u v _ _ _; rw [crc_nil, crc_nil]; rfl
  | cons b l ih =>
    intro u v hu hv hl
    have hb := hl b (List.mem_cons_self ..)
    have e : cbyte (u ^^^ v) b = cbyte u b ^^^ cbits 8 v := by
      have h := cbyte_xor u v b 0 hu hv hb (by decide)
      rw [Nat.xor_zero, cbyte_none v] at h
      exact h
    have e3 : 8 + 8 * l.length = 8 * (b :: l).length := by rw [List.length_cons]; omega
    have h := ih (cbyte u b) (cbits 8 v) (cbyte_lt u b hu hb) (cbits_lt 8 v hv) (fun c hc => hl c (List.mem_cons_of_mem _ hc))
    rw [← cbits_add 8 (8 * l.length) v, e3] at h
    rw [crc_cons, crc_cons, e]
    exact h

/-- the powers below 2^16 -/
theorem pw_small : ∀ t, t < 16 → pw t = 2 ^ t := by decide +kernel

theorem pw_add (t n : Nat) : cbits n (pw t) = pw (t + n) := by
  show cbits n (cbits t 1) = cbits (t + n) 1
  rw [cbits_add]

/-- a bit changed: the byte at p / 8, the bit with the value 2^(p mod 8) -/
def flipL (l : List Nat) (p : Nat) : List Nat := l.set (p / 8) (l.getD (p / 8) 0 ^^^ 2 ^ (p % 8))

theorem flipL_length (l : List Nat) (p : Nat) : (flipL l p).length = l.length := by simp [flipL]

theorem bit_lt (p : Nat) : 2 ^ (p % 8) < 256 := Nat.pow_lt_pow_right (by decide) (show p % 8 < 8 by omega)

theorem flipL_byte {l : List Nat} (h : ∀ b ∈ l, b < 256) (p : Nat) : ∀ b ∈ flipL l p, b < 256 := by
  intro b hb
  unfold flipL at hb
  rcases List.mem_or_eq_of_mem_set hb with hb | rfl
  · exact h b hb
  · refine Nat.xor_lt_two_pow (n := 8) ?_ (bit_lt p)
    rw [List.getD_eq_getElem?_getD]
    cases hq : l[p / 8]? with
    | none => simp
    | some c => simpa using h c (List.mem_of_getElem? hq)

/-- what a changed bit does to the checksum of the whole -/
theorem crc_flip : ∀ (l : List Nat) (x p : Nat), x < 65536 → (∀ b ∈ l, b < 256) → p < 8 * l.length → crc x (flipL l p) = crc x l ^^^ pw (16 + p % 8 + 8 * (l.length - 1 - p / 8)) := by
  intro l
  induction l with
  | nil => intro x p _ _ h; simp at h
  | cons b l ih =>
    intro x p hx hl hp
    have hb := hl b (List.mem_cons_self ..)
    have hl' := fun c hc => hl c (List.mem_cons_of_mem b hc)
    by_cases h8 : p < 8
    · have e0 : p / 8 = 0 := by omega
      have e1 : flipL (b :: l) p = (b ^^^ 2 ^ (p % 8)) :: l := by unfold flipL; rw [e0]; rfl
      have e2 : cbyte x (b ^^^ 2 ^ (p % 8)) = cbyte x b ^^^ pw (16 + p % 8) := by
        have h := cbyte_xor x 0 b (2 ^ (p % 8)) hx (by decide) hb (bit_lt p)
        have e3 : 2 ^ (p % 8) * 256 = pw (8 + p % 8) := by rw [pw_small _ (by omega), Nat.pow_add, Nat.mul_comm]
        rw [Nat.xor_zero, cbyte_first, e3, pw_add, show 8 + p % 8 + 8 = 16 + p % 8 by omega] at h
        exact h
      have h := crc_shift l (cbyte x b) (pw (16 + p % 8)) (cbyte_lt x b hx hb) (pw_lt _) hl'
      rw [pw_add] at h
      rw [e1, crc_cons, crc_cons, e2, h, e0, show 16 + p % 8 + 8 * l.length = 16 + p % 8 + 8 * ((b :: l).length - 1 - 0) by rw [List.length_cons]; omega]
    · have e1 : flipL (b :: l) p = b :: flipL l (p - 8) := by
        unfold flipL
        rw [show p / 8 = (p - 8) / 8 + 1 by omega, show (p - 8) % 8 = p % 8 by omega]
        rfl
      have h := ih (cbyte x b) (p - 8) (cbyte_lt x b hx hb) hl' (by rw [List.length_cons] at hp; omega)
      rw [show 16 + (p - 8) % 8 + 8 * (l.length - 1 - (p - 8) / 8) = 16 + p % 8 + 8 * ((b :: l).length - 1 - p / 8) by rw [List.length_cons]; omega] at h
      rw [e1, crc_cons, crc_cons]
      exact h

theorem pw_facts : (∀ i, i < 400 → par (pw i) = true) ∧ ∀ i j, i < j → j < 400 → pw i ≠ pw j := by
  obtain ⟨a, _, c⟩ := pwOk_says 400 0 [] pw_all
  refine ⟨fun i hi => ?_, fun i j hij hj => ?_⟩
  · have := a i hi; rwa [Nat.zero_add] at this
  · have := c i j hij hj; rwa [Nat.zero_add, Nat.zero_add] at this

theorem pw_ne {i j : Nat} (hi : i < 400) (hj : j < 400) (h : i ≠ j) : pw i ≠ pw j := by
  rcases Nat.lt_or_gt_of_ne h with q | q
  · exact pw_facts.2 i j q hj
  · exact fun e => pw_facts.2 j i q hi e.symm

theorem flip_twice (l : List Nat) (p : Nat) (hp : p < 8 * l.length) : flipL (flipL l p) p = l := by
  unfold flipL
  rw [List.set_set]
  have hlt : p / 8 < l.length := by omega
  have e : (l.set (p / 8) (l.getD (p / 8) 0 ^^^ 2 ^ (p % 8))).getD (p / 8) 0 = l.getD (p / 8) 0 ^^^ 2 ^ (p % 8) := by
    rw [List.getD_eq_getElem?_getD, List.getElem?_set_self hlt]; rfl
  rw [e, Nat.xor_assoc, Nat.xor_self, Nat.xor_zero, List.getD_eq_getElem?_getD, List.getElem?_eq_getElem hlt]
  simp

theorem flip_comm (l : List Nat) (p q : Nat) : flipL (flipL l p) q = flipL (flipL l q) p := by
  by_cases h : p / 8 = q / 8
  · unfold flipL
    rw [h, List.set_set, List.set_set]
    by_cases hlt : q / 8 < l.length
    · rw [List.getD_eq_getElem?_getD, List.getElem?_set_self hlt, List.getD_eq_getElem?_getD, List.getD_eq_getElem?_getD, List.getElem?_set_self hlt]
      simp only [Option.getD_some]
      congr 1
      rw [Nat.xor_assoc, Nat.xor_assoc, Nat.xor_comm (2 ^ (p % 8))]
    · rw [List.set_eq_of_length_le (by omega), List.set_eq_of_length_le (by omega)]
  · unfold flipL
    have e1 : (l.set (p / 8) (l.getD (p / 8) 0 ^^^ 2 ^ (p % 8))).getD (q / 8) 0 = l.getD (q / 8) 0 := by
      rw [List.getD_eq_getElem?_getD, List.getElem?_set_ne h, ← List.getD_eq_getElem?_getD]
    have e2 : (l.set (q / 8) (l.getD (q / 8) 0 ^^^ 2 ^ (q % 8))).getD (p / 8) 0 = l.getD (p / 8) 0 := by
      rw [List.getD_eq_getElem?_getD, List.getElem?_set_ne (Ne.symm h), ← List.getD_eq_getElem?_getD]
    rw [e1, e2, List.set_comm _ _ h]

/-- one, two or three changed bits are noticed, or the list is as it was -/
theorem flips_noticed (l : List Nat) (ps : List Nat) (hb : ∀ b ∈ l, b < 256) (hn : l.length ≤ 42) (h0 : crc 65535 l = 0) (hp : ∀ p ∈ ps, p < 8 * l.length) (hk : ps.length ≤ 3) (hz : crc 65535 (ps.foldl flipL l) = 0) : ps.foldl flipL l = l := by
  have T : ∀ p, p < 8 * l.length → 16 + p % 8 + 8 * (l.length - 1 - p / 8) < 400 := fun p h => by omega
  match ps, hk with
  | [], _ => rfl
  | [p], _ =>
    exfalso
    have h1 := hp p (by simp)
    simp only [List.foldl_cons, List.foldl_nil] at hz
    rw [crc_flip l _ p (by decide) hb h1, h0, Nat.zero_xor] at hz
    have := pw_facts.1 _ (T p h1)
    rw [hz] at this
    exact absurd this (by decide)
  | [p, q], _ =>
    have h1 := hp p (by simp)
    have h2 := hp q (by simp)
    simp only [List.foldl_cons, List.foldl_nil] at hz ⊢
    by_cases e : p = q
    · subst e; exact flip_twice l p h1
    · exfalso
      rw [crc_flip _ _ q (by decide) (flipL_byte hb p) (by rw [flipL_length]; exact h2), crc_flip l _ p (by decide) hb h1, h0, Nat.zero_xor, flipL_length] at hz
      exact pw_ne (T p h1) (T q h2) (by omega) (xor_same hz)
  | [p, q, r], _ =>
    have h1 := hp p (by simp)
    have h2 := hp q (by simp)
    have h3 := hp r (by simp)
    simp only [List.foldl_cons, List.foldl_nil] at hz ⊢
    exfalso
    rw [crc_flip _ _ r (by decide) (flipL_byte (flipL_byte hb p) q) (by rw [flipL_length, flipL_length]; exact h3), crc_flip _ _ q (by decide) (flipL_byte hb p) (by rw [flipL_length]; exact h2), crc_flip l _ p (by decide) hb h1, h0, Nat.zero_xor, flipL_length, flipL_length] at hz
    try rw [flipL_length] at hz
    have a := pw_facts.1 _ (T p h1)
    have b := pw_facts.1 _ (T q h2)
    have c := pw_facts.1 _ (T r h3)
    have d := congrArg par hz
    rw [par_xor, par_xor, a, b, c] at d
    exact absurd d (by decide)

theorem cbit_zero {x : Nat} (hz : cbit x = 0) : x = 0 := by
  unfold cbit at hz
  by_cases hb : 65535 < x * 2
  · rw [if_pos hb] at hz
    have := xor_same hz
    omega
  · rw [if_neg hb] at hz; omega

theorem cbits_zero_of {n : Nat} : ∀ {x : Nat}, cbits n x = 0 → x = 0 := by
  induction n with
  | zero => intro x h; exact h
  | succ n ih => intro x h; exact cbit_zero (ih (show cbits n (cbit x) = 0 from h))

theorem cbits_byte : ∀ b, b < 256 → cbits 8 b = b * 256 := by decide +kernel

theorem high_low (h lo : Nat) (hl : lo < 256) : h * 256 ^^^ lo = h * 256 + lo := by
  apply Nat.eq_of_testBit_eq
  intro i
  rw [show h * 256 + lo = 2 ^ 8 * h + lo by omega, Nat.testBit_two_pow_mul_add h (show lo < 2 ^ 8 from hl), Nat.testBit_xor, show h * 256 = h * 2 ^ 8 from rfl, Nat.testBit_mul_two_pow]
  by_cases hi : i < 8
  · have : ¬ 8 ≤ i := by omega
    simp [hi, this]
  · have h8 : 8 ≤ i := by omega
    have : lo.testBit i = false := Nat.testBit_lt_two_pow (Nat.lt_of_lt_of_le hl (show 2 ^ 8 ≤ 2 ^ i from Nat.pow_le_pow_right (n := 2) (by decide) h8))
    simp [hi, h8, this]

/-- two bytes more: the difference to the number that they are -/
theorem crc_tail (x h lo : Nat) (hx : x < 65536) (hh : h < 256) (hl : lo < 256) : crc x [h, lo] = cbits 16 (x ^^^ (h * 256 + lo)) := by
  have e1 : cbyte (cbyte x h) lo = cbits 8 (cbits 8 (x ^^^ h * 256) ^^^ lo * 256) := rfl
  have e2 : cbits 8 (x ^^^ h * 256) ^^^ lo * 256 = cbits 8 (x ^^^ (h * 256 + lo)) := by
    rw [← cbits_byte lo hl, ← cbits_xor 8 _ _ (Nat.xor_lt_two_pow (n := 16) hx (by omega)) (by omega), Nat.xor_assoc, high_low h lo hl]
  rw [crc_cons, crc_cons, crc_nil, e1, e2, ← cbits_add]

/-- a list with two bytes behind it leaves nothing exactly if they are its checksum -/
theorem crc_valid (l : List Nat) (h lo : Nat) (hb : ∀ b ∈ l, b < 256) (hh : h < 256) (hl : lo < 256) : crc 65535 (l ++ [h, lo]) = 0 ↔ crc 65535 l = h * 256 + lo := by
  rw [crc_append, crc_tail _ h lo (crc_lt l _ (by decide) hb) hh hl]
  constructor
  · intro hz
    exact xor_same (cbits_zero_of hz)
  · intro e
    rw [e, Nat.xor_self]
    exact cbits_zero 16

end Go.Proofs.Ytokpmbagidokkac
