/-
  Contracts of the model's cursor over drawn bytes (l01New, l01Byte, l01Below, l01Once): each returns a number in its range, and writes to the cursor's own block alone.
-/
import Derived.Test.YtomiicegkdogkaaProg
import Derived.Test.YtomiicegkdogkaaPlain
import Derived.Test.YtomiicegkdogkaaI64
import Derived.Deep.QuietTactic
import Derived.BigQuiet
import Derived.LoopTactic
namespace Go.Proofs.Ytomiicegkdogkaa
open Go Go.RowKit

/-- the cursor lies in block c; the bytes that it goes over can be read, and lie elsewhere -/
def Cur (w : World) (c : Nat) : Prop := ∃ (a : Option Addr) (len cap i : Nat) (h : Int) (zs : List Int),
  w.heap[c]? = some (.cells #[.slice a len cap, .int .i64 (i : Int), .int .i64 h] 126 (0, 0)) ∧ len ≤ 140737488355328 ∧
  (len = 0 ∨ ∃ b off, a = some ⟨b, off, none⟩ ∧ b < c ∧ ∀ k, k < len → w.cell? ⟨b, off + k, none⟩ = some (.int .u8 (zs.getD k 0)) ∧ 0 ≤ zs.getD k 0 ∧ zs.getD k 0 ≤ 255)

/-- what a draw leaves: a number with P, and the world but for the cursor's block and new blocks -/
def Drawn (P : Int → Prop) (w : World) (c : Nat) (e : Ending) (w' : World) : Prop := ∃ n : Int, P n ∧ e = .returned (.int .i64 n) ∧ Cur w' c ∧ w.grownBy w' (some c)

theorem cur_lt {w : World} {c : Nat} (h : Cur w c) : c < w.heap.size := by
  obtain ⟨a, len, cap, i, h, zs, hb, _⟩ := h
  exact lt_of_block hb

/-- the cursor behind a change of its two numbers and of new blocks -/
theorem cur_step {w w' : World} {c : Nat} {a : Option Addr} {len cap i' : Nat} {h' : Int} {zs : List Int}
    (hb : w'.heap[c]? = some (.cells #[.slice a len cap, .int .i64 (i' : Int), .int .i64 h'] 126 (0, 0))) (hl : len ≤ 140737488355328)
    (hr : len = 0 ∨ ∃ b off, a = some ⟨b, off, none⟩ ∧ b < c ∧ ∀ k, k < len → w.cell? ⟨b, off + k, none⟩ = some (.int .u8 (zs.getD k 0)) ∧ 0 ≤ zs.getD k 0 ∧ zs.getD k 0 ≤ 255)
    (hg : w.grownBy w' (some c)) : Cur w' c := by
  refine ⟨a, len, cap, i', h', zs, hb, hl, ?_⟩
  rcases hr with h0 | ⟨b, off, ha, hne, hk⟩
  · exact .inl h0
  · exact .inr ⟨b, off, ha, hne, fun k hlt => ⟨hg.cell (hk k hlt).1 (by simp; omega), (hk k hlt).2⟩⟩

/-- the cursor stays while a block behind it is written, or blocks are made -/
theorem cur_other {w w' : World} {c : Nat} {r : Option Nat} (h : Cur w c) (hg : w.grownBy w' r) (hr : ∀ b, r = some b → c < b) : Cur w' c := by
  obtain ⟨a, len, cap, i, h, zs, hb, hl, hrow⟩ := h
  have hc := lt_of_block hb
  refine ⟨a, len, cap, i, h, zs, (hg.block c hc (fun e => by have := hr c e.symm; omega)).trans hb, hl, ?_⟩
  rcases hrow with h0 | ⟨b, off, ha, hne, hk⟩
  · exact .inl h0
  · exact .inr ⟨b, off, ha, hne, fun k hlt => ⟨hg.cell (hk k hlt).1 (fun e => by have := hr b e.symm; omega), (hk k hlt).2⟩⟩
theorem cur_kept {w w' : World} {c : Nat} {r : Option Nat} (h : Cur w c) (hg : w.grownBy w' r) (hr : ∀ b, r = some b → w.heap.size ≤ b) : Cur w' c :=
  cur_other h hg (fun b hb => Nat.lt_of_lt_of_le (cur_lt h) (hr b hb))

set_option maxHeartbeats 400000 in
theorem byte_any (w : World) (c : Nat) (H : Cur w c) :
    Calls Try.prog 113 #[.pointer (some ⟨c, 0, none⟩)] w (Drawn (fun n => 0 ≤ n ∧ n ≤ 255) w c) := by
  obtain ⟨a, len, cap, i, h, zs, hb, hl, hr⟩ := H
  have h0 : w.cell? ⟨c, 0, none⟩ = some (.slice a len cap) := by simp [World.cell?, hb]
  have h1 : w.cell? ⟨c, 1, none⟩ = some (.int .i64 i) := by simp [World.cell?, hb]
  have h2 : w.cell? ⟨c, 2, none⟩ = some (.int .i64 h) := by simp [World.cell?, hb]
  have f1 : w.frozen? ⟨c, 1, none⟩ = false := by simp [World.frozen?, hb]
  have f2 : w.frozen? ⟨c, 2, none⟩ = false := by simp [World.frozen?, hb]
  have HB := Lib.hid hb
  have HR := Lib.hid hr
  clear hb hr
  by_cases hi : i < len
  · obtain ⟨b, off, rfl, hbc, hk⟩ : ∃ b off, a = some ⟨b, off, none⟩ ∧ b < c ∧ ∀ k, k < len → w.cell? ⟨b, off + k, none⟩ = some (.int .u8 (zs.getD k 0)) ∧ 0 ≤ zs.getD k 0 ∧ zs.getD k 0 ≤ 255 := by
      rcases HR.out with h0 | h0
      · omega
      · exact h0
    obtain ⟨hcell, hz0, hz1⟩ := hk i hi
    clear hk
    generalize zs.getD i 0 = z at hcell hz0 hz1
    have hii : (i : Int) < (len : Int) := by omega
    have hi0 : (0 : Int) ≤ (i : Int) := by omega
    have htn : ((i : Int)).toNat = i := by omega
    have hne : b ≠ c := by omega
    have hne2 : ¬ c = b := fun e => hne e.symm
    clear hbc
    go_enter Try.func113, Try.ntmps113
    go_wp2
    go_quiet (fail)
    go_wp2
    go_quiet (fail)
    go_wp2
    go_quiet (fail)
    go_wp2
    go_ret
    refine ⟨_, and_low _ 255 (by omega), rfl, ?_, ?_⟩
    · exact cur_step (w := w) (i' := i + 1) (heap_setCell_same _ _ _ _ _ _ (heap_behind_draws _ (heap_setCell_same _ _ _ _ _ _ HB.out))) hl HR.out (by repeat (first | exact gby_refl _ _ | apply gby_drewN | apply gby_set))
    · repeat (first | exact gby_refl _ _ | apply gby_drewN | apply gby_set)
  · go_enter Try.func113, Try.ntmps113
    go_wp2
    go_quiet (fail)
    go_wp2
    go_quiet (fail)
    go_wp2
    go_ret
    refine ⟨_, and_low _ 255 (by omega), rfl, ?_, ?_⟩
    · exact cur_step (w := w) (i' := i) (heap_behind_draws _ (heap_behind_draws _ (heap_setCell_same _ _ _ _ _ _ HB.out))) hl HR.out (by repeat (first | exact gby_refl _ _ | apply gby_drewN | apply gby_set))
    · repeat (first | exact gby_refl _ _ | apply gby_drewN | apply gby_set)

theorem drawn_lt {w w' : World} {c : Nat} (hg : w.grownBy w' (some c)) (h : c < w.heap.size) : c < w'.heap.size := Nat.lt_of_lt_of_le h hg.size

set_option maxHeartbeats 400000 in
/-- a number below n, for n from 1 to 256 -/
theorem below_small (w : World) (c : Nat) (n : Int) (H : Cur w c) (hn : 0 < n) (hm : n ≤ 256) :
    Calls Try.prog 75 #[.pointer (some ⟨c, 0, none⟩), .int .i64 n] w (Drawn (fun x => 0 ≤ x ∧ x < n) w c) := by
  go_enter Try.func75, Try.ntmps75
  go_wp2_with (go_at_call 113; refine (byte_any _ _ H).mono ?_; rintro e w1 ⟨x, ⟨hx0, hx1⟩, rfl, H1, G1⟩)
  go_ret
  exact ⟨_, ⟨Int.emod_nonneg _ (by omega), Int.emod_lt_of_pos _ hn⟩, rfl, H1, G1⟩

set_option maxHeartbeats 400000 in
/-- a number below n, for n above 256 -/
theorem below_large (w : World) (c : Nat) (n : Int) (H : Cur w c) (hn : 256 < n) (hm : n ≤ 9223372036854775807) :
    Calls Try.prog 75 #[.pointer (some ⟨c, 0, none⟩), .int .i64 n] w (Drawn (fun x => 0 ≤ x ∧ x < n) w c) := by
  go_enter Try.func75, Try.ntmps75
  go_wp2_with (go_at_call 113; refine (byte_any _ _ (by assumption)).mono ?_; rintro e w1 ⟨x, ⟨hx0, hx1⟩, rfl, H1, G1⟩)
  go_ret
  exact ⟨_, ⟨Int.emod_nonneg _ (by omega), Int.emod_lt_of_pos _ (by omega)⟩, rfl, by assumption, by repeat (first | assumption | refine gby_trans (by assumption) ?_)⟩

set_option maxHeartbeats 400000 in
/-- nothing is drawn where n is not above 0 -/
theorem below_none (w : World) (c : Nat) (n : Int) (hn : n ≤ 0) :
    Calls Try.prog 75 #[.pointer (some ⟨c, 0, none⟩), .int .i64 n] w (fun e w' => e = .returned (.int .i64 0) ∧ w = w') := by
  go_enter Try.func75, Try.ntmps75
  go_wp2
  go_ret
  exact ⟨rfl, rfl⟩

/-- a number below n, for every n above 0 -/
theorem below_any (w : World) (c : Nat) (n : Int) (H : Cur w c) (hn : 0 < n) (hm : n ≤ 9223372036854775807) :
    Calls Try.prog 75 #[.pointer (some ⟨c, 0, none⟩), .int .i64 n] w (Drawn (fun x => 0 ≤ x ∧ x < n) w c) := by
  by_cases h : n ≤ 256
  · exact below_small w c n H hn h
  · exact below_large w c n H (by omega) hm

def DrawnB (w : World) (c : Nat) (e : Ending) (w' : World) : Prop := ∃ b : Bool, e = .returned (.bool b) ∧ Cur w' c ∧ w.grownBy w' (some c)

set_option maxHeartbeats 400000 in
/-- yes or no, for every n above 0 -/
theorem once_any (w : World) (c : Nat) (n : Int) (H : Cur w c) (hn : 0 < n) (hm : n ≤ 9223372036854775807) :
    Calls Try.prog 112 #[.pointer (some ⟨c, 0, none⟩), .int .i64 n] w (DrawnB w c) := by
  go_enter Try.func112, Try.ntmps112
  go_wp2_with (go_at_call 75; refine (below_any _ _ _ H hn hm).mono ?_; rintro e w1 ⟨x, ⟨hx0, hx1⟩, rfl, H1, G1⟩)
  go_ret
  exact ⟨_, rfl, H1, G1⟩

/-- the bytes of a slice can be read -/
def Bytes (w : World) (a : Option Addr) (len : Nat) (zs : List Int) : Prop :=
  len = 0 ∨ ∃ b off, a = some ⟨b, off, none⟩ ∧ ∀ k, k < len → w.cell? ⟨b, off + k, none⟩ = some (.int .u8 (zs.getD k 0)) ∧ 0 ≤ zs.getD k 0 ∧ zs.getD k 0 ≤ 255

/-- a slice of integers that came in, as the shell of a law's proof tells it -/
def RowIn (k : IntKind) (w : World) (a : Option Addr) (len cap : Nat) (zs : List Int) : Prop :=
  (a = none ∧ len = 0 ∧ cap = 0 ∧ zs = []) ∨
  ∃ x, a = some x ∧ len ≤ cap ∧ cap ≤ maxLen ∧ zs.length = cap ∧ (∀ i, i < zs.length → w.cell? (x.add i) = some (.int k (zs.getD i 0))) ∧ ∀ n ∈ zs, (Lit.int k n).wf = true

theorem bytes_of (w : World) (a : Option Addr) (len cap : Nat) (zs : List Int) (h : RowIn .u8 w a len cap zs) : Bytes w a len zs := by
  rcases h with ⟨_, h, _, _⟩ | ⟨x, rfl, h1, h2, h3, h4, h5⟩
  · exact .inl h
  · by_cases h0 : len = 0
    · exact .inl h0
    · obtain ⟨b, off, spot⟩ := x
      have hc := h4 0 (by omega)
      have hspot : spot = none := by simpa [Addr.add] using World.cell?_spot hc
      subst hspot
      refine .inr ⟨b, off, rfl, fun k hk => ⟨?_, ?_⟩⟩
      · have := h4 k (by omega)
        have e : (Addr.mk b off none).add k = ⟨b, off + k, none⟩ := by
          unfold Addr.add; split
          · rename_i hk0; have : k = 0 := by simpa using hk0
            subst this; rfl
          · rfl
        rw [e] at this; exact this
      have hlt : k < zs.length := by omega
      have hw := h5 (zs.getD k 0) (by rw [List.getD_eq_getElem?_getD, List.getElem?_eq_getElem hlt]; exact List.getElem_mem hlt)
      generalize zs.getD k 0 = z at hw
      simp [Lit.wf, IntKind.min, IntKind.max, IntKind.bits, IntKind.signed] at hw
      omega

/-- a new cursor -/
def MadeCur (w : World) (e : Ending) (w' : World) : Prop := ∃ c, e = .returned (.pointer (some ⟨c, 0, none⟩)) ∧ w.heap.size ≤ c ∧ Cur w' c ∧ w.grownBy w' none

theorem new_cur (w : World) (a : Option Addr) (len cap : Nat) (zs : List Int) (hv : Int) (hB : Bytes w a len zs) (hl : len ≤ 1048576) :
    Cur (w.alloc (.cells #[.slice a len cap, .int .i64 0, .int .i64 hv] 126)) w.heap.size := by
  refine ⟨a, len, cap, 0, hv, zs, heap_alloc_new w _, by omega, ?_⟩
  rcases hB with h0 | ⟨b, off, rfl, h2⟩
  · exact .inl h0
  · by_cases h0 : len = 0
    · exact .inl h0
    · refine .inr ⟨b, off, rfl, ?_, fun k hk => ⟨?_, (h2 k hk).2⟩⟩
      · have := World.block_lt_of_cell? w _ (h2 0 (by omega)).1
        simp at this; omega
      · exact (World.grownBy_alloc w _ none).cell (h2 k hk).1 (by simp)

set_option maxRecDepth 4000 in
set_option maxHeartbeats 400000 in
theorem new_any (w : World) (a : Option Addr) (len cap : Nat) (zs : List Int) (hB : Bytes w a len zs) (hl : len ≤ 1048576) :
    Calls Try.prog 74 #[.slice a len cap] w (MadeCur w) := by
  have HB := Lib.hid hB
  clear hB
  go_enter Try.func74, Try.ntmps74
  go_wp2
  go_loop [3, 4] (fun h i => ∃ (hv : Int) (k : Nat), k ≤ len ∧ i = .int .i64 (k : Int) ∧ h = .int .i64 hv) (fun _ i => len - (intOf i).toNat)
  case atStart => exact ⟨_, 0, Nat.zero_le _, rfl, rfl⟩
  case round =>
    obtain ⟨hv, k, hk, rfl, rfl⟩ := hrel
    by_cases hlt : k < len
    · obtain ⟨b, off, rfl, hcell, hz0, hz1⟩ : ∃ b off, a = some ⟨b, off, none⟩ ∧ w.cell? ⟨b, off + k, none⟩ = some (.int .u8 (zs.getD k 0)) ∧ 0 ≤ zs.getD k 0 ∧ zs.getD k 0 ≤ 255 := by
        rcases HB.out with h0 | ⟨b, off, h1, h2⟩
        · omega
        · exact ⟨b, off, h1, h2 k hlt⟩
      generalize zs.getD k 0 = z at hcell hz0 hz1
      have hk0 : (0 : Int) ≤ (k : Int) := by omega
      have hki : (k : Int) < (len : Int) := by omega
      have htn : ((k : Int)).toNat = k := by omega
      by_cases h4 : (k : Int) < 4000
      · have HL := Lib.hid hl
        have HK := Lib.hid hk
        have HLT := Lib.hid hlt
        clear hl hk hlt
        go_wp2
        go_round
        case rel => exact ⟨_, k + 1, HLT.out, by go_num, rfl⟩
        case measure => have := HLT.out; simp [intOf]; omega
      · go_wp2
        go_ret
        exact ⟨_, rfl, Nat.le_refl _, new_cur w _ len cap zs hv HB.out hl, gby_alloc (gby_refl _ _) _⟩
    · go_wp2
      go_ret
      exact ⟨_, rfl, Nat.le_refl _, new_cur w _ len cap zs hv HB.out hl, gby_alloc (gby_refl _ _) _⟩

theorem drawn_mono {P Q : Int → Prop} {w : World} {c : Nat} (h : ∀ n, P n → Q n) (e : Ending) (w' : World) (d : Drawn P w c e w') : Drawn Q w c e w' := by
  obtain ⟨n, hP, r⟩ := d
  exact ⟨n, h n hP, r⟩

end Go.Proofs.Ytomiicegkdogkaa
