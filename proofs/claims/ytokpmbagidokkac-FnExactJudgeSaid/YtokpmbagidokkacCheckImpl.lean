/-
  Contracts of the program's CheckOf, AddCheck, TakeCheck.
-/
import Derived.Test.YtokpmbagidokkacTabImpl
import Derived.Test.YtokpmbagidokkacChkImpl
namespace Go.Proofs.Ytokpmbagidokkac
open Go Go.RowKit

theorem join_zero (h : Int) (W : World) (h0 : 0 ≤ h) (h1 : h ≤ 255) : Calls Try.prog 115 #[.int .i64 h, .int .i64 0] W (Ans (.int .i64 (h * 256)) W) := by
  refine (join_any h 0 W h0 h1 (by omega) (by omega)).mono ?_
  rintro e w ⟨rfl, hd⟩
  exact ⟨ret_i64 (by omega), hd⟩

theorem implCheck_out (W : World) (v : Value) (xs : List Int) (H : RdI W v xs) (hl : xs.length ≤ 1048576) (hb : ¬ AreB xs) :
    Calls Try.prog 90 #[v] W (AnsN (.int .i64 (-1)) W) := by
  obtain ⟨a, cap, rfl, hi, _⟩ := H
  have hd : decide (AreB xs) = false := decide_eq_false hb
  have HI := Lib.hid hi
  clear hi hb
  go_enter Try.func90, Try.ntmps90
  go_wp2_with fail
  go_at_call 88
  refine (implBytes_any _ _ _ _ _ HI.out (by omega)).mono ?_
  rw [hd]
  rintro e w' ⟨rfl, rfl⟩
  go_wp2
  go_ret
  exact ⟨rfl, gby_refl _ _⟩

/-- the table laid into a local array -/
theorem stored_table (w : World) : (storeCells ⟨w.heap.size, 0, none⟩ tabV.toList).run Try.prog (w.alloc (.cells Try.zeroCells130 130)) = .ok () ((w.alloc (.cells Try.zeroCells130 130)).setRow w.heap.size tabV) := by
  have h := run_storeCells_at (P := Try.prog) w.heap.size 0 130 tabV.toList 0 Try.zeroCells130 (w.alloc (.cells Try.zeroCells130 130)) (heap_alloc_new _ _) (by rw [zeros_size]; simp [tabV]) (by intro v hv; simp [tabV] at hv; obtain ⟨a, _, rfl⟩ := hv; rfl)
  rw [h]
  have e : (Try.zeroCells130.toList.drop (0 + 0 + tabV.toList.length)) = [] := by
    apply List.drop_eq_nil_of_le
    rw [Array.length_toList, zeros_size]; simp [tabV]
  rw [e, List.append_nil, Nat.add_zero, List.take_zero, List.nil_append, Array.toArray_toList]

/-- a world with the table in a block -/
def TabAt (w w' : World) : Prop := w'.heap[w.heap.size]? = some (.cells tabV 130 (0, 0)) ∧ w.grownBy w' none
theorem table_world (w : World) : TabAt w ((w.alloc (.cells Try.zeroCells130 130)).setRow w.heap.size tabV) := by
  have g := gby_alloc (gby_refl w none) (.cells Try.zeroCells130 130)
  exact ⟨setRow_heap _ _ _ _ _ _ (heap_alloc_new _ _), g.os, g.tape, g.output, by simp [World.setRow], fun k hk hn => (setRow_other _ _ k _ (by omega)).trans (g.block k hk hn)⟩

set_option maxRecDepth 20000 in
set_option maxHeartbeats 2000000 in
theorem implCheck_in (W : World) (v : Value) (xs : List Int) (H : RdI W v xs) (hb : AreB xs) :
    Calls Try.prog 90 #[v] W (AnsN (.int .i64 (crc 65535 (toN xs) : Int)) W) := by
  obtain ⟨a, cap, rfl, hi, _⟩ := H
  have hd : decide (AreB xs) = true := decide_eq_true hb
  have HB := Lib.hid hb
  have h40 := hb.2
  obtain ⟨len, hlen⟩ : ∃ n, n = xs.length := ⟨_, rfl⟩
  rw [← hlen] at hi h40 ⊢
  have HI := Lib.hid hi
  clear hi hb hlen
  go_enter Try.func90, Try.ntmps90
  go_wp2_with fail
  go_at_call 88
  refine (implBytes_any _ _ _ _ _ HI.out (by omega)).mono ?_
  rw [hd]
  rintro e w' ⟨rfl, rfl⟩
  clear hd
  go_wp2_with fail
  go_at_call 114
  refine (remainders_any _).mono ?_
  rintro e w2 ⟨rfl, g2⟩
  have HG2 := Lib.hid g2
  clear g2
  have hst := stored_table w2
  have hw3 := table_world w2
  generalize (w2.alloc (.cells Try.zeroCells130 130)).setRow w2.heap.size tabV = w3 at hst hw3
  have HW := Lib.hid hw3
  clear hw3
  have HW3 := Lib.hid (gby_trans HG2.out HW.out.2)
  go_wp2_with fail
  clear hst
  go_loopw [4, 15] (fun x i wr => ∃ k : Nat, k ≤ len ∧ i = .int .i64 (k : Int) ∧ x = .int .i64 (crc 65535 (toN (xs.take k)) : Int) ∧ Drew w3 wr) (fun _ i _ => len - (intOf i).toNat)
  case atStart => exact ⟨0, Nat.zero_le _, rfl, rfl, Drew.refl _⟩
  case round =>
    obtain ⟨k, hk, rfl, rfl, hdr⟩ := hrel
    have HD := Lib.hid hdr
    clear hdr
    by_cases hlt : k < len
    · have hki : (k : Int) < (len : Int) := by omega
      have hkx : k < xs.length := by have := HI.out.1; omega
      have hk0 : (0 : Int) ≤ (k : Int) := by omega
      have htn : ((k : Int)).toNat = k := by omega
      obtain ⟨b, off, rfl, hcell⟩ := HI.out.2.resolve_left (by omega)
      have hc := (HD.out.gby none).cell (HW3.out.cell (hcell k hlt) (by simp)) (by simp)
      clear hcell
      have hv := areB_at HB.out hkx
      obtain ⟨v, hvn⟩ : ∃ v : Nat, xs.getD k 0 = (v : Int) := ⟨(xs.getD k 0).toNat, by omega⟩
      have hs := toN_take_snoc xs k hkx
      rw [hvn] at hc hv hs
      rw [show ((v : Int)).toNat = v by omega] at hs
      have hcl := crc_lt (toN (xs.take k)) 65535 (by decide) (toN_byte (fun x hx => HB.out.1 x (List.mem_of_mem_take hx)))
      have hn : crc 65535 (toN (xs.take (k + 1))) = cbyte (crc 65535 (toN (xs.take k))) v := by rw [hs, crc_append, crc_cons, crc_nil]
      obtain ⟨c, hcn⟩ : ∃ c : Nat, c = crc 65535 (toN (xs.take k)) := ⟨_, rfl⟩
      rw [← hcn] at hcl hn ⊢
      have hct := cbyte_tab c v hcl (by omega)
      obtain ⟨j, hj⟩ : ∃ j, j = (c / 256) ^^^ v := ⟨_, rfl⟩
      have hj256 : j < 256 := by rw [hj]; exact xor_byte (by omega) (by omega)
      rw [← hj] at hct
      have hx1 : bits .xor .i64 ((c : Int) / 256) (v : Int) = (j : Int) := by
        have q := xor_nat (c / 256) v (by omega) (by omega)
        rw [← hj] at q
        rw [← q]; congr 1
      have htj := tab_lt j hj256
      have hx2 : bits .xor .i64 ((c : Int) % 256 * 256) (tab j : Int) = ((cbyte c v : Nat) : Int) := by
        have q := xor_nat (c % 256 * 256) (tab j) (by omega) (by omega)
        rw [← hct] at q
        rw [← q]; congr 1
      have htc := (HD.out.gby none).cell (cell_of_row w3 w2.heap.size j tabV _ _ HW.out.1 |>.trans (tabV_at j hj256)) (by simp)
      have hj0 : (0 : Int) ≤ (j : Int) := by omega
      have hj1 : (j : Int) < 256 := by omega
      have htj2 : ((j : Int)).toNat = j := by omega
      obtain ⟨y, hy⟩ : ∃ y, y = cbyte c v := ⟨_, rfl⟩
      rw [← hy] at hx2 hn
      obtain ⟨z, hz⟩ : ∃ z, z = tab j := ⟨_, rfl⟩
      rw [← hz] at hx2 htc
      have HN := Lib.hid hn
      have hc0 : (0 : Int) ≤ (c : Int) := by omega
      have hc1 : (c : Int) ≤ 65535 := by omega
      have HJ := Lib.hid (fun W => join_zero ((c : Int) % 256) W (by omega) (by omega))
      clear hs hn hct hcn hvn hj hy hz hv hcl htj
      go_wp2_with fail
      go_at_call 89
      refine (implSplit_in (c : Int) _ hc0 hc1).mono ?_
      rintro e w4 ⟨rfl, n, rfl⟩
      go_wp2_with fail
      go_quiet ((go_at_call 115; exact ans_quiet_at HJ.out))
      go_wp2
      exact ⟨⟨k + 1, by omega, by go_num, by rw [HN.out], by repeat (first | exact HD.out | apply Drew.drewN)⟩, by simp [intOf]; omega⟩
    · have hki : ¬ (k : Int) < (len : Int) := by omega
      have hkx : k = xs.length := by have := HI.out.1; omega
      have HK := Lib.hid (show xs.take k = xs by rw [hkx]; exact List.take_length)
      clear hkx
      go_wp2
      go_ret
      exact ⟨ret_i64 (by rw [HK.out]), gby_trans HW3.out (HD.out.gby none)⟩

end Go.Proofs.Ytokpmbagidokkac
