/-
  Contract of the model's DrawPacket: a valid packet.
-/
import Derived.Test.YtokpmbagidokkaaDrawPk2
import Derived.Test.YtokpmbagidokkaaBig
namespace Go.Proofs.Ytokpmbagidokkaa
open Go Go.RowKit

theorem bytes_kept {w w' : World} {a : Option Addr} {len : Nat} {zs : List Int} (h : Bytes w a len zs) (g : w.grownBy w' none) : Bytes w' a len zs := by
  rcases h with h0 | ⟨b, off, ha, hk⟩
  · exact .inl h0
  · exact .inr ⟨b, off, ha, fun k hlt => ⟨g.cell (hk k hlt).1 (by simp), (hk k hlt).2⟩⟩

set_option maxRecDepth 8000 in
set_option maxHeartbeats 2000000 in
theorem drawPacket_any (w : World) (a : Option Addr) (len cap : Nat) (zs : List Int) (hB : Bytes w a len zs) (hl : len ≤ 1048576) :
    Calls Try.prog 16 #[.slice a len cap] w fun e w' => ∃ k f t a l g s d len cap xs, e = .returned (pkV k f t a l g s d len cap) ∧ PkOk k f t a l g s xs ∧ ISl w' d len xs ∧ len ≤ 8 ∧ w.grownBy w' none := by
  have HB := Lib.hid hB
  clear hB
  go_enter Try.func16, Try.ntmps16
  go_wp2_with fail
  go_at_call 50
  refine (new_any _ _ _ _ _ (bytes_kept HB.out (gby_alloc (gby_refl _ _) _)) hl).mono ?_
  rintro e w1 ⟨c, rfl, hc, H1, G1⟩
  have hr1 := row_later G1 (heap_alloc_new w _)
  have hc' : w.heap.size < c := by simp only [World.size_alloc] at hc; omega
  have HR1 := Lib.hid hr1
  have HG1 := Lib.hid (gby_trans (gby_alloc (gby_refl w none) _) G1)
  clear G1 hr1 hc
  go_wp2_with fail
  go_at_call 49
  refine (l04Packet_any _ _ H1).mono ?_
  rintro e w2 ⟨k, f, t, a', l, g, s, d, n, cp, xs, rfl, hf, hx, hk, hi, hfar, H2, G2⟩
  have HG2 := Lib.hid (gby_own HG1.out G2 (by omega))
  have hr2 := (G2.block w.heap.size (block_there HR1.out) (fun e => by have := Option.some.inj e; omega)).trans HR1.out
  obtain ⟨r0, r1, r2, r3, r4, r5, r6, r7⟩ := cells_pk hr2
  have z0 := frozen_of_row w2 _ 0 _ _ hr2
  have z1 := frozen_of_row w2 _ 1 _ _ hr2
  have z2 := frozen_of_row w2 _ 2 _ _ hr2
  have z3 := frozen_of_row w2 _ 3 _ _ hr2
  have z4 := frozen_of_row w2 _ 4 _ _ hr2
  have z5 := frozen_of_row w2 _ 5 _ _ hr2
  have z6 := frozen_of_row w2 _ 6 _ _ hr2
  have z7 := frozen_of_row w2 _ 7 _ _ hr2
  have hlen := hi.1
  have h8 : n ≤ 8 := by
    rcases hk with ⟨_, h⟩ | ⟨_, h⟩ | ⟨_, h⟩ | ⟨_, h⟩ | ⟨_, h⟩ | ⟨_, h⟩
    · unfold W1 at h; omega
    · unfold W2 at h; omega
    · unfold W3 at h; omega
    · unfold W4 at h; omega
    · unfold W5 at h; omega
    · unfold W6 at h; omega
  have HP := Lib.hid (show PkOk k f t a' l g s xs from ⟨hf, hx, by rw [hlen] at hk; exact hk⟩)
  have HI := Lib.hid hi
  have HFAR := Lib.hid hfar
  have hlt1 := block_there HR1.out
  clear G2 H2 hi hk hx hf hlen hr2 hfar
  unfold pkV
  go_wp2
  refine bodyPost_ret (v := pkV k f t a' l g s d n cp) (by simp [results, go_sem, pkV, r0, r1, r2, r3, r4, r5, r6, r7]) rfl ⟨k, f, t, a', l, g, s, d, n, cp, xs, rfl, HP.out, ?_, h8, ?_⟩
  · have G : w2.grownBy _ (some w.heap.size) := gby_set (gby_set (gby_set (gby_set (gby_set (gby_set (gby_set (gby_set (gby_refl w2 (some w.heap.size)) 0 (.int .i64 k)) 1 (.int .i64 f)) 2 (.int .i64 t)) 3 (.int .i64 a')) 4 (.int .i64 l)) 5 (.int .i64 g)) 6 (.int .i64 s)) 7 (.slice d n cp)
    exact HI.out.keptBy G (fun p hp e => by have := Option.some.inj e; have := HFAR.out p hp; omega)
  · iterate 8 (with_reducible refine gby_setnew ?_ _ (Nat.le_refl _) _)
    exact HG2.out

end Go.Proofs.Ytokpmbagidokkaa
