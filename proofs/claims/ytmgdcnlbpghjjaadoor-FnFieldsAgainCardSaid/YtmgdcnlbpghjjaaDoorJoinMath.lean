/-
  Plain facts on fields joined by single spaces: they have the same fields.
-/
import Derived.Test.YtmgdcnlbpghjjaaDoorFieldsMath
namespace Go.Proofs.YtmgdcnlbpghjjaaDoor
open Go Go.RowKit Go.PlainAid

theorem bt_get (s : ByteArray) (i : Nat) : bt s i = ((s.data.toList.getD i 0).toNat : Int) := by
  unfold bt
  split
  · rename_i h
    have : s.data.toList.getD i 0 = s[i] := by
      rw [List.getD_eq_getElem?_getD, List.getElem?_eq_getElem (by simpa using h)]; rfl
    rw [this]
  · rename_i h
    rw [List.getD_eq_getElem?_getD, List.getElem?_eq_none (by simpa using h)]; rfl

theorem bt_left (a b : ByteArray) (i : Nat) (h : i < a.size) : bt (a ++ b) i = bt a i := by
  rw [bt_get, bt_get, ByteArray.data_append, Array.toList_append, List.getD_eq_getElem?_getD, List.getD_eq_getElem?_getD, List.getElem?_append_left (by simpa using h)]
theorem bt_right (a b : ByteArray) (i : Nat) : bt (a ++ b) (a.size + i) = bt b i := by
  rw [bt_get, bt_get, ByteArray.data_append, Array.toList_append, List.getD_eq_getElem?_getD, List.getD_eq_getElem?_getD, List.getElem?_append_right (by rw [Array.length_toList]; exact Nat.le_add_right _ _)]
  rw [Array.length_toList, show a.data.size = a.size from rfl, Nat.add_sub_cancel_left]

theorem extract_list (s : ByteArray) (a b : Nat) : (s.extract a b).data.toList = (s.data.toList.drop a).take (b - a) := by
  rw [ByteArray.data_extract, Array.toList_extract, List.extract_eq_take_drop]

theorem bt_extract (s : ByteArray) (a b i : Nat) (h : i < b - a) : bt (s.extract a b) i = bt s (a + i) := by
  rw [bt_get, bt_get, extract_list, List.getD_eq_getElem?_getD, List.getD_eq_getElem?_getD, List.getElem?_take_of_lt h, List.getElem?_drop]

/-- a field: not empty, no space, no byte outside the range -/
def Good (x : ByteArray) : Prop := x.size ≠ 0 ∧ x.size ≤ 600 ∧ ∀ i, i < x.size → 33 ≤ bt x i ∧ bt x i ≤ 126

/-- what is open holds no space; what is closed is a field -/
theorem fst_good (s : ByteArray) (hs : s.size ≤ 600) (hc : Clean s s.size) : ∀ k, k ≤ s.size + 1 → (∀ i, (fst s k).2 ≤ i → i < k → i < s.size → bt s i ≠ 32) ∧ ∀ x, x ∈ (fst s k).1 → Good x := by
  intro k
  induction k with
  | zero => intro _; exact ⟨fun i _ h => absurd h (Nat.not_lt_zero _), fun x hx => by simp [fst] at hx⟩
  | succ k ih =>
    intro hk
    obtain ⟨h1, h2⟩ := ih (by omega)
    have hb := fst_bounds s k
    unfold fst fstep
    by_cases hw : k < s.size ∧ bt s k ≠ 32
    · rw [if_pos hw]
      refine ⟨fun i hi hik his => ?_, h2⟩
      by_cases e : i = k
      · subst e; exact hw.2
      · exact h1 i hi (by omega) his
    · rw [if_neg hw]
      refine ⟨fun i hi hik his => ?_, ?_⟩
      · simp only [] at hi; omega
      · intro x hx
        simp only [] at hx
        by_cases hlt : (fst s k).2 < k
        · rw [if_pos hlt] at hx
          rcases List.mem_append.1 hx with hx | hx
          · exact h2 x hx
          · obtain rfl := List.mem_singleton.1 hx
            have hsz := extract_size s (fst s k).2 k hb.1 (by omega)
            refine ⟨by omega, by omega, fun i hi => ?_⟩
            rw [bt_extract s _ k i (by omega)]
            have c1 := hc ((fst s k).2 + i) (by omega) (by omega)
            have c2 := h1 ((fst s k).2 + i) (by omega) (by omega) (by omega)
            omega
        · rw [if_neg hlt] at hx; exact h2 x hx

theorem fields_good {s : ByteArray} (h : SplitOk s) : ∀ x, x ∈ fields s → Good x := (fst_good s h.1 h.2.1 (s.size + 1) (Nat.le_refl _)).2

def space : ByteArray := { data := #[32] }
/-- fields joined, a space behind each -/
def joined (xs : List ByteArray) : ByteArray := xs.foldl (fun s x => s ++ x ++ space) { data := #[] }
theorem joined_snoc (xs : List ByteArray) (x : ByteArray) : joined (xs ++ [x]) = joined xs ++ x ++ space := by simp [joined]
theorem space_size : space.size = 1 := rfl
theorem joined_size_snoc (xs : List ByteArray) (x : ByteArray) : (joined (xs ++ [x])).size = (joined xs).size + x.size + 1 := by
  rw [joined_snoc, ByteArray.size_append, ByteArray.size_append, space_size]

theorem joined_split (xs ys : List ByteArray) : ∃ r, joined (xs ++ ys) = joined xs ++ r := by
  have gen : ∀ (ys : List ByteArray) (a : ByteArray), ∃ r, ys.foldl (fun s x => s ++ x ++ space) a = a ++ r := by
    intro ys
    induction ys with
    | nil => intro a; exact ⟨{ data := #[] }, by rw [List.foldl_nil]; apply ByteArray.ext; rw [ByteArray.data_append]; simp⟩
    | cons y ys ih =>
      intro a
      obtain ⟨r, hr⟩ := ih (a ++ y ++ space)
      exact ⟨y ++ (space ++ r), by rw [List.foldl_cons, hr]; simp only [ByteArray.append_assoc]⟩
  unfold joined
  rw [List.foldl_append]
  exact gen ys _

theorem joined_state (ps : List ByteArray) (hg : ∀ x, x ∈ ps → Good x) : ∀ qs rs, ps = qs ++ rs → St (joined ps) (joined qs).size qs (joined qs).size ∧ Clean (joined ps) (joined qs).size := by
  intro qs
  induction hq : qs.length generalizing qs with
  | zero =>
    intro rs _
    obtain rfl : qs = [] := List.length_eq_zero_iff.1 hq
    exact ⟨St.zero _, Clean.zero _⟩
  | succ n ih =>
    intro rs hp
    obtain ⟨q0, x, rfl⟩ : ∃ q0 x, qs = q0 ++ [x] := ⟨qs.dropLast, qs.getLast (by intro e; rw [e] at hq; simp at hq), (List.dropLast_concat_getLast _).symm⟩
    have hx : Good x := hg x (by rw [hp]; simp)
    obtain ⟨h1, h2⟩ := ih q0 (by simpa using hq) (x :: rs) (by rw [hp]; simp)
    obtain ⟨r, hr⟩ := joined_split (q0 ++ [x]) rs
    rw [← hp, joined_snoc] at hr
    have es : joined ps = joined q0 ++ (x ++ (space ++ r)) := by rw [hr]; simp only [ByteArray.append_assoc]
    have hsize : (joined ps).size = (joined q0).size + (x.size + (1 + r.size)) := by rw [es, ByteArray.size_append, ByteArray.size_append, ByteArray.size_append, space_size]
    have hbx : ∀ j, j < x.size → bt (joined ps) ((joined q0).size + j) = bt x j := fun j hj => by rw [es, bt_right, bt_left _ _ _ hj]
    have hbs : bt (joined ps) ((joined q0).size + x.size) = 32 := by
      rw [es, bt_right]
      have := bt_right x (space ++ r) 0
      rw [Nat.add_zero] at this
      rw [this, bt_left _ _ _ (by rw [space_size]; omega)]; rfl
    have hw : ∀ j, j ≤ x.size → St (joined ps) ((joined q0).size + j) q0 (joined q0).size ∧ Clean (joined ps) ((joined q0).size + j) := by
      intro j
      induction j with
      | zero => intro _; exact ⟨h1, h2⟩
      | succ j ihj =>
        intro hj
        obtain ⟨g1, g2⟩ := ihj (by omega)
        have hb := hbx j (by omega)
        have hgx := hx.2.2 j (by omega)
        exact ⟨g1.word (by omega) (by omega), g2.succ (fun _ => by omega)⟩
    obtain ⟨g1, g2⟩ := hw x.size (Nat.le_refl _)
    have hx0 := hx.1
    have hex : (joined ps).extract (joined q0).size ((joined q0).size + x.size) = x := by
      apply ByteArray.ext
      apply Array.ext'
      rw [extract_list, es, ByteArray.data_append, Array.toList_append, List.drop_append_of_le_length (by rw [Array.length_toList]; exact Nat.le_refl _)]
      rw [show (joined q0).size = (joined q0).data.toList.length from Array.length_toList.symm, List.drop_length, List.nil_append, Nat.add_sub_cancel_left, ByteArray.data_append, Array.toList_append]
      rw [show x.size = x.data.toList.length from Array.length_toList.symm, List.take_left']
      rfl
    have hc := g1.close (fun _ => hbs) (by omega)
    rw [hex] at hc
    rw [joined_size_snoc]
    exact ⟨hc, g2.succ (fun _ => by omega)⟩

/-- the fields of joined fields are those fields -/
theorem joined_fields (ps : List ByteArray) (hg : ∀ x, x ∈ ps → Good x) : fields (joined ps) = ps ∧ Clean (joined ps) (joined ps).size := by
  obtain ⟨h1, h2⟩ := joined_state ps hg ps [] (by simp)
  exact ⟨fields_of (h1.none (fun h => absurd h (Nat.lt_irrefl _)) (Nat.lt_irrefl _)) rfl, h2⟩

theorem joined_bound (ps : List ByteArray) (hg : ∀ x, x ∈ ps → Good x) : ∀ k, k ≤ ps.length → (joined (ps.take k)).size ≤ 601 * k := by
  intro k
  induction k with
  | zero => intro _; show 0 ≤ _; omega
  | succ k ih =>
    intro hk
    rw [List.take_succ_eq_append_getElem (by omega), joined_size_snoc]
    have := ih (by omega)
    have hx := (hg ps[k] (List.getElem_mem _)).2.1
    omega

end Go.Proofs.YtmgdcnlbpghjjaaDoor
