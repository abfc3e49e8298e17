/-
  Mathematics of paths: what Split makes of what Join makes, and back.
-/
import Derived.Test.YtgepgdndhnoanaaNmAwake
namespace Go.Proofs.Ytgepgdndhnoanaa.Na
open Go.RowKit
set_option maxHeartbeats 1000000
theorem ib_spec {c : UInt8} : ∀ l : List UInt8, (Lib.indexByte l c = -1 ∧ ∀ j, (h : j < l.length) → ¬ l[j] = c) ∨ ∃ k : Nat, Lib.indexByte l c = (k : Int) ∧ ∃ h : k < l.length, l[k] = c ∧ ∀ j, (hj : j < l.length) → l[j] = c → k ≤ j
  | [] => .inl ⟨rfl, fun j h => absurd h (Nat.not_lt_zero _)⟩
  | x :: t => by
    by_cases hx : x = c
    · exact .inr ⟨0, by unfold Lib.indexByte; rw [if_pos (by simp [hx])]; rfl, by simp, hx, fun j _ _ => Nat.zero_le _⟩
    · rcases ib_spec (c := c) t with ⟨h1, h2⟩ | ⟨k, h1, h2, h3, h4⟩
      · refine .inl ⟨by unfold Lib.indexByte; rw [if_neg (by simp [hx]), h1]; rfl, fun j hj => ?_⟩
        cases j with
        | zero => exact hx
        | succ j => exact h2 j (by simp at hj; omega)
      · refine .inr ⟨k + 1, by unfold Lib.indexByte; rw [if_neg (by simp [hx]), h1, if_neg (by simp)]; omega, by simp; omega, h3, fun j hj e => ?_⟩
        cases j with
        | zero => exact absurd e hx
        | succ j => have := h4 j (by simp at hj; omega) e; omega
theorem name_nodot {l : List UInt8} (h : nameB l = true) : ∀ j, (hj : j < l.length) → ¬ l[j] = 46 := by
  intro j hj e
  have := List.all_eq_true.1 (name_iff.1 h).2.2.2.2 _ (List.getElem_mem hj)
  rw [e] at this
  revert this
  decide
theorem nameB_at {l : List UInt8} {k : Nat} (hk : k < l.length) (h : l[k] = 46) : nameB l = false := by
  rw [← Bool.not_eq_true]
  exact fun g => name_nodot g k hk h
theorem bs_join (a b : ByteArray) : bs (joinS a b) = bs a ++ 46 :: bs b := by
  unfold joinS
  rw [bs_app, bs_app, List.append_assoc]
  rfl
theorem join_size (a b : ByteArray) : (joinS a b).size = a.size + 1 + b.size := by
  rw [← bs_len, bs_join, List.length_append, List.length_cons, bs_len, bs_len]
  omega
theorem spO_false {s : ByteArray} (h : spO s = false) : spA s = mt ∧ spB s = mt := by
  unfold spA spB
  rw [h]
  exact ⟨rfl, rfl⟩
theorem spO_true {s : ByteArray} (h : spO s = true) : spA s = cutA s ∧ spB s = cutB s := by
  unfold spA spB
  rw [h]
  exact ⟨rfl, rfl⟩
/-- Split of Join. -/
theorem split_join (a b : ByteArray) : spO (joinS a b) = (nameB (bs a) && nameB (bs b)) ∧ (spO (joinS a b) = true → spA (joinS a b) = a ∧ spB (joinS a b) = b) := by
  have hl : (bs a).length = a.size := bs_len a
  have hm : a.size < (bs (joinS a b)).length := by rw [bs_len, join_size]; omega
  have h46 : (bs (joinS a b))[a.size] = 46 := by
    simp only [bs_join]
    rw [List.getElem_append_right (by omega)]
    simp [hl]
  rcases ib_spec (c := 46) (bs (joinS a b)) with ⟨h1, h2⟩ | ⟨k, h1, h2, h3, h4⟩
  · exact absurd h46 (h2 _ hm)
  · have hk : k ≤ a.size := h4 _ hm h46
    have hd : dot (joinS a b) = (k : Int) := h1
    obtain ⟨eA, eB⟩ := cut_hit hd
    have hz : (joinS a b).size = a.size + 1 + b.size := join_size a b
    rcases Nat.lt_or_ge k a.size with g | g
    · have ha : (bs a)[k] = 46 := by
        have e := h3
        simp only [bs_join] at e
        rwa [List.getElem_append_left (by omega)] at e
      have hB : nameB (bs (cutB (joinS a b))) = false := by
        rw [eB]
        have e2 : bs ((joinS a b).extract (k + 1) (joinS a b).size) = (bs (joinS a b)).drop (k + 1) := by
          rw [bs_cut, List.take_of_length_le (by rw [List.length_drop, bs_len]; exact Nat.le_refl _)]
        refine nameB_at (k := a.size - (k + 1)) (by rw [e2, List.length_drop, bs_len]; omega) ?_
        simp only [e2, List.getElem_drop]
        have e3 : k + 1 + (a.size - (k + 1)) = a.size := by omega
        simp only [e3]
        exact h46
      have hO : spO (joinS a b) = false := by unfold spO; rw [hB, Bool.and_false]
      rw [hO, nameB_at (by omega) ha]
      exact ⟨rfl, fun h => by cases h⟩
    · obtain rfl : k = a.size := by omega
      have fA : cutA (joinS a b) = a := by
        rw [eA]
        apply cut_eq
        rw [List.drop_zero, Nat.sub_zero, bs_join, List.take_append_of_le_length (by omega), List.take_of_length_le (by omega)]
      have fB : cutB (joinS a b) = b := by
        rw [eB]
        apply cut_eq
        rw [List.take_of_length_le (by rw [List.length_drop, bs_len]; exact Nat.le_refl _), bs_join, ← hl]
        rw [List.drop_append, List.drop_of_length_le (by omega)]
        simp
      have hO : spO (joinS a b) = (nameB (bs a) && nameB (bs b)) := by unfold spO; rw [fA, fB]
      refine ⟨hO, fun h => ?_⟩
      obtain ⟨e1, e2⟩ := spO_true h
      exact ⟨e1.trans fA, e2.trans fB⟩
/-- Join of Split. -/
theorem join_split {s : ByteArray} (h : spO s = true) : joinS (spA s) (spB s) = s ∧ (spA s).size + 1 + (spB s).size ≤ 9223372036854775807 := by
  obtain ⟨e1, e2⟩ := spO_true h
  have hn : nameB (bs (cutA s)) = true ∧ nameB (bs (cutB s)) = true := by unfold spO at h; exact Bool.and_eq_true_iff.1 h
  have z1 := (name_iff.1 hn.1).2.1
  have z2 := (name_iff.1 hn.2).2.1
  rw [bs_len] at z1 z2
  rw [e1, e2]
  refine ⟨?_, by omega⟩
  rcases ib_spec (c := 46) (bs s) with ⟨h1, h2⟩ | ⟨k, h1, h2, h3, h4⟩
  · have hd : dot s = -1 := h1
    have hB : cutB s = mt := by unfold cutB; rw [if_pos hd]
    rw [hB] at hn
    exact absurd hn.2 (by decide)
  · have hd : dot s = (k : Int) := h1
    obtain ⟨eA, eB⟩ := cut_hit hd
    rw [eA, eB]
    apply bs_inj
    rw [bs_join, bs_cut, bs_cut, List.drop_zero, Nat.sub_zero, List.take_of_length_le (l := (bs s).drop (k + 1)) (by rw [List.length_drop, bs_len]; exact Nat.le_refl _)]
    rw [← h3, List.getElem_cons_drop, List.take_append_drop]
end Go.Proofs.Ytgepgdndhnoanaa.Na
