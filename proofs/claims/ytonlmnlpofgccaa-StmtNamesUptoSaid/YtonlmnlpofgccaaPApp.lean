/-
  A list of statements behind a row of the call's own.
-/
import Derived.Test.YtonlmnlpofgccaaPAw1
import Derived.Maps.AppendAt
import Derived.Laws.OwnMore
import Derived.Lib.AppendZeros
namespace Go.Proofs.Ytonlmnlpofgccaa.Sm
open Go.RowKit
open Go.Proofs.Ytonlmnlpofgccaa.Na (bs bs_inj chk)
open Go.Proofs.Ytonlmnlpofgccaa.Ex (Ex Nm Kin In Sz Lo Gives bl_alloc bl_drewN bl_drew bl_set bl_call block_lt add_off)
set_option maxHeartbeats 2000000
set_option linter.unusedVariables false
/-- The cells of a row of statements. -/
def flatS (L : List (St × Pl)) : List Value := L.flatMap fun q => (cs q.1 q.2).toList
theorem flatS_cons (q : St × Pl) (t : List (St × Pl)) : flatS (q :: t) = (cs q.1 q.2).toList ++ flatS t := rfl
theorem flatS_app (a b : List (St × Pl)) : flatS (a ++ b) = flatS a ++ flatS b := List.flatMap_append
theorem csl_len (x : St) (P : Pl) : (cs x P).toList.length = 21 := rfl
theorem flatS_len : ∀ L : List (St × Pl), (flatS L).length = L.length * 21
  | [] => rfl
  | q :: t => by rw [flatS_cons, List.length_append, csl_len, flatS_len t, List.length_cons]; omega
theorem flatS_get : ∀ {L : List (St × Pl)} {i r : Nat} (hi : i < L.length), r < 21 → (flatS L)[i * 21 + r]? = (cs L[i].1 L[i].2)[r]?
  | [], i, r, hi, _ => absurd hi (Nat.not_lt_zero _)
  | q :: t, 0, r, hi, hr => by
    rw [flatS_cons, List.getElem?_append_left (by rw [csl_len]; omega), Array.getElem?_toList, show 0 * 21 + r = r by omega]
    rfl
  | q :: t, i + 1, r, hi, hr => by
    rw [flatS_cons, List.getElem?_append_right (by rw [csl_len]; omega), csl_len, show (i + 1) * 21 + r - 21 = i * 21 + r by omega, flatS_get (by simpa using hi) hr]
    rfl
theorem flatS_one (L : List (St × Pl)) : ∀ u ∈ flatS L, u.oneCell' = true := by
  intro u hu
  obtain ⟨q, -, h⟩ := List.mem_flatMap.1 hu
  have := cs_one q.1 q.2
  rw [Array.all_eq_true_iff_forall_mem] at this
  exact this u (Array.mem_def.2 h)
theorem rowsS_list {G : Nat → Prop} {w : World} {b : Nat} : ∀ {l : List St} {o : Nat}, RowsS G w l b o → ∃ L : List (St × Pl), L.map (·.1) = l ∧ (∀ j u, (flatS L)[j]? = some u → w.cell? ⟨b, o + j, none⟩ = some u) ∧ ∀ q ∈ L, Sin G w q.1 q.2
  | [], o, _ => ⟨[], rfl, fun j u h => by simp [flatS] at h, fun q h => by cases h⟩
  | x :: t, o, h => by
    unfold RowsS at h
    obtain ⟨⟨P, hc, hk⟩, ht⟩ := h
    obtain ⟨L, h1, h2, h3⟩ := rowsS_list ht
    refine ⟨⟨x, P⟩ :: L, by rw [List.map_cons, h1], fun j u hu => ?_, fun q hq => ?_⟩
    · rw [flatS_cons] at hu
      by_cases hj : j < 21
      · rw [List.getElem?_append_left (by rw [csl_len]; exact hj), Array.getElem?_toList] at hu
        exact hc j u hu
      · rw [List.getElem?_append_right (by rw [csl_len]; omega), csl_len] at hu
        have := h2 _ u hu
        rwa [show o + 21 + (j - 21) = o + j by omega] at this
    · rcases List.mem_cons.1 hq with rfl | hq
      · exact hk
      · exact h3 q hq
/-- The cells behind a slice. -/
theorem lin_list {G : Nat → Prop} {w : World} {l : List St} {p : Option Addr} {m : Nat} (h : Lin G w l p m) : ∃ L : List (St × Pl), L.map (·.1) = l ∧ L.length = m ∧ (∀ a, p = some a → ∀ j u, (flatS L)[j]? = some u → w.cell? (a.add j) = some u) ∧ ∀ q ∈ L, Sin G w q.1 q.2 := by
  obtain ⟨h1, h2, h3 | ⟨b, o, rfl, hg, hb, h4⟩⟩ := h
  · subst h3
    obtain rfl := List.length_eq_zero_iff.1 h1
    exact ⟨[], rfl, rfl, fun a _ j u h => by simp [flatS] at h, fun q h => by cases h⟩
  · obtain ⟨L, e1, e2, e3⟩ := rowsS_list (rowsS_iff.2 h4.out)
    exact ⟨L, e1, by rw [← h1, ← e1, List.length_map], fun a ha j u hu => by cases ha; rw [add_off]; exact e2 j u hu, e3⟩
theorem append_none {P : Program} {w : World} (base : Nat) (t ty e : TypeId) (i : TypeInfo) (size : Nat) (ht : P.underlying t = some (.slice e)) (hi : P.info? e = some i)
    (v : Value) (n : Nat) (xs : List Value) (hown : w.ownsRow base e size v n xs) (c : Nat) : (Builtin.append_ #[t, t] ty #[v, .slice none 0 c]).run P w = .ok v w := by
  rcases hown.2 with ⟨rfl, rfl⟩ | ⟨g, cap, cur, rfl, -, -, hnc, -⟩
  · simp [Builtin.append_, run_underlying ht, sizeOf, typeInfo, hi, Builtin.lenOf, Builtin.firstCells]
  · simp [Builtin.append_, run_underlying ht, sizeOf, typeInfo, hi, Builtin.lenOf, Builtin.firstCells, hnc, storeCells]
abbrev OwnS (w : World) (base : Nat) (v : Value) (n : Nat) (L : List (St × Pl)) : Prop := w.ownsRow base 47 21 v n (flatS L)
/-- A list of statements is appended to a row of the call's own. -/
theorem app_run {G : Nat → Prop} {w : World} {base n : Nat} {v : Value} {L0 : List (St × Pl)} (hown : OwnS w base v n L0) {l : List St} {p : Option Addr} {m : Nat} (h : Lin G w l p m) (c : Nat) (hb : base ≤ w.heap.size) (hn : n + m ≤ 1000000) :
    ∃ (L : List (St × Pl)) (v' : Value) (w' : World), L.map (·.1) = l ∧ L.length = m ∧ (∀ q ∈ L, Sin G w q.1 q.2) ∧ (Builtin.append_ #[22, 22] 22 #[v, .slice p m c]).run Try.prog w = .ok v' w' ∧ OwnS w' base v' (n + m) (L0 ++ L) ∧ w.grownBy w' v.ownBlock := by
  obtain ⟨L, h1, h2, h3, h4⟩ := lin_list h
  obtain ⟨i0, hi0, hi1, hi2, hi3⟩ := parts_of' fld_info
  cases p with
  | none =>
    obtain rfl : m = 0 := by
      rcases h.2.2 with h | ⟨b, o, h, -⟩
      · exact h
      · cases h
    obtain rfl := List.length_eq_zero_iff.1 h2
    exact ⟨[], v, w, h1, rfl, h4, append_none base _ _ _ i0 21 Try.underlying22 hi0 v n _ hown c, by rw [List.append_nil]; exact hown, ⟨rfl, rfl, rfl, Nat.le_refl _, fun _ _ _ => rfl⟩⟩
  | some a =>
    obtain ⟨v', w', e1, e2, e3, -, -⟩ := run_append_own_at (P := Try.prog) w base 22 22 47 i0 _ 21 312 Try.underlying22 hi0 hi1 hi2 hi3 rfl (by decide) v n _ hown a m c (flatS L) (by rw [flatS_len, h2]) (h3 a rfl) (flatS_one L) (by unfold maxLen; omega) (by omega) hb
    exact ⟨L, v', w', h1, h2, h4, e1, by unfold OwnS; rw [flatS_app]; exact e2, e3⟩
theorem ownS_none (w : World) : OwnS (w.alloc (.cells #[] 47)) w.heap.size (.slice (some ⟨w.heap.size, 0, none⟩) 0 0) 0 [] := World.ownsRow_made w #[] 0 (Nat.le_refl _) (Nat.zero_le _) rfl
/-- A row of the call's own reads as a list. -/
theorem own_lin {w : World} {base n : Nat} {v : Value} {L : List (St × Pl)} (h : OwnS w base v n L) (hn : n ≤ 1000000) (hs : ∀ q ∈ L, SIn w q.1 q.2) : ∃ p c, v = .slice p n c ∧ LIn w (L.map (·.1)) p n := by
  have hL : L.length = n := by have := h.1; rw [flatS_len] at this; omega
  rcases h.2 with ⟨rfl, rfl⟩ | ⟨g, cap, cur, rfl, hb, hg, -⟩
  · exact ⟨none, 0, rfl, by rw [List.length_map]; exact hL, by omega, .inl rfl⟩
  · have hgl : g < w.heap.size := (Array.getElem?_eq_some_iff.1 hg).1
    refine ⟨some ⟨g, 0, none⟩, cap, rfl, by rw [List.length_map]; exact hL, by omega, .inr ⟨g, 0, rfl, hgl, hgl, Lib.hid fun k hk => ?_⟩⟩
    have hk' : k < L.length := by simpa using hk
    refine ⟨L[k].2, fun r u hu => ?_, ?_⟩
    · have hr : r < 21 := by have := (Array.getElem?_eq_some_iff.1 hu).1; rwa [cs_size] at this
      rw [Nat.zero_add, h.cellAt (k * 21 + r) (by omega), flatS_get hk' hr, ← hu]
      simp
    · simp only [List.getElem_map]
      exact hs _ (List.getElem_mem hk')
end Go.Proofs.Ytonlmnlpofgccaa.Sm
