/-
  The number of a text: exactly the decimal form of an integer from 0 to MaxInt has one.
-/
import Derived.Test.YtilnojcbebchdaaDoorLxMath
namespace Go.Proofs.YtilnojcbebchdaaDoor.Lx
open Go.Lib
theorem dig_nat {c : UInt8} (h : digC c = true) : 48 ≤ c.toNat ∧ c.toNat ≤ 57 := by
  unfold digC digI at h
  simp only [Bool.and_eq_true, decide_eq_true_eq] at h
  omega
theorem dig_of {c : UInt8} (h0 : 48 ≤ c.toNat) (h1 : c.toNat ≤ 57) : digC c = true := by
  unfold digC digI
  simp only [Bool.and_eq_true, decide_eq_true_eq]
  omega
theorem itoa_nat (v : Int) (h : 0 ≤ v) : itoa v = decDigits v.toNat := by unfold itoa; rw [if_neg (by omega)]
theorem itoa_dig {v : Int} (h : 0 ≤ v) : (itoa v).all digC = true := by
  rw [itoa_nat v h, List.all_eq_true]
  intro c hc
  have := dec_digits v.toNat c hc
  exact dig_of this.1 this.2
theorem itoa_ne {v : Int} (h : 0 ≤ v) : itoa v ≠ [] := by
  rw [itoa_nat v h]
  obtain ⟨c, r, e, -⟩ := dec_cons v.toNat
  rw [e]
  exact List.cons_ne_nil _ _
theorem dec_head : ∀ u : Nat, 10 ≤ u → (decDigits u).headD 0 ≠ 48 := by
  intro u
  induction u using Nat.strongRecOn with
  | _ u ih =>
    intro h
    rw [dec_big (by omega)]
    by_cases h2 : u / 10 < 10
    · rw [dec_small h2]
      intro e
      have e2 : (UInt8.ofNat (48 + u / 10)).toNat = 48 := by
        have : UInt8.ofNat (48 + u / 10) = 48 := e
        rw [this]; rfl
      rw [digit_nat _ h2] at e2
      omega
    · obtain ⟨c, r, e, -⟩ := dec_cons (u / 10)
      have := ih (u / 10) (by omega) (by omega)
      rw [e] at this ⊢
      exact this
theorem foldD_itoa {v : Int} (h : 0 ≤ v) : foldD (itoa v) = v := by rw [fold_itoa, absZ_pos h]
/-- A numeral without a leading zero is the decimal form of what it spells. -/
theorem itoa_foldD (l : List UInt8) : l ≠ [] → (1 < l.length → l.headD 0 ≠ 48) → l.all digC = true → 0 ≤ foldD l ∧ (1 < l.length → 1 ≤ foldD l) ∧ itoa (foldD l) = l := by
  generalize hn : l.length = n
  induction n generalizing l with
  | zero => intro h; exact absurd (List.length_eq_zero_iff.1 hn) h
  | succ n ih =>
    rcases List.eq_nil_or_concat l with rfl | ⟨m, c, rfl⟩
    · simp at hn
    · rw [List.concat_eq_append] at hn ⊢
      intro _ h1 h2
      rw [List.all_append, Bool.and_eq_true] at h2
      have hc : digC c = true := by simpa using h2.2
      obtain ⟨c1, c2⟩ := dig_nat hc
      have e : foldD (m ++ [c]) = 10 * foldD m + (c.toNat - 48) := by rw [foldD_snoc, fold1, if_pos ⟨c1, c2⟩]
      have ec : UInt8.ofNat (48 + (c.toNat - 48)) = c := by rw [show 48 + (c.toNat - 48) = c.toNat by omega]; exact UInt8.ofNat_toNat
      by_cases hm : m = []
      · subst hm
        have e0 : foldD ([] : List UInt8) = 0 := rfl
        rw [e0] at e
        rw [e]
        refine ⟨by omega, fun h => by simp at hn; omega, ?_⟩
        rw [itoa_small _ (by omega) (by omega), show (10 * 0 + ((c.toNat : Int) - 48)).toNat = c.toNat - 48 by omega, ec]; rfl
      · have hml : m.length = n := by simpa using hn
        have hpos : 1 ≤ m.length := by cases m with | nil => exact absurd rfl hm | cons _ _ => simp
        have hh : m.headD 0 ≠ 48 := by
          have := h1 (by omega)
          cases m with
          | nil => exact absurd rfl hm
          | cons d t => exact this
        obtain ⟨i1, i2, i3⟩ := ih m hml hm (fun _ => hh) h2.1
        have hone : 1 ≤ foldD m := by
          by_cases hl : 1 < n
          · exact i2 hl
          · cases m with
            | nil => exact absurd rfl hm
            | cons d t =>
              have ht : t = [] := List.length_eq_zero_iff.1 (by simp at hml; omega)
              subst ht
              have hd : digC d = true := by simpa using h2.1
              obtain ⟨d1, d2⟩ := dig_nat hd
              have e3 : foldD [d] = 10 * 0 + (d.toNat - 48) := by
                have : foldD ([] ++ [d]) = fold1 (foldD []) d := foldD_snoc [] d
                rw [List.nil_append] at this
                rw [this, fold1, if_pos ⟨d1, d2⟩]; rfl
              have hd0 : d.toNat ≠ 48 := fun g => hh (by
                show d = 48
                apply UInt8.toNat_inj.1
                rw [g]; rfl)
              rw [e3]; omega
        rw [e]
        refine ⟨by omega, fun _ => by omega, ?_⟩
        rw [itoa_big _ (by omega), show (10 * foldD m + ((c.toNat : Int) - 48)) / 10 = foldD m by omega, show (10 * foldD m + ((c.toNat : Int) - 48)) % 10 = (c.toNat : Int) - 48 by omega, i3,
          itoa_small _ (by omega) (by omega), show ((c.toNat : Int) - 48).toNat = c.toNat - 48 by omega, ec]
theorem numO_some {l : List UInt8} {v : Int} : numO l = some v ↔ 0 ≤ v ∧ v ≤ 1000000000000 ∧ l = itoa v := by
  unfold numO
  constructor
  · intro h
    split at h
    · cases h
    · rename_i hc
      simp only [not_or, not_and, Bool.not_eq_false] at hc
      obtain ⟨h1, h2, h3, h4, h5⟩ := hc
      cases h
      have := itoa_foldD l (fun e => h1 (by rw [e]; rfl)) h3 h4
      exact ⟨this.1, by omega, this.2.2.symm⟩
  · rintro ⟨h0, h1, rfl⟩
    have hl : (itoa v).length ≤ 13 := by rw [itoa_nat v h0, decDigits_length]; have := nDigits_le 12 v.toNat (by omega); omega
    rw [if_neg, foldD_itoa h0]
    simp only [not_or, not_and, Bool.not_eq_false]
    refine ⟨fun e => itoa_ne h0 (List.length_eq_zero_iff.1 e), by omega, fun h => ?_, itoa_dig h0, by rw [foldD_itoa h0]; omega⟩
    rw [itoa_nat v h0] at h ⊢
    refine dec_head _ ?_
    rcases Nat.lt_or_ge v.toNat 10 with g | g
    · rw [dec_small g] at h; simp at h
    · exact g
theorem numO_none {l : List UInt8} : numO l = none ↔ ∀ v : Int, 0 ≤ v → v ≤ 1000000000000 → l ≠ itoa v := by
  constructor
  · intro h v h0 h1 e
    rw [numO_some.2 ⟨h0, h1, e⟩] at h
    cases h
  · intro h
    cases e : numO l with
    | none => rfl
    | some v =>
      obtain ⟨h0, h1, e1⟩ := numO_some.1 e
      exact absurd e1 (h v h0 h1)
theorem numO_itoa {v : Int} (h0 : -9223372036854775808 ≤ v) (h1 : v ≤ 9223372036854775807) : numO (itoa v) = if 0 ≤ v ∧ v ≤ 1000000000000 then some v else none := by
  split
  · rename_i h; exact numO_some.2 ⟨h.1, h.2, rfl⟩
  · rename_i h
    refine numO_none.2 fun u u0 u1 e => h ?_
    have := itoa_inj h0 h1 (by omega) (by omega) e
    omega
end Go.Proofs.YtilnojcbebchdaaDoor.Lx
