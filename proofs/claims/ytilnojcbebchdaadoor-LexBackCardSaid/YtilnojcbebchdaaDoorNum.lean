/-
  Plain facts about decimal numerals: what a numeral parses to, its length, and how it is put together from the numeral of a tenth and a last digit. Nothing of the program stands here.
-/
import Derived.Test.YtilnojcbebchdaaDoorMath
import Derived.Lib.AtoiAll
import Derived.Lib.ItoaNum
namespace Go.Proofs.YtilnojcbebchdaaDoor
open Go.Lib

theorem digit_nat (d : Nat) (h : d < 10) : (UInt8.ofNat (48 + d)).toNat = 48 + d := by
  rw [UInt8.toNat_ofNat']; omega
theorem dec_small {u : Nat} (h : u < 10) : decDigits u = [UInt8.ofNat (48 + u)] := by rw [decDigits, dif_pos h]
theorem dec_big {u : Nat} (h : ¬ u < 10) : decDigits u = decDigits (u / 10) ++ [UInt8.ofNat (48 + u % 10)] := by rw [decDigits, dif_neg h]
theorem parse_append (l m : List UInt8) : ∀ a, parseUint10 a (l ++ m) = match parseUint10 a l with | .ok b => parseUint10 b m | r => r := by
  induction l with
  | nil => intro a; rfl
  | cons c l ih =>
    intro a
    simp only [List.cons_append, parseUint10]
    split
    · split
      · rfl
      · split
        · rfl
        · exact ih _
    · rfl
theorem parse_digit (a d : Nat) (ha : a ≤ 922337203685477580) (h : d < 10) : parseUint10 a [UInt8.ofNat (48 + d)] = .ok (a * 10 + d) := by
  simp only [parseUint10, digit_nat d h]
  rw [if_pos (by omega), if_neg (by omega), if_neg (by omega)]
  congr 1
  omega
theorem parse_dec (u : Nat) (hu : u ≤ 9223372036854775808) : parseUint10 0 (decDigits u) = .ok u := by
  induction u using Nat.strongRecOn with
  | _ u ih =>
    by_cases h : u < 10
    · rw [dec_small h, parse_digit 0 u (by omega) h, Nat.zero_mul, Nat.zero_add]
    · rw [dec_big h, parse_append, ih (u / 10) (by omega) (by omega)]
      simp only
      rw [parse_digit (u / 10) (u % 10) (by omega) (by omega)]
      congr 1
      omega
theorem dec_digits (u : Nat) : ∀ c ∈ decDigits u, 48 ≤ c.toNat ∧ c.toNat ≤ 57 := by
  induction u using Nat.strongRecOn with
  | _ u ih =>
    by_cases h : u < 10
    · rw [dec_small h]; intro c hc; rw [List.mem_singleton] at hc; subst hc; rw [digit_nat u h]; omega
    · rw [dec_big h]; intro c hc
      rcases List.mem_append.1 hc with hc | hc
      · exact ih (u / 10) (by omega) c hc
      · rw [List.mem_singleton] at hc; subst hc; rw [digit_nat _ (by omega)]; omega
theorem dec_cons (u : Nat) : ∃ c r, decDigits u = c :: r ∧ 48 ≤ c.toNat ∧ c.toNat ≤ 57 := by
  have hl := decDigits_length u
  have hp := nDigits_pos u
  match hd : decDigits u with
  | [] => rw [hd] at hl; simp at hl; omega
  | c :: r => exact ⟨c, r, rfl, dec_digits u c (by rw [hd]; exact List.mem_cons_self)⟩
theorem atoi_itoa (v : Int) (h0 : -9223372036854775808 ≤ v) (h1 : v ≤ 9223372036854775807) : atoiAll (itoa v) = .ok v := by
  unfold itoa
  split
  · rename_i h
    obtain ⟨c, r, e, -, -⟩ := dec_cons v.natAbs
    have hp := parse_dec v.natAbs (by omega)
    have hm : parseMag (decDigits v.natAbs) = .ok v.natAbs := by unfold parseMag; rw [if_neg (by rw [e]; simp)]; exact hp
    unfold atoiAll
    simp only [show (45 : UInt8).toNat = 45 from rfl]
    rw [if_pos (Or.inr trivial), hm]
    simp
    rw [if_neg (by omega)]
    congr 1
    omega
  · rename_i h
    obtain ⟨c, r, e, h2, h3⟩ := dec_cons v.toNat
    have hp := parse_dec v.toNat (by omega)
    have hm : parseMag (decDigits v.toNat) = .ok v.toNat := by unfold parseMag; rw [if_neg (by rw [e]; simp)]; exact hp
    rw [e] at hm ⊢
    unfold atoiAll
    simp only
    rw [if_neg (by omega), hm]
    have h4 : ¬ c.toNat = 45 := by omega
    simp [h4]
    rw [if_neg (by omega)]
    congr 1
    omega
theorem nDigits_le : ∀ (k u : Nat), u < 10 ^ (k + 1) → nDigits u ≤ k + 1
  | 0, u, h => by rw [nDigits_small (by simpa using h)]; exact Nat.le_refl _
  | k + 1, u, h => by
    by_cases hs : u < 10
    · rw [nDigits_small hs]; omega
    · rw [nDigits_big hs]
      have := nDigits_le k (u / 10) (by rw [Nat.pow_succ] at h; omega)
      omega
theorem itoa_length (v : Int) (h0 : -1000000000000 ≤ v) (h1 : v ≤ 1000000000000) : (itoa v).length ≤ 14 := by
  unfold itoa
  split
  · rw [List.length_cons, decDigits_length]; have := nDigits_le 12 v.natAbs (by omega); omega
  · rw [decDigits_length]; have := nDigits_le 12 v.toNat (by omega); omega
theorem itoa_size (v : Int) (h0 : -9223372036854775808 ≤ v) (h1 : v ≤ 9223372036854775807) : (itoa v).length ≤ 20 := by
  unfold itoa
  split
  · rw [List.length_cons, decDigits_length]; have := nDigits_le 18 v.natAbs (by omega); omega
  · rw [decDigits_length]; have := nDigits_le 18 v.toNat (by omega); omega
theorem itoa_inj {u v : Int} (h0 : -9223372036854775808 ≤ u) (h1 : u ≤ 9223372036854775807) (h2 : -9223372036854775808 ≤ v) (h3 : v ≤ 9223372036854775807) (h : itoa u = itoa v) : u = v := by
  have e := atoi_itoa u h0 h1
  rw [h, atoi_itoa v h2 h3] at e
  injection e with e
  exact e.symm
theorem itoa_small (n : Int) (h0 : 0 ≤ n) (h1 : n < 10) : itoa n = [UInt8.ofNat (48 + n.toNat)] := by
  unfold itoa; rw [if_neg (by omega), dec_small (by omega)]
theorem itoa_big (n : Int) (h : 10 ≤ n) : itoa n = itoa (n / 10) ++ itoa (n % 10) := by
  rw [itoa_small (n % 10) (by omega) (by omega)]
  unfold itoa
  rw [if_neg (by omega), if_neg (by omega), dec_big (by omega), show (n / 10).toNat = n.toNat / 10 by omega, show (n % 10).toNat = n.toNat % 10 by omega]
theorem itoa_neg (n : Int) (h : n < 0) : itoa n = 45 :: itoa (-n) := by
  unfold itoa
  rw [if_pos h, if_neg (by omega), show n.natAbs = (-n).toNat by omega]
def fold1 (n : Int) (c : UInt8) : Int := if 48 ≤ c.toNat ∧ c.toNat ≤ 57 then 10 * n + (c.toNat - 48) else n
def foldD (l : List UInt8) : Int := l.foldl fold1 0
theorem fold_append (l m : List UInt8) (a : Int) : (l ++ m).foldl fold1 a = m.foldl fold1 (l.foldl fold1 a) := List.foldl_append
theorem fold_dec (u : Nat) : foldD (decDigits u) = u := by
  unfold foldD
  induction u using Nat.strongRecOn with
  | _ u ih =>
    by_cases h : u < 10
    · rw [dec_small h]
      simp only [List.foldl_cons, List.foldl_nil, fold1, digit_nat u h]
      rw [if_pos (by omega)]; omega
    · rw [dec_big h, fold_append, ih (u / 10) (by omega)]
      simp only [List.foldl_cons, List.foldl_nil, fold1, digit_nat (u % 10) (by omega)]
      rw [if_pos (by omega)]; omega
theorem fold_neg (l : List UInt8) : foldD (45 :: l) = foldD l := by
  unfold foldD
  rw [List.foldl_cons]
  rfl
theorem foldD_snoc (l : List UInt8) (c : UInt8) : foldD (l ++ [c]) = fold1 (foldD l) c := by unfold foldD; rw [fold_append]; rfl
theorem foldD_bd : ∀ (k : Nat) (l : List UInt8), l.length ≤ k → 0 ≤ foldD l ∧ foldD l < 10 ^ k := by
  intro k
  induction k with
  | zero => intro l h; have : l = [] := List.length_eq_zero_iff.1 (by omega); subst this; exact ⟨by decide, by decide⟩
  | succ k ih =>
    intro l h
    rcases List.eq_nil_or_concat l with rfl | ⟨m, c, rfl⟩
    · exact ⟨by decide, Int.pow_pos (by decide)⟩
    · rw [List.concat_eq_append, foldD_snoc]
      rw [List.concat_eq_append, List.length_append] at h
      have := ih m (by simpa using h)
      rw [Int.pow_succ]
      generalize (10 : Int) ^ k = p at *
      unfold fold1
      have := c.toNat_lt
      split <;> omega
theorem fold_itoa (v : Int) : foldD (itoa v) = absZ v := by
  unfold itoa absZ
  split
  · rw [fold_neg, fold_dec]; omega
  · rw [fold_dec]; omega
theorem itoa_deep (n : Int) (h : n ≤ -10) : itoa n = itoa (n.tdiv 10) ++ itoa (-(n.tmod 10)) := by
  have e1 : n.tdiv 10 = -((-n) / 10) := by rw [← Int.tdiv_eq_ediv_of_nonneg (by omega), Int.neg_tdiv]; omega
  have e2 : -(n.tmod 10) = (-n) % 10 := by rw [← Int.tmod_eq_emod_of_nonneg (by omega), Int.neg_tmod]
  rw [e1, e2, itoa_neg n (by omega), itoa_big (-n) (by omega), itoa_neg (-(-n / 10)) (by omega), Int.neg_neg]
  rfl
theorem tdiv10 (n : Int) (h : n ≤ -10) : n < n.tdiv 10 ∧ n.tdiv 10 ≤ -1 := by
  have e1 : n.tdiv 10 = -((-n) / 10) := by rw [← Int.tdiv_eq_ediv_of_nonneg (by omega), Int.neg_tdiv]; omega
  omega
theorem tmod10 (n : Int) (h : n ≤ -10) : -9 ≤ n.tmod 10 ∧ n.tmod 10 ≤ 0 := by
  have e2 : -(n.tmod 10) = (-n) % 10 := by rw [← Int.tmod_eq_emod_of_nonneg (by omega), Int.neg_tmod]
  omega
end Go.Proofs.YtilnojcbebchdaaDoor
