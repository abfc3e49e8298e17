/-
  Mathematics of package codec: the number of an integer, its encoding, reading it back; lists of bytes and of integers.
-/
import Derived.Lib.Hide
namespace Go.Proofs.Ytnfddeoddjmpkaa.Co
def numZ (n : Int) : Nat := if n < 0 then (2 * (-(n + 1)) + 1).toNat else (2 * n).toNat
def intZ (u : Nat) : Int := if u % 2 = 1 then -((u / 2 : Nat) : Int) - 1 else ((u / 2 : Nat) : Int)
theorem intZ_numZ (n : Int) : intZ (numZ n) = n := by
  unfold intZ numZ
  by_cases h : n < 0
  · rw [if_pos h, if_pos (by omega)]; omega
  · rw [if_neg h, if_neg (by omega)]; omega
theorem numZ_intZ (u : Nat) : numZ (intZ u) = u := by
  unfold intZ numZ
  by_cases h : u % 2 = 1
  · rw [if_pos h, if_pos (by omega)]; omega
  · rw [if_neg h, if_neg (by omega)]; omega
theorem numZ_lt {n : Int} (h : -9223372036854775808 ≤ n) (h2 : n ≤ 9223372036854775807) : numZ n < 18446744073709551616 := by
  unfold numZ
  by_cases h : n < 0
  · rw [if_pos h]; omega
  · rw [if_neg h]; omega
theorem numZ_neg {n : Int} (h : n < 0) : numZ n = (2 * (-(n + 1)) + 1).toNat := by unfold numZ; rw [if_pos h]
theorem numZ_pos {n : Int} (h : ¬ n < 0) : numZ n = (2 * n).toNat := by unfold numZ; rw [if_neg h]
theorem intZ_bd {u : Nat} (h : u < 18446744073709551616) : -9223372036854775808 ≤ intZ u ∧ intZ u ≤ 9223372036854775807 := by
  unfold intZ
  by_cases h : u % 2 = 1
  · rw [if_pos h]; omega
  · rw [if_neg h]; omega
theorem intZ_odd {u : Nat} (h : u % 2 = 1) : intZ u = -((u / 2 : Nat) : Int) - 1 := by unfold intZ; rw [if_pos h]
theorem intZ_even {u : Nat} (h : ¬ u % 2 = 1) : intZ u = ((u / 2 : Nat) : Int) := by unfold intZ; rw [if_neg h]
/-- The encoding of a number. -/
def encN (u : Nat) : List UInt8 := if u < 128 then [UInt8.ofNat u] else UInt8.ofNat (u % 128 + 128) :: encN (u / 128)
termination_by u
theorem encN_small {u : Nat} (h : u < 128) : encN u = [UInt8.ofNat u] := by rw [encN, if_pos h]
theorem encN_great {u : Nat} (h : ¬ u < 128) : encN u = UInt8.ofNat (u % 128 + 128) :: encN (u / 128) := by rw [encN, if_neg h]
theorem byte_of {u : Nat} (h : u < 256) : (UInt8.ofNat u).toNat = u := by simp; omega
theorem byte_eq {c : UInt8} {u : Nat} (h : c.toNat = u) : UInt8.ofNat u = c := by subst h; simp
theorem byte_lt (c : UInt8) : c.toNat < 256 := c.toNat_lt
theorem encN_len (u : Nat) : 0 < (encN u).length ∧ ∀ k, u < 128 ^ (k + 1) → (encN u).length ≤ k + 1 := by
  induction u using Nat.strongRecOn with
  | _ u ih =>
    by_cases h : u < 128
    · rw [encN_small h]; exact ⟨by simp, fun k _ => by simp⟩
    · rw [encN_great h]
      have hi := ih (u / 128) (by omega)
      refine ⟨by simp, fun k hk => ?_⟩
      match k, hk with
      | 0, hk => exact absurd hk (by simp; omega)
      | k + 1, hk =>
        have := hi.2 k (by rw [Nat.pow_succ] at hk; rw [Nat.div_lt_iff_lt_mul (by decide)]; exact hk)
        simp only [List.length_cons]; omega
theorem encN_len10 {u : Nat} (h : u < 18446744073709551616) : 1 ≤ (encN u).length ∧ (encN u).length ≤ 10 :=
  ⟨(encN_len u).1, (encN_len u).2 9 (Nat.lt_trans h (by decide))⟩
/-- What is read at the beginning: 7 too short, 8 the wrong form, or a number and its size. -/
inductive Dec where
  | bad (e : Nat)
  | good (v k : Nat)
def dec : List UInt8 → Nat → Nat → Dec
  | [], _, _ => .bad 7
  | c :: t, i, acc => if (i = 9 ∧ 1 < c.toNat) ∨ (0 < i ∧ c.toNat = 0) then .bad 8 else if c.toNat < 128 then .good (acc + c.toNat * 128 ^ i) (i + 1) else dec t (i + 1) (acc + (c.toNat - 128) * 128 ^ i)
theorem dec_nil {i acc : Nat} : dec [] i acc = .bad 7 := rfl
theorem dec_bad {c : UInt8} {t : List UInt8} {i acc : Nat} (h : (i = 9 ∧ 1 < c.toNat) ∨ (0 < i ∧ c.toNat = 0)) : dec (c :: t) i acc = .bad 8 := by rw [dec, if_pos h]
theorem dec_end {c : UInt8} {t : List UInt8} {i acc : Nat} (h : ¬ ((i = 9 ∧ 1 < c.toNat) ∨ (0 < i ∧ c.toNat = 0))) (h2 : c.toNat < 128) : dec (c :: t) i acc = .good (acc + c.toNat * 128 ^ i) (i + 1) := by rw [dec, if_neg h, if_pos h2]
theorem dec_next {c : UInt8} {t : List UInt8} {i acc : Nat} (h : ¬ ((i = 9 ∧ 1 < c.toNat) ∨ (0 < i ∧ c.toNat = 0))) (h2 : ¬ c.toNat < 128) : dec (c :: t) i acc = dec t (i + 1) (acc + (c.toNat - 128) * 128 ^ i) := by rw [dec, if_neg h, if_neg h2]
theorem pow_le9 {i : Nat} (h : i ≤ 8) : 128 ^ (i + 1) ≤ 9223372036854775808 := Nat.le_trans (Nat.pow_le_pow_right (by decide) (show i + 1 ≤ 9 by omega)) (by decide)
theorem step_lt {acc x i : Nat} (h : acc < 128 ^ i) (hx : x < 128) : acc + x * 128 ^ i < 128 ^ (i + 1) := by
  rw [Nat.pow_succ]
  have : x * 128 ^ i ≤ 127 * 128 ^ i := Nat.mul_le_mul_right _ (by omega)
  omega
theorem dec_enc (more : List UInt8) (u : Nat) : ∀ i acc, (i = 0 ∨ u ≠ 0) → u * 128 ^ i < 18446744073709551616 → i ≤ 9 → dec (encN u ++ more) i acc = .good (acc + u * 128 ^ i) (i + (encN u).length) := by
  induction u using Nat.strongRecOn with
  | _ u ih =>
    intro i acc h0 hlt hi
    have h9 : i = 9 → u ≤ 1 := by
      rintro rfl
      omega
    by_cases h : u < 128
    · rw [encN_small h]
      have e := byte_of (u := u) (by omega)
      rw [List.singleton_append, dec_end (by rw [e]; omega) (by rw [e]; exact h), e]; rfl
    · rw [encN_great h, List.cons_append]
      have e := byte_of (u := u % 128 + 128) (by omega)
      have hi9 : i ≠ 9 := fun h' => by have := h9 h'; omega
      have hq : u / 128 * 128 ^ (i + 1) ≤ u * 128 ^ i := by
        rw [Nat.pow_succ, Nat.mul_comm (128 ^ i), ← Nat.mul_assoc]
        exact Nat.mul_le_mul_right _ (by omega)
      rw [dec_next (by rw [e]; omega) (by rw [e]; omega), e, ih (u / 128) (by omega) (i + 1) _ (.inr (by omega)) (by omega) (by omega), List.length_cons]
      have hs : u % 128 * 128 ^ i + u / 128 * 128 ^ (i + 1) = u * 128 ^ i := by
        rw [Nat.pow_succ, Nat.mul_comm (128 ^ i), ← Nat.mul_assoc, ← Nat.add_mul]
        congr 1; omega
      rw [Nat.add_sub_cancel, Nat.add_assoc, hs]
      congr 1; omega
theorem dec_enc0 {u : Nat} (h : u < 18446744073709551616) (more : List UInt8) : dec (encN u ++ more) 0 0 = .good u (encN u).length := by
  have := dec_enc more u 0 0 (.inl rfl) (by simpa using h) (by omega)
  simpa using this
theorem dec_short (u : Nat) : ∀ i acc m, (i = 0 ∨ u ≠ 0) → u * 128 ^ i < 18446744073709551616 → i ≤ 9 → m < (encN u).length → dec ((encN u).take m) i acc = .bad 7 := by
  induction u using Nat.strongRecOn with
  | _ u ih =>
    intro i acc m h0 hlt hi hm
    have h9 : i = 9 → u ≤ 1 := by
      rintro rfl
      omega
    by_cases h : u < 128
    · rw [encN_small h] at hm ⊢
      obtain rfl : m = 0 := by simpa using hm
      rfl
    · rw [encN_great h] at hm ⊢
      match m, hm with
      | 0, _ => rfl
      | m + 1, hm =>
        have e := byte_of (u := u % 128 + 128) (by omega)
        have hi9 : i ≠ 9 := fun h' => by have := h9 h'; omega
        have hq : u / 128 * 128 ^ (i + 1) ≤ u * 128 ^ i := by
          rw [Nat.pow_succ, Nat.mul_comm (128 ^ i), ← Nat.mul_assoc]
          exact Nat.mul_le_mul_right _ (by omega)
        rw [List.take_succ_cons, dec_next (by rw [e]; omega) (by rw [e]; omega), ih (u / 128) (by omega) (i + 1) _ m (.inr (by omega)) (by omega) (by omega) (by simpa using hm)]
theorem dec_short0 {u m : Nat} (h : u < 18446744073709551616) (hm : m < (encN u).length) : dec ((encN u).take m) 0 0 = .bad 7 := dec_short u 0 0 m (.inl rfl) (by simpa using h) (by omega) hm
theorem dec_good (l : List UInt8) : ∀ i acc v k, dec l i acc = .good v k → i ≤ 9 → ∃ u, v = acc + u * 128 ^ i ∧ i + 1 ≤ k ∧ k ≤ i + l.length ∧ l.take (k - i) = encN u ∧ (i = 0 ∨ u ≠ 0) ∧ (acc < 128 ^ i → v < 18446744073709551616) ∧ k ≤ 10 := by
  induction l with
  | nil => intro i acc v k h; simp [dec_nil] at h
  | cons c t ih =>
    intro i acc v k h hi
    by_cases h1 : (i = 9 ∧ 1 < c.toNat) ∨ (0 < i ∧ c.toNat = 0)
    · rw [dec_bad h1] at h; cases h
    · by_cases h2 : c.toNat < 128
      · rw [dec_end h1 h2] at h
        injection h with hv hk
        subst hv; subst hk
        refine ⟨c.toNat, rfl, by omega, by simp, ?_, by omega, fun ha => ?_, by omega⟩
        · rw [encN_small h2, byte_eq rfl, Nat.add_sub_cancel_left]; rfl
        · by_cases e9 : i = 9
          · subst e9
            omega
          · have h3 := step_lt ha h2
            have h4 := pow_le9 (i := i) (by omega)
            omega
      · rw [dec_next h1 h2] at h
        have hc := byte_lt c
        have hi9 : i ≠ 9 := fun e => h1 (.inl ⟨e, by omega⟩)
        obtain ⟨u, hv, hk1, hk2, ht, hu, hlt, h10⟩ := ih (i + 1) _ v k h (by omega)
        have hu' : u ≠ 0 := by omega
        refine ⟨c.toNat - 128 + 128 * u, ?_, by omega, by simp only [List.length_cons]; omega, ?_, .inr (by omega), fun ha => hlt (step_lt ha (by omega)), h10⟩
        · rw [hv, Nat.pow_succ, Nat.add_mul, Nat.mul_comm (128 ^ i), ← Nat.mul_assoc, Nat.mul_comm 128 u]; omega
        · rw [encN_great (by omega), show k - i = (k - (i + 1)) + 1 by omega, List.take_succ_cons, ht, show (c.toNat - 128 + 128 * u) / 128 = u by omega, show (c.toNat - 128 + 128 * u) % 128 + 128 = c.toNat by omega, byte_eq rfl]
theorem dec_good0 {l : List UInt8} {v k : Nat} (h : dec l 0 0 = .good v k) : 1 ≤ k ∧ k ≤ l.length ∧ k ≤ 10 ∧ l.take k = encN v ∧ v < 18446744073709551616 := by
  obtain ⟨u, hv, h1, h2, h3, -, h5, h6⟩ := dec_good l 0 0 v k h (by omega)
  obtain rfl : v = u := by simpa using hv
  exact ⟨by omega, by omega, h6, by simpa using h3, h5 (by simp)⟩
theorem dec_e (l : List UInt8) : ∀ i acc e, dec l i acc = .bad e → e = 7 ∨ e = 8 := by
  induction l with
  | nil => intro i acc e h; simp [dec_nil] at h; exact .inl h.symm
  | cons c t ih =>
    intro i acc e h
    by_cases h1 : (i = 9 ∧ 1 < c.toNat) ∨ (0 < i ∧ c.toNat = 0)
    · rw [dec_bad h1] at h; injection h with h; exact .inr h.symm
    · by_cases h2 : c.toNat < 128
      · rw [dec_end h1 h2] at h; cases h
      · rw [dec_next h1 h2] at h; exact ih _ _ _ h
end Go.Proofs.Ytnfddeoddjmpkaa.Co
