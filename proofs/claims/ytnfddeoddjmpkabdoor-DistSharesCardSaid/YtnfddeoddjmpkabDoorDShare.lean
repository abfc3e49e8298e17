/-
  Plain mathematics: how many of n equally distant numbers get a value.
-/
import Derived.Test.YtnfddeoddjmpkabDoorDTab
import Derived.Test.YtnfddeoddjmpkabDoorStMath
namespace Go.Proofs.YtnfddeoddjmpkabDoor.Di
open St (hiN)
def cnt (K : Nat → Int) (v : Int) : Nat → Nat
  | 0 => 0
  | i + 1 => cnt K v i + (if K i = v then 1 else 0)
theorem cnt_le (K : Nat → Int) (v : Int) (i : Nat) : cnt K v i ≤ i := by
  induction i with
  | zero => exact Nat.le_refl _
  | succ i ih =>
    show cnt K v i + _ ≤ i + 1
    split <;> omega
theorem cnt_yes {K : Nat → Int} {v : Int} {i : Nat} (h : K i = v) : cnt K v (i + 1) = cnt K v i + 1 := by show cnt K v i + _ = _; rw [if_pos h]
theorem cnt_no {K : Nat → Int} {v : Int} {i : Nat} (h : ¬ K i = v) : cnt K v (i + 1) = cnt K v i := by show cnt K v i + _ = _; rw [if_neg h]; rfl
theorem cnt_span {K : Nat → Int} {v : Int} {lo hi n : Nat} (hl : lo ≤ hi) (h : ∀ i, i < n → (K i = v ↔ lo ≤ i ∧ i < hi)) : ∀ m, m ≤ n → cnt K v m = min m hi - min m lo := by
  intro m
  induction m with
  | zero => intro _; show 0 = _; omega
  | succ m ih =>
    intro hm
    have h1 := ih (by omega)
    have h2 := h m (by omega)
    by_cases e : K m = v
    · rw [cnt_yes e, h1]
      have := h2.1 e
      omega
    · rw [cnt_no e, h1]
      have : ¬ (lo ≤ m ∧ m < hi) := fun g => e (h2.2 g)
      omega
def shr (V W : Nat → Int) (v : Int) : Nat → Int
  | 0 => 0
  | j + 1 => shr V W v j + (if V j = v then W j else 0)
theorem shr_yes {V W : Nat → Int} {v : Int} {j : Nat} (h : V j = v) : shr V W v (j + 1) = shr V W v j + W j := by show shr V W v j + _ = _; rw [if_pos h]
theorem shr_no {V W : Nat → Int} {v : Int} {j : Nat} (h : ¬ V j = v) : shr V W v (j + 1) = shr V W v j := by show shr V W v j + _ = _; rw [if_neg h]; omega
theorem shr_split (V W : Nat → Int) (v : Int) (n : Nat) : sumIf (leB V v) W n = sumIf (ltB V v) W n + shr V W v n := by
  induction n with
  | zero => rfl
  | succ k ih =>
    show sumIf (leB V v) W k + (if leB V v k = true then W k else 0) = sumIf (ltB V v) W k + (if ltB V v k = true then W k else 0) + shr V W v (k + 1)
    unfold leB ltB at ih ⊢
    rcases Int.lt_trichotomy (V k) v with h | h | h
    · rw [if_pos (decide_eq_true (by omega)), if_pos (decide_eq_true h), shr_no (by omega), ih]; omega
    · rw [if_pos (decide_eq_true (by omega)), if_neg (by simp; omega), shr_yes h, ih]; omega
    · rw [if_neg (by simp; omega), if_neg (by simp; omega), shr_no (by omega), ih]; omega
theorem shr_bd {V W : Nat → Int} {v : Int} {n : Nat} (h : ∀ i, i < n → 1 ≤ W i ∧ W i ≤ 1000) : 0 ≤ shr V W v n ∧ shr V W v n ≤ sumT W n := by
  induction n with
  | zero => exact ⟨Int.le_refl _, Int.le_refl _⟩
  | succ k ih =>
    have h1 := ih fun i hi => h i (by omega)
    have h2 := h k (by omega)
    show _ ∧ _ ≤ sumT W k + W k
    by_cases e : V k = v
    · rw [shr_yes e]; omega
    · rw [shr_no e]; omega
/-- Of a table's numbers each value gets its share. -/
theorem tab_count {V W : Nat → Int} {n S : Nat} {v : Int} {K : Nat → Int} (hW : ∀ i, i < n → 1 ≤ W i ∧ W i ≤ 1000) (hS : sumT W n = (S : Int)) (hK : ∀ i, i < S → TabIs V W n i (K i)) : (cnt K v S : Int) = shr V W v n := by
  have hW0 : ∀ i, i < n → 0 ≤ W i := fun i hi => by have := hW i hi; omega
  have h0 : 0 ≤ sumIf (ltB V v) W n := by
    have := sumIf_mono (U := fun _ => false) (U' := ltB V v) hW0 (fun i _ h => by cases h)
    rwa [sumIf_none (fun _ _ => rfl)] at this
  have hs := shr_split V W v n
  have hb := shr_bd (V := V) (v := v) hW
  have h1 : sumIf (leB V v) W n ≤ sumT W n := by
    have := sumIf_mono (U := leB V v) (U' := fun _ => true) hW0 (fun i _ _ => rfl)
    rwa [sumIf_all (fun _ _ => rfl)] at this
  have hspan := cnt_span (K := K) (v := v) (lo := (sumIf (ltB V v) W n).toNat) (hi := (sumIf (leB V v) W n).toNat) (n := S) (by omega) (fun i hi => by
    constructor
    · intro e
      have := hK i hi
      rw [e] at this
      unfold TabIs at this
      omega
    · intro g
      refine tab_unique hW0 (hK i hi) ?_
      unfold TabIs
      omega) S (Nat.le_refl _)
  rw [hspan]
  omega
theorem uni_count {N r : Nat} {a : Int} (hr : r < N) : cnt (fun i => a + (i : Int)) (a + (r : Int)) N = 1 := by
  have := cnt_span (K := fun i => a + (i : Int)) (v := a + (r : Int)) (lo := r) (hi := r + 1) (n := N) (by omega) (fun i _ => by show a + (i : Int) = a + (r : Int) ↔ _; omega) N (Nat.le_refl _)
  rw [this]; omega
/-- The distance of the random numbers. -/
def stepN (N : Nat) : Nat := (18446744073709551615 / N + 1) % 18446744073709551616
theorem step_hit {N i : Nat} (hN : N ≤ 100000) (hi : i < N) : i * stepN N % 18446744073709551616 < 18446744073709551616 ∧ hiN (i * stepN N % 18446744073709551616) N = i := by
  refine ⟨Nat.mod_lt _ (by decide), ?_⟩
  unfold stepN
  rw [Nat.mul_mod, Nat.mod_mod, ← Nat.mul_mod]
  have hq := Nat.div_add_mod 18446744073709551615 N
  have hr := Nat.mod_lt 18446744073709551615 (show 0 < N by omega)
  obtain ⟨q, eq⟩ : ∃ q, 18446744073709551615 / N = q := ⟨_, rfl⟩
  obtain ⟨r, er⟩ : ∃ r, 18446744073709551615 % N = r := ⟨_, rfl⟩
  rw [eq, er] at hq
  rw [er] at hr
  rw [eq]
  obtain ⟨e, he⟩ : ∃ e, e + r + 1 = N := ⟨N - 1 - r, by omega⟩
  have h1 : N * (q + 1) = 18446744073709551616 + e := by rw [Nat.mul_add, Nat.mul_one]; omega
  have h2 : i * (q + 1) * N = i * 18446744073709551616 + i * e := by rw [Nat.mul_assoc, Nat.mul_comm (q + 1), h1, Nat.mul_add]
  have h3 : i * e ≤ 10000000000 := by
    have := Nat.mul_le_mul (show i ≤ 100000 by omega) (show e ≤ 100000 by omega)
    omega
  have h4 : i * (q + 1) < 18446744073709551616 := by
    refine Nat.lt_of_mul_lt_mul_right (a := N) ?_
    rw [h2]
    obtain ⟨m, rfl⟩ : ∃ m, N = i + 1 + m := ⟨N - (i + 1), by omega⟩
    rw [Nat.mul_comm 18446744073709551616, Nat.add_mul, Nat.add_mul]
    omega
  rw [Nat.mod_eq_of_lt h4]
  unfold St.hiN
  rw [h2]
  omega
end Go.Proofs.YtnfddeoddjmpkabDoor.Di
