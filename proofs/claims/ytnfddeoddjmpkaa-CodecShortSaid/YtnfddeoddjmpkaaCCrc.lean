/-
  Mathematics of the checksum: one step is linear and loses nothing, so a change within four bytes is seen, and sums of exclusive ors are exclusive ors of sums.
-/
import Derived.Test.YtnfddeoddjmpkaaCMath
namespace Go.Proofs.Ytnfddeoddjmpkaa.Co
def stepC (x : Nat) : Nat := if x % 2 = 1 then x / 2 ^^^ 2197175160 else x / 2
def stepsC : Nat → Nat → Nat
  | 0, x => x
  | k + 1, x => stepC (stepsC k x)
def runC (r : Nat) (l : List UInt8) : Nat := l.foldl (fun x c => stepsC 8 (x ^^^ c.toNat)) r
def sumC (l : List UInt8) : Nat := runC 4294967295 l ^^^ 4294967295
theorem runC_nil {r : Nat} : runC r [] = r := rfl
theorem runC_cons {r : Nat} {c : UInt8} {l : List UInt8} : runC r (c :: l) = runC (stepsC 8 (r ^^^ c.toNat)) l := by unfold runC; rw [List.foldl_cons]
theorem runC_app {r : Nat} {l m : List UInt8} : runC r (l ++ m) = runC (runC r l) m := by unfold runC; rw [List.foldl_append]
theorem runC_snoc {r : Nat} {l : List UInt8} {c : UInt8} : runC r (l ++ [c]) = stepsC 8 (runC r l ^^^ c.toNat) := by rw [runC_app, runC_cons, runC_nil]
theorem stepC_lt {x : Nat} (h : x < 4294967296) : stepC x < 4294967296 := by
  unfold stepC
  split
  · exact Nat.xor_lt_two_pow (n := 32) (by omega) (by decide)
  · omega
theorem stepsC_lt {k x : Nat} (h : x < 4294967296) : stepsC k x < 4294967296 := by
  induction k with
  | zero => exact h
  | succ k ih => exact stepC_lt ih
theorem byte_xor_lt {x : Nat} (h : x < 4294967296) (c : UInt8) : x ^^^ c.toNat < 4294967296 := Nat.xor_lt_two_pow (n := 32) h (by have := c.toNat_lt; omega)
theorem runC_lt {l : List UInt8} : ∀ {r : Nat}, r < 4294967296 → runC r l < 4294967296 := by
  induction l with
  | nil => intro r h; exact h
  | cons c t ih => intro r h; exact ih (stepsC_lt (byte_xor_lt h c))
theorem sumC_lt (l : List UInt8) : sumC l < 4294967296 := Nat.xor_lt_two_pow (n := 32) (runC_lt (by decide)) (by decide)
theorem xor_half (x y : Nat) : (x ^^^ y) / 2 = x / 2 ^^^ y / 2 := by
  have := Nat.shiftRight_xor_distrib (a := x) (b := y) (i := 1)
  simpa [Nat.shiftRight_eq_div_pow] using this
theorem xor_odd (x y : Nat) : (x ^^^ y) % 2 = (x + y) % 2 := by
  have h := Nat.xor_mod_two_pow (a := x) (b := y) (n := 1)
  rw [Nat.pow_one] at h
  rw [h, Nat.add_mod]
  rcases Nat.mod_two_eq_zero_or_one x with e | e <;> rcases Nat.mod_two_eq_zero_or_one y with e2 | e2 <;> rw [e, e2] <;> rfl
theorem xor4 (a b c d : Nat) : (a ^^^ b) ^^^ (c ^^^ d) = (a ^^^ c) ^^^ (b ^^^ d) := by
  rw [Nat.xor_assoc, Nat.xor_assoc, ← Nat.xor_assoc b, Nat.xor_comm b c, Nat.xor_assoc c]
theorem stepC_lin (x y : Nat) : stepC (x ^^^ y) = stepC x ^^^ stepC y := by
  have ho := xor_odd x y
  unfold stepC
  rw [xor_half]
  by_cases hx : x % 2 = 1 <;> by_cases hy : y % 2 = 1
  · rw [if_neg (by omega), if_pos hx, if_pos hy, xor4, Nat.xor_self, Nat.xor_zero]
  · rw [if_pos (by omega), if_pos hx, if_neg hy, Nat.xor_assoc, Nat.xor_assoc, Nat.xor_comm (y / 2)]
  · rw [if_pos (by omega), if_neg hx, if_pos hy, Nat.xor_assoc]
  · rw [if_neg (by omega), if_neg hx, if_neg hy]
theorem stepsC_lin (k x y : Nat) : stepsC k (x ^^^ y) = stepsC k x ^^^ stepsC k y := by
  induction k with
  | zero => rfl
  | succ k ih => show stepC _ = _; rw [ih, stepC_lin]; rfl
theorem stepsC_add (k j x : Nat) : stepsC (k + j) x = stepsC k (stepsC j x) := by
  induction k with
  | zero => rw [Nat.zero_add]; rfl
  | succ k ih => rw [Nat.succ_add]; show stepC _ = stepC _; rw [ih]
theorem stepC_double (x : Nat) : stepC (2 * x) = x := by unfold stepC; rw [if_neg (by omega)]; omega
theorem stepsC_double (k x : Nat) : stepsC k (2 ^ k * x) = x := by
  induction k generalizing x with
  | zero => simp [stepsC]
  | succ k ih => show stepC _ = _; rw [Nat.pow_succ, Nat.mul_assoc, ih, stepC_double]
theorem stepC_zero {x : Nat} (hx : x < 4294967296) (h : stepC x = 0) : x = 0 := by
  unfold stepC at h
  by_cases ho : x % 2 = 1
  · rw [if_pos ho] at h
    have h2 : x / 2 = 2197175160 := by
      have e : (x / 2 ^^^ 2197175160) ^^^ 2197175160 = 0 ^^^ 2197175160 := by rw [h]
      rwa [Nat.xor_assoc, Nat.xor_self, Nat.xor_zero, Nat.zero_xor] at e
    omega
  · rw [if_neg ho] at h; omega
theorem stepsC_zero {k x : Nat} (hx : x < 4294967296) (h : stepsC k x = 0) : x = 0 := by
  induction k with
  | zero => exact h
  | succ k ih => exact ih (stepC_zero (stepsC_lt hx) h)
theorem stepsC_of_zero (k : Nat) : stepsC k 0 = 0 := by
  induction k with
  | zero => rfl
  | succ k ih => show stepC _ = 0; rw [ih]; rfl
/-- Exclusive ors of bytes at the same places. -/
def xorL (l m : List UInt8) : List UInt8 := List.zipWith (· ^^^ ·) l m
theorem byte_xor (a b : UInt8) : (a ^^^ b).toNat = a.toNat ^^^ b.toNat := UInt8.toNat_xor a b
theorem runC_lin (l : List UInt8) : ∀ (m : List UInt8) (r s : Nat), l.length = m.length → runC (r ^^^ s) (xorL l m) = runC r l ^^^ runC s m := by
  induction l with
  | nil => intro m r s h; obtain rfl : m = [] := List.eq_nil_of_length_eq_zero h.symm; rfl
  | cons a l ih =>
    intro m r s h
    match m, h with
    | b :: m, h =>
      show runC (r ^^^ s) ((a ^^^ b) :: xorL l m) = _
      rw [runC_cons, runC_cons, runC_cons, byte_xor, xor4, stepsC_lin]
      exact ih m _ _ (by simpa using h)
theorem xorL_zero (l : List UInt8) : xorL l (List.replicate l.length 0) = l := by
  induction l with
  | nil => rfl
  | cons a l ih =>
    show (a ^^^ 0) :: xorL l (List.replicate l.length 0) = _
    rw [ih]; congr 1
    apply UInt8.toNat_inj.1
    rw [byte_xor]
    show a.toNat ^^^ 0 = _
    rw [Nat.xor_zero]
theorem sum3 {l m : List UInt8} (h : l.length = m.length) : sumC (xorL l m) = sumC l ^^^ sumC m ^^^ sumC (List.replicate l.length 0) := by
  have e1 := runC_lin (xorL l m) (List.replicate (xorL l m).length 0) (4294967295 ^^^ 4294967295) 4294967295 (by simp)
  rw [xorL_zero, runC_lin l m 4294967295 4294967295 h] at e1
  have hl : (xorL l m).length = l.length := by unfold xorL; rw [List.length_zipWith]; omega
  rw [hl] at e1
  unfold sumC
  have e2 : (4294967295 ^^^ 4294967295) ^^^ 4294967295 = 4294967295 := by decide
  rw [e2] at e1
  rw [e1]
  generalize runC 4294967295 l = a
  generalize runC 4294967295 m = b
  generalize runC 4294967295 (List.replicate l.length 0) = c
  rw [xor4 a 4294967295, Nat.xor_self, Nat.xor_zero, ← Nat.xor_assoc]
theorem runC_zeros (k : Nat) : runC 0 (List.replicate k 0) = 0 := by
  induction k with
  | zero => rfl
  | succ k ih => rw [List.replicate_succ, runC_cons]; show runC (stepsC 8 (0 ^^^ 0)) _ = 0; rw [Nat.xor_self, stepsC_of_zero, ih]
theorem runC_zeros_inj {k r : Nat} (hr : r < 4294967296) (h : runC r (List.replicate k 0) = 0) : r = 0 := by
  induction k generalizing r with
  | zero => exact h
  | succ k ih =>
    rw [List.replicate_succ, runC_cons] at h
    have h2 := ih (stepsC_lt (byte_xor_lt hr 0)) h
    have h3 := stepsC_zero (byte_xor_lt hr 0) h2
    have : r ^^^ 0 = 0 := h3
    rwa [Nat.xor_zero] at this
/-- Four bytes as one number. -/
def wordC : List UInt8 → Nat
  | [] => 0
  | c :: t => c.toNat ^^^ 256 * wordC t
theorem wordC_lt (l : List UInt8) : wordC l < 256 ^ l.length := by
  induction l with
  | nil => decide
  | cons c t ih =>
    show c.toNat ^^^ 256 * wordC t < 256 ^ (t.length + 1)
    have hc := c.toNat_lt
    have e : 256 ^ (t.length + 1) = 2 ^ (8 * (t.length + 1)) := by rw [Nat.pow_mul]
    rw [e]
    apply Nat.xor_lt_two_pow
    · exact Nat.lt_of_lt_of_le (m := 2 ^ 8) (by omega) (Nat.pow_le_pow_right (by decide) (by omega))
    · rw [← e, Nat.pow_succ, Nat.mul_comm]; exact Nat.mul_lt_mul_of_pos_right ih (by decide)
theorem runC_word (l : List UInt8) : ∀ r, runC r l = stepsC (8 * l.length) (r ^^^ wordC l) := by
  induction l with
  | nil => intro r; show r = r ^^^ 0; rw [Nat.xor_zero]
  | cons c t ih =>
    intro r
    rw [runC_cons, ih]
    have e : wordC t = stepsC 8 (256 * wordC t) := (stepsC_double 8 (wordC t)).symm
    show stepsC (8 * t.length) (stepsC 8 (r ^^^ c.toNat) ^^^ wordC t) = stepsC (8 * (t.length + 1)) (r ^^^ (c.toNat ^^^ 256 * wordC t))
    rw [Nat.mul_succ, stepsC_add, ← Nat.xor_assoc, stepsC_lin 8 (r ^^^ c.toNat), ← e]
theorem wordC_zero {l : List UInt8} (h : wordC l = 0) : ∀ c ∈ l, c = 0 := by
  induction l with
  | nil => simp
  | cons c t ih =>
    have h : c.toNat ^^^ 256 * wordC t = 0 := h
    have e : c.toNat = 256 * wordC t := by
      have e : (c.toNat ^^^ 256 * wordC t) ^^^ (256 * wordC t) = 0 ^^^ (256 * wordC t) := by rw [h]
      rwa [Nat.xor_assoc, Nat.xor_self, Nat.xor_zero, Nat.zero_xor] at e
    have hc := c.toNat_lt
    intro x hx
    rcases List.mem_cons.1 hx with rfl | hx
    · exact UInt8.toNat_inj.1 (by show x.toNat = 0; omega)
    · exact ih (by omega) x hx
theorem wordC_of_zero {l : List UInt8} (h : ∀ c ∈ l, c = 0) : wordC l = 0 := by
  induction l with
  | nil => rfl
  | cons c t ih =>
    show c.toNat ^^^ 256 * wordC t = 0
    rw [h c (by simp), ih fun x hx => h x (by simp [hx])]; rfl
theorem runC_zero_iff {a b : Nat} {l : List UInt8} (hl : l.length ≤ 4) : runC 0 (List.replicate a 0 ++ l ++ List.replicate b 0) = 0 ↔ ∀ c ∈ l, c = 0 := by
  have hw : wordC l < 4294967296 := Nat.lt_of_lt_of_le (wordC_lt l) (Nat.le_trans (Nat.pow_le_pow_right (by decide) hl) (by decide))
  rw [runC_app, runC_app, runC_zeros, runC_word l, Nat.zero_xor]
  constructor
  · intro h
    exact wordC_zero (stepsC_zero hw (runC_zeros_inj (stepsC_lt hw) h))
  · intro h
    rw [wordC_of_zero h, stepsC_of_zero, runC_zeros]
/-- A change within four bytes changes the sum. -/
theorem sum_change {l m : List UInt8} {a b : Nat} (hl : l.length = a + m.length + b) (hm : m.length ≤ 4) : sumC (xorL l (List.replicate a 0 ++ m ++ List.replicate b 0)) = sumC l ↔ ∀ c ∈ m, c = 0 := by
  rw [← runC_zero_iff (a := a) (b := b) hm]
  have e := runC_lin l (List.replicate a 0 ++ m ++ List.replicate b 0) 4294967295 0 (by simp [hl]; omega)
  rw [Nat.xor_zero] at e
  unfold sumC
  rw [e]
  generalize runC 0 (List.replicate a 0 ++ m ++ List.replicate b 0) = d
  generalize runC 4294967295 l = x
  constructor
  · intro h
    have h2 : (x ^^^ d ^^^ 4294967295) ^^^ (x ^^^ 4294967295) = (x ^^^ 4294967295) ^^^ (x ^^^ 4294967295) := by rw [h]
    rw [Nat.xor_self, xor4 (x ^^^ d), Nat.xor_self, Nat.xor_zero, Nat.xor_comm x d, Nat.xor_assoc, Nat.xor_self, Nat.xor_zero] at h2
    exact h2
  · intro h; subst h; rw [Nat.xor_zero]
end Go.Proofs.Ytnfddeoddjmpkaa.Co
