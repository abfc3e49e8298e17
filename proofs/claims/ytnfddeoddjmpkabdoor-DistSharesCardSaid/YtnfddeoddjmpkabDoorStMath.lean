/-
  Arithmetic of package stream on natural numbers: Mix and that it is injective, the inverted number, the upper half of a product.
-/
import Derived.Laws.Bits64
import Derived.Lib.Hide
namespace Go.Proofs.YtnfddeoddjmpkabDoor.St
def stepN (s C X : Nat) : Nat := (X ^^^ X / s) * C % 18446744073709551616
def mixN (x : Nat) : Nat := stepN 134217728 10723151780598845931 (stepN 1073741824 13787848793156543929 x) ^^^ stepN 134217728 10723151780598845931 (stepN 1073741824 13787848793156543929 x) / 2147483648
theorem stepN_lt (s C X : Nat) : stepN s C X < 18446744073709551616 := Nat.mod_lt _ (by decide)
theorem xs_lt {x s : Nat} (h : x < 18446744073709551616) : x ^^^ x / s < 18446744073709551616 := Nat.xor_lt_two_pow (n := 64) h (Nat.lt_of_le_of_lt (Nat.div_le_self _ _) h)
theorem mixN_lt (x : Nat) : mixN x < 18446744073709551616 := xs_lt (stepN_lt _ _ _)
theorem xor_zero_eq {a b : Nat} (h : a ^^^ b = 0) : a = b := by
  have e : (a ^^^ b) ^^^ b = 0 ^^^ b := by rw [h]
  rwa [Nat.xor_assoc, Nat.xor_self, Nat.xor_zero, Nat.zero_xor] at e
theorem xs_inj {x y k : Nat} (hk : 0 < k) (h : x ^^^ x / 2 ^ k = y ^^^ y / 2 ^ k) : x = y := by
  rw [← Nat.shiftRight_eq_div_pow, ← Nat.shiftRight_eq_div_pow] at h
  have e : (x ^^^ y) ^^^ ((x ^^^ y) >>> k) = 0 := by
    rw [Nat.shiftRight_xor_distrib]
    have : x ^^^ y ^^^ (x >>> k ^^^ y >>> k) = (x ^^^ x >>> k) ^^^ (y ^^^ y >>> k) := by
      rw [Nat.xor_assoc, Nat.xor_assoc, ← Nat.xor_assoc y, Nat.xor_comm y, Nat.xor_assoc (x >>> k)]
    rw [this, h, Nat.xor_self]
  have e2 : x ^^^ y = (x ^^^ y) >>> k := xor_zero_eq e
  have e3 : x ^^^ y = 0 := by
    generalize x ^^^ y = d at e2
    rw [Nat.shiftRight_eq_div_pow] at e2
    rcases Nat.eq_zero_or_pos d with h0 | h0
    · exact h0
    · have h2 : 1 < 2 ^ k := Nat.one_lt_two_pow (by omega)
      have := Nat.div_lt_self h0 h2
      omega
  exact xor_zero_eq e3
theorem mul_inj {x y C I : Nat} (hx : x < 18446744073709551616) (hy : y < 18446744073709551616) (hI : C * I % 18446744073709551616 = 1) (h : x * C % 18446744073709551616 = y * C % 18446744073709551616) : x = y := by
  have k : ∀ z, z < 18446744073709551616 → z * C % 18446744073709551616 * I % 18446744073709551616 = z := fun z hz => by
    rw [Nat.mod_mul_mod, Nat.mul_assoc, Nat.mul_mod, hI, Nat.mul_one, Nat.mod_mod, Nat.mod_eq_of_lt hz]
  rw [← k x hx, ← k y hy, h]
theorem stepN_inj {k C I x y : Nat} (hk : 0 < k) (hx : x < 18446744073709551616) (hy : y < 18446744073709551616) (hI : C * I % 18446744073709551616 = 1) (h : stepN (2 ^ k) C x = stepN (2 ^ k) C y) : x = y :=
  xs_inj hk (mul_inj (xs_lt hx) (xs_lt hy) hI h)
theorem mixN_inj {x y : Nat} (hx : x < 18446744073709551616) (hy : y < 18446744073709551616) (h : mixN x = mixN y) : x = y := by
  have h1 := xs_inj (k := 31) (by decide) h
  have h2 := stepN_inj (k := 27) (I := 3573116690164977347) (by decide) (stepN_lt _ _ _) (stepN_lt _ _ _) (by decide) h1
  exact stepN_inj (k := 30) (I := 10871156337175269513) (by decide) hx hy (by decide) h2
theorem not_u64 (u : Nat) (h : u < 18446744073709551616) : 18446744073709551615 ^^^ u = 18446744073709551615 - u := by
  apply Nat.eq_of_testBit_eq
  intro i
  have e1 : Nat.testBit 18446744073709551615 i = decide (i < 64) := by
    rw [show 18446744073709551615 = 2 ^ 64 - 1 from rfl, Nat.testBit_two_pow_sub_one]
  have e2 : Nat.testBit (18446744073709551615 - u) i = (decide (i < 64) && !Nat.testBit u i) := by
    rw [show 18446744073709551615 - u = 2 ^ 64 - (u + 1) by omega]
    exact Nat.testBit_two_pow_sub_succ h i
  rw [Nat.testBit_xor, e1, e2]
  by_cases hi : i < 64
  · simp [hi]
  · have : Nat.testBit u i = false := Nat.testBit_lt_two_pow (Nat.lt_of_lt_of_le h (show 2 ^ 64 ≤ 2 ^ i from Nat.pow_le_pow_right (by decide) (by omega)))
    simp [hi, this]
theorem xor_left_inj {a x y : Nat} (h : a ^^^ x = a ^^^ y) : x = y := by
  have : a ^^^ (a ^^^ x) = a ^^^ (a ^^^ y) := by rw [h]
  rwa [← Nat.xor_assoc, ← Nat.xor_assoc, Nat.xor_self, Nat.zero_xor, Nat.zero_xor] at this
/-- The number i of a substream, or a seed, as 64 bits. -/
def bitsOf (i : Int) : Nat := (i % 18446744073709551616).toNat
theorem bitsOf_lt (i : Int) : bitsOf i < 18446744073709551616 := by unfold bitsOf; omega
theorem bitsOf_cast (i : Int) : ((bitsOf i : Nat) : Int) = i % 18446744073709551616 := by unfold bitsOf; omega
theorem bitsOf_inj {i k : Int} (h0 : -9223372036854775808 ≤ i) (h1 : i ≤ 9223372036854775807) (g0 : -9223372036854775808 ≤ k) (g1 : k ≤ 9223372036854775807) (h : bitsOf i = bitsOf k) : i = k := by
  unfold bitsOf at h; omega
def addG (x : Nat) : Nat := (x + 11400714819323198485) % 18446744073709551616
theorem addG_lt (x : Nat) : addG x < 18446744073709551616 := Nat.mod_lt _ (by decide)
theorem addG_inj {x y : Nat} (hx : x < 18446744073709551616) (hy : y < 18446744073709551616) (h : addG x = addG y) : x = y := by unfold addG at h; omega
/-- The key of substream number i. -/
def splitK (k : Nat) (i : Int) : Nat := mixN (k ^^^ mixN (addG (bitsOf i)))
theorem splitK_lt (k : Nat) (i : Int) : splitK k i < 18446744073709551616 := mixN_lt _
theorem splitK_inj {k : Nat} (hk : k < 18446744073709551616) {i j : Int} (h0 : -9223372036854775808 ≤ i) (h1 : i ≤ 9223372036854775807) (g0 : -9223372036854775808 ≤ j) (g1 : j ≤ 9223372036854775807) (h : splitK k i = splitK k j) : i = j :=
  bitsOf_inj h0 h1 g0 g1 (addG_inj (bitsOf_lt _) (bitsOf_lt _) (mixN_inj (addG_lt _) (addG_lt _) (xor_left_inj (mixN_inj (Nat.xor_lt_two_pow (n := 64) hk (mixN_lt _)) (Nat.xor_lt_two_pow (n := 64) hk (mixN_lt _)) h))))
/-- The number behind position p. -/
def numAt (k p : Nat) : Nat := mixN ((k + (p + 1) * 11400714819323198485 % 18446744073709551616) % 18446744073709551616)
def turned (b : Bool) (u : Nat) : Nat := if b then 18446744073709551615 - u else u
theorem numAt_lt (k p : Nat) : numAt k p < 18446744073709551616 := mixN_lt _
theorem turned_lt {b : Bool} {u : Nat} (h : u < 18446744073709551616) : turned b u < 18446744073709551616 := by unfold turned; split <;> omega
def nextU (k p : Nat) (b : Bool) : Nat := turned b (numAt k p)
theorem nextU_lt (k p : Nat) (b : Bool) : nextU k p b < 18446744073709551616 := turned_lt (numAt_lt k p)
theorem nextU_not (k p : Nat) (b : Bool) : nextU k p (!b) = 18446744073709551615 - nextU k p b := by
  have := numAt_lt k p
  unfold nextU turned
  cases b <;> simp <;> omega
def hiN (u n : Nat) : Nat := u * n / 18446744073709551616
theorem hiN_lt {u n : Nat} (hu : u < 18446744073709551616) (hn : 0 < n) : hiN u n < n := by
  unfold hiN
  rw [Nat.div_lt_iff_lt_mul (by decide), Nat.mul_comm]
  exact Nat.mul_lt_mul_of_pos_left hu hn
theorem hiN_mono {u n m : Nat} (h : n ≤ m) : hiN u n ≤ hiN u m := Nat.div_le_div_right (Nat.mul_le_mul_left u h)
theorem hiN_not {u n : Nat} (hu : u < 18446744073709551616) (hn : 0 < n) (hm : n ≤ 1000000000000) : hiN u n + hiN (18446744073709551615 - u) n = n - 1 ∨ hiN u n + hiN (18446744073709551615 - u) n + 2 = n := by
  unfold hiN
  obtain ⟨p, ep⟩ : ∃ p, u * n = p := ⟨_, rfl⟩
  have hp : p + n ≤ 18446744073709551616 * n := by
    rw [← ep, ← Nat.succ_mul]; exact Nat.mul_le_mul_right n hu
  have e : (18446744073709551615 - u) * n = 18446744073709551615 * n - p := by rw [Nat.sub_mul, ep]
  rw [e, ep]
  omega
theorem high_parts (a b : Nat) :
    (a / 4294967296) * (b / 4294967296) + ((a / 4294967296) * (b % 4294967296) + (a % 4294967296) * (b % 4294967296) / 4294967296) / 4294967296 +
      ((a % 4294967296) * (b / 4294967296) + ((a / 4294967296) * (b % 4294967296) + (a % 4294967296) * (b % 4294967296) / 4294967296) % 4294967296) / 4294967296 = hiN a b := by
  unfold hiN
  have ea := Nat.div_add_mod a 4294967296
  have eb := Nat.div_add_mod b 4294967296
  generalize a / 4294967296 = ah at *
  generalize a % 4294967296 = al at *
  generalize b / 4294967296 = bh at *
  generalize b % 4294967296 = bl at *
  have e : a * b = ah * bh * 18446744073709551616 + ah * bl * 4294967296 + al * bh * 4294967296 + al * bl := by
    rw [← ea, ← eb, Nat.add_mul, Nat.mul_add, Nat.mul_add]
    have h1 : 4294967296 * ah * (4294967296 * bh) = ah * bh * 18446744073709551616 := by
      rw [Nat.mul_mul_mul_comm, Nat.mul_comm]
    have h2 : 4294967296 * ah * bl = ah * bl * 4294967296 := by rw [Nat.mul_assoc, Nat.mul_comm]
    have h3 : al * (4294967296 * bh) = al * bh * 4294967296 := by rw [Nat.mul_left_comm, Nat.mul_comm]
    omega
  rw [e]
  generalize ah * bh = x
  generalize ah * bl = y
  generalize al * bh = z
  generalize al * bl = t
  omega
/-- The key of New: each byte of the name. -/
def keyOf (k : Nat) (l : List UInt8) : Nat := l.foldl (fun k c => mixN (addG (k ^^^ c.toNat))) k
def newK (seed : Int) (s : ByteArray) : Nat := keyOf (mixN (addG (bitsOf seed))) s.data.toList
theorem keyOf_cons (k : Nat) (c : UInt8) (l : List UInt8) : keyOf k (c :: l) = keyOf (mixN (addG (k ^^^ c.toNat))) l := by unfold keyOf; rw [List.foldl_cons]
theorem keyOf_nil (k : Nat) : keyOf k [] = k := by unfold keyOf; rw [List.foldl_nil]
theorem keyOf_lt (l : List UInt8) : ∀ {k : Nat}, k < 18446744073709551616 → keyOf k l < 18446744073709551616 := by
  induction l with
  | nil => intro k h; rw [keyOf_nil]; exact h
  | cons c l ih => intro k _; rw [keyOf_cons]; exact ih (mixN_lt _)
theorem keyOf_snoc (k : Nat) (l : List UInt8) (c : UInt8) : keyOf k (l ++ [c]) = mixN (addG (keyOf k l ^^^ c.toNat)) := by
  unfold keyOf; rw [List.foldl_append, List.foldl_cons, List.foldl_nil]
end Go.Proofs.YtnfddeoddjmpkabDoor.St
