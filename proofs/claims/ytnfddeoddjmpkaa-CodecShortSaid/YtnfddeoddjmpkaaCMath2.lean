/-
  Reading texts and lists of integers; that what was written is read back, that what is read was written so, that a beginning is too short.
-/
import Derived.Test.YtnfddeoddjmpkaaCMath
namespace Go.Proofs.Ytnfddeoddjmpkaa.Co
/-- A length at the beginning: an error, or a number of elements and the size of its encoding. -/
def decL (l : List UInt8) (most : Int) : Dec := match dec l 0 0 with
  | .bad e => .bad e
  | .good v k => if intZ v < 0 then .bad 8 else if most < intZ v then .bad 6 else .good (intZ v).toNat k
theorem decL_bad {l : List UInt8} {most : Int} {e : Nat} (h : dec l 0 0 = .bad e) : decL l most = .bad e := by unfold decL; rw [h]
theorem decL_neg {l : List UInt8} {most : Int} {v k : Nat} (h : dec l 0 0 = .good v k) (h2 : intZ v < 0) : decL l most = .bad 8 := by unfold decL; rw [h]; exact if_pos h2
theorem decL_long {l : List UInt8} {most : Int} {v k : Nat} (h : dec l 0 0 = .good v k) (h2 : ¬ intZ v < 0) (h3 : most < intZ v) : decL l most = .bad 6 := by unfold decL; rw [h]; exact (if_neg h2).trans (if_pos h3)
theorem decL_good {l : List UInt8} {most : Int} {v k : Nat} (h : dec l 0 0 = .good v k) (h2 : ¬ intZ v < 0) (h3 : ¬ most < intZ v) : decL l most = .good (intZ v).toNat k := by unfold decL; rw [h]; exact (if_neg h2).trans (if_neg h3)
theorem decL_back {l : List UInt8} {most : Int} {n k : Nat} (h : decL l most = .good n k) : dec l 0 0 = .good (numZ n) k ∧ (n : Int) ≤ most ∧ n ≤ 9223372036854775807 := by
  unfold decL at h
  cases e : dec l 0 0 with
  | bad x => rw [e] at h; cases h
  | good v q =>
    rw [e] at h
    simp only at h
    by_cases h2 : intZ v < 0
    · rw [if_pos h2] at h; cases h
    · rw [if_neg h2] at h
      by_cases h3 : most < intZ v
      · rw [if_pos h3] at h; cases h
      · rw [if_neg h3] at h
        injection h with hn hk
        have hv := (dec_good0 e).2.2.2.2
        have hb := intZ_bd hv
        have hi : intZ v = (n : Int) := by omega
        rw [← hi, numZ_intZ, hk]
        exact ⟨rfl, by omega, by omega⟩
/-- What Text returns: the text, its size, the error. -/
structure TextR where
  s : List UInt8
  k : Nat
  e : Nat
def decT (l : List UInt8) (most : Int) : TextR := match decL l most with
  | .bad e => ⟨[], 0, e⟩
  | .good n k => if l.length - k < n then ⟨[], 0, 7⟩ else ⟨(l.drop k).take n, k + n, 0⟩
theorem decT_bad {l : List UInt8} {most : Int} {e : Nat} (h : decL l most = .bad e) : decT l most = ⟨[], 0, e⟩ := by unfold decT; rw [h]
theorem decT_short {l : List UInt8} {most : Int} {n k : Nat} (h : decL l most = .good n k) (h2 : l.length - k < n) : decT l most = ⟨[], 0, 7⟩ := by unfold decT; rw [h]; exact if_pos h2
theorem decT_good {l : List UInt8} {most : Int} {n k : Nat} (h : decL l most = .good n k) (h2 : ¬ l.length - k < n) : decT l most = ⟨(l.drop k).take n, k + n, 0⟩ := by unfold decT; rw [h]; exact if_neg h2
/-- What Ints returns: the list, the size of its encoding, the error. -/
structure IntsR where
  l : List Int
  k : Nat
  e : Nat
/-- n more elements from place p on, behind those that were read. -/
def decE : Nat → List UInt8 → Nat → List Int → IntsR
  | 0, _, p, got => ⟨got, p, 0⟩
  | n + 1, l, p, got => match dec (l.drop p) 0 0 with
    | .bad e => ⟨[], 0, e⟩
    | .good v k => decE n l (p + k) (got ++ [intZ v])
theorem decE_zero {l : List UInt8} {p : Nat} {got : List Int} : decE 0 l p got = ⟨got, p, 0⟩ := rfl
theorem decE_bad {n : Nat} {l : List UInt8} {p e : Nat} {got : List Int} (h : dec (l.drop p) 0 0 = .bad e) : decE (n + 1) l p got = ⟨[], 0, e⟩ := by rw [decE, h]
theorem decE_good {n : Nat} {l : List UInt8} {p v k : Nat} {got : List Int} (h : dec (l.drop p) 0 0 = .good v k) : decE (n + 1) l p got = decE n l (p + k) (got ++ [intZ v]) := by rw [decE, h]
def decI (l : List UInt8) (most : Int) : IntsR := match decL l most with
  | .bad e => ⟨[], 0, e⟩
  | .good n k => decE n l k []
theorem decI_bad {l : List UInt8} {most : Int} {e : Nat} (h : decL l most = .bad e) : decI l most = ⟨[], 0, e⟩ := by unfold decI; rw [h]
theorem decI_good {l : List UInt8} {most : Int} {n k : Nat} (h : decL l most = .good n k) : decI l most = decE n l k [] := by unfold decI; rw [h]
/-- The encodings. -/
def enc (n : Int) : List UInt8 := encN (numZ n)
def encL (l : List Int) : List UInt8 := (l.map enc).flatten
def encT (s : List UInt8) : List UInt8 := enc s.length ++ s
def encI (l : List Int) : List UInt8 := enc l.length ++ encL l
def Fits (n : Int) : Prop := -9223372036854775808 ≤ n ∧ n ≤ 9223372036854775807
theorem enc_len {n : Int} (h : Fits n) : 1 ≤ (enc n).length ∧ (enc n).length ≤ 10 := encN_len10 (numZ_lt h.1 h.2)
theorem encL_nil : encL [] = [] := rfl
theorem encL_cons {n : Int} {l : List Int} : encL (n :: l) = enc n ++ encL l := by unfold encL; rw [List.map_cons, List.flatten_cons]
theorem encL_snoc {n : Int} {l : List Int} : encL (l ++ [n]) = encL l ++ enc n := by unfold encL; simp
theorem encL_len {l : List Int} (h : ∀ n ∈ l, Fits n) : l.length ≤ (encL l).length ∧ (encL l).length ≤ 10 * l.length := by
  induction l with
  | nil => simp [encL]
  | cons n t ih =>
    have h1 := enc_len (h n (by simp))
    have h2 := ih fun m hm => h m (by simp [hm])
    rw [encL_cons, List.length_append, List.length_cons]; omega
theorem dec_back {n : Int} (h : Fits n) (more : List UInt8) : dec (enc n ++ more) 0 0 = .good (numZ n) (enc n).length := dec_enc0 (numZ_lt h.1 h.2) more
theorem dec_cut {n : Int} {m : Nat} (h : Fits n) (hm : m < (enc n).length) : dec ((enc n).take m) 0 0 = .bad 7 := dec_short0 (numZ_lt h.1 h.2) hm
theorem decL_read {n : Nat} {most : Int} (h : n ≤ 9223372036854775807) (hm : (n : Int) ≤ most) (more : List UInt8) : decL (enc n ++ more) most = .good n (enc n).length := by
  have hz := intZ_numZ (n : Int)
  rw [decL_good (dec_back ⟨by omega, by omega⟩ more) (by rw [hz]; omega) (by rw [hz]; omega), hz]; rfl
theorem decL_over {n : Nat} {most : Int} (h : n ≤ 9223372036854775807) (hm : most < (n : Int)) (more : List UInt8) : decL (enc n ++ more) most = .bad 6 := by
  have hz := intZ_numZ (n : Int)
  exact decL_long (dec_back ⟨by omega, by omega⟩ more) (by rw [hz]; omega) (by rw [hz]; omega)
theorem decT_back {s : List UInt8} (h : s.length ≤ 9223372036854775807) (more : List UInt8) : decT (encT s ++ more) s.length = ⟨s, (encT s).length, 0⟩ := by
  unfold encT
  rw [List.append_assoc, decT_good (decL_read h (Int.le_refl _) _) (by simp), List.drop_left, List.take_left, List.length_append]
theorem decT_over {s : List UInt8} (h : s.length ≤ 9223372036854775807) : decT (encT s) ((s.length : Int) - 1) = ⟨[], 0, 6⟩ := decT_bad (decL_over h (by omega) _)
theorem decE_back (l : List Int) : ∀ (pre more : List UInt8) (got : List Int), (∀ n ∈ l, Fits n) → decE l.length (pre ++ encL l ++ more) pre.length got = ⟨got ++ l, pre.length + (encL l).length, 0⟩ := by
  induction l with
  | nil => intro pre more got h; rw [encL_nil]; simp [decE_zero]
  | cons n t ih =>
    intro pre more got h
    have hd : (pre ++ encL (n :: t) ++ more).drop pre.length = enc n ++ (encL t ++ more) := by
      rw [List.append_assoc, List.drop_left, encL_cons, List.append_assoc]
    rw [List.length_cons, decE_good (by rw [hd]; exact dec_back (h n (by simp)) _), intZ_numZ, encL_cons]
    have := ih (pre ++ enc n) more (got ++ [n]) fun m hm => h m (by simp [hm])
    rw [List.length_append, List.append_assoc pre] at this
    rw [this]; simp [Nat.add_assoc]
theorem decI_back {l : List Int} (h : ∀ n ∈ l, Fits n) (hl : l.length ≤ 9223372036854775807) (more : List UInt8) : decI (encI l ++ more) l.length = ⟨l, (encI l).length, 0⟩ := by
  unfold encI
  rw [decI_good (by rw [List.append_assoc]; exact decL_read hl (Int.le_refl _) _), decE_back l _ _ _ h, List.nil_append, List.length_append]
theorem decI_over {l : List Int} (hl : l.length ≤ 9223372036854775807) : decI (encI l) ((l.length : Int) - 1) = ⟨[], 0, 6⟩ := decI_bad (decL_over hl (by omega) _)
/-- What is accepted is what is written. -/
theorem enc_of {l : List UInt8} {v k : Nat} (h : dec l 0 0 = .good v k) : l.take k = enc (intZ v) := by
  unfold enc; rw [numZ_intZ]; exact (dec_good0 h).2.2.2.1
theorem decT_was {l : List UInt8} {most : Int} (h : (decT l most).e = 0) : 1 ≤ (decT l most).k ∧ (decT l most).k ≤ l.length ∧ encT (decT l most).s = l.take (decT l most).k := by
  cases e : decL l most with
  | bad x =>
    rw [decT_bad e] at h
    simp only at h
    subst h
    exfalso
    unfold decL at e
    cases e2 : dec l 0 0 with
    | bad y =>
      rw [e2] at e
      rcases dec_e l 0 0 y e2 with rfl | rfl <;> cases e
    | good v q =>
      rw [e2] at e
      simp only at e
      split at e
      · cases e
      · split at e <;> cases e
  | good n k =>
    by_cases h2 : l.length - k < n
    · rw [decT_short e h2] at h; simp at h
    · rw [decT_good e h2]
      obtain ⟨hd, -, -⟩ := decL_back e
      obtain ⟨h1, h3, -, h4, -⟩ := dec_good0 hd
      have hl : ((l.drop k).take n).length = n := by rw [List.length_take, List.length_drop]; omega
      refine ⟨by simp only; omega, by simp only; omega, ?_⟩
      unfold encT enc
      simp only
      rw [hl, ← h4, ← List.take_add]
theorem decE_was (l : List UInt8) : ∀ (n p : Nat) (got : List Int), (decE n l p got).e = 0 → p ≤ l.length → ∃ r : List Int, (decE n l p got).l = got ++ r ∧ r.length = n ∧ p ≤ (decE n l p got).k ∧ (decE n l p got).k ≤ l.length ∧ (l.drop p).take ((decE n l p got).k - p) = encL r ∧ ∀ x ∈ r, Fits x := by
  intro n
  induction n with
  | zero => intro p got h hp; exact ⟨[], by simp [decE_zero], rfl, by simp [decE_zero], by simpa [decE_zero] using hp, by simp [decE_zero, encL_nil], by simp⟩
  | succ n ih =>
    intro p got h hp
    cases e : dec (l.drop p) 0 0 with
    | bad x =>
      rw [decE_bad e] at h
      simp only at h
      subst h
      rcases dec_e _ 0 0 _ e with h | h <;> cases h
    | good v k =>
      rw [decE_good e] at h ⊢
      obtain ⟨h1, h2, -, h3, h4⟩ := dec_good0 e
      rw [List.length_drop] at h2
      obtain ⟨r, r1, r2, r3, r4, r5, r6⟩ := ih (p + k) _ h (by omega)
      refine ⟨intZ v :: r, by rw [r1]; simp, by simp [r2], by omega, r4, ?_, ?_⟩
      · rw [encL_cons, ← r5, ← enc_of e, ← List.drop_drop, show (decE n l (p + k) (got ++ [intZ v])).k - p = k + ((decE n l (p + k) (got ++ [intZ v])).k - (p + k)) by omega, List.take_add]
      · intro x hx
        rcases List.mem_cons.1 hx with rfl | hx
        · exact intZ_bd h4
        · exact r6 x hx
theorem decE_err (l : List UInt8) : ∀ (n p : Nat) (got : List Int), (decE n l p got).e = 0 ∨ ((decE n l p got).l = [] ∧ (decE n l p got).k = 0) := by
  intro n
  induction n with
  | zero => intro p got; exact .inl rfl
  | succ n ih =>
    intro p got
    cases e : dec (l.drop p) 0 0 with
    | bad x => rw [decE_bad e]; exact .inr ⟨rfl, rfl⟩
    | good v k => rw [decE_good e]; exact ih _ _
theorem decL_bad_pos {l : List UInt8} {most : Int} {x : Nat} (e : decL l most = .bad x) : x ≠ 0 := by
  unfold decL at e
  cases e2 : dec l 0 0 with
  | bad y =>
    rw [e2] at e
    injection e with e
    rcases dec_e l 0 0 y e2 with rfl | rfl <;> omega
  | good v q =>
    rw [e2] at e
    simp only at e
    split at e
    · injection e with e; omega
    · split at e
      · injection e with e; omega
      · cases e
theorem decI_was {l : List UInt8} {most : Int} (h : (decI l most).e = 0) : 1 ≤ (decI l most).k ∧ (decI l most).k ≤ l.length ∧ encI (decI l most).l = l.take (decI l most).k ∧ (∀ x ∈ (decI l most).l, Fits x) ∧ (decI l most).l.length ≤ l.length := by
  cases e : decL l most with
  | bad x => rw [decI_bad e] at h; exact absurd h (decL_bad_pos e)
  | good n k =>
    rw [decI_good e] at h ⊢
    obtain ⟨hd, -, -⟩ := decL_back e
    obtain ⟨h1, h3, -, h4, -⟩ := dec_good0 hd
    obtain ⟨r, r1, r2, r3, r4, r5, r6⟩ := decE_was l n k [] h h3
    rw [List.nil_append] at r1
    have hlen := encL_len r6
    rw [← r5, List.length_take, List.length_drop] at hlen
    refine ⟨by omega, r4, ?_, by rw [r1]; exact r6, by rw [r1]; omega⟩
    unfold encI enc
    rw [r1, r2, ← h4, ← r5, ← List.take_add]; congr 1; omega
/-- Every proper beginning is too short. -/
theorem take_app_lt {a b : List UInt8} {m : Nat} (h : m < a.length) : (a ++ b).take m = a.take m := List.take_append_of_le_length (by omega)
theorem decT_cut {s : List UInt8} {m : Nat} {most : Int} (h : s.length ≤ 9223372036854775807) (hm : (s.length : Int) ≤ most) (hc : m < (encT s).length) : decT ((encT s).take m) most = ⟨[], 0, 7⟩ := by
  have hf : Fits (s.length : Int) := ⟨by omega, by omega⟩
  unfold encT at hc ⊢
  rcases Nat.lt_or_ge m (enc (s.length : Int)).length with h1 | h1
  · rw [take_app_lt h1, decT_bad (decL_bad (dec_cut hf h1))]
  · rw [List.take_append, List.take_of_length_le h1, decT_short (decL_read h hm _)]
    rw [List.length_append, List.length_take]
    rw [List.length_append] at hc
    omega
theorem decE_cut (l : List Int) : ∀ (pre : List UInt8) (m : Nat) (got : List Int), (∀ n ∈ l, Fits n) → m < (encL l).length → decE l.length (pre ++ (encL l).take m) pre.length got = ⟨[], 0, 7⟩ := by
  induction l with
  | nil => intro pre m got h hm; simp [encL_nil] at hm
  | cons n t ih =>
    intro pre m got h hm
    have hn := h n (by simp)
    rw [encL_cons] at hm ⊢
    rw [List.length_cons]
    rcases Nat.lt_or_ge m (enc n).length with h1 | h1
    · rw [take_app_lt h1, decE_bad (by rw [List.drop_left]; exact dec_cut hn h1)]
    · rw [List.take_append, List.take_of_length_le h1, decE_good (by rw [List.drop_left]; exact dec_back hn _)]
      have := ih (pre ++ enc n) (m - (enc n).length) (got ++ [intZ (numZ n)]) (fun x hx => h x (by simp [hx])) (by rw [List.length_append] at hm; omega)
      rwa [List.length_append, List.append_assoc] at this
theorem decI_cut {l : List Int} {m : Nat} {most : Int} (h : ∀ n ∈ l, Fits n) (hl : l.length ≤ 9223372036854775807) (hm : (l.length : Int) ≤ most) (hc : m < (encI l).length) : decI ((encI l).take m) most = ⟨[], 0, 7⟩ := by
  have hf : Fits (l.length : Int) := ⟨by omega, by omega⟩
  unfold encI at hc ⊢
  rcases Nat.lt_or_ge m (enc (l.length : Int)).length with h1 | h1
  · rw [take_app_lt h1, decI_bad (decL_bad (dec_cut hf h1))]
  · rw [List.take_append, List.take_of_length_le h1, decI_good (decL_read hl hm _), decE_cut l _ _ _ h]
    rw [List.length_append] at hc; omega
end Go.Proofs.Ytnfddeoddjmpkaa.Co
