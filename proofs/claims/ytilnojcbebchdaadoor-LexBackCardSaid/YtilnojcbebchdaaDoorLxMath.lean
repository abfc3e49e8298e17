/-
  Mathematics of tokens: words, signs, numbers, and how a text is divided.
-/
import Derived.Lib.Bytealg
import Derived.Laws.Strings3
import Derived.Test.YtilnojcbebchdaaDoorNum
namespace Go.Proofs.YtilnojcbebchdaaDoor.Lx
abbrev bs (s : ByteArray) : List UInt8 := s.data.toList
theorem bs_len (s : ByteArray) : (bs s).length = s.size := by simp [bs]
theorem bs_inj {a b : ByteArray} (h : bs a = bs b) : a = b := by
  cases a; cases b
  simp only [bs, ByteArray.mk.injEq] at *
  exact Array.ext' h
theorem bs_at {s : ByteArray} {k : Nat} (h : k < s.size) : (bs s)[k]'(by rw [bs_len]; exact h) = s[k] := rfl
theorem bs_app (a b : ByteArray) : bs (a ++ b) = bs a ++ bs b := by
  show (a ++ b).data.toList = _
  rw [ByteArray.data_append, Array.toList_append]
theorem bs_cut (s : ByteArray) (a b : Nat) : bs (s.extract a b) = ((bs s).drop a).take (b - a) := by
  show (s.extract a b).data.toList = _
  rw [ByteArray.data_extract, Array.toList_extract]
def mkS (l : List UInt8) : ByteArray := ⟨l.toArray⟩
theorem bs_mk (l : List UInt8) : bs (mkS l) = l := rfl
theorem mk_bs (s : ByteArray) : mkS (bs s) = s := bs_inj rfl
abbrev mt : ByteArray := ⟨#[]⟩
theorem cut_mk (s : ByteArray) (a n : Nat) : s.extract a (a + n) = mkS (((bs s).drop a).take n) := by
  apply bs_inj
  rw [bs_cut, bs_mk, Nat.add_sub_cancel_left]
theorem head_mk (s : ByteArray) (n : Nat) : s.extract 0 n = mkS ((bs s).take n) := by
  apply bs_inj
  rw [bs_cut, bs_mk, List.drop_zero, Nat.sub_zero]
theorem tail_mk (s : ByteArray) (a : Nat) : s.extract a s.size = mkS ((bs s).drop a) := by
  apply bs_inj
  rw [bs_cut, bs_mk, List.take_of_length_le (by rw [List.length_drop, bs_len]; exact Nat.le_refl _)]
def ltrI (x : Int) : Bool := decide (97 ≤ x) && decide (x ≤ 122)
def digI (x : Int) : Bool := decide (48 ≤ x) && decide (x ≤ 57)
def wrdI (x : Int) : Bool := ltrI x || digI x || decide (x = 95)
def inlI (x : Int) : Bool := !decide (x = 10)
def ltrC (c : UInt8) : Bool := ltrI (c.toNat : Int)
def digC (c : UInt8) : Bool := digI (c.toNat : Int)
def wrdC (c : UInt8) : Bool := wrdI (c.toNat : Int)
def inlC (c : UInt8) : Bool := inlI (c.toNat : Int)
/-- How many bytes at the beginning belong to something. -/
def spn (p : UInt8 → Bool) (l : List UInt8) : Nat := (l.takeWhile p).length
theorem spn_le (p : UInt8 → Bool) (l : List UInt8) : spn p l ≤ l.length := by
  unfold spn
  induction l with
  | nil => simp
  | cons c t ih =>
    rw [List.takeWhile_cons]
    split
    · simp only [List.length_cons]; omega
    · simp
theorem spn_nil (p : UInt8 → Bool) : spn p [] = 0 := rfl
theorem spn_yes {p : UInt8 → Bool} {c : UInt8} {t : List UInt8} (h : p c = true) : spn p (c :: t) = spn p t + 1 := by unfold spn; rw [List.takeWhile_cons, if_pos h]; rfl
theorem spn_no {p : UInt8 → Bool} {c : UInt8} {t : List UInt8} (h : p c = false) : spn p (c :: t) = 0 := by unfold spn; rw [List.takeWhile_cons, if_neg (by simp [h])]; rfl
theorem spn_hit {p : UInt8 → Bool} : ∀ {l : List UInt8} {k : Nat} (hk : k < l.length), (∀ j, j < k → (h : j < l.length) → p l[j] = true) → p l[k] = false → spn p l = k
  | [], k, hk, _, _ => absurd hk (Nat.not_lt_zero _)
  | c :: t, 0, _, _, e => spn_no e
  | c :: t, k + 1, hk, h, e => by
    rw [spn_yes (c := c) (h 0 (Nat.succ_pos _) (by simp)), spn_hit (l := t) (k := k) (by simpa using hk) (fun j hj hl => h (j + 1) (by omega) (by simpa using hl)) e]
theorem spn_all {p : UInt8 → Bool} : ∀ {l : List UInt8}, (∀ j, (h : j < l.length) → p l[j] = true) → spn p l = l.length
  | [], _ => rfl
  | c :: t, h => by
    rw [spn_yes (c := c) (h 0 (by simp)), spn_all (l := t) (fun j hl => h (j + 1) (by simpa using hl))]; rfl
theorem spn_in {p : UInt8 → Bool} : ∀ {l : List UInt8} {j : Nat}, j < spn p l → (h : j < l.length) → p l[j] = true
  | [], j, _, h => absurd h (Nat.not_lt_zero _)
  | c :: t, j, hj, h => by
    cases hc : p c with
    | false => rw [spn_no hc] at hj; omega
    | true =>
      rw [spn_yes hc] at hj
      cases j with
      | zero => exact hc
      | succ j => exact spn_in (l := t) (by omega) (by simpa using h)
theorem spn_at {p : UInt8 → Bool} : ∀ {l : List UInt8} (h : spn p l < l.length), p (l[spn p l]) = false
  | [], h => absurd h (Nat.not_lt_zero _)
  | c :: t, h => by
    cases hc : p c with
    | false =>
      have e := spn_no (t := t) hc
      simp only [e, List.getElem_cons_zero, hc]
    | true =>
      have e := spn_yes (t := t) hc
      simp only [e, List.getElem_cons_succ]
      rw [e] at h
      exact spn_at (l := t) (by simpa using h)
theorem spn_app {p : UInt8 → Bool} : ∀ {l e : List UInt8}, (∀ c, e.head? = some c → p c = false) → spn p (l ++ e) = spn p l
  | [], e, h => by
    cases e with
    | nil => rfl
    | cons c t => rw [List.nil_append, spn_no (h c rfl)]; rfl
  | c :: t, e, h => by
    rw [List.cons_append]
    cases hc : p c with
    | false => rw [spn_no hc, spn_no hc]
    | true => rw [spn_yes hc, spn_yes hc, spn_app h]
theorem spn_long {p : UInt8 → Bool} : ∀ {l e : List UInt8}, spn p l = l.length → spn p (l ++ e) = l.length + spn p e
  | [], e, _ => by simp
  | c :: t, e, h => by
    cases hc : p c with
    | false => rw [spn_no hc] at h; simp at h
    | true =>
      rw [spn_yes hc] at h
      rw [List.cons_append, spn_yes hc, spn_long (by simpa using h), List.length_cons]; omega
theorem spn_short {p : UInt8 → Bool} : ∀ {l e : List UInt8}, spn p l < l.length → spn p (l ++ e) = spn p l
  | [], e, h => absurd h (Nat.not_lt_zero _)
  | c :: t, e, h => by
    rw [List.cons_append]
    cases hc : p c with
    | false => rw [spn_no hc, spn_no hc]
    | true =>
      rw [spn_yes hc] at h
      rw [spn_yes hc, spn_yes hc, spn_short (by simpa using h)]
theorem spn_take {p : UInt8 → Bool} {l : List UInt8} : ∀ c ∈ l.take (spn p l), p c = true := by
  intro c hc
  obtain ⟨j, hj, rfl⟩ := List.getElem_of_mem hc
  rw [List.length_take] at hj
  rw [List.getElem_take]
  exact spn_in (by omega) (by omega)
/-- The signs. -/
def sgl : List (List UInt8) := [[43], [45], [42], [47], [37], [61], [33, 61], [60], [60, 61], [62], [62, 61], [40], [41], [44], [58], [46]]
def isSg (l : List UInt8) : Bool := sgl.contains l
/-- A word. -/
def isWd (l : List UInt8) : Bool := decide (spn ltrC l ≠ 0) && decide (spn wrdC l = l.length)
def isDg (l : List UInt8) : Bool := decide (l ≠ []) && l.all digC
/-- The number of a text. -/
def numO (l : List UInt8) : Option Int := if l.length = 0 ∨ 13 < l.length ∨ (1 < l.length ∧ l.headD 0 = 48) ∨ l.all digC = false ∨ 1000000000000 < foldD l then none else some (foldD l)
/-- A token: its kind, its text, its number, its line. -/
structure Tk where
  k : Int
  t : ByteArray
  n : Int
  l : Int
/-- The token with which a text begins, without its line, and its size. -/
def fstO (l : List UInt8) : Option (Tk × Nat) :=
  if spn ltrC l = 0 then
    if spn digC l = 0 then
      if 2 ≤ l.length ∧ isSg (l.take 2) = true then some (⟨3, mkS (l.take 2), 0, 0⟩, 2)
      else if isSg (l.take 1) = true then some (⟨3, mkS (l.take 1), 0, 0⟩, 1) else none
    else match numO (l.take (spn digC l)) with
      | some v => some (⟨2, mt, v, 0⟩, spn digC l)
      | none => none
  else some (⟨1, mkS (l.take (spn wrdC l)), 0, 0⟩, spn wrdC l)
theorem isSg_len {l : List UInt8} (h : isSg l = true) : 1 ≤ l.length ∧ l.length ≤ 2 := by
  unfold isSg sgl at h
  simp only [List.contains_eq_mem, List.mem_cons, List.not_mem_nil, or_false, decide_eq_true_eq] at h
  rcases h with rfl | rfl | rfl | rfl | rfl | rfl | rfl | rfl | rfl | rfl | rfl | rfl | rfl | rfl | rfl | rfl <;> decide
theorem wrd_ltr {c : UInt8} (h : ltrC c = true) : wrdC c = true := by unfold wrdC wrdI; unfold ltrC at h; rw [h]; rfl
theorem spn_pos {p : UInt8 → Bool} {l : List UInt8} (h : spn p l ≠ 0) : ∃ c t, l = c :: t ∧ p c = true := by
  cases l with
  | nil => exact absurd rfl h
  | cons c t =>
    cases hc : p c with
    | false => exact absurd (spn_no hc) h
    | true => exact ⟨c, t, rfl, hc⟩
theorem spn_one {p : UInt8 → Bool} {c : UInt8} {t : List UInt8} (h : p c = true) : 1 ≤ spn p (c :: t) := by rw [spn_yes h]; omega
theorem fst_size {l : List UInt8} {x : Tk} {k : Nat} (h : fstO l = some (x, k)) : 1 ≤ k ∧ k ≤ l.length := by
  unfold fstO at h
  by_cases h1 : spn ltrC l = 0
  · rw [if_pos h1] at h
    by_cases h2 : spn digC l = 0
    · rw [if_pos h2] at h
      by_cases h3 : 2 ≤ l.length ∧ isSg (l.take 2) = true
      · rw [if_pos h3] at h; cases h; exact ⟨by omega, h3.1⟩
      · rw [if_neg h3] at h
        by_cases h4 : isSg (l.take 1) = true
        · rw [if_pos h4] at h; cases h
          have := isSg_len h4
          rw [List.length_take] at this
          omega
        · rw [if_neg h4] at h; cases h
    · rw [if_neg h2] at h
      split at h
      · cases h; exact ⟨by omega, spn_le _ _⟩
      · cases h
  · rw [if_neg h1] at h
    cases h
    obtain ⟨c, t, rfl, hc⟩ := spn_pos h1
    exact ⟨spn_one (wrd_ltr hc), spn_le _ _⟩
/-- What stands at the end of a list, if it is a token of an open line. -/
def opn (a : List Tk) : Bool := match a.getLast? with | none => false | some x => decide (x.k ≠ 4)
def endL (a : List Tk) (n : Nat) : List Tk := if opn a = true then a ++ [⟨4, mt, 0, (n : Int)⟩] else a
structure Res where
  a : List Tk
  n : Nat
  bad : Bool
def setL (x : Tk) (n : Nat) : Tk := ⟨x.k, x.t, x.n, (n : Int)⟩
def lexF : Nat → List UInt8 → List Tk → Nat → Res
  | 0, _, a, n => ⟨a, n, false⟩
  | _ + 1, [], a, n => ⟨a, n, false⟩
  | f + 1, c :: t, a, n =>
    if c = 32 ∨ c = 9 then lexF f t a n
    else if c = 35 then lexF f ((c :: t).drop (spn inlC (c :: t))) a n
    else if c = 10 then lexF f t (endL a n) (n + 1)
    else match fstO (c :: t) with
      | none => ⟨a, n, true⟩
      | some (x, k) => lexF f ((c :: t).drop k) (a ++ [setL x n]) n
/-- A text divided from the left, behind the tokens a, in line n. -/
def lexL (l : List UInt8) (a : List Tk) (n : Nat) : Res := lexF l.length l a n
theorem inl_35 : inlC 35 = true := by decide
theorem lexF_more : ∀ (f : Nat) (l : List UInt8) (a : List Tk) (n : Nat), l.length ≤ f → lexF f l a n = lexF l.length l a n := by
  intro f
  induction f using Nat.strongRecOn with
  | _ f ih =>
    intro l a n hf
    cases l with
    | nil => cases f <;> rfl
    | cons c t =>
      obtain ⟨g, rfl⟩ : ∃ g, f = g + 1 := ⟨f - 1, by simp only [List.length_cons] at hf; omega⟩
      have hg : t.length ≤ g := by simpa using hf
      by_cases e : g = t.length
      · subst e; rfl
      have hlt : t.length < g + 1 := by omega
      have key : ∀ m (b : List Tk) q, m.length ≤ t.length → lexF g m b q = lexF t.length m b q := fun m b q hm => by
        rw [ih g (by omega) m b q (by omega), ih t.length (by omega) m b q hm]
      show lexF (g + 1) (c :: t) a n = lexF (t.length + 1) (c :: t) a n
      unfold lexF
      by_cases h1 : c = 32 ∨ c = 9
      · rw [if_pos h1, if_pos h1]; exact key _ _ _ (Nat.le_refl _)
      rw [if_neg h1, if_neg h1]
      by_cases h2 : c = 35
      · rw [if_pos h2, if_pos h2]
        refine key _ _ _ ?_
        have := spn_one (p := inlC) (c := c) (t := t) (by rw [h2]; exact inl_35)
        rw [List.length_drop, List.length_cons]; omega
      rw [if_neg h2, if_neg h2]
      by_cases h3 : c = 10
      · rw [if_pos h3, if_pos h3]; exact key _ _ _ (Nat.le_refl _)
      rw [if_neg h3, if_neg h3]
      cases h4 : fstO (c :: t) with
      | none => rfl
      | some y =>
        obtain ⟨x, k⟩ := y
        have := fst_size h4
        exact key _ _ _ (by rw [List.length_drop, List.length_cons]; omega)
theorem lexL_nil (a : List Tk) (n : Nat) : lexL [] a n = ⟨a, n, false⟩ := rfl
theorem lexL_cons (c : UInt8) (t : List UInt8) (a : List Tk) (n : Nat) : lexL (c :: t) a n =
    if c = 32 ∨ c = 9 then lexL t a n
    else if c = 35 then lexL ((c :: t).drop (spn inlC (c :: t))) a n
    else if c = 10 then lexL t (endL a n) (n + 1)
    else match fstO (c :: t) with
      | none => ⟨a, n, true⟩
      | some (x, k) => lexL ((c :: t).drop k) (a ++ [setL x n]) n := by
  show lexF (t.length + 1) (c :: t) a n = _
  unfold lexF lexL
  by_cases h1 : c = 32 ∨ c = 9
  · rw [if_pos h1, if_pos h1]
  rw [if_neg h1, if_neg h1]
  by_cases h2 : c = 35
  · rw [if_pos h2, if_pos h2]
    have := spn_one (p := inlC) (c := c) (t := t) (by rw [h2]; exact inl_35)
    exact lexF_more _ _ _ _ (by rw [List.length_drop, List.length_cons]; omega)
  rw [if_neg h2, if_neg h2]
  by_cases h3 : c = 10
  · rw [if_pos h3, if_pos h3]
  rw [if_neg h3, if_neg h3]
  cases h4 : fstO (c :: t) with
  | none => rfl
  | some y =>
    obtain ⟨x, k⟩ := y
    have := fst_size h4
    exact lexF_more _ _ _ _ (by rw [List.length_drop, List.length_cons]; omega)
theorem lex_blank {c : UInt8} {t : List UInt8} {a : List Tk} {n : Nat} (h : c = 32 ∨ c = 9) : lexL (c :: t) a n = lexL t a n := by rw [lexL_cons, if_pos h]
theorem lex_note {t : List UInt8} {a : List Tk} {n : Nat} : lexL (35 :: t) a n = lexL ((35 :: t).drop (spn inlC (35 :: t))) a n := by rw [lexL_cons, if_neg (by decide), if_pos rfl]
theorem lex_line {t : List UInt8} {a : List Tk} {n : Nat} : lexL (10 :: t) a n = lexL t (endL a n) (n + 1) := by rw [lexL_cons, if_neg (by decide), if_neg (by decide), if_pos rfl]
/-- A byte at which a token has to begin. -/
def tokC (c : UInt8) : Prop := ¬ (c = 32 ∨ c = 9) ∧ ¬ c = 35 ∧ ¬ c = 10
theorem lex_bad {c : UInt8} {t : List UInt8} {a : List Tk} {n : Nat} (h : tokC c) (e : fstO (c :: t) = none) : lexL (c :: t) a n = ⟨a, n, true⟩ := by rw [lexL_cons, if_neg h.1, if_neg h.2.1, if_neg h.2.2, e]
theorem lex_tok {c : UInt8} {t : List UInt8} {a : List Tk} {n : Nat} {x : Tk} {k : Nat} (h : tokC c) (e : fstO (c :: t) = some (x, k)) : lexL (c :: t) a n = lexL ((c :: t).drop k) (a ++ [setL x n]) n := by rw [lexL_cons, if_neg h.1, if_neg h.2.1, if_neg h.2.2, e]
end Go.Proofs.YtilnojcbebchdaaDoor.Lx
