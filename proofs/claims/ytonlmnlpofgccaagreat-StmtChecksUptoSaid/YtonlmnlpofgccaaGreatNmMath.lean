/-
  Mathematics of names: the words of the language, valid names, first places, lists of different names, paths.
-/
import Derived.Lib.Bytealg
import Derived.Laws.Strings3
namespace Go.Proofs.YtonlmnlpofgccaaGreat.Na
/-- The words that have a meaning in the language. -/
def kwl : List (List UInt8) := [
  [97, 100, 100],
  [97, 102, 116, 101, 114],
  [97, 110, 100],
  [97, 116],
  [98, 101, 108, 116],
  [98, 111, 111, 108],
  [99, 111, 110, 115, 101, 114, 118, 101],
  [99, 111, 110, 115, 116],
  [99, 111, 117, 110, 116],
  [99, 121, 99, 108, 101],
  [100, 111, 119, 110],
  [100, 114, 97, 119],
  [100, 117, 114],
  [101, 108, 115, 101],
  [101, 110, 100],
  [101, 118, 101, 114, 121],
  [102, 97, 108, 115, 101],
  [102, 97, 117, 108, 116],
  [102, 105, 102, 111],
  [102, 114, 101, 101],
  [102, 114, 111, 109],
  [103, 101, 111, 109],
  [103, 101, 116],
  [104, 111, 108, 100],
  [105, 102],
  [105, 110, 116],
  [105, 110, 116, 111],
  [108, 101, 97, 115, 116],
  [108, 101, 118, 101, 108],
  [108, 105, 102, 111],
  [108, 105, 110, 107],
  [108, 111, 99, 97, 108],
  [109, 97, 120],
  [109, 105, 110],
  [109, 111, 100, 101, 108],
  [110, 111, 116],
  [110, 111, 119],
  [111, 98, 115, 101, 114, 118, 101],
  [111, 114],
  [112, 97, 114, 97, 109],
  [112, 114, 101, 101, 109, 112, 116],
  [112, 114, 105, 111],
  [112, 117, 116],
  [113, 117, 101, 117, 101],
  [114, 101, 108, 101, 97, 115, 101],
  [114, 101, 115, 111, 117, 114, 99, 101],
  [114, 105, 100, 101],
  [114, 111, 117, 116, 105, 110, 101],
  [115, 101, 105, 122, 101],
  [115, 101, 110, 100],
  [115, 101, 116],
  [115, 104, 105, 102, 116],
  [115, 105, 103, 110, 97, 108],
  [115, 105, 116, 101],
  [115, 105, 122, 101],
  [115, 112, 97, 119, 110],
  [115, 116, 97, 114, 116],
  [115, 116, 111, 112],
  [115, 116, 111, 114, 101],
  [115, 116, 114, 101, 97, 109],
  [115, 117, 109],
  [116, 97, 98, 108, 101],
  [116, 97, 108, 108, 121],
  [116, 105, 99, 107, 115],
  [116, 105, 109, 101],
  [116, 114, 117, 101],
  [117, 110, 105, 102, 111, 114, 109],
  [117, 110, 116, 105, 108],
  [117, 112],
  [118, 97, 114],
  [119, 97, 105, 116],
  [119, 97, 105, 116, 105, 110, 103],
  [119, 104, 105, 108, 101]]
def isKw (l : List UInt8) : Bool := kwl.contains l
def ltrI (x : Int) : Bool := decide (97 ≤ x) && decide (x ≤ 122)
def digI (x : Int) : Bool := decide (48 ≤ x) && decide (x ≤ 57)
def goodI (x : Int) : Bool := ltrI x || digI x || decide (x = 95)
def ltrC (c : UInt8) : Bool := ltrI (c.toNat : Int)
def goodC (c : UInt8) : Bool := goodI (c.toNat : Int)
/-- A valid name. -/
def nameB (l : List UInt8) : Bool := decide (1 ≤ l.length) && decide (l.length ≤ 24) && ltrC (l.headD 0) && !isKw l && l.all goodC
def chk (l : List UInt8) : Int := if nameB l = true then 0 else 3
theorem chk_ok {l : List UInt8} : chk l = 0 ↔ nameB l = true := by unfold chk; split <;> simp_all
theorem chk_yes {l : List UInt8} (h : nameB l = true) : chk l = 0 := if_pos h
theorem chk_no {l : List UInt8} (h : nameB l = false) : chk l = 3 := if_neg (by simp [h])
theorem good_let {x : Int} (h : ltrI x = true) : goodI x = true := by unfold goodI; rw [h]; rfl
theorem good_dig {x : Int} (h : digI x = true) : goodI x = true := by unfold goodI; rw [h]; simp
theorem good_low {x : Int} (h : x = 95) : goodI x = true := by unfold goodI; simp [h]
theorem good_not {x : Int} (h1 : ltrI x = false) (h2 : digI x = false) (h3 : ¬ x = 95) : goodI x = false := by unfold goodI; simp [h1, h2, h3]
theorem name_iff {l : List UInt8} : nameB l = true ↔ 1 ≤ l.length ∧ l.length ≤ 24 ∧ ltrC (l.headD 0) = true ∧ isKw l = false ∧ l.all goodC = true := by
  unfold nameB
  simp only [Bool.and_eq_true, decide_eq_true_eq, Bool.not_eq_true']
  constructor
  · rintro ⟨⟨⟨⟨a, b⟩, c⟩, d⟩, e⟩; exact ⟨a, b, c, d, e⟩
  · rintro ⟨a, b, c, d, e⟩; exact ⟨⟨⟨⟨a, b⟩, c⟩, d⟩, e⟩
theorem name_false {l : List UInt8} (h : ¬ (1 ≤ l.length ∧ l.length ≤ 24 ∧ ltrC (l.headD 0) = true ∧ isKw l = false ∧ l.all goodC = true)) : nameB l = false := by
  rw [← Bool.not_eq_true, name_iff]; exact h
theorem head_at {l : List UInt8} (h : 0 < l.length) : l.headD 0 = l[0] := by
  cases l with
  | nil => simp at h
  | cons c t => rfl
theorem bad_short {l : List UInt8} (h : l.length < 1) : chk l = 3 := chk_no (name_false fun g => by omega)
theorem bad_long {l : List UInt8} (h : 24 < l.length) : chk l = 3 := chk_no (name_false fun g => by omega)
theorem bad_head {l : List UInt8} (h0 : 0 < l.length) (h : ltrC l[0] = false) : chk l = 3 := chk_no (name_false fun g => by
  have := g.2.2.1; rw [head_at h0, h] at this; cases this)
theorem bad_kw {l : List UInt8} (h : isKw l = true) : chk l = 3 := chk_no (name_false fun g => by
  have := g.2.2.2.1; rw [h] at this; cases this)
theorem bad_at {l : List UInt8} {k : Nat} (hk : k < l.length) (h : goodC l[k] = false) : chk l = 3 := chk_no (name_false fun g => by
  have := List.all_eq_true.1 g.2.2.2.2 _ (List.getElem_mem hk)
  rw [h] at this; cases this)
theorem all_good {l : List UInt8} (h1 : 1 ≤ l.length) (h2 : l.length ≤ 24) (h3 : ltrC l[0] = true) (h4 : isKw l = false) (h5 : ∀ j, (hj : j < l.length) → goodC l[j] = true) : chk l = 0 :=
  chk_yes (name_iff.2 ⟨h1, h2, by rw [head_at h1]; exact h3, h4, List.all_eq_true.2 fun c hc => by
    obtain ⟨j, hj, rfl⟩ := List.getElem_of_mem hc
    exact h5 j hj⟩)
/-- The bytes of a text. -/
abbrev bs (s : ByteArray) : List UInt8 := s.data.toList
theorem bs_len (s : ByteArray) : (bs s).length = s.size := by simp [bs]
theorem bs_inj {a b : ByteArray} (h : bs a = bs b) : a = b := by
  cases a; cases b
  simp only [bs, ByteArray.mk.injEq] at *
  exact Array.toList_inj.1 h
theorem bs_at {s : ByteArray} {k : Nat} (h : k < s.size) : (bs s)[k]'(by rw [bs_len]; exact h) = s[k] := rfl
/-- The first place of a text, or -1. -/
def fst : List ByteArray → ByteArray → Int
  | [], _ => -1
  | x :: t, s => if bs x = bs s then 0 else if fst t s = -1 then -1 else fst t s + 1
theorem fst_ge (s : ByteArray) : ∀ l : List ByteArray, -1 ≤ fst l s
  | [] => Int.le_refl _
  | x :: t => by
    have := fst_ge s t
    unfold fst
    split
    · omega
    · split <;> omega
theorem fst_hit {s : ByteArray} : ∀ {l : List ByteArray} {k : Nat} (hk : k < l.length), (∀ j, (hj : j < k) → ¬ bs (l[j]'(by omega)) = bs s) → bs l[k] = bs s → fst l s = (k : Int)
  | [], k, hk, _, _ => absurd hk (Nat.not_lt_zero _)
  | x :: t, 0, hk, _, e => by
    unfold fst
    exact if_pos e
  | x :: t, k + 1, hk, h, e => by
    have h0 : ¬ bs x = bs s := h 0 (Nat.succ_pos _)
    have hk' : k < t.length := by simp at hk; omega
    have ih := fst_hit (s := s) (l := t) (k := k) hk' (fun j hj => h (j + 1) (by omega)) e
    unfold fst
    rw [if_neg h0, ih, if_neg (by omega)]
    omega
theorem fst_miss {s : ByteArray} : ∀ {l : List ByteArray}, (∀ j, (hj : j < l.length) → ¬ bs l[j] = bs s) → fst l s = -1
  | [], _ => rfl
  | x :: t, h => by
    have h0 : ¬ bs x = bs s := h 0 (by simp)
    have ih := fst_miss (s := s) (l := t) (fun j hj => h (j + 1) (by simp; omega))
    unfold fst
    rw [if_neg h0, ih, if_pos rfl]
theorem fst_lt (s : ByteArray) : ∀ l : List ByteArray, fst l s < l.length
  | [] => by show (-1 : Int) < 0; decide
  | x :: t => by
    have := fst_lt s t
    unfold fst
    rw [List.length_cons]
    split
    · omega
    · split <;> omega
/-- What is there is found at the first place of it, at the latest at its own. -/
theorem fst_self {l : List ByteArray} : ∀ {k : Nat} (hk : k < l.length), 0 ≤ fst l l[k] ∧ fst l l[k] ≤ (k : Int) := by
  induction l with
  | nil => intro k hk; exact absurd hk (Nat.not_lt_zero _)
  | cons x t ih =>
    intro k hk
    unfold fst
    cases k with
    | zero => exact (show 0 ≤ (if bs x = bs x then 0 else if fst t x = -1 then -1 else fst t x + 1) ∧ (if bs x = bs x then 0 else if fst t x = -1 then -1 else fst t x + 1) ≤ ((0 : Nat) : Int) from by rw [if_pos rfl]; omega)
    | succ k =>
      have hk' : k < t.length := by simp at hk; omega
      have := ih hk'
      show 0 ≤ (if bs x = bs t[k] then 0 else if fst t t[k] = -1 then -1 else fst t t[k] + 1) ∧ (if bs x = bs t[k] then 0 else if fst t t[k] = -1 then -1 else fst t t[k] + 1) ≤ ((k + 1 : Nat) : Int)
      split
      · omega
      · rw [if_neg (by omega)]; omega
theorem fst_earlier {l : List ByteArray} {j k : Nat} (hj : j < k) (hk : k < l.length) (e : bs (l[j]'(by omega)) = bs l[k]) : fst l l[k] < (k : Int) := by
  rw [← bs_inj e]
  have := (fst_self (l := l) (k := j) (by omega)).2
  omega
theorem fst_own {l : List ByteArray} {k : Nat} (hk : k < l.length) (h : ∀ j, (hj : j < k) → ¬ bs (l[j]'(by omega)) = bs l[k]) : fst l l[k] = (k : Int) := fst_hit hk h rfl
/-- Place k of a list holds a valid name that stands nowhere before it. -/
def okB (l : List ByteArray) (k : Nat) : Bool := match l[k]? with
  | some x => nameB (bs x) && decide (fst l x = (k : Int))
  | none => true
theorem okB_at {l : List ByteArray} {k : Nat} (hk : k < l.length) : okB l k = (nameB (bs l[k]) && decide (fst l l[k] = (k : Int))) := by
  unfold okB; rw [List.getElem?_eq_getElem hk]
/-- What Distinct answers. -/
def dst (l : List ByteArray) : Int := match (List.range l.length).find? (fun k => !okB l k) with
  | none => 0
  | some k => if nameB (bs (l.getD k ⟨#[]⟩)) = true then 4 else 3
theorem dst_find {l : List ByteArray} {k : Nat} (hk : k < l.length) (h : ∀ j, j < k → okB l j = true) (hb : okB l k = false) : (List.range l.length).find? (fun k => !okB l k) = some k := by
  rw [List.find?_range_eq_some]
  refine ⟨by simp [hb], List.mem_range.2 hk, fun j hj => by simp [h j hj]⟩
theorem dst_name {l : List ByteArray} {k : Nat} (hk : k < l.length) (h : ∀ j, j < k → okB l j = true) (hb : nameB (bs l[k]) = false) : dst l = 3 := by
  unfold dst
  rw [dst_find hk h (by rw [okB_at hk, hb]; rfl)]
  simp [List.getD, List.getElem?_eq_getElem hk, hb]
theorem dst_twice {l : List ByteArray} {k : Nat} (hk : k < l.length) (h : ∀ j, j < k → okB l j = true) (hb : nameB (bs l[k]) = true) (hf : fst l l[k] < (k : Int)) : dst l = 4 := by
  unfold dst
  rw [dst_find hk h (by rw [okB_at hk, hb, decide_eq_false (by omega)]; rfl)]
  simp [List.getD, List.getElem?_eq_getElem hk, hb]
theorem dst_ok {l : List ByteArray} (h : ∀ j, j < l.length → okB l j = true) : dst l = 0 := by
  unfold dst
  rw [List.find?_eq_none.2 (fun k hk => by simp [h k (List.mem_range.1 hk)])]
theorem dst_zero {l : List ByteArray} (h : dst l = 0) : ∀ j, j < l.length → okB l j = true := by
  intro j hj
  unfold dst at h
  cases hf : (List.range l.length).find? (fun k => !okB l k) with
  | none => have := List.find?_eq_none.1 hf j (List.mem_range.2 hj); simpa using this
  | some k => rw [hf] at h; simp only at h; split at h <;> cases h
theorem dst_cases (l : List ByteArray) : dst l = 0 ∨ dst l = 3 ∨ dst l = 4 := by
  unfold dst
  split
  · exact .inl rfl
  · split
    · exact .inr (.inr rfl)
    · exact .inr (.inl rfl)
end Go.Proofs.YtonlmnlpofgccaaGreat.Na
