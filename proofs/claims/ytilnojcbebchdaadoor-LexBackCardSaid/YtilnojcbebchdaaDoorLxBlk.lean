/-
  What stands behind a text: blanks, a comment, the end of a line.
-/
import Derived.Test.YtilnojcbebchdaaDoorLxRTok
namespace Go.Proofs.YtilnojcbebchdaaDoor.Lx
set_option maxHeartbeats 1000000
/-- A text that does not begin with a part of a token. -/
def Brk (e : List UInt8) : Prop := ∀ c, e.head? = some c → c = 32 ∨ c = 10
theorem Brk.ltr {e : List UInt8} (h : Brk e) : ∀ c, e.head? = some c → ltrC c = false := fun c hc => by rcases h c hc with rfl | rfl <;> decide
theorem Brk.dig {e : List UInt8} (h : Brk e) : ∀ c, e.head? = some c → digC c = false := fun c hc => by rcases h c hc with rfl | rfl <;> decide
theorem Brk.wrd {e : List UInt8} (h : Brk e) : ∀ c, e.head? = some c → wrdC c = false := fun c hc => by rcases h c hc with rfl | rfl <;> decide
theorem sg_brk1 {c : UInt8} (h : c = 32 ∨ c = 10) : isSg [c] = false := by rcases h with rfl | rfl <;> decide
theorem sg_brk2 {b c : UInt8} (h : c = 32 ∨ c = 10) : isSg [b, c] = false := by
  unfold isSg sgl
  simp only [List.contains_eq_mem, decide_eq_false_iff_not, List.mem_cons, List.cons.injEq, reduceCtorEq, and_false, List.not_mem_nil, or_false, and_true]
  rcases h with rfl | rfl <;> simp
theorem fst_app {l e : List UInt8} (hl : l ≠ []) (h : Brk e) : fstO (l ++ e) = fstO l := by
  have e1 := spn_app (l := l) h.ltr
  have e2 := spn_app (l := l) h.dig
  have e3 := spn_app (l := l) h.wrd
  have l2 := spn_le digC l
  have l3 := spn_le wrdC l
  have hpos : 1 ≤ l.length := by cases l with | nil => exact absurd rfl hl | cons c t => simp
  unfold fstO
  rw [e1, e2, e3, List.take_append_of_le_length l2, List.take_append_of_le_length l3, List.take_append_of_le_length hpos]
  have key : (2 ≤ (l ++ e).length ∧ isSg ((l ++ e).take 2) = true) ↔ (2 ≤ l.length ∧ isSg (l.take 2) = true) := by
    by_cases g : 2 ≤ l.length
    · rw [List.take_append_of_le_length g, List.length_append]
      constructor
      · rintro ⟨_, g2⟩; exact ⟨g, g2⟩
      · rintro ⟨_, g2⟩; exact ⟨by omega, g2⟩
    · constructor
      · rintro ⟨g1, g2⟩
        exfalso
        match l, hl, g with
        | [b], _, _ =>
          cases e with
          | nil => simp at g1
          | cons c t =>
            have g3 : isSg [b, c] = true := g2
            rw [sg_brk2 (h c rfl)] at g3
            cases g3
        | _ :: _ :: _, _, g => simp at g
      · rintro ⟨g1, _⟩; exact absurd g1 g
  simp only [key]
  by_cases g : 2 ≤ l.length ∧ isSg (l.take 2) = true
  · rw [List.take_append_of_le_length g.1]
  · simp only [if_neg g]
/-- A text with something behind it that does not go on with its tokens, and that a comment swallows or ends before. -/
theorem lex_app {e : List UInt8} (h1 : Brk e) (h2 : ∀ (a : List Tk) (n : Nat), lexL (e.drop (spn inlC e)) a n = lexL e a n) : ∀ (k : Nat) (l : List UInt8) (a : List Tk) (n : Nat), l.length ≤ k →
    lexL (l ++ e) a n = if (lexL l a n).bad = true then lexL l a n else lexL e (lexL l a n).a (lexL l a n).n
  | 0, l, a, n, h => by
    have : l = [] := List.length_eq_zero_iff.1 (by omega)
    subst this
    rw [lexL_nil, List.nil_append, if_neg (by simp)]
  | k + 1, [], a, n, h => by rw [lexL_nil, List.nil_append, if_neg (by simp)]
  | k + 1, c :: t, a, n, h => by
    have ht : t.length ≤ k := by simpa using h
    rw [lexL_cons c t, List.cons_append, lexL_cons c (t ++ e)]
    by_cases g1 : c = 32 ∨ c = 9
    · rw [if_pos g1, if_pos g1]; exact lex_app h1 h2 k t a n ht
    rw [if_neg g1, if_neg g1]
    by_cases g2 : c = 35
    · rw [if_pos g2, if_pos g2]
      have h3 := spn_one (p := inlC) (c := c) (t := t) (by rw [g2]; exact inl_35)
      have h4 := spn_le inlC (c :: t)
      rcases Nat.lt_or_ge (spn inlC (c :: t)) (c :: t).length with g | g
      · have e1 := spn_short (e := e) g
        rw [List.cons_append] at e1
        rw [e1, ← List.cons_append, List.drop_append_of_le_length h4]
        exact lex_app h1 h2 k _ a n (by rw [List.length_drop, List.length_cons]; omega)
      · have e0 : spn inlC (c :: t) = (c :: t).length := by omega
        have e1 := spn_long (e := e) e0
        rw [List.cons_append] at e1
        rw [e1, e0, List.drop_length, lexL_nil, if_neg (by simp), ← List.cons_append, ← List.drop_drop, List.drop_left, h2]
    rw [if_neg g2, if_neg g2]
    by_cases g3 : c = 10
    · rw [if_pos g3, if_pos g3]; exact lex_app h1 h2 k t _ _ ht
    rw [if_neg g3, if_neg g3]
    have e1 := fst_app (l := c :: t) (List.cons_ne_nil _ _) h1
    rw [List.cons_append] at e1
    rw [e1]
    cases h4 : fstO (c :: t) with
    | none => rw [if_pos rfl]
    | some y =>
      obtain ⟨x, m⟩ := y
      have h5 := fst_size h4
      show lexL ((c :: (t ++ e)).drop m) _ _ = _
      rw [← List.cons_append, List.drop_append_of_le_length h5.2]
      exact lex_app h1 h2 k _ _ n (by rw [List.length_drop, List.length_cons]; omega)
theorem spn_line : spn inlC [10] = 0 := by decide
theorem lex_feed (l : List UInt8) (a : List Tk) (n : Nat) : lexL (l ++ [10]) a n = if (lexL l a n).bad = true then lexL l a n else ⟨endL (lexL l a n).a (lexL l a n).n, (lexL l a n).n + 1, false⟩ := by
  rw [lex_app (e := [10]) (fun c hc => by cases hc; exact .inr rfl) (fun a n => by rw [spn_line]; rfl) l.length l a n (Nat.le_refl _), lex_line, lexL_nil]
/-- Blanks and a comment behind a text. -/
theorem lex_gap (l : List UInt8) (b : UInt8) (m : List UInt8) (hb : b = 32 ∨ b = 9) (hm : ∀ c ∈ m, inlC c = true) (a : List Tk) (n : Nat) : lexL (l ++ (32 :: b :: 35 :: m)) a n = lexL l a n := by
  have hs : spn inlC (32 :: b :: 35 :: m) = (32 :: b :: 35 :: m).length := spn_all fun j hj => by
    have hx := List.getElem_mem hj
    rcases List.mem_cons.1 hx with hx | hx
    · rw [hx]; decide
    rcases List.mem_cons.1 hx with hx | hx
    · rw [hx]; rcases hb with rfl | rfl <;> decide
    rcases List.mem_cons.1 hx with hx | hx
    · rw [hx]; decide
    · exact hm _ hx
  have hs3 : spn inlC (35 :: m) = (35 :: m).length := spn_all fun j hj => by
    have hx := List.getElem_mem hj
    rcases List.mem_cons.1 hx with hx | hx
    · rw [hx]; decide
    · exact hm _ hx
  have he : ∀ (a : List Tk) (n : Nat), lexL (32 :: b :: 35 :: m) a n = ⟨a, n, false⟩ := fun a n => by
    rw [lex_blank (.inl rfl), lex_blank hb, lex_note, hs3, List.drop_length, lexL_nil]
  rw [lex_app (e := 32 :: b :: 35 :: m) (fun c hc => by cases hc; exact .inl rfl) (fun a n => by rw [hs, List.drop_length, lexL_nil, he]) l.length l a n (Nat.le_refl _), he]
  cases g : (lexL l a n).bad with
  | true => rw [if_pos rfl]
  | false =>
    rw [if_neg (by simp)]
    obtain ⟨R, hR⟩ : ∃ R, lexL l a n = R := ⟨_, rfl⟩
    rw [hR] at g ⊢
    obtain ⟨A, N, B⟩ := R
    simp only at g
    rw [g]
theorem tok_gap {l : List UInt8} {b : UInt8} {m : List UInt8} (hb : b = 32 ∨ b = 9) (hm : ∀ c ∈ m, inlC c = true) (h1 : l.length ≤ 300) (h2 : m.length ≤ 100) :
    tokL (l ++ (32 :: b :: 35 :: m)) = tokL l ∧ tokN (l ++ (32 :: b :: 35 :: m)) = tokN l ∧ tokE (l ++ (32 :: b :: 35 :: m)) = tokE l := by
  have hl : (l ++ (32 :: b :: 35 :: m)).length = l.length + (m.length + 3) := by simp
  unfold tokL tokN tokE
  have g1 : ¬ 20000 < (l ++ (32 :: b :: 35 :: m)).length := by omega
  have g2 : ¬ 20000 < l.length := by omega
  simp only [lex_gap l b m hb hm, if_neg g1, if_neg g2, and_self]
/-- The same tokens, but for the line of the last. -/
def Nxt (l o : List Tk) : Prop := o.length = l.length ∧ ∀ i, (h : i < l.length) → (g : i < o.length) → (i + 1 < l.length → o[i] = l[i]) ∧ (i + 1 = l.length → (o[i]).l = (l[i]).l + 1 ∧ 0 ≤ (l[i]).l ∧ (l[i]).l ≤ 1000000)
theorem tok_feed {l : List UInt8} (h1 : l.length ≤ 300) : Nxt (tokL l) (tokL (l ++ [10])) ∧ tokN (l ++ [10]) = tokN l ∧ tokE (l ++ [10]) = tokE l := by
  have hl : (l ++ [10]).length = l.length + 1 := by simp
  have hF := lex_feed l [] 1
  have hN := (lex_len l.length l [] 1 (Nat.le_refl _)).2
  cases g : (lexL l [] 1).bad with
  | true =>
    rw [g, if_pos rfl] at hF
    obtain ⟨a1, a2, a3⟩ := tok_bad (l := l) (by omega) g
    obtain ⟨b1, b2, b3⟩ := tok_bad (l := l ++ [10]) (by omega) (by rw [hF]; exact g)
    rw [a1, a2, a3, b1, b2, b3, hF]
    exact ⟨⟨rfl, fun i h => absurd h (Nat.not_lt_zero _)⟩, rfl, rfl⟩
  | false =>
    rw [g, if_neg (by simp)] at hF
    obtain ⟨a1, a2, a3⟩ := tok_good (l := l) (by omega) g
    obtain ⟨b1, b2, b3⟩ := tok_good (l := l ++ [10]) (by omega) (by rw [hF])
    rw [a1, a2, a3, b1, b2, b3, hF]
    refine ⟨?_, rfl, rfl⟩
    obtain ⟨R, hR⟩ : ∃ R, lexL l [] 1 = R := ⟨_, rfl⟩
    rw [hR] at hN ⊢
    unfold fin
    show Nxt _ (endL (endL R.a R.n) (R.n + 1) ++ [⟨0, mt, 0, ((R.n + 1 : Nat) : Int)⟩])
    rw [endL_no opn_end]
    refine ⟨by simp, fun i h g => ⟨fun hi => ?_, fun hi => ?_⟩⟩
    · rw [List.length_append, List.length_cons, List.length_nil] at hi
      rw [List.getElem_append_left (by omega), List.getElem_append_left (by omega)]
    · rw [List.length_append, List.length_cons, List.length_nil] at hi
      obtain rfl : i = (endL R.a R.n).length := by omega
      rw [List.getElem_concat_length rfl, List.getElem_concat_length rfl]
      show (((R.n + 1 : Nat) : Int)) = (R.n : Int) + 1 ∧ (0 : Int) ≤ (R.n : Int) ∧ (R.n : Int) ≤ 1000000
      omega
end Go.Proofs.YtilnojcbebchdaaDoor.Lx
