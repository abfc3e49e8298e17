/-
  What is read from a text is a valid list of tokens.
-/
import Derived.Test.YtilnojcbebchdaaDoorLxTok
import Derived.Test.YtilnojcbebchdaaDoorLxTxt
namespace Go.Proofs.YtilnojcbebchdaaDoor.Lx
set_option maxHeartbeats 1000000
/-- The list of tokens read so far, in line n; no text is longer than M. -/
structure Okd (M : Nat) (a : List Tk) (n : Nat) : Prop where
  pos : 1 ≤ n
  opn : ¬ (bef a a.length).k = 4 → (bef a a.length).l = n ∧ 0 < a.length
  shut : (bef a a.length).k = 4 → (bef a a.length).l < n
  each : ∀ k, k < a.length → chkA (decide (k = 0)) (bef a k) (a.getD k ⟨4, mt, 0, 0⟩) false = 0
  size : ∀ x ∈ a, x.t.size ≤ M
theorem bef_snoc_lt {a : List Tk} {x : Tk} {k : Nat} (h : k ≤ a.length) : bef (a ++ [x]) k = bef a k := by
  unfold bef
  by_cases e : k = 0
  · rw [if_pos e, if_pos e]
  · rw [if_neg e, if_neg e]
    simp only [List.getD]
    rw [List.getElem?_append_left (by omega)]
theorem bef_snoc {a : List Tk} {x : Tk} : bef (a ++ [x]) (a ++ [x]).length = x := by
  rw [List.length_append, List.length_cons, List.length_nil, bef_succ (by simp)]
  simp
theorem getD_snoc_lt {a : List Tk} {x : Tk} {k : Nat} (h : k < a.length) : (a ++ [x]).getD k ⟨4, mt, 0, 0⟩ = a.getD k ⟨4, mt, 0, 0⟩ := by
  simp only [List.getD]
  rw [List.getElem?_append_left h]
theorem getD_snoc {a : List Tk} {x : Tk} : (a ++ [x]).getD a.length ⟨4, mt, 0, 0⟩ = x := by simp [List.getD]
theorem opn_bef {a : List Tk} : opn a = decide (¬ (bef a a.length).k = 4) := by
  rcases List.eq_nil_or_concat a with rfl | ⟨m, x, rfl⟩
  · rfl
  · rw [List.concat_eq_append, opn_snoc, bef_snoc]
theorem chkA_word {x b : Tk} {first : Bool} (h1 : 1 ≤ x.k) (h3 : x.k ≤ 3) (hf : fmB x = true) (hl : orB first b.k b.l x.k x.l = true) : chkA first b x false = 0 := by
  have hp : plB b.k x.k false = true := by
    unfold plB
    rw [if_neg (by omega), if_neg (by omega)]
  unfold chkA
  rw [if_neg (by omega), hf, hl, hp]
  rfl
theorem okd_word {M : Nat} {a : List Tk} {n : Nat} {x : Tk} (h : Okd M a n) (h1 : 1 ≤ x.k) (h3 : x.k ≤ 3) (hf : fmB x = true) (hl : x.l = n) (hs : x.t.size ≤ M) : Okd M (a ++ [x]) n := by
  refine ⟨h.pos, fun _ => ?_, fun g => ?_, fun k hk => ?_, fun y hy => ?_⟩
  · rw [bef_snoc]; exact ⟨hl, by simp⟩
  · rw [bef_snoc] at g; omega
  · rw [List.length_append, List.length_cons, List.length_nil] at hk
    rw [bef_snoc_lt (by omega)]
    rcases Nat.lt_or_ge k a.length with g | g
    · rw [getD_snoc_lt g]; exact h.each k g
    · obtain rfl : k = a.length := by omega
      rw [getD_snoc]
      refine chkA_word h1 h3 hf ?_
      have hp := h.pos
      unfold orB
      by_cases e : a.length = 0
      · rw [decide_eq_true e, if_pos rfl, hl]; exact decide_eq_true (by omega)
      · rw [decide_eq_false e, if_neg (by decide)]
        by_cases e4 : (bef a a.length).k = 4
        · rw [if_neg (by simp [e4]), if_neg (by omega), hl]; exact decide_eq_true (h.shut e4)
        · rw [if_pos e4, hl]; exact decide_eq_true (h.opn e4).1.symm
  · rcases List.mem_append.1 hy with hy | hy
    · exact h.size y hy
    · rw [List.mem_singleton] at hy; rw [hy]; exact hs
theorem okd_end {M : Nat} {a : List Tk} {n : Nat} (h : Okd M a n) : Okd M (endL a n) (n + 1) := by
  have hp := h.pos
  by_cases e4 : (bef a a.length).k = 4
  · have e : endL a n = a := by unfold endL; rw [opn_bef, if_neg (by simp [e4])]
    rw [e]
    refine ⟨by omega, fun g => absurd e4 g, fun g => ?_, h.each, h.size⟩
    have := h.shut g
    omega
  · have e : endL a n = a ++ [⟨4, mt, 0, (n : Int)⟩] := by unfold endL; rw [opn_bef, if_pos (by simp [e4])]
    rw [e]
    have h0 := h.opn e4
    refine ⟨by omega, fun g => ?_, fun g => ?_, fun k hk => ?_, fun y hy => ?_⟩
    · rw [bef_snoc] at g; exact absurd rfl g
    · rw [bef_snoc]; show (n : Int) < _; omega
    · rw [List.length_append, List.length_cons, List.length_nil] at hk
      rw [bef_snoc_lt (by omega)]
      rcases Nat.lt_or_ge k a.length with g | g
      · rw [getD_snoc_lt g]; exact h.each k g
      · obtain rfl : k = a.length := by omega
        rw [getD_snoc, decide_eq_false (by omega)]
        have e1 : fmB ⟨4, mt, 0, (n : Int)⟩ = true := by unfold fmB; simp [mt]; rfl
        have e2 : plB (bef a a.length).k 4 false = true := by unfold plB; simp [e4]
        have e3 : orB false (bef a a.length).k (bef a a.length).l 4 (n : Int) = true := by
          unfold orB
          rw [if_neg (by decide), if_pos e4]
          exact decide_eq_true h0.1.symm
        unfold chkA
        rw [e1, e2, e3, if_neg (show ¬ ((4 : Int) < 0 ∨ (4 : Int) < 4) by decide)]
        rfl
    · rcases List.mem_append.1 hy with hy | hy
      · exact h.size y hy
      · rw [List.mem_singleton] at hy; rw [hy]; show (0 : Nat) ≤ M; omega
/-- A token that a text begins with is formed. -/
theorem fst_form {l : List UInt8} {x : Tk} {k : Nat} (h : fstO l = some (x, k)) : 1 ≤ x.k ∧ x.k ≤ 3 ∧ fmB x = true ∧ x.t.size ≤ l.length := by
  unfold fstO at h
  by_cases h1 : spn ltrC l = 0
  · rw [if_pos h1] at h
    by_cases h2 : spn digC l = 0
    · rw [if_pos h2] at h
      by_cases h3 : 2 ≤ l.length ∧ isSg (l.take 2) = true
      · rw [if_pos h3] at h; cases h
        refine ⟨by show (1 : Int) ≤ 3; decide, by show (3 : Int) ≤ 3; decide, ?_, ?_⟩
        · unfold fmB
          rw [if_neg (show ¬ (3 : Int) = 1 by decide), if_neg (show ¬ (3 : Int) = 2 by decide), if_pos rfl]
          show (isSg (bs (mkS (l.take 2))) && _) = true
          rw [bs_mk, h3.2]; rfl
        · show (mkS (l.take 2)).size ≤ _
          rw [← bs_len, bs_mk, List.length_take]; omega
      · rw [if_neg h3] at h
        by_cases h4 : isSg (l.take 1) = true
        · rw [if_pos h4] at h; cases h
          refine ⟨by show (1 : Int) ≤ 3; decide, by show (3 : Int) ≤ 3; decide, ?_, ?_⟩
          · unfold fmB
            rw [if_neg (show ¬ (3 : Int) = 1 by decide), if_neg (show ¬ (3 : Int) = 2 by decide), if_pos rfl]
            show (isSg (bs (mkS (l.take 1))) && _) = true
            rw [bs_mk, h4]; rfl
          · show (mkS (l.take 1)).size ≤ _
            rw [← bs_len, bs_mk, List.length_take]; omega
        · rw [if_neg h4] at h; cases h
    · rw [if_neg h2] at h
      split at h
      · rename_i v hv
        cases h
        have := numO_some.1 hv
        refine ⟨by show (1 : Int) ≤ 2; decide, by show (2 : Int) ≤ 3; decide, ?_, by show (0 : Nat) ≤ _; omega⟩
        unfold fmB
        rw [if_neg (show ¬ (2 : Int) = 1 by decide), if_pos rfl]
        show (decide ((0 : Nat) = 0) && (decide (0 ≤ v) && decide (v ≤ 1000000000000))) = true
        rw [decide_eq_true this.1, decide_eq_true this.2.1]; rfl
      · cases h
  · rw [if_neg h1] at h
    cases h
    have hw : spn wrdC l ≤ l.length := spn_le _ _
    refine ⟨by show (1 : Int) ≤ 1; decide, by show (1 : Int) ≤ 3; decide, ?_, ?_⟩
    · unfold fmB
      rw [if_pos rfl]
      show (isWd (bs (mkS (l.take (spn wrdC l)))) && _) = true
      rw [bs_mk, wd_iff.2 ⟨?_, ?_⟩]
      · rfl
      · rw [spn_cut]
        obtain ⟨c, t, rfl, hc⟩ := spn_pos h1
        have := spn_one (p := wrdC) (c := c) (t := t) (wrd_ltr hc)
        omega
      · rw [spn_cut, List.length_take]; omega
    · show (mkS (l.take (spn wrdC l))).size ≤ _
      rw [← bs_len, bs_mk, List.length_take]; omega
theorem okd_lex {M : Nat} : ∀ (k : Nat) (l : List UInt8) (a : List Tk) (n : Nat), l.length ≤ k → l.length ≤ M → Okd M a n → Okd M (lexL l a n).a (lexL l a n).n
  | 0, l, a, n, h, _, ho => by
    have : l = [] := List.length_eq_zero_iff.1 (by omega)
    subst this
    rw [lexL_nil]; exact ho
  | k + 1, [], a, n, h, _, ho => by rw [lexL_nil]; exact ho
  | k + 1, c :: t, a, n, h, hM, ho => by
    have ht : t.length ≤ k := by simpa using h
    rw [List.length_cons] at hM
    rw [lexL_cons]
    split
    · exact okd_lex k t a n ht (by omega) ho
    · split
      · rename_i h2
        have h3 := spn_one (p := inlC) (c := c) (t := t) (by rw [h2]; exact inl_35)
        exact okd_lex k _ a n (by rw [List.length_drop, List.length_cons]; omega) (by rw [List.length_drop, List.length_cons]; omega) ho
      · split
        · exact okd_lex k t _ _ ht (by omega) (okd_end ho)
        · cases h4 : fstO (c :: t) with
          | none => exact ho
          | some y =>
            obtain ⟨x, m⟩ := y
            have h5 := fst_size h4
            obtain ⟨f1, f2, f3, f4⟩ := fst_form h4
            rw [List.length_cons] at h5 f4
            exact okd_lex k _ _ n (by rw [List.length_drop, List.length_cons]; omega) (by rw [List.length_drop, List.length_cons]; omega) (okd_word ho f1 f2 (by unfold setL; exact f3) rfl (by show x.t.size ≤ M; omega))
theorem okd_fin {M : Nat} {R : Res} (h : Okd M R.a R.n) : chkL (fin R) = 0 ∧ ∀ x ∈ fin R, x.t.size ≤ M := by
  have hE := okd_end h
  unfold fin
  obtain ⟨b, hb⟩ : ∃ b, endL R.a R.n = b := ⟨_, rfl⟩
  have e4 : (bef b b.length).k = 4 := by
    rw [← hb]
    by_cases e : (bef R.a R.a.length).k = 4
    · have e2 : endL R.a R.n = R.a := by unfold endL; rw [opn_bef, if_neg (by simp [e])]
      rw [e2]; exact e
    · have e2 : endL R.a R.n = R.a ++ [⟨4, mt, 0, (R.n : Int)⟩] := by unfold endL; rw [opn_bef, if_pos (by simp [e])]
      rw [e2, bef_snoc]
  rw [hb] at hE ⊢
  have hsh := hE.shut e4
  have hp := h.pos
  refine ⟨?_, fun x hx => ?_⟩
  · have hall : orF (chkK (b ++ [(⟨0, mt, 0, (R.n : Int)⟩ : Tk)])) (b ++ [(⟨0, mt, 0, (R.n : Int)⟩ : Tk)]).length = 0 := by
      rw [orF_iff]
      intro k hk
      rw [List.length_append, List.length_cons, List.length_nil] at hk
      unfold chkK
      rw [bef_snoc_lt (by omega), List.length_append, List.length_cons, List.length_nil]
      rcases Nat.lt_or_ge k b.length with g | g
      · rw [getD_snoc_lt g, decide_eq_false (by omega : ¬ k + 1 = b.length + (0 + 1))]; exact hE.each k g
      · obtain rfl : k = b.length := by omega
        rw [getD_snoc, decide_eq_true (by omega : b.length + 1 = b.length + (0 + 1))]
        have e1 : fmB ⟨0, mt, 0, (R.n : Int)⟩ = true := by unfold fmB; simp [mt]; rfl
        have e2 : plB (bef b b.length).k 0 true = true := by unfold plB; rw [e4]; rfl
        have e3 : orB (decide (b.length = 0)) (bef b b.length).k (bef b b.length).l 0 (R.n : Int) = true := by
          unfold orB
          by_cases e : b.length = 0
          · rw [decide_eq_true e, if_pos rfl]; exact decide_eq_true (by omega)
          · rw [decide_eq_false e, if_neg (by decide), if_neg (by simp [e4]), if_pos rfl]
            exact decide_eq_true (by omega)
        unfold chkA
        rw [e1, e2, e3, if_neg (show ¬ ((0 : Int) < 0 ∨ (4 : Int) < 0) by decide)]
        rfl
    unfold chkL
    rw [if_pos hall, bef_snoc, if_pos rfl]
  · rcases List.mem_append.1 hx with hx | hx
    · exact hE.size x hx
    · rw [List.mem_singleton] at hx; rw [hx]; show (0 : Nat) ≤ M; omega
/-- Check accepts what Tokens returns without an error. -/
theorem tok_valid {l : List UInt8} (h : tokE l = 0) : chkL (tokL l) = 0 ∧ ∀ x ∈ tokL l, x.t.size ≤ l.length := by
  have hl : ¬ 20000 < l.length := fun g => by rw [(tok_long g).2.2] at h; cases h
  have hb : (lexL l [] 1).bad = false := by
    cases e : (lexL l [] 1).bad with
    | false => rfl
    | true => rw [(tok_bad hl e).2.2] at h; cases h
  rw [(tok_good hl hb).1]
  exact okd_fin (okd_lex l.length l [] 1 (Nat.le_refl _) (Nat.le_refl _) ⟨Nat.le_refl _, fun g => absurd rfl g, fun _ => by show (0 : Int) < _; decide, fun k hk => absurd hk (Nat.not_lt_zero _), fun x hx => by cases hx⟩)
end Go.Proofs.YtilnojcbebchdaaDoor.Lx
