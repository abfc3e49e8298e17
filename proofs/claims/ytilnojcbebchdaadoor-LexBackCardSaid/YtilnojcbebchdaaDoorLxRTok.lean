/-
  The contract of the reference's Tokens.
-/
import Derived.Test.YtilnojcbebchdaaDoorLxTok
import Derived.Test.YtilnojcbebchdaaDoorLxLong
namespace Go.Proofs.YtilnojcbebchdaaDoor.Lx
open Go.RowKit
set_option maxHeartbeats 4000000
set_option linter.unusedVariables false
/-- What stands ahead: a word, a number, digits that are no number, a sign, or none of these. -/
inductive Ahead (l : List UInt8) (N : Nat) : Prop where
  | word (h0 : 0 < N) (hw : isWd (l.take N) = true) (hd : isDg (l.take N) = false) (hf : fstO l = some (⟨1, mkS (l.take N), 0, 0⟩, N))
  | num (v : Int) (h0 : 0 < N) (hw : isWd (l.take N) = false) (hd : isDg (l.take N) = true) (hn : numO (l.take N) = some v) (hf : fstO l = some (⟨2, mt, v, 0⟩, N))
  | bad (h0 : 0 < N) (hw : isWd (l.take N) = false) (hd : isDg (l.take N) = true) (hn : numO (l.take N) = none) (hf : fstO l = none)
  | sign (h0 : 0 < N) (hw : isWd (l.take N) = false) (hd : isDg (l.take N) = false) (hf : fstO l = some (⟨3, mkS (l.take N), 0, 0⟩, N))
  | none (h0 : N = 0) (hw : isWd (l.take N) = false) (hd : isDg (l.take N) = false) (hf : fstO l = none)
theorem wd_not {l : List UInt8} (h : spn ltrC l = 0) (n : Nat) : isWd (l.take n) = false := by
  rw [← Bool.not_eq_true, wd_iff, spn_cut, h]
  rintro ⟨g, -⟩
  omega
theorem dg_not {l : List UInt8} (h : spn digC l = 0) {n : Nat} (hn : n ≤ l.length) : isDg (l.take n) = false := by
  rw [← Bool.not_eq_true, dg_iff, spn_cut, h, take_len hn]
  rintro ⟨g, g2⟩
  omega
theorem sgN_le (l : List UInt8) : sgN l ≤ l.length := by
  unfold sgN
  split
  · omega
  · split
    · rename_i g2
      have := isSg_len g2
      rw [List.length_take] at this
      omega
    · omega
theorem tkN_le (l : List UInt8) : tkN l ≤ l.length := by
  unfold tkN
  split
  · unfold wdN
    split
    · omega
    · exact spn_le _ _
  · split
    · exact spn_le _ _
    · exact sgN_le l
theorem ahead (l : List UInt8) : Ahead l (tkN l) := by
  by_cases h : spn ltrC l = 0
  · have hw : wdN l = 0 := by unfold wdN; rw [if_pos h]
    by_cases h2 : spn digC l = 0
    · have e : tkN l = sgN l := by unfold tkN; rw [if_neg (by omega), if_neg (by omega)]
      rw [e]
      have hf := fst_sign hw h2 rfl
      by_cases h3 : sgN l = 0
      · rw [if_pos h3] at hf
        exact .none h3 (wd_not h _) (dg_not h2 (sgN_le l)) hf
      · rw [if_neg h3] at hf
        exact .sign (by omega) (wd_not h _) (dg_not h2 (sgN_le l)) hf
    · have e : tkN l = spn digC l := by unfold tkN; rw [if_neg (by omega), if_pos h2]
      rw [e]
      have hd : isDg (l.take (spn digC l)) = true := by
        rw [dg_iff, spn_cut, take_len (spn_le _ _)]
        exact ⟨h2, by omega⟩
      cases hn : numO (l.take (spn digC l)) with
      | none => exact .bad (by omega) (wd_not h _) hd hn (fst_numno hw rfl (by omega) hn)
      | some v => exact .num v (by omega) (wd_not h _) hd hn (fst_num hw rfl (by omega) hn)
  · obtain ⟨e1, e2⟩ := wdN_eq h
    have e : tkN l = spn wrdC l := by unfold tkN; rw [e1, if_pos e2]
    rw [e]
    refine .word (by omega) ?_ (dg_not (ltr_nodig h) (spn_le _ _)) (fst_word e1 (by omega))
    rw [wd_iff, spn_cut, spn_cut, take_len (spn_le _ _)]
    exact ⟨by omega, by omega⟩
/-- Where the reference stands: what is left, from q on, yields R. -/
structure RAt (s : ByteArray) (R : Res) (q n : Nat) (a : List Tk) : Prop where
  hq : q ≤ s.size
  rest : lexL ((bs s).drop q) a n = R
  len : a.length ≤ q
  line : n ≤ q + 1
theorem ra_end {s : ByteArray} {R : Res} {q n : Nat} {a : List Tk} (h : RAt s R q n a) (hp : ¬ q < s.size) : R = ⟨a, n, false⟩ := by
  rw [← h.rest, List.drop_eq_nil_of_le (by rw [bs_len]; omega)]
  rfl
theorem ra_blank {s : ByteArray} {R : Res} {q n : Nat} {a : List Tk} (h : RAt s R q n a) (hp : q < s.size) (h2 : s[q] = 32 ∨ s[q] = 9) : RAt s R (q + 1) n a := by
  refine ⟨by omega, ?_, by have := h.len; omega, by have := h.line; omega⟩
  rw [← h.rest, drop_at hp, lex_blank h2]
theorem ra_note {s : ByteArray} {R : Res} {q n : Nat} {a : List Tk} (h : RAt s R q n a) (hp : q < s.size) (h2 : s[q] = 35) : RAt s R (q + spn inlC ((bs s).drop q)) n a := by
  have h3 := spn_le inlC ((bs s).drop q)
  rw [List.length_drop, bs_len] at h3
  refine ⟨by omega, ?_, by have := h.len; omega, by have := h.line; omega⟩
  rw [← h.rest]
  have hd := drop_at hp
  rw [h2] at hd
  have h5 : lexL ((bs s).drop q) a n = lexL (((bs s).drop q).drop (spn inlC ((bs s).drop q))) a n := by rw [hd]; exact lex_note
  rw [h5, List.drop_drop]
theorem ra_line {s : ByteArray} {R : Res} {q n : Nat} {a : List Tk} (h : RAt s R q n a) (hp : q < s.size) (h2 : s[q] = 10) : RAt s R (q + 1) (n + 1) (endL a n) := by
  refine ⟨by omega, ?_, by have := h.len; have := endL_len a n; omega, by have := h.line; omega⟩
  rw [← h.rest, drop_at hp, h2, lex_line]
theorem ra_tok {s : ByteArray} {R : Res} {q n : Nat} {a : List Tk} (h : RAt s R q n a) (hp : q < s.size) (ht : tokC s[q]) {x : Tk} {k : Nat} (e : fstO ((bs s).drop q) = some (x, k)) : q + k ≤ s.size ∧ RAt s R (q + k) n (a ++ [setL x n]) := by
  obtain ⟨k1, k2⟩ := fst_size e
  rw [List.length_drop, bs_len] at k2
  refine ⟨by omega, by omega, ?_, by rw [List.length_append]; have := h.len; simp; omega, by have := h.line; omega⟩
  rw [← h.rest]
  have hd := drop_at hp
  rw [hd] at e ⊢
  rw [lex_tok ht e, ← hd, List.drop_drop]
theorem ra_bad {s : ByteArray} {R : Res} {q n : Nat} {a : List Tk} (h : RAt s R q n a) (hp : q < s.size) (ht : tokC s[q]) (e : fstO ((bs s).drop q) = none) : R = ⟨a, n, true⟩ := by
  rw [← h.rest]
  rw [drop_at hp] at e ⊢
  exact lex_bad ht e
theorem note_in {s : ByteArray} {q j : Nat} (h : j < spn inlC ((bs s).drop q)) : ∃ g : q + j < s.size, ¬ (((s[q + j]'g).toNat : Nat) : Int) = 10 := by
  have h3 := spn_le inlC ((bs s).drop q)
  rw [List.length_drop, bs_len] at h3
  have g : q + j < s.size := by omega
  refine ⟨g, fun e => ?_⟩
  have h4 := spn_in (p := inlC) (l := (bs s).drop q) (j := j) h (by rw [List.length_drop, bs_len]; omega)
  rw [List.getElem_drop] at h4
  have h5 : inlC (s[q + j]'g) = true := h4
  unfold inlC inlI at h5
  rw [decide_eq_true e] at h5
  cases h5
theorem note_end {s : ByteArray} {q : Nat} (g : q + spn inlC ((bs s).drop q) < s.size) : (((s[q + spn inlC ((bs s).drop q)]'g).toNat : Nat) : Int) = 10 := by
  have h4 := spn_at (p := inlC) (l := (bs s).drop q) (by rw [List.length_drop, bs_len]; omega)
  rw [List.getElem_drop] at h4
  have h5 : inlC (s[q + spn inlC ((bs s).drop q)]'g) = false := h4
  have := inl_no h5
  omega
theorem opn_nil : opn [] = false := rfl
theorem endL_yes {a : List Tk} {n : Nat} (h : opn a = true) : endL a n = a ++ [⟨4, mt, 0, (n : Int)⟩] := if_pos h
theorem endL_no {a : List Tk} {n : Nat} (h : opn a = false) : endL a n = a := if_neg (by simp [h])
theorem opn_end {a : List Tk} {n : Nat} : opn (endL a n) = false := by
  cases h : opn a with
  | true => rw [endL_yes h, opn_snoc]; rfl
  | false => rw [endL_no h]; exact h
/-- The list between two rounds. -/
structure RW (w : World) (v : Value) (a : List Tk) (wr : World) : Prop where
  own : Own w.heap.size wr v a
  below : Below w.heap.size w wr
theorem RW.grew {w wr w2 : World} {v v2 : Value} {a a2 : List Tk} (h : RW w v a wr) (ho : Own w.heap.size w2 v2 a2) (hg : wr.grownBy w2 v.ownBlock) : RW w v2 a2 w2 := ⟨ho, below_grown h.below h.below.size h.own hg⟩
/-- One token more, the token loaded from one new block into another. -/
theorem app2 {w wr : World} {v : Value} {a : List Tk} (h : RW w v a wr) (x : Tk) (t : TypeId) (hn : a.length ≤ 1000000) :
    ∃ v' w', (Builtin.append_ #[23, 23] 23 #[v, .slice (some ⟨wr.heap.size + 1, 0, none⟩) 1 1]).run Tryd.prog ((wr.alloc (.cells #[.int .i64 x.k, .string x.t, .int .i64 x.n, .int .i64 x.l] t)).alloc (.cells #[.int .i64 x.k, .string x.t, .int .i64 x.n, .int .i64 x.l] 31)) = .ok v' w' ∧ RW w v' (a ++ [x]) w' := by
  have hB : Below wr.heap.size wr ((wr.alloc (.cells #[.int .i64 x.k, .string x.t, .int .i64 x.n, .int .i64 x.l] t)).alloc (.cells #[.int .i64 x.k, .string x.t, .int .i64 x.n, .int .i64 x.l] 31)) := bl_alloc (bl_alloc (Below.refl _ _))
  have hn4 := new4 (w := wr.alloc (.cells #[.int .i64 x.k, .string x.t, .int .i64 x.n, .int .i64 x.l] t)) (x := x) (t := 31)
  rw [show (wr.alloc (.cells #[.int .i64 x.k, .string x.t, .int .i64 x.n, .int .i64 x.l] t)).heap.size = wr.heap.size + 1 by simp] at hn4
  obtain ⟨v4, w4, hrun, ho4, hg4⟩ := append_tok (own_below h.own hB) (by simp) hn4 hn (by have := hB.size; have := h.below.size; omega)
  exact ⟨v4, w4, hrun, h.grew ho4 (grown_alloc (grown_alloc hg4))⟩
/-- One token more, from one new block. -/
theorem app1 {w wr : World} {v : Value} {a : List Tk} (h : RW w v a wr) (x : Tk) (hn : a.length ≤ 1000000) :
    ∃ v' w', (Builtin.append_ #[23, 23] 23 #[v, .slice (some ⟨wr.heap.size, 0, none⟩) 1 1]).run Tryd.prog (wr.alloc (.cells #[.int .i64 x.k, .string x.t, .int .i64 x.n, .int .i64 x.l] 31)) = .ok v' w' ∧ RW w v' (a ++ [x]) w' := by
  have hB : Below wr.heap.size wr (wr.alloc (.cells #[.int .i64 x.k, .string x.t, .int .i64 x.n, .int .i64 x.l] 31)) := bl_alloc (Below.refl _ _)
  obtain ⟨v4, w4, hrun, ho4, hg4⟩ := append_tok (own_below h.own hB) (by simp) (new4 (w := wr) (x := x) (t := 31)) hn (by have := hB.size; have := h.below.size; omega)
  exact ⟨v4, w4, hrun, h.grew ho4 (grown_alloc hg4)⟩
theorem byte_no {c : UInt8} {n : Nat} (hn : n < 256) (h : ¬ c = UInt8.ofNat n) : (((c.toNat : Nat) : Int) == (n : Int)) = false := by
  rw [beq_eq_false_iff_ne]
  exact fun e => h ((byte_is hn).2 e)
theorem byte_yes {c : UInt8} {n : Nat} (hn : n < 256) (h : c = UInt8.ofNat n) : (((c.toNat : Nat) : Int) == (n : Int)) = true := by
  rw [beq_iff_eq]
  exact (byte_is hn).1 h
/-- The end of the reference's text: what the list is in the end. -/
theorem rtok_end {w wr : World} {s : ByteArray} {R : Res} {v : Value} {a : List Tk} {n : Nat} (h : R = ⟨a, n, false⟩) (hs : ¬ 20000 < s.size) (hR : lexL (bs s) [] 1 = R) (h2 : RW w v (fin ⟨a, n, false⟩) wr) {e : Ending} (he : e = .returned (.tuple #[v, .int .i64 0, .int .i64 0])) : Tokd w (tokL (bs s)) (tokN (bs s)) (tokE (bs s)) e wr := by
  subst h
  have hg := tok_good (l := bs s) (by rw [bs_len]; exact hs) (by rw [hR])
  rw [hR] at hg
  exact tokd hg (by rw [he]; rfl) h2.own h2.below
theorem rtok_bad {w wr : World} {s : ByteArray} {R : Res} {a : List Tk} {n : Nat} (h : R = ⟨a, n, true⟩) (hs : ¬ 20000 < s.size) (hR : lexL (bs s) [] 1 = R) (hb : Below w.heap.size w wr) {e : Ending} (he : e = .returned (.tuple #[.slice none 0 0, .int .i64 (n : Int), .int .i64 8])) : Tokd w (tokL (bs s)) (tokN (bs s)) (tokE (bs s)) e wr := by
  subst h
  have hg := tok_bad (l := bs s) (by rw [bs_len]; exact hs) (by rw [hR])
  rw [hR] at hg
  exact tokd hg he (World.ownsRow_nil _ _ _ _) hb
end Go.Proofs.YtilnojcbebchdaaDoor.Lx
