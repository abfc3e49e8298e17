/-
  The contract of Tokens.
-/
import Derived.Test.YtilnojcbebchdaaDoorLxScan2
namespace Go.Proofs.YtilnojcbebchdaaDoor.Lx
open Go.RowKit
set_option maxHeartbeats 2000000
set_option linter.unusedVariables false
/-- The tokens of a text that is divided. -/
def fin (R : Res) : List Tk := endL R.a R.n ++ [⟨0, mt, 0, (R.n : Int)⟩]
/-- What Tokens returns: the list, the number of a line, the error. -/
def tokL (l : List UInt8) : List Tk := if 20000 < l.length then [] else if (lexL l [] 1).bad = true then [] else fin (lexL l [] 1)
def tokN (l : List UInt8) : Nat := if 20000 < l.length then 0 else if (lexL l [] 1).bad = true then (lexL l [] 1).n else 0
def tokE (l : List UInt8) : Int := if 20000 < l.length then 6 else if (lexL l [] 1).bad = true then 8 else 0
theorem tok_long {l : List UInt8} (h : 20000 < l.length) : tokL l = [] ∧ tokN l = 0 ∧ tokE l = 6 := by unfold tokL tokN tokE; rw [if_pos h, if_pos h, if_pos h]; exact ⟨rfl, rfl, rfl⟩
theorem tok_bad {l : List UInt8} (h : ¬ 20000 < l.length) (g : (lexL l [] 1).bad = true) : tokL l = [] ∧ tokN l = (lexL l [] 1).n ∧ tokE l = 8 := by unfold tokL tokN tokE; rw [if_neg h, if_neg h, if_neg h, if_pos g, if_pos g, if_pos g]; exact ⟨rfl, rfl, rfl⟩
theorem tok_good {l : List UInt8} (h : ¬ 20000 < l.length) (g : (lexL l [] 1).bad = false) : tokL l = fin (lexL l [] 1) ∧ tokN l = 0 ∧ tokE l = 0 := by unfold tokL tokN tokE; rw [if_neg h, if_neg h, if_neg h, if_neg (by simp [g]), if_neg (by simp [g]), if_neg (by simp [g])]; exact ⟨rfl, rfl, rfl⟩
/-- A list that the call made, a number and an error. -/
def Tokd (w : World) (l : List Tk) (n : Nat) (x : Int) (e : Ending) (w' : World) : Prop := ∃ v, e = .returned (.tuple #[v, .int .i64 (n : Int), .int .i64 x]) ∧ Own w.heap.size w' v l ∧ Below w.heap.size w w'
theorem tokd {w w' : World} {l l2 : List Tk} {n n2 : Nat} {x x2 : Int} {e : Ending} {v : Value} (h : l = l2 ∧ n = n2 ∧ x = x2) (he : e = .returned (.tuple #[v, .int .i64 (n2 : Int), .int .i64 x2])) (ho : Own w.heap.size w' v l2) (hb : Below w.heap.size w w') : Tokd w l n x e w' := by
  obtain ⟨rfl, rfl, rfl⟩ := h
  exact ⟨v, he, ho, hb⟩
/-- How long the lists are. -/
theorem lex_len : ∀ (k : Nat) (l : List UInt8) (a : List Tk) (n : Nat), l.length ≤ k → (lexL l a n).a.length ≤ a.length + l.length ∧ (lexL l a n).n ≤ n + l.length
  | 0, l, a, n, h => by
    have : l = [] := List.length_eq_zero_iff.1 (by omega)
    subst this
    rw [lexL_nil]; exact ⟨Nat.le_refl _, Nat.le_refl _⟩
  | k + 1, [], a, n, h => by rw [lexL_nil]; exact ⟨by simp, by simp⟩
  | k + 1, c :: t, a, n, h => by
    have ht : t.length ≤ k := by simpa using h
    rw [lexL_cons, List.length_cons]
    split
    · have := lex_len k t a n ht; omega
    · split
      · rename_i h2
        have h3 := spn_one (p := inlC) (c := c) (t := t) (by rw [h2]; exact inl_35)
        have h4 := lex_len k ((c :: t).drop (spn inlC (c :: t))) a n (by rw [List.length_drop, List.length_cons]; omega)
        rw [List.length_drop, List.length_cons] at h4
        omega
      · split
        · have := lex_len k t (endL a n) (n + 1) ht
          have := endL_len a n
          omega
        · cases h4 : fstO (c :: t) with
          | none => exact ⟨by show a.length ≤ _; omega, by show n ≤ _; omega⟩
          | some y =>
            obtain ⟨x, m⟩ := y
            have h5 := fst_size h4
            rw [List.length_cons] at h5
            have h6 := lex_len k ((c :: t).drop m) (a ++ [setL x n]) n (by rw [List.length_drop, List.length_cons]; omega)
            rw [List.length_drop, List.length_cons, List.length_append] at h6
            simp only [List.length_cons, List.length_nil] at h6
            exact ⟨by show (lexL ((c :: t).drop m) _ _).a.length ≤ _; omega, by show (lexL ((c :: t).drop m) _ _).n ≤ _; omega⟩
set_option maxRecDepth 100000 in
theorem tokens_any (s : ByteArray) (w : World) (hs : s.size ≤ 9223372036854775807) (hE : Env w) : Calls Tryd.prog 11 #[.string s] w (Tokd w (tokL (bs s)) (tokN (bs s)) (tokE (bs s))) := by
  by_cases h : 20000 < s.size
  · have HV := Lib.hid (tok_long (l := bs s) (by rw [bs_len]; exact h))
    have c1 : decide ((20000 : Int) < (s.size : Int)) = true := decide_eq_true (by omega)
    clear hE
    go_enter Tryd.func11, Tryd.ntmps11
    go_wp2_with fail
    go_ret3
    exact tokd HV.out rfl (World.ownsRow_nil _ _ _ _) (Below.refl _ _)
  · have c1 : decide ((20000 : Int) < (s.size : Int)) = false := decide_eq_false (by omega)
    have I1 := scan_any s w (by omega) hE
    have hlen := lex_len _ (bs s) [] 1 (Nat.le_refl _)
    rw [bs_len] at hlen
    cases hb : (lexL (bs s) [] 1).bad with
    | true =>
      have HV := Lib.hid (tok_bad (l := bs s) (by rw [bs_len]; exact h) hb)
      generalize lexL (bs s) [] 1 = R at *
      clear hE
      go_enter Tryd.func11, Tryd.ntmps11
      go_wp2_with fail
      refine I1.mono ?_
      rintro e w1 ⟨v, rfl, ho, hb1⟩
      rw [hb]
      clear ho
      go_wp2_with fail
      go_ret3
      exact tokd HV.out rfl (World.ownsRow_nil _ _ _ _) hb1
    | false =>
      have HV := tok_good (l := bs s) (by rw [bs_len]; exact h) hb
      generalize lexL (bs s) [] 1 = R at *
      obtain ⟨A, n, bad⟩ := R
      have hb : bad = false := hb
      subst hb
      have hn : n ≤ 20001 := by have : n ≤ _ := hlen.2; omega
      have hA : A.length ≤ 20000 := by have : A.length ≤ _ := hlen.1; simp at this; omega
      have HV' := Lib.hid HV
      have HA := Lib.hid hA
      have HN := Lib.hid hn
      clear HV hlen hE hA hn
      go_enter Tryd.func11, Tryd.ntmps11
      go_wp2_with fail
      refine I1.mono ?_
      rintro e w1 ⟨v, rfl, ho, hb1⟩
      have I2 := endline_any n w1 ho hb1.size (by have : A.length ≤ 20000 := HA.out; show A.length ≤ 1000000; omega)
      go_wp2_with fail
      refine I2.mono ?_
      rintro e w2 ⟨v2, rfl, ho2, hg2⟩
      have hb2 := below_grown hb1 hb1.size ho hg2
      have hB : Below w2.heap.size w2 (w2.alloc (.cells #[.int .i64 0, .string ⟨#[]⟩, .int .i64 0, .int .i64 (n : Int)] 31)) := bl_alloc (Below.refl _ _)
      obtain ⟨v3, w3, hrun, ho3, hg3⟩ := append_tok (own_below ho2 hB) (by simp) (new4 (w := w2) (x := ⟨0, mt, 0, (n : Int)⟩) (t := 31)) (by have := HA.out; have := endL_len A n; omega) (by have := hB.size; have := hb2.size; omega)
      have hb3 := below_grown hb2 hb2.size ho2 (grown_alloc hg3)
      have HO : Hid (Own w.heap.size w3 v3 (fin ⟨A, n, false⟩) ∧ Below w.heap.size w w3) := Lib.hid ⟨ho3, hb3⟩
      clear ho ho2 ho3 hg2 hg3 hb2 hb3 hB hb1
      go_wp2_with (at_builtin; refine Lib.wpList_append_run _ rfl _ _ _ _ rfl _ _ rfl rfl _ _ hrun ?_)
      go_ret3
      exact tokd HV'.out rfl HO.out.1 HO.out.2
end Go.Proofs.YtilnojcbebchdaaDoor.Lx
