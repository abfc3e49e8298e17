/-
  Two valid fractions with one text are equal; FracChecks at every pair of fractions.
-/
import Derived.Test.YteapicfobammjaaDoorChecks
import Derived.Lib.ItoaNum
namespace Go.Proofs.YteapicfobammjaaDoor
open Go.RowKit
open Lib (itoa)
theorem bytes_ne {a b : ByteArray} (h : a ≠ b) : (a.toList == b.toList) = false := by
  rw [beq_eq_false_iff_ne, Lib.toList_data, Lib.toList_data]
  exact fun e => h (WideShapes.bytes_inj e)
theorem itoa_plain (v : Int) : ∀ c ∈ itoa v, c.toNat = 45 ∨ (48 ≤ c.toNat ∧ c.toNat ≤ 57) := by
  intro c hc
  unfold Lib.itoa at hc
  split at hc
  · rcases List.mem_cons.1 hc with rfl | h
    · exact .inl rfl
    · exact .inr (dec_digits _ c h)
  · exact .inr (dec_digits _ c hc)
/-- What stands ahead of the first sign of a kind is one. -/
theorem cut_at {p : UInt8 → Bool} {l m : List UInt8} {s : UInt8} {r t : List UInt8} (hl : ∀ c ∈ l, p c = true) (hm : ∀ c ∈ m, p c = true) (hs : p s = false) (h : l ++ s :: r = m ++ s :: t) : l = m ∧ r = t := by
  induction l generalizing m with
  | nil =>
    cases m with
    | nil => exact ⟨rfl, by injection h⟩
    | cons c m =>
      injection h with h1 h2
      subst h1
      rw [hm s List.mem_cons_self] at hs; cases hs
  | cons c l ih =>
    cases m with
    | nil =>
      injection h with h1 h2
      subst h1
      rw [hl c List.mem_cons_self] at hs; cases hs
    | cons d m =>
      injection h with h1 h2
      subst h1
      obtain ⟨e1, e2⟩ := ih (fun x hx => hl x (List.mem_cons_of_mem _ hx)) (fun x hx => hm x (List.mem_cons_of_mem _ hx)) h2
      exact ⟨by rw [e1], e2⟩
theorem no_cut {p : UInt8 → Bool} {l m : List UInt8} {s : UInt8} {r : List UInt8} (hm : ∀ c ∈ m, p c = true) (hs : p s = false) (h : l ++ s :: r = m) : False := by
  have := hm s (by rw [← h]; simp)
  rw [this] at hs; cases hs
def plainC (c : UInt8) : Bool := c.toNat != 47
theorem itoa_noslash (v : Int) : ∀ c ∈ itoa v, plainC c = true := by
  intro c hc
  have := itoa_plain v c hc
  unfold plainC
  rw [bne_iff_ne]
  omega
theorem txt_list (a b : Int) (h : okF a b = true) : (txt a b).data.toList = if b = 1 then itoa a else itoa a ++ (47 : UInt8) :: itoa b := by
  unfold txt
  rw [h, if_pos rfl]
  by_cases hb : b = 1
  · rw [if_pos hb, if_pos hb]; rfl
  · rw [if_neg hb, if_neg hb]
    show (num a ++ slash ++ num b).data.toList = _
    simp [num, slash, ByteArray.data_append]
theorem txt_inj (a b : Int) (n0 : -9223372036854775808 ≤ a) (n1 : a ≤ 9223372036854775807) (d0 : -9223372036854775808 ≤ b) (d1 : b ≤ 9223372036854775807) (c d : Int) (m0 : -9223372036854775808 ≤ c) (m1 : c ≤ 9223372036854775807) (f0 : -9223372036854775808 ≤ d) (f1 : d ≤ 9223372036854775807) (h1 : okF a b = true) (h2 : okF c d = true) (h : txt a b = txt c d) : a = c ∧ b = d := by
  have e := congrArg (fun x : ByteArray => x.data.toList) h
  simp only [txt_list a b h1, txt_list c d h2] at e
  have hs : plainC 47 = false := by decide
  by_cases hb : b = 1
  · by_cases hd : d = 1
    · rw [if_pos hb, if_pos hd] at e
      exact ⟨itoa_inj n0 n1 m0 m1 e, by omega⟩
    · rw [if_pos hb, if_neg hd] at e
      exact (no_cut (itoa_noslash a) hs e.symm).elim
  · by_cases hd : d = 1
    · rw [if_neg hb, if_pos hd] at e
      exact (no_cut (itoa_noslash c) hs e).elim
    · rw [if_neg hb, if_neg hd] at e
      obtain ⟨e1, e2⟩ := cut_at (itoa_noslash a) (itoa_noslash c) hs e
      exact ⟨itoa_inj n0 n1 m0 m1 e1, itoa_inj d0 d1 f0 f1 e2⟩
theorem fracChecks_walk (a b : Int) (n0 : -9223372036854775808 ≤ a) (n1 : a ≤ 9223372036854775807) (d0 : -9223372036854775808 ≤ b) (d1 : b ≤ 9223372036854775807) (c d : Int) (m0 : -9223372036854775808 ≤ c) (m1 : c ≤ 9223372036854775807) (f0 : -9223372036854775808 ≤ d) (f1 : d ≤ 9223372036854775807) (w : World) (hE : Env w) :
    Calls Tryd.prog 3 #[.agg #[.int .i64 a, .int .i64 b], .agg #[.int .i64 c, .int .i64 d]] w (Gives (.bool true) w) := by
  refine checks_walk a b c d (okF a b) (okF c d) (txt a b) (txt c d) (Lib.hid (valid_any a b n0 n1 d0 d1)) (Lib.hid (rvalid_any a b n0 n1 d0 d1)) (Lib.hid (valid_any c d m0 m1 f0 f1)) (Lib.hid (text_any a b n0 n1 d0 d1)) (Lib.hid (rtext_any a b n0 n1 d0 d1)) (Lib.hid (text_any c d m0 m1 f0 f1)) (Lib.hid (rtext_any c d m0 m1 f0 f1)) (Lib.hid ?_) w hE
  cases h1 : okF a b
  · exact .inl rfl
  cases h2 : okF c d
  · exact .inr (.inl ⟨rfl, rfl⟩)
  refine .inr (.inr ?_)
  by_cases e1 : a = c
  · by_cases e2 : b = d
    · subst e1 e2
      exact .inl ⟨rfl, rfl, rfl, rfl, beq_self_eq_true _⟩
    · exact .inr (.inr ⟨rfl, rfl, e1, e2, bytes_ne fun h => e2 (txt_inj a b n0 n1 d0 d1 c d m0 m1 f0 f1 h1 h2 h).2⟩)
  · exact .inr (.inl ⟨rfl, rfl, e1, bytes_ne fun h => e1 (txt_inj a b n0 n1 d0 d1 c d m0 m1 f0 f1 h1 h2 h).1⟩)
end Go.Proofs.YteapicfobammjaaDoor
