/-
  The law of reading, walked.
-/
import Derived.Test.YtnfddeoddjmpkaaCLaw1
namespace Go.Proofs.Ytnfddeoddjmpkaa.Co
open Go.RowKit
set_option maxHeartbeats 4000000
theorem fewB_yes {n m k : Nat} (h : n ≤ 300 ∧ m ≤ 300 ∧ k ≤ 300) : fewB n m k = true := decide_eq_true h
theorem fewB_no {n m k : Nat} (h : ¬ (n ≤ 300 ∧ m ≤ 300 ∧ k ≤ 300)) : fewB n m k = false := decide_eq_false h
theorem int_var (l : List UInt8) : ∃ a b c : Int, (∀ p n k w, Byt w p n l → Calls Try.prog 18 #[.slice p n k] w (Gives (.tuple #[.int .i64 a, .int .i64 b, .int .i64 c]) w)) ∧ ∀ p n k w, Byt w p n l → Calls Try.prog 19 #[.slice p n k] w (Gives (.tuple #[.int .i64 a, .int .i64 b, .int .i64 c]) w) :=
  ⟨_, _, _, fun p n k w h => int_any p n k l _ w h (Lib.hid rfl), fun p n k w h => rint_any p n k l _ w h (Lib.hid rfl)⟩
theorem text_var (l : List UInt8) (most : Int) : ∃ (S : ByteArray) (b c : Int), (∀ p n k w, Byt w p n l → n ≤ k → Calls Try.prog 20 #[.slice p n k, .int .i64 most] w (Gives (.tuple #[.string S, .int .i64 b, .int .i64 c]) w)) ∧ ∀ p n k w, Byt w p n l → n ≤ k → Calls Try.prog 21 #[.slice p n k, .int .i64 most] w (Gives (.tuple #[.string S, .int .i64 b, .int .i64 c]) w) :=
  ⟨⟨(decT l most).s.toArray⟩, _, _, fun p n k w h hk => text_any p n k l most w h hk, fun p n k w h hk => rtext_any p n k l most w h hk⟩
theorem codecReads_walk (p : Option Addr) (n c : Nat) (l : List UInt8) (most : Int) (w : World) (hc : n ≤ c) (hb : Byt w p n l) (_ : -9223372036854775808 ≤ most) (_ : most ≤ 9223372036854775807) : Calls Try.prog 4 #[.slice p n c, .int .i64 most] w (Gives (.bool true) w) := by
  by_cases h3 : n ≤ 300
  · have HF := Lib.hid (fewB_yes (n := n) (m := ByteArray.size ⟨#[]⟩) (k := 0) ⟨h3, by decide, by decide⟩)
    have HN : Hid (n < 1000000) := Lib.hid (by omega)
    obtain ⟨a1, a2, a3, I1, I2⟩ := int_var l
    obtain ⟨S, b2, b3, I3, I4⟩ := text_var l most
    obtain ⟨T, hT⟩ : ∃ T, decI l most = T := ⟨_, rfl⟩
    have J1 := Lib.hid I1
    have J2 := Lib.hid I2
    have J3 := Lib.hid I3
    have J4 := Lib.hid I4
    have J5 := Lib.hid fun p n k w hb hk hs => ints_any p n k l most w hb hk hs
    have J6 := Lib.hid fun p n k w hb hk hs => rints_any p n k l most w hb hk hs
    rw [hT] at J5 J6
    have HB := Lib.hid hb
    have HL : Hid (T.l.length ≤ 9223372036854775807) := Lib.hid (by
      rw [← hT]
      by_cases e : (decI l most).e = 0
      · have := (decI_was e).2.2.2.2
        have := hb.1
        omega
      · rcases decL_cases l most with hx | hx | hx | ⟨m, k, hx, -⟩
        · rw [decI_bad hx]; exact Nat.zero_le _
        · rw [decI_bad hx]; exact Nat.zero_le _
        · rw [decI_bad hx]; exact Nat.zero_le _
        · rw [decI_good hx] at e ⊢
          rcases decE_err l m k [] with h | h
          · exact absurd h e
          · rw [h.1]; exact Nat.zero_le _)
    clear I1 I2 I3 I4 hT hb h3
    go_enter Try.func4, Try.ntmps4
    go_wp2_with fail
    refine (few_any p n c ⟨#[]⟩ none 0 0 _).mono ?_
    rintro e w0 ⟨rfl, rfl⟩
    rw [HF.out]
    go_wp2_with fail
    refine (J1.out _ _ _ _ HB.out).mono ?_
    rintro e w1 ⟨rfl, hb1⟩
    have HB1 := Lib.hid hb1
    clear hb1
    go_wp2_with fail
    refine (J2.out _ _ _ _ (HB.out.on HB1.out)).mono ?_
    rintro e w2 ⟨rfl, hb2⟩
    have HB2 := Lib.hid (bl_call HB1.out hb2)
    clear hb2
    go_wp2_with fail
    refine (J3.out _ _ _ _ (HB.out.on HB2.out) hc).mono ?_
    rintro e w3 ⟨rfl, hb3⟩
    have HB3 := Lib.hid (bl_call HB2.out hb3)
    clear hb3
    go_wp2_with fail
    refine (J4.out _ _ _ _ (HB.out.on HB3.out) hc).mono ?_
    rintro e w4 ⟨rfl, hb4⟩
    have HB4 := Lib.hid (bl_call HB3.out hb4)
    clear hb4
    go_wp2_with fail
    refine (J5.out _ _ _ _ (HB.out.on HB4.out) hc HN).mono ?_
    rintro e w5 ⟨v5, rfl, ho5, hb5⟩
    have HB5 := Lib.hid (bl_call HB4.out hb5)
    obtain ⟨q5, d5, rfl, -, hq5⟩ := ints_own ho5 HL.out
    have HQ5 := Lib.hid hq5
    clear hb5 ho5 hq5
    go_wp2_with fail
    refine (J6.out _ _ _ _ (HB.out.on HB5.out) hc HN).mono ?_
    rintro e w6 ⟨v6, rfl, ho6, hb6⟩
    have HB6 := Lib.hid (bl_call HB5.out hb6)
    obtain ⟨q6, d6, rfl, -, hq6⟩ := ints_own ho6 HL.out
    have HQ6 := Lib.hid hq6
    have HQ7 := Lib.hid (HQ5.out.on hb6)
    clear hb6 ho6 hq6
    go_wp2_with fail
    have I7 := same_any q5 T.l.length d5 T.l q6 T.l.length d6 T.l w6 HQ7.out HQ6.out
    rw [decide_eq_true rfl] at I7
    refine I7.mono ?_
    rintro e w7 ⟨rfl, hb7⟩
    have HB7 := Lib.hid (bl_call HB6.out hb7)
    clear hb7 I7
    go_wp2_with fail
    refine (awake_any _).mono ?_
    rintro e w8 ⟨rfl, hb8⟩
    go_wp2_with fail
    go_ret
    exact ⟨rfl, bl_call HB7.out hb8⟩
  · have HF := Lib.hid (fewB_no (n := n) (m := ByteArray.size ⟨#[]⟩) (k := 0) (by omega))
    clear h3 hb
    go_enter Try.func4, Try.ntmps4
    go_wp2_with fail
    refine (few_any p n c ⟨#[]⟩ none 0 0 _).mono ?_
    rintro e w0 ⟨rfl, rfl⟩
    rw [HF.out]
    go_wp2_with fail
    refine (awake_any _).mono ?_
    rintro e w8 ⟨rfl, hb8⟩
    go_wp2_with fail
    go_ret
    exact ⟨rfl, hb8⟩
end Go.Proofs.Ytnfddeoddjmpkaa.Co
