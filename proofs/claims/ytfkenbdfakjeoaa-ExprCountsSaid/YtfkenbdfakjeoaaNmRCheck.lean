/-
  The contract of the reference's Check.
-/
import Derived.Test.YtfkenbdfakjeoaaNmCheck
import Derived.Test.YtfkenbdfakjeoaaNmRKey
namespace Go.Proofs.Ytfkenbdfakjeoaa.Na
open Go.RowKit
set_option maxHeartbeats 2000000
theorem rkeyword_at {s : ByteArray} {b : Bool} (h : isKw (bs s) = b) (w : World) : Calls Try.prog 79 #[.string s] w (Gives (.bool b) w) := by rw [← h]; exact rkeyword_any s w
theorem dig_yes {x : Int} (h1 : ¬ x < 48) (h2 : ¬ 57 < x) : digI x = true := by unfold digI; simp; omega
theorem dig_no {x : Int} (h : x < 48 ∨ 57 < x) : digI x = false := by unfold digI; simp; omega
set_option maxRecDepth 100000 in
theorem rcheck_any (s : ByteArray) (w : World) (hs : s.size ≤ 9223372036854775807) : Calls Try.prog 61 #[.string s] w (Gives (.int .i64 (chk (bs s))) w) := by
  have hs' : (s.size : Int) ≤ 9223372036854775807 := by omega
  by_cases h1 : s.size < 1
  · have t1 : decide ((s.size : Int) < 1) = true := decide_eq_true (by omega)
    have HR := Lib.hid (bad_short (l := bs s) (by rw [bs_len]; exact h1))
    go_enter Try.func61, Try.ntmps61
    go_wp2_with fail
    go_ret
    exact ⟨ret_int HR.out.symm, Below.refl _ _⟩
  have t1 : decide ((s.size : Int) < 1) = false := decide_eq_false (by omega)
  by_cases h2 : 24 < s.size
  · have t2 : decide (24 < (s.size : Int)) = true := decide_eq_true (by omega)
    have HR := Lib.hid (bad_long (l := bs s) (by rw [bs_len]; exact h2))
    go_enter Try.func61, Try.ntmps61
    go_wp2_with fail
    go_ret
    exact ⟨ret_int HR.out.symm, Below.refl _ _⟩
  have t2 : decide (24 < (s.size : Int)) = false := decide_eq_false (by omega)
  have c0 : (0 : Int) < (s.size : Int) := by omega
  have hs0 : 0 < s.size := by omega
  by_cases h3 : ltrI ((s[0]).toNat : Int) = true
  · by_cases h4 : isKw (bs s) = true
    · have HR := Lib.hid (bad_kw h4)
      go_enter Try.func61, Try.ntmps61
      go_wp2_with fail
      refine (rletter_at h3 w).mono ?_
      rintro e w1 ⟨rfl, rfl⟩
      go_wp2_with fail
      refine (rkeyword_at h4 w1).mono ?_
      rintro e w2 ⟨rfl, hb2⟩
      go_wp2_with fail
      go_ret
      exact ⟨ret_int HR.out.symm, hb2⟩
    · have h4' : isKw (bs s) = false := by simpa using h4
      have HL : Hid (1 ≤ (bs s).length ∧ (bs s).length ≤ 24) := Lib.hid (by rw [bs_len]; omega)
      have HC := Lib.hid (show ltrC (bs s)[0] = true from h3)
      have HK := Lib.hid h4'
      have HLs := Lib.hid (bs_len s)
      go_enter Try.func61, Try.ntmps61
      go_wp2_with fail
      refine (rletter_at h3 w).mono ?_
      rintro e w1 ⟨rfl, rfl⟩
      go_wp2_with fail
      refine (rkeyword_at h4' w1).mono ?_
      rintro e w2 ⟨rfl, hb2⟩
      go_wp2_with fail
      go_loop [3] (fun i => ∃ k : Nat, k ≤ s.size ∧ i = .int .i64 (k : Nat) ∧ Hid (Good (bs s) k)) (fun i => s.size - (intOf i).toNat)
      case atStart => exact ⟨0, Nat.zero_le _, rfl, Lib.hid good_zero⟩
      case round =>
        obtain ⟨k, hk, rfl, HG⟩ := hrel
        have d1 : (0 : Int) ≤ (k : Int) := by omega
        rcases Nat.lt_or_ge k s.size with h | h
        · have hks : k < (bs s).length := by rw [HLs.out]; exact h
          have d2 : (k : Int) < (s.size : Int) := by omega
          have HY : Hid (goodI ((s[k]).toNat : Int) = true → Good (bs s) (k + 1)) := Lib.hid (fun h => good_step hks HG.out h)
          have HN : Hid (goodI ((s[k]).toNat : Int) = false → chk (bs s) = 3) := Lib.hid (fun h => bad_at hks h)
          by_cases g1 : ltrI ((s[k]).toNat : Int) = true
          · have HY2 := Lib.hid (HY.out (good_let g1))
            clear HY HN
            go_wp2_with fail
            refine (rletter_at g1 w2).mono ?_
            rintro e w3 ⟨rfl, rfl⟩
            go_wp2_with fail
            go_round
            case rel => exact ⟨k + 1, by omega, by go_num, HY2⟩
            case measure => simp [intOf]; omega
          have g1' : ltrI ((s[k]).toNat : Int) = false := by simpa using g1
          by_cases g3 : ((s[k]).toNat : Int) = 95
          · have HY2 := Lib.hid (HY.out (good_low g3))
            have q3 : (((s[k]).toNat : Int) == 95) = true := beq_iff_eq.2 g3
            have q3b : (((s[k]).toNat : Int) != 95) = false := by simp [g3]
            clear HY HN g1
            go_wp2_with fail
            refine (rletter_at (x := 95) (b := false) (by decide) w2).mono ?_
            rintro e w3 ⟨rfl, rfl⟩
            go_wp2_with fail
            go_round
            case rel => exact ⟨k + 1, by omega, by go_num, HY2⟩
            case measure => simp [intOf]; omega
          have q3 : (((s[k]).toNat : Int) == 95) = false := beq_eq_false_iff_ne.2 g3
          have q3b : (((s[k]).toNat : Int) != 95) = true := by simp only [bne, q3]; rfl
          by_cases g4 : ((s[k]).toNat : Int) < 48
          · have HR := Lib.hid (HN.out (good_not g1' (dig_no (.inl g4)) g3))
            have q4 : decide (((s[k]).toNat : Int) < 48) = true := decide_eq_true g4
            clear HY HN g1
            go_wp2_with fail
            refine (rletter_at g1' w2).mono ?_
            rintro e w3 ⟨rfl, rfl⟩
            go_wp2_with fail
            go_ret
            exact ⟨ret_int HR.out.symm, hb2⟩
          have q4 : decide (((s[k]).toNat : Int) < 48) = false := decide_eq_false g4
          by_cases g5 : 57 < ((s[k]).toNat : Int)
          · have HR := Lib.hid (HN.out (good_not g1' (dig_no (.inr g5)) g3))
            have q5 : decide (57 < ((s[k]).toNat : Int)) = true := decide_eq_true g5
            clear HY HN g1
            go_wp2_with fail
            refine (rletter_at g1' w2).mono ?_
            rintro e w3 ⟨rfl, rfl⟩
            go_wp2_with fail
            go_ret
            exact ⟨ret_int HR.out.symm, hb2⟩
          · have HY2 := Lib.hid (HY.out (good_dig (dig_yes g4 g5)))
            have q5 : decide (57 < ((s[k]).toNat : Int)) = false := decide_eq_false g5
            clear HY HN g1
            go_wp2_with fail
            refine (rletter_at g1' w2).mono ?_
            rintro e w3 ⟨rfl, rfl⟩
            go_wp2_with fail
            go_round
            case rel => exact ⟨k + 1, by omega, by go_num, HY2⟩
            case measure => simp [intOf]; omega
        · have hk' : k = s.size := by omega
          have HR := Lib.hid (good_end HG.out (by rw [HLs.out, hk']) HL.out.1 HL.out.2 HC.out HK.out)
          have q : decide ((k : Int) < (s.size : Int)) = false := decide_eq_false (by omega)
          clear hk'
          go_wp2_with fail
          go_ret
          exact ⟨ret_int HR.out.symm, hb2⟩
  · have h3' : ltrI ((s[0]).toNat : Int) = false := by simpa using h3
    have HR := Lib.hid (bad_head (l := bs s) (by rw [bs_len]; exact hs0) h3')
    go_enter Try.func61, Try.ntmps61
    go_wp2_with fail
    refine (rletter_at h3' w).mono ?_
    rintro e w1 ⟨rfl, rfl⟩
    go_wp2_with fail
    go_ret
    exact ⟨ret_int HR.out.symm, Below.refl _ _⟩
end Go.Proofs.Ytfkenbdfakjeoaa.Na
