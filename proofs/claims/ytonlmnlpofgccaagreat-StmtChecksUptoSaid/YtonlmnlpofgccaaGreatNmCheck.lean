/-
  The contract of Check.
-/
import Derived.Test.YtonlmnlpofgccaaGreatNmKey
import Derived.Test.YtonlmnlpofgccaaGreatNmLet
namespace Go.Proofs.YtonlmnlpofgccaaGreat.Na
open Go.RowKit
set_option maxHeartbeats 2000000
theorem bs_cut (s : ByteArray) (a b : Nat) : bs (s.extract a b) = ((bs s).drop a).take (b - a) := by
  show (s.extract a b).data.toList = _
  rw [ByteArray.data_extract, Array.toList_extract]
theorem cut_size (s : ByteArray) (h : 1 ≤ s.size) : (s.extract 1 s.size).size + 1 = s.size := by rw [ByteArray.size_extract]; omega
theorem bs_tail (s : ByteArray) : bs (s.extract 1 s.size) = (bs s).drop 1 := by
  rw [bs_cut, List.take_of_length_le (by rw [List.length_drop, bs_len]; exact Nat.le_refl _)]
/-- The first k bytes are letters, digits or _. -/
def Good (l : List UInt8) (k : Nat) : Prop := ∀ j, j < k → (h : j < l.length) → goodC l[j] = true
theorem good_one {l : List UInt8} (h0 : 0 < l.length) (h : ltrC l[0] = true) : Good l 1 := by
  intro j hj hl
  obtain rfl : j = 0 := by omega
  exact good_let h
theorem good_zero {l : List UInt8} : Good l 0 := fun _ hj => absurd hj (Nat.not_lt_zero _)
theorem good_step {l : List UInt8} {k : Nat} (hk : k < l.length) (h : Good l k) (e : goodC l[k] = true) : Good l (k + 1) := by
  intro j hj hl
  rcases Nat.lt_or_ge j k with h1 | h1
  · exact h j h1 hl
  · obtain rfl : j = k := by omega
    exact e
theorem good_end {l : List UInt8} {k : Nat} (h : Good l k) (hk : l.length = k) (h1 : 1 ≤ l.length) (h2 : l.length ≤ 24) (h3 : ltrC (l[0]) = true) (h4 : isKw l = false) : chk l = 0 :=
  all_good h1 h2 h3 h4 fun j hj => h j (by omega) hj
set_option maxRecDepth 100000 in
theorem check_any (s : ByteArray) (w : World) (hs : s.size ≤ 9223372036854775807) : Calls Tryz.prog 32 #[.string s] w (Gives (.int .i64 (chk (bs s))) w) := by
  have hs' : (s.size : Int) ≤ 9223372036854775807 := by omega
  by_cases h1 : s.size < 1
  · have t1 : decide ((s.size : Int) < 1) = true := decide_eq_true (by omega)
    have HR := Lib.hid (bad_short (l := bs s) (by rw [bs_len]; exact h1))
    go_enter Tryz.func32, Tryz.ntmps32
    go_wp2_with fail
    go_ret
    exact ⟨ret_int HR.out.symm, Below.refl _ _⟩
  have t1 : decide ((s.size : Int) < 1) = false := decide_eq_false (by omega)
  by_cases h2 : 24 < s.size
  · have t2 : decide (24 < (s.size : Int)) = true := decide_eq_true (by omega)
    have HR := Lib.hid (bad_long (l := bs s) (by rw [bs_len]; exact h2))
    go_enter Tryz.func32, Tryz.ntmps32
    go_wp2_with fail
    go_ret
    exact ⟨ret_int HR.out.symm, Below.refl _ _⟩
  have t2 : decide (24 < (s.size : Int)) = false := decide_eq_false (by omega)
  have c0 : (0 : Int) < (s.size : Int) := by omega
  have hs0 : 0 < s.size := by omega
  by_cases h3 : ltrI ((s[0]).toNat : Int) = true
  · by_cases h4 : isKw (bs s) = true
    · have HR := Lib.hid (bad_kw h4)
      go_enter Tryz.func32, Tryz.ntmps32
      go_wp2_with fail
      refine (letter_at h3 w).mono ?_
      rintro e w1 ⟨rfl, rfl⟩
      go_wp2_with fail
      refine (keyword_at h4 w1).mono ?_
      rintro e w1 ⟨rfl, rfl⟩
      go_wp2_with fail
      go_ret
      exact ⟨ret_int HR.out.symm, Below.refl _ _⟩
    · have h4' : isKw (bs s) = false := by simpa using h4
      go_enter Tryz.func32, Tryz.ntmps32
      go_wp2_with fail
      refine (letter_at h3 w).mono ?_
      rintro e w1 ⟨rfl, rfl⟩
      go_wp2_with fail
      refine (keyword_at h4' w1).mono ?_
      rintro e w1 ⟨rfl, rfl⟩
      have c1 : (1 : Int) ≤ (s.size : Int) := by omega
      have HL : Hid (1 ≤ (bs s).length ∧ (bs s).length ≤ 24) := Lib.hid (by rw [bs_len]; omega)
      have HC := Lib.hid (show ltrC (bs s)[0] = true from h3)
      have HK := Lib.hid h4'
      have HM := cut_size s (by omega)
      have HT := bs_tail s
      obtain ⟨c, w2, q1, hq1, hb2⟩ := bytes_S (s.extract 1 s.size) (by omega) w1
      obtain ⟨S, hS⟩ : ∃ S, s.extract 1 s.size = S := ⟨_, rfl⟩
      rw [hS] at HM HT hq1
      rw [show (s.extract 1 s.size).size = S.size by rw [hS]] at q1
      obtain ⟨M, eM⟩ : ∃ M, S.size = M := ⟨_, rfl⟩
      rw [eM] at HM hq1 q1
      have hM : (M : Int) ≤ 24 := by omega
      have HQ := Lib.hid hq1
      have HT' := Lib.hid HT
      have HM' := Lib.hid HM
      have HLs := Lib.hid (bs_len s)
      clear HT hq1 eM HM hS h3 h4 h4'
      go_wp2_with fail
      go_loop [27] (fun i => ∃ k : Nat, k ≤ M ∧ i = .int .i64 (k : Nat) ∧ Hid (Good (bs s) (k + 1))) (fun i => M - (intOf i).toNat)
      case atStart => exact ⟨0, Nat.zero_le _, rfl, Lib.hid (good_one HL.out.1 HC.out)⟩
      case round =>
        obtain ⟨k, hk, rfl, HG⟩ := hrel
        have d1 : (0 : Int) ≤ (k : Int) := by omega
        rcases Nat.lt_or_ge k M with h | h
        · have hks : k + 1 < (bs s).length := by rw [HLs.out, ← HM'.out]; omega
          obtain ⟨hlen, -, h0 | ⟨b, o, hp, hb, hcell⟩⟩ := HQ.out
          · omega
          · cases hp
            have hkl : k < (bs S).length := by omega
            have e1 := hcell.out k hkl
            have e2 : (bs S)[k] = (bs s)[k + 1] := by simp only [HT'.out, List.getElem_drop, Nat.add_comm]
            rw [e2, Nat.zero_add] at e1
            have d2 : (k : Int) < (M : Int) := by omega
            have HY := Lib.hid (fun h => good_step hks HG.out h)
            have HN := Lib.hid (fun h => bad_at hks h)
            have HD : Hid (goodC (bs s)[k + 1] = goodI (((bs s)[k + 1]).toNat : Int)) := Lib.hid rfl
            obtain ⟨x, hx⟩ : ∃ x : Int, (((bs s)[k + 1]).toNat : Int) = x := ⟨_, rfl⟩
            rw [hx] at e1 HD
            rw [HD.out] at HY HN
            clear hcell e2 hlen hkl hks hx HD
            by_cases g1 : ltrI x = true
            · have HY2 := Lib.hid (HY.out (good_let g1))
              clear HY HN
              go_wp2_with fail
              refine (letter_at g1 w2).mono ?_
              rintro e w3 ⟨rfl, rfl⟩
              go_wp2_with fail
              go_round
              case rel => exact ⟨k + 1, by omega, by go_num, HY2⟩
              case measure => simp [intOf]; omega
            have g1' : ltrI x = false := by simpa using g1
            by_cases g2 : digI x = true
            · have HY2 := Lib.hid (HY.out (good_dig g2))
              clear HY HN g1
              go_wp2_with fail
              refine (letter_at g1' w2).mono ?_
              rintro e w3 ⟨rfl, rfl⟩
              go_wp2_with fail
              refine (digit_at g2 w3).mono ?_
              rintro e w3 ⟨rfl, rfl⟩
              go_wp2_with fail
              go_round
              case rel => exact ⟨k + 1, by omega, by go_num, HY2⟩
              case measure => simp [intOf]; omega
            have g2' : digI x = false := by simpa using g2
            by_cases g3 : x = 95
            · have HY2 := Lib.hid (HY.out (good_low g3))
              subst g3
              clear HY HN g1 g2
              go_wp2_with fail
              refine (letter_at g1' w2).mono ?_
              rintro e w3 ⟨rfl, rfl⟩
              go_wp2_with fail
              refine (digit_at g2' w3).mono ?_
              rintro e w3 ⟨rfl, rfl⟩
              go_wp2_with fail
              go_round
              case rel => exact ⟨k + 1, by omega, by go_num, HY2⟩
              case measure => simp [intOf]; omega
            · have HR := Lib.hid (HN.out (good_not g1' g2' g3))
              have q3 : (x == 95) = false := beq_eq_false_iff_ne.2 g3
              clear HY HN g1 g2
              go_wp2_with fail
              refine (letter_at g1' w2).mono ?_
              rintro e w3 ⟨rfl, rfl⟩
              go_wp2_with fail
              refine (digit_at g2' w3).mono ?_
              rintro e w3 ⟨rfl, rfl⟩
              go_wp2_with fail
              go_ret
              exact ⟨ret_int HR.out.symm, hb2⟩
        · obtain rfl : M = k := by omega
          have HR := Lib.hid (good_end HG.out (by rw [HLs.out, HM'.out]) HL.out.1 HL.out.2 HC.out HK.out)
          go_wp2_with fail
          go_ret
          exact ⟨ret_int HR.out.symm, hb2⟩
  · have h3' : ltrI ((s[0]).toNat : Int) = false := by simpa using h3
    have HR := Lib.hid (bad_head (l := bs s) (by rw [bs_len]; exact hs0) h3')
    go_enter Tryz.func32, Tryz.ntmps32
    go_wp2_with fail
    refine (letter_at h3' w).mono ?_
    rintro e w1 ⟨rfl, rfl⟩
    go_wp2_with fail
    go_ret
    exact ⟨ret_int HR.out.symm, Below.refl _ _⟩
end Go.Proofs.YtonlmnlpofgccaaGreat.Na
