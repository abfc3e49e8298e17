/-
  The contracts of the reference's letter, digit, Word, digits, Sign, Number and longest.
-/
import Derived.Test.YtilnojcbebchdaaDoorLxFirst
import Derived.Test.YtilnojcbebchdaaDoorRef
namespace Go.Proofs.YtilnojcbebchdaaDoor.Lx
open Go.RowKit
set_option maxHeartbeats 2000000
set_option linter.unusedVariables false
theorem wd_empty {l : List UInt8} (h : l.length = 0) : isWd l = false := by
  have : l = [] := List.length_eq_zero_iff.1 h
  subst this; rfl
theorem spn_head {p : UInt8 → Bool} {l : List UInt8} (h0 : 0 < l.length) (h : p l[0] = false) : spn p l = 0 := by
  cases l with
  | nil => simp at h0
  | cons c t => exact spn_no h
theorem spn_head1 {p : UInt8 → Bool} {l : List UInt8} (h0 : 0 < l.length) (h : p l[0] = true) : spn p l ≠ 0 := by
  cases l with
  | nil => simp at h0
  | cons c t => have := spn_one (p := p) (c := c) (t := t) h; omega
theorem wd_head {l : List UInt8} (h0 : 0 < l.length) (h : ltrC l[0] = false) : isWd l = false := by unfold isWd; rw [spn_head h0 h]; rfl
theorem wd_bad {l : List UInt8} {k : Nat} (hk : k < l.length) (h : wrdC l[k] = false) : isWd l = false := by
  unfold isWd
  have : ¬ spn wrdC l = l.length := fun e => by
    have := spn_in (p := wrdC) (l := l) (j := k) (by omega) hk
    rw [h] at this; cases this
  rw [decide_eq_false this, Bool.and_false]
theorem wd_all {l : List UInt8} (h0 : 0 < l.length) (h : ltrC l[0] = true) (g : All wrdC l l.length) : isWd l = true := by
  unfold isWd
  rw [decide_eq_true (spn_head1 h0 h), decide_eq_true (spn_all fun j hj => g j hj hj)]; rfl
theorem all_step {p : UInt8 → Bool} {l : List UInt8} {k : Nat} (hk : k < l.length) (h : All p l k) (e : p l[k] = true) : All p l (k + 1) := by
  intro j hj hl
  rcases Nat.lt_or_ge j k with h1 | h1
  · exact h j h1 hl
  · obtain rfl : j = k := by omega
    exact e
theorem all_zero {p : UInt8 → Bool} {l : List UInt8} : All p l 0 := fun _ hj => absurd hj (Nat.not_lt_zero _)
theorem rletter_any (x : Int) (w : World) : Calls Tryd.prog 43 #[.int .u8 x] w fun e w' => e = .returned (.bool (ltrI x)) ∧ w' = w := by
  unfold ltrI
  by_cases h1 : 97 ≤ x
  · have t1 : decide (97 ≤ x) = true := decide_eq_true h1
    by_cases h2 : x ≤ 122
    · have t2 : decide (x ≤ 122) = true := decide_eq_true h2
      rw [t1, t2]
      go_enter Tryd.func43, Tryd.ntmps43
      go_wp2_with fail
      go_ret
      exact ⟨rfl, rfl⟩
    · have t2 : decide (x ≤ 122) = false := decide_eq_false h2
      rw [t1, t2]
      go_enter Tryd.func43, Tryd.ntmps43
      go_wp2_with fail
      go_ret
      exact ⟨rfl, rfl⟩
  · have t1 : decide (97 ≤ x) = false := decide_eq_false h1
    rw [t1, Bool.false_and]
    go_enter Tryd.func43, Tryd.ntmps43
    go_wp2_with fail
    go_ret
    exact ⟨rfl, rfl⟩
theorem rdigit_any (x : Int) (w : World) : Calls Tryd.prog 38 #[.int .u8 x] w fun e w' => e = .returned (.bool (digI x)) ∧ w' = w := by
  unfold digI
  by_cases h1 : 48 ≤ x
  · have t1 : decide (48 ≤ x) = true := decide_eq_true h1
    by_cases h2 : x ≤ 57
    · have t2 : decide (x ≤ 57) = true := decide_eq_true h2
      rw [t1, t2]
      go_enter Tryd.func38, Tryd.ntmps38
      go_wp2_with fail
      go_ret
      exact ⟨rfl, rfl⟩
    · have t2 : decide (x ≤ 57) = false := decide_eq_false h2
      rw [t1, t2]
      go_enter Tryd.func38, Tryd.ntmps38
      go_wp2_with fail
      go_ret
      exact ⟨rfl, rfl⟩
  · have t1 : decide (48 ≤ x) = false := decide_eq_false h1
    rw [t1, Bool.false_and]
    go_enter Tryd.func38, Tryd.ntmps38
    go_wp2_with fail
    go_ret
    exact ⟨rfl, rfl⟩
theorem rletter_at {x : Int} {b : Bool} (h : ltrI x = b) (w : World) : Calls Tryd.prog 43 #[.int .u8 x] w fun e w' => e = .returned (.bool b) ∧ w' = w := by rw [← h]; exact rletter_any x w
theorem rdigit_at {x : Int} {b : Bool} (h : digI x = b) (w : World) : Calls Tryd.prog 38 #[.int .u8 x] w fun e w' => e = .returned (.bool b) ∧ w' = w := by rw [← h]; exact rdigit_any x w
set_option maxRecDepth 100000 in
theorem rsign_any (s : ByteArray) (w : World) : Calls Tryd.prog 42 #[.string s] w fun e w' => e = .returned (.bool (isSg (bs s))) ∧ w' = w := by
  go_enter Tryd.func42, Tryd.ntmps42
  go_wp2_with fail
  all_goals first
    | exact (clash (by assumption) (by assumption)).elim
    | (go_ret; exact ⟨ret_bool (sg_yes (by assumption) (by decide)), rfl⟩)
    | (go_ret; exact ⟨ret_bool (by rw [sg_any]; simp only [sgl, List.any_cons, List.any_nil, Bool.or_false, *]), rfl⟩)
set_option maxRecDepth 100000 in
theorem rword_any (s : ByteArray) (w : World) (hs : s.size ≤ 9223372036854775807) : Calls Tryd.prog 26 #[.string s] w fun e w' => e = .returned (.bool (isWd (bs s))) ∧ w' = w := by
  have hs' : (s.size : Int) ≤ 9223372036854775807 := by omega
  by_cases h0 : s.size = 0
  · have HR := Lib.hid (wd_empty (l := bs s) (by rw [bs_len]; exact h0))
    have z : ((s.size : Int) == 0) = true := by rw [beq_iff_eq]; omega
    go_enter Tryd.func26, Tryd.ntmps26
    go_wp2_with fail
    go_ret
    exact ⟨ret_bool HR.out.symm, rfl⟩
  · have hs0 : 0 < s.size := by omega
    have z : ((s.size : Int) == 0) = false := by rw [beq_eq_false_iff_ne]; omega
    have c0 : (0 : Int) < (s.size : Int) := by omega
    have hl0 : 0 < (bs s).length := by rw [bs_len]; exact hs0
    by_cases h3 : ltrI ((s[0]).toNat : Int) = true
    · have HC := Lib.hid (show ltrC (bs s)[0] = true from h3)
      have HL := Lib.hid (bs_len s)
      go_enter Tryd.func26, Tryd.ntmps26
      go_wp2_with fail
      refine (rletter_at h3 w).mono ?_
      rintro e w1 ⟨rfl, rfl⟩
      clear h3
      go_wp2_with fail
      go_loop [3] (fun i => ∃ k : Nat, k ≤ s.size ∧ i = .int .i64 (k : Nat) ∧ Hid (All wrdC (bs s) k)) (fun i => s.size - (intOf i).toNat)
      case atStart => exact ⟨0, Nat.zero_le _, rfl, Lib.hid all_zero⟩
      case round =>
        obtain ⟨k, hk, rfl, HG⟩ := hrel
        have d1 : (0 : Int) ≤ (k : Int) := by omega
        rcases Nat.lt_or_ge k s.size with h | h
        · have hkl : k < (bs s).length := by rw [HL.out]; exact h
          have d2 : (k : Int) < (s.size : Int) := by omega
          have HY := Lib.hid (fun e => all_step hkl HG.out e)
          have HN := Lib.hid (fun e => wd_bad hkl e)
          have HD : Hid (wrdC (bs s)[k] = wrdI ((s[k]).toNat : Int)) := Lib.hid rfl
          rw [HD.out] at HY HN
          by_cases g1 : ltrI ((s[k]).toNat : Int) = true
          · have HY2 := Lib.hid (HY.out (by unfold wrdI; rw [g1]; rfl))
            clear HY HN
            go_wp2_with fail
            refine (rletter_at g1 w1).mono ?_
            rintro e w3 ⟨rfl, rfl⟩
            go_wp2_with fail
            go_round
            case rel => exact ⟨k + 1, by omega, by go_num, HY2⟩
            case measure => simp [intOf]; omega
          have g1' : ltrI ((s[k]).toNat : Int) = false := by simpa using g1
          by_cases g2 : digI ((s[k]).toNat : Int) = true
          · have HY2 := Lib.hid (HY.out (by unfold wrdI; rw [g2]; simp))
            clear HY HN g1
            go_wp2_with fail
            refine (rletter_at g1' w1).mono ?_
            rintro e w3 ⟨rfl, rfl⟩
            go_wp2_with fail
            refine (rdigit_at g2 w3).mono ?_
            rintro e w3 ⟨rfl, rfl⟩
            go_wp2_with fail
            go_round
            case rel => exact ⟨k + 1, by omega, by go_num, HY2⟩
            case measure => simp [intOf]; omega
          have g2' : digI ((s[k]).toNat : Int) = false := by simpa using g2
          by_cases g3 : ((s[k]).toNat : Int) = 95
          · have HY2 := Lib.hid (HY.out (by unfold wrdI; rw [decide_eq_true g3]; simp))
            have q3 : (((s[k]).toNat : Int) == 95) = true := by rw [beq_iff_eq]; exact g3
            have q4 : (((s[k]).toNat : Int) != 95) = false := by simp [bne, q3]
            have e95 : ltrI 95 = false := by decide
            have f95 : digI 95 = false := by decide
            clear HY HN g1 g2
            go_wp2_with fail
            refine (rletter_at e95 w1).mono ?_
            rintro e w3 ⟨rfl, rfl⟩
            go_wp2_with fail
            refine (rdigit_at f95 w3).mono ?_
            rintro e w3 ⟨rfl, rfl⟩
            go_wp2_with fail
            go_round
            case rel => exact ⟨k + 1, by omega, by go_num, HY2⟩
            case measure => simp [intOf]; omega
          · have HR := Lib.hid (HN.out (by unfold wrdI; rw [g1', g2', decide_eq_false g3]; rfl))
            have q3 : (((s[k]).toNat : Int) == 95) = false := beq_eq_false_iff_ne.2 g3
            clear HY HN g1 g2
            go_wp2_with fail
            refine (rletter_at g1' w1).mono ?_
            rintro e w3 ⟨rfl, rfl⟩
            go_wp2_with fail
            refine (rdigit_at g2' w3).mono ?_
            rintro e w3 ⟨rfl, rfl⟩
            go_wp2_with fail
            go_ret
            exact ⟨ret_bool HR.out.symm, rfl⟩
        · obtain rfl : k = s.size := by omega
          have HR := Lib.hid (wd_all hl0 HC.out (by rw [HL.out]; exact HG.out))
          go_wp2_with fail
          go_ret
          exact ⟨ret_bool HR.out.symm, rfl⟩
    · have h3' : ltrI ((s[0]).toNat : Int) = false := by simpa using h3
      have HR := Lib.hid (wd_head hl0 h3')
      clear h3
      go_enter Tryd.func26, Tryd.ntmps26
      go_wp2_with fail
      refine (rletter_at h3' w).mono ?_
      rintro e w1 ⟨rfl, rfl⟩
      go_wp2_with fail
      go_ret
      exact ⟨ret_bool HR.out.symm, rfl⟩
theorem dg_bad {l : List UInt8} {k : Nat} (hk : k < l.length) (h : digC l[k] = false) : isDg l = false := by
  unfold isDg
  rw [show l.all digC = false from ?_, Bool.and_false]
  rw [← Bool.not_eq_true, List.all_eq_true]
  intro g
  have := g _ (List.getElem_mem hk)
  rw [h] at this; cases this
theorem dg_all {l : List UInt8} (h : All digC l l.length) : isDg l = decide (0 < l.length) := by
  unfold isDg
  rw [show l.all digC = true from ?_, Bool.and_true]
  · rw [decide_eq_decide]
    cases l with
    | nil => simp
    | cons c t => simp
  · rw [List.all_eq_true]
    intro c hc
    obtain ⟨j, hj, rfl⟩ := List.getElem_of_mem hc
    exact h j hj hj
set_option maxRecDepth 100000 in
theorem rdigits_any (s : ByteArray) (w : World) (hs : s.size ≤ 9223372036854775807) : Calls Tryd.prog 27 #[.string s] w fun e w' => e = .returned (.bool (isDg (bs s))) ∧ w' = w := by
  have hs' : (s.size : Int) ≤ 9223372036854775807 := by omega
  have HL := Lib.hid (bs_len s)
  go_enter Tryd.func27, Tryd.ntmps27
  go_wp2_with fail
  go_loop [3] (fun i => ∃ k : Nat, k ≤ s.size ∧ i = .int .i64 (k : Nat) ∧ Hid (All digC (bs s) k)) (fun i => s.size - (intOf i).toNat)
  case atStart => exact ⟨0, Nat.zero_le _, rfl, Lib.hid all_zero⟩
  case round =>
    obtain ⟨k, hk, rfl, HG⟩ := hrel
    have d1 : (0 : Int) ≤ (k : Int) := by omega
    rcases Nat.lt_or_ge k s.size with h | h
    · have hkl : k < (bs s).length := by rw [HL.out]; exact h
      have d2 : (k : Int) < (s.size : Int) := by omega
      have HD : Hid (digC (bs s)[k] = digI ((s[k]).toNat : Int)) := Lib.hid rfl
      by_cases g1 : digI ((s[k]).toNat : Int) = true
      · have HY2 := Lib.hid (all_step hkl HG.out (by rw [HD.out]; exact g1))
        go_wp2_with fail
        refine (rdigit_at g1 w).mono ?_
        rintro e w3 ⟨rfl, rfl⟩
        go_wp2_with fail
        go_round
        case rel => exact ⟨k + 1, by omega, by go_num, HY2⟩
        case measure => simp [intOf]; omega
      · have g1' : digI ((s[k]).toNat : Int) = false := by simpa using g1
        have HR := Lib.hid (dg_bad hkl (by rw [HD.out]; exact g1'))
        clear g1
        go_wp2_with fail
        refine (rdigit_at g1' w).mono ?_
        rintro e w3 ⟨rfl, rfl⟩
        go_wp2_with fail
        go_ret
        exact ⟨ret_bool HR.out.symm, rfl⟩
    · obtain rfl : k = s.size := by omega
      have HR : Hid (isDg (bs s) = decide ((0 : Int) < (s.size : Int))) := Lib.hid (by rw [dg_all (by rw [HL.out]; exact HG.out), HL.out, decide_eq_decide]; omega)
      by_cases h0 : 0 < s.size
      · have c1 : decide ((0 : Int) < (s.size : Int)) = true := decide_eq_true (by omega)
        rw [c1] at HR
        go_wp2_with fail
        go_ret
        exact ⟨ret_bool HR.out.symm, rfl⟩
      · have c1 : decide ((0 : Int) < (s.size : Int)) = false := decide_eq_false (by omega)
        rw [c1] at HR
        go_wp2_with fail
        go_ret
        exact ⟨ret_bool HR.out.symm, rfl⟩
end Go.Proofs.YtilnojcbebchdaaDoor.Lx
