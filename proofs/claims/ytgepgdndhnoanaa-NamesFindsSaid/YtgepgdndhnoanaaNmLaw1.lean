/-
  The laws of words and of finding, walked.
-/
import Derived.Test.YtgepgdndhnoanaaNmAwake
namespace Go.Proofs.Ytgepgdndhnoanaa.Na
open Go.RowKit
set_option maxHeartbeats 4000000
set_option maxRecDepth 100000 in
theorem namesWords_walk (s : ByteArray) (w : World) (hs : s.size ≤ 9223372036854775807) : Calls Try.prog 3 #[.string s] w (Gives (.bool true) w) := by
  obtain ⟨b, hb⟩ : ∃ b, isKw (bs s) = b := ⟨_, rfl⟩
  obtain ⟨x, hx⟩ : ∃ x, chk (bs s) = x := ⟨_, rfl⟩
  have t1 : (b == b) = true := by simp
  have t2 : (x == x) = true := by simp
  go_enter Try.func3, Try.ntmps3
  go_wp2_with fail
  refine (keyword_at hb w).mono ?_
  rintro e w1 ⟨rfl, rfl⟩
  go_wp2_with fail
  refine (rkeyword_at hb w1).mono ?_
  rintro e w2 ⟨rfl, hb2⟩
  go_wp2_with fail
  refine (check_at hx hs w2).mono ?_
  rintro e w3 ⟨rfl, hb3⟩
  go_wp2_with fail
  refine (rcheck_at hx hs w3).mono ?_
  rintro e w4 ⟨rfl, hb4⟩
  go_wp2_with fail
  refine (awake_any w4).mono ?_
  rintro e w5 ⟨rfl, hb5⟩
  go_wp2_with fail
  go_ret
  exact ⟨rfl, by (repeat (first | (with_reducible exact Below.refl _ _) | (with_reducible assumption) | (with_reducible apply bl_alloc) | (with_reducible apply bl_drewN) | (with_reducible apply bl_drew) | (with_reducible refine bl_set ?_ (by first | (simp; done) | (simp; omega)) _) | (with_reducible refine bl_call ?_ (by assumption))))⟩
theorem fst_spec {s : ByteArray} : ∀ l : List ByteArray, (fst l s = -1 ∧ ∀ j, (h : j < l.length) → ¬ bs l[j] = bs s) ∨ ∃ k : Nat, fst l s = (k : Int) ∧ ∃ h : k < l.length, bs l[k] = bs s ∧ ∀ j, (hj : j < l.length) → bs l[j] = bs s → k ≤ j
  | [] => .inl ⟨rfl, fun j h => absurd h (Nat.not_lt_zero _)⟩
  | x :: t => by
    by_cases hx : bs x = bs s
    · exact .inr ⟨0, if_pos hx, by simp, hx, fun j _ _ => Nat.zero_le _⟩
    · rcases fst_spec (s := s) t with ⟨h1, h2⟩ | ⟨k, h1, h2, h3, h4⟩
      · refine .inl ⟨by unfold fst; rw [if_neg hx, h1, if_pos rfl], fun j hj => ?_⟩
        cases j with
        | zero => exact hx
        | succ j => exact h2 j (by simp at hj; omega)
      · refine .inr ⟨k + 1, by unfold fst; rw [if_neg hx, h1, if_neg (by omega)]; omega, by simp; omega, h3, fun j hj e => ?_⟩
        cases j with
        | zero => exact absurd e hx
        | succ j => have := h4 j (by simp at hj; omega) e; omega
set_option maxRecDepth 100000 in
theorem namesFinds_walk (p : Option Addr) (n c : Nat) (l : List ByteArray) (s : ByteArray) (w : World) (_ : n ≤ c) (hb : Strs w p n l) (_ : ∀ x ∈ l, x.size ≤ 9223372036854775807) (_ : s.size ≤ 9223372036854775807) : Calls Try.prog 5 #[.slice p n c, .string s] w (Gives (.bool true) w) := by
  by_cases h6 : n ≤ 200
  · have t1 : decide ((200 : Int) < (n : Int)) = false := decide_eq_false (by omega)
    have h6' : (n : Int) ≤ 200 := by omega
    have HB := Lib.hid hb
    have HL := Lib.hid hb.1
    rcases fst_spec (s := s) l with ⟨h1, h2⟩ | ⟨m, h1, hm, h3, h4⟩
    · have HN := Lib.hid h2
      clear hb h2
      go_enter Try.func5, Try.ntmps5
      go_wp2_with fail
      refine (find_at h1 HB.out).mono ?_
      rintro e w1 ⟨rfl, rfl⟩
      have q1 : decide ((n : Int) ≤ -1) = false := decide_eq_false (by omega)
      go_wp2_with fail
      go_loop [6] (fun i => ∃ k : Nat, k ≤ n ∧ i = .int .i64 (k : Nat)) (fun i => n - (intOf i).toNat)
      case atStart => exact ⟨0, Nat.zero_le _, rfl⟩
      case round =>
        obtain ⟨k, hk, rfl⟩ := hrel
        have c1 : (0 : Int) ≤ (k : Int) := by omega
        rcases Nat.lt_or_ge k n with h | h
        · have hkl : k < l.length := by rw [HL.out]; exact h
          obtain ⟨-, -, h0 | ⟨b, o, rfl, hb, hcell⟩⟩ := HB.out
          · omega
          · have e1 := hcell.out k hkl
            have c2 : (k : Int) < (n : Int) := by omega
            have q2 := eq_no (HN.out k hkl)
            obtain ⟨x, ex⟩ : ∃ x, l[k] = x := ⟨_, rfl⟩
            rw [ex] at e1 q2
            clear hcell ex hkl
            go_wp2_with fail
            go_round
            case rel => exact ⟨k + 1, by omega, by go_num⟩
            case measure => simp [intOf]; omega
        · obtain rfl : n = k := by omega
          go_wp2_with fail
          refine (awake_any w1).mono ?_
          rintro e w2 ⟨rfl, hb2⟩
          go_wp2_with fail
          go_ret
          exact ⟨rfl, hb2⟩
    · have HN := Lib.hid h4
      have hmn : m < n := by rw [← HL.out]; exact hm
      have d0 : (0 : Int) ≤ (m : Int) := by omega
      have d1 : (m : Int) < (n : Int) := by omega
      have d2 : decide ((n : Int) ≤ (m : Int)) = false := decide_eq_false (by omega)
      have d3 : decide ((m : Int) < -1) = false := decide_eq_false (by omega)
      have d4 : decide ((m : Int) < 0) = false := decide_eq_false (by omega)
      obtain ⟨-, -, h0 | ⟨b, o, rfl, hb0, hcell⟩⟩ := hb
      · omega
      have f1 := hcell.out m hm
      have q0 := eq_yes h3
      obtain ⟨y, ey⟩ : ∃ y, l[m] = y := ⟨_, rfl⟩
      rw [ey] at f1 q0
      have q0' : (y.toList != s.toList) = false := by simp only [bne, q0]; rfl
      clear h4 h3 ey hm
      go_enter Try.func5, Try.ntmps5
      go_wp2_with fail
      refine (find_at h1 HB.out).mono ?_
      rintro e w1 ⟨rfl, rfl⟩
      go_wp2_with fail
      go_loop [6] (fun i => ∃ k : Nat, k ≤ n ∧ i = .int .i64 (k : Nat)) (fun i => n - (intOf i).toNat)
      case atStart => exact ⟨0, Nat.zero_le _, rfl⟩
      case round =>
        obtain ⟨k, hk, rfl⟩ := hrel
        have c1 : (0 : Int) ≤ (k : Int) := by omega
        rcases Nat.lt_or_ge k n with h | h
        · have hkl : k < l.length := by rw [HL.out]; exact h
          have e1 := hcell.out k hkl
          have c2 : (k : Int) < (n : Int) := by omega
          by_cases he : bs l[k] = bs s
          · have q2 := eq_yes he
            have := HN.out k hkl he
            have q3 : decide ((k : Int) < (m : Int)) = false := decide_eq_false (by omega)
            obtain ⟨x, ex⟩ : ∃ x, l[k] = x := ⟨_, rfl⟩
            rw [ex] at e1 q2
            clear he ex hkl
            go_wp2_with fail
            go_round
            case rel => exact ⟨k + 1, by omega, by go_num⟩
            case measure => simp [intOf]; omega
          · have q2 := eq_no he
            obtain ⟨x, ex⟩ : ∃ x, l[k] = x := ⟨_, rfl⟩
            rw [ex] at e1 q2
            clear he ex hkl
            go_wp2_with fail
            go_round
            case rel => exact ⟨k + 1, by omega, by go_num⟩
            case measure => simp [intOf]; omega
        · obtain rfl : n = k := by omega
          go_wp2_with fail
          refine (awake_any w1).mono ?_
          rintro e w2 ⟨rfl, hb2⟩
          go_wp2_with fail
          go_ret
          exact ⟨rfl, hb2⟩
  · have t1 : decide ((200 : Int) < (n : Int)) = true := decide_eq_true (by omega)
    clear h6 hb
    go_enter Try.func5, Try.ntmps5
    go_wp2_with fail
    refine (awake_any _).mono ?_
    rintro e w1 ⟨rfl, hb1⟩
    go_wp2_with fail
    go_ret
    exact ⟨rfl, hb1⟩
end Go.Proofs.Ytgepgdndhnoanaa.Na
