/-
  The contracts of Gcd (package num's and the reference's) and of Root: the greatest common divisor of the clipped operands, and the greatest number whose square is not greater.
-/
import Derived.Test.YtcbjkdbclimbeaaDoorPlain
import Derived.LoopTactic
import Derived.RegionTactic
import Derived.Deep.QuietTactic
import Derived.BigQuiet
namespace Go.Proofs.YtcbjkdbclimbeaaDoor
open Go.RowKit
set_option maxHeartbeats 400000
def gcdZ (a b : Int) : Int := (Int.gcd (clipZ a) (clipZ b) : Nat)
theorem gcd_abs (x y : Int) : Int.gcd (absZ x) (absZ y) = Int.gcd x y := by
  unfold absZ
  split <;> split <;> simp
theorem gcd_step {p q : Int} (h0 : 0 ≤ p) (h1 : 0 < q) : Int.gcd q (p % q) = Int.gcd p q := by
  obtain ⟨m, rfl⟩ := Int.eq_ofNat_of_zero_le h0
  obtain ⟨n, rfl⟩ := Int.eq_ofNat_of_zero_le (Int.le_of_lt h1)
  show Nat.gcd n (m % n) = Nat.gcd m n
  rw [Nat.gcd_comm m n, Nat.gcd_rec n m, Nat.gcd_comm]
theorem gcd_end {p : Int} (h0 : 0 ≤ p) : ((Int.gcd p 0 : Nat) : Int) = p := by
  rw [Int.gcd_zero_right]; omega
theorem gcd_any (a b : Int) (w : World) : Calls Tryd.prog 24 #[.int .i64 a, .int .i64 b] w fun e w' => e = .returned (.int .i64 (gcdZ a b)) ∧ Below w.heap.size w w' := by
  unfold gcdZ
  have x0 := clipZ_lo a
  have x1 := clipZ_hi a
  have y0 := clipZ_lo b
  have y1 := clipZ_hi b
  rw [← gcd_abs]
  have m0 := absZ_nonneg (clipZ a)
  have m1 := absZ_hi (clipZ a) x0 x1
  have k0 := absZ_nonneg (clipZ b)
  have k1 := absZ_hi (clipZ b) y0 y1
  obtain ⟨p0, hp⟩ : ∃ p, absZ (clipZ a) = p := ⟨_, rfl⟩
  obtain ⟨q0, hq⟩ : ∃ q, absZ (clipZ b) = q := ⟨_, rfl⟩
  rw [hp] at m0 m1 ⊢
  rw [hq] at k0 k1 ⊢
  have HP := Lib.hid hp
  have HQ := Lib.hid hq
  clear hp hq
  go_enter Tryd.func24, Tryd.ntmps24
  go_wp2_with (first | (go_at_call 11; refine (clip_any _ _).mono ?_; rintro e w' ⟨rfl, rfl⟩) | (go_at_call 31; refine (magnitude_any _ (by omega) (by omega) _).mono ?_; rintro e w' ⟨rfl, rfl⟩; (first | rw [HP.out] | rw [HQ.out])))
  go_loopw [0, 1] (fun u v wr => ∃ p q : Int, 0 ≤ p ∧ p ≤ 1000000000000 ∧ 0 ≤ q ∧ q ≤ 1000000000000 ∧ u = .int .i64 p ∧ v = .int .i64 q ∧ Int.gcd p q = Int.gcd p0 q0 ∧ Below w.heap.size w wr) (fun _ v _ => (intOf v).toNat)
  case atStart => exact ⟨p0, q0, m0, m1, k0, k1, rfl, rfl, rfl, Below.refl _ _⟩
  case round =>
    obtain ⟨p, q, hp0, hp1, hq0, hq1, rfl, rfl, hg, hb⟩ := hrel
    have HG := Lib.hid hg
    clear hg
    by_cases hq : q = 0
    · subst hq
      go_wp2
      go_ret
      exact ⟨ret_int (by rw [← HG.out, gcd_end hp0]), hb⟩
    · have hq2 : 1 ≤ q := by omega
      have r0 : 0 ≤ p % q := Int.emod_nonneg p hq
      have r1 : p % q < q := Int.emod_lt_of_pos p (by omega)
      have e1 : (q != 0) = true := by rw [bne_iff_ne]; exact hq
      go_wp2
      go_quiet (fail)
      go_roundw
      case rel =>
        have r2 : p % q ≤ 1000000000000 := by omega
        (repeat apply Exists.intro); exact ⟨⟨q, p % q, hq0, hq1, r0, r2, rfl, rfl, (gcd_step hp0 (by omega)).trans HG.out, below_drewN hb _⟩, rfl⟩
      case measure => simp [intOf]; omega
theorem rgcd_any (a b : Int) (w : World) : Calls Tryd.prog 25 #[.int .i64 a, .int .i64 b] w fun e w' => e = .returned (.int .i64 (gcdZ a b)) ∧ Below w.heap.size w w' := by
  unfold gcdZ
  have x0 := clipZ_lo a
  have x1 := clipZ_hi a
  have y0 := clipZ_lo b
  have y1 := clipZ_hi b
  rw [← gcd_abs]
  have m0 := absZ_nonneg (clipZ a)
  have m1 := absZ_hi (clipZ a) x0 x1
  have k0 := absZ_nonneg (clipZ b)
  have k1 := absZ_hi (clipZ b) y0 y1
  obtain ⟨p0, hp⟩ : ∃ p, absZ (clipZ a) = p := ⟨_, rfl⟩
  obtain ⟨q0, hq⟩ : ∃ q, absZ (clipZ b) = q := ⟨_, rfl⟩
  rw [hp] at m0 m1 ⊢
  rw [hq] at k0 k1 ⊢
  have HP := Lib.hid hp
  have HQ := Lib.hid hq
  clear hp hq
  go_enter Tryd.func25, Tryd.ntmps25
  go_wp2_with (first | (go_at_call 14; refine (rclip_any _ _).mono ?_; rintro e w' ⟨rfl, rfl⟩) | (go_at_call 33; refine (rabs_any _ (by omega) (by omega) _).mono ?_; rintro e w' ⟨rfl, rfl⟩; (first | rw [HP.out] | rw [HQ.out])))
  go_loopw [5, 6] (fun u v wr => ∃ p q : Int, 0 ≤ p ∧ p ≤ 1000000000000 ∧ 0 ≤ q ∧ q ≤ 1000000000000 ∧ u = .int .i64 p ∧ v = .int .i64 q ∧ Int.gcd p q = Int.gcd p0 q0 ∧ Below w.heap.size w wr) (fun _ v _ => (intOf v).toNat)
  case atStart => exact ⟨p0, q0, m0, m1, k0, k1, rfl, rfl, rfl, Below.refl _ _⟩
  case round =>
    obtain ⟨p, q, hp0, hp1, hq0, hq1, rfl, rfl, hg, hb⟩ := hrel
    have HG := Lib.hid hg
    clear hg
    by_cases hq : q = 0
    · subst hq
      go_wp2
      go_ret
      exact ⟨ret_int (by rw [← HG.out, gcd_end hp0]), hb⟩
    · have hq2 : 1 ≤ q := by omega
      have r0 : 0 ≤ p % q := Int.emod_nonneg p hq
      have r1 : p % q < q := Int.emod_lt_of_pos p (by omega)
      have e1 : (q != 0) = true := by rw [bne_iff_ne]; exact hq
      go_wp2
      go_quiet (fail)
      go_roundw
      case rel =>
        have r2 : p % q ≤ 1000000000000 := by omega
        (repeat apply Exists.intro); exact ⟨⟨q, p % q, hq0, hq1, r0, r2, rfl, rfl, (gcd_step hp0 (by omega)).trans HG.out, below_drewN hb _⟩, rfl⟩
      case measure => simp [intOf]; omega
def pw (k : Nat) : Int := 2 ^ k
theorem pw_pos (k : Nat) : 1 ≤ pw k := by unfold pw; have := Int.pow_pos (n := 2) (m := k) (by omega); omega
theorem pw_succ (k : Nat) : pw (k + 1) = 2 * pw k := by unfold pw; rw [Int.pow_succ]; omega
theorem pw_half (k : Nat) : pw (k + 1) / 2 = pw k := by rw [pw_succ]; omega
def RootAt (n r : Int) : Prop := 0 ≤ r ∧ r ≤ 4294967296 ∧ r * r ≤ n ∧ n < (r + 1) * (r + 1)
def IsRoot (n : Int) (w : World) (e : Ending) (w' : World) : Prop := ∃ r, RootAt n r ∧ e = .returned (.int .i64 r) ∧ w = w'
theorem sq_le {n x : Int} (h1 : 1 ≤ x) (h : x ≤ n / x) : x * x ≤ n := (Int.le_ediv_iff_mul_le (by omega)).1 h
theorem lt_sq {n x : Int} (h1 : 1 ≤ x) (h : ¬ x ≤ n / x) : n < x * x := by
  have := mt (Int.le_ediv_iff_mul_le (a := x) (b := n) (c := x) (by omega)).2 h
  omega
theorem start_sq : ((0 : Int) + pw 32) * (0 + pw 32) = 18446744073709551616 := by decide
theorem root_pos (n : Int) (h0 : 0 ≤ n) (h1 : n ≤ 9223372036854775807) (w : World) : Calls Tryd.prog 26 #[.int .i64 n] w (IsRoot n w) := by
  go_enter Tryd.func26, Tryd.ntmps26
  go_wp2
  go_loop [3, 4] (fun u v => ∃ k : Nat, ∃ r : Int, k ≤ 32 ∧ 0 ≤ r ∧ r + pw k ≤ 4294967296 ∧ u = .int .i64 r ∧ v = .int .i64 (pw k / 2) ∧ r * r ≤ n ∧ n < (r + pw k) * (r + pw k)) (fun _ v => (intOf v).toNat)
  case atStart => exact ⟨32, 0, by omega, by omega, by decide, rfl, rfl, by omega, by rw [start_sq]; omega⟩
  case round =>
    obtain ⟨k, r, hk, hr0, hr1, rfl, rfl, hs, ht⟩ := hrel
    cases k with
    | zero =>
      rw [show pw 0 / 2 = 0 from rfl]
      go_wp2
      go_ret
      exact ⟨r, ⟨hr0, by have := pw_pos 0; omega, hs, ht⟩, rfl, rfl⟩
    | succ k =>
      have hb := pw_pos k
      have hp := pw_succ k
      rw [pw_half]
      have hr1 : r + 2 * pw k ≤ 4294967296 := by omega
      have ht : n < (r + 2 * pw k) * (r + 2 * pw k) := by rw [← hp]; exact ht
      have HK : Hid (pw k = pw k) := Lib.hid rfl
      clear hp
      obtain ⟨b, eb⟩ : ∃ b, pw k = b := ⟨_, rfl⟩
      rw [eb] at hb hr1 ht ⊢
      have HB := Lib.hid eb
      clear eb
      by_cases hc : r + b ≤ n / (r + b)
      · have s1 := sq_le (by omega) hc
        go_wp2
        go_round
        case rel =>
          have eb := HB.out
          subst eb
          exact ⟨k, r + pw k, by omega, by omega, by omega, rfl, rfl, s1, by rw [show r + pw k + pw k = r + 2 * pw k by omega]; exact ht⟩
        case measure => simp [intOf]; omega
      · have s1 := lt_sq (by omega) hc
        go_wp2
        go_round
        case rel =>
          have eb := HB.out
          subst eb
          exact ⟨k, r, by omega, hr0, by omega, rfl, rfl, hs, s1⟩
        case measure => simp [intOf]; omega
theorem root_neg (n : Int) (h0 : n < 0) (w : World) : Calls Tryd.prog 26 #[.int .i64 n] w fun e w' => e = .returned (.int .i64 0) ∧ w = w' := by
  go_enter Tryd.func26, Tryd.ntmps26
  go_wp2
  go_ret
  exact ⟨rfl, rfl⟩
theorem root_unique {n r s : Int} (h : RootAt n r) (h0 : 0 ≤ s) (h1 : s * s ≤ n) (h2 : n < (s + 1) * (s + 1)) : r = s := by
  obtain ⟨r0, _, r1, r2⟩ := h
  rcases Int.lt_trichotomy r s with hl | hl | hl
  · have := Int.mul_le_mul (a := r + 1) (b := r + 1) (c := s) (d := s) (by omega) (by omega) (by omega) (by omega)
    omega
  · exact hl
  · have := Int.mul_le_mul (a := s + 1) (b := s + 1) (c := r) (d := r) (by omega) (by omega) (by omega) (by omega)
    omega
theorem root_99 (w : World) : Calls Tryd.prog 26 #[.int .i64 99] w fun e w' => e = .returned (.int .i64 9) ∧ w = w' :=
  (root_pos 99 (by omega) (by omega) w).mono fun _ _ ⟨_, hr, he, hw⟩ => ⟨he.trans (ret_int (root_unique hr (by omega) (by omega) (by omega))), hw⟩
end Go.Proofs.YtcbjkdbclimbeaaDoor
