/-
  The walks of the statements without the reference: the quotient and its rest, the greatest common divisor, the root.
-/
import Derived.Test.YtcbjkdbclimbeaaDoorAwake
namespace Go.Proofs.YtcbjkdbclimbeaaDoor
open Go.RowKit
set_option maxHeartbeats 400000
theorem numRoots_walk (n : Int) (h0 : -9223372036854775808 ≤ n) (h1 : n ≤ 9223372036854775807) (w : World) (hE : Env w) :
    Calls Tryd.prog 8 #[.int .i64 n] w fun e w' => e = .returned (.bool true) ∧ Below w.heap.size w w' := by
  rcases Int.lt_or_le n 0 with hn | hn
  · go_enter Tryd.func8, Tryd.ntmps8
    go_wp2_with fail
    refine (root_neg _ hn _).mono ?_
    rintro e w' ⟨rfl, rfl⟩
    go_wp2_with fail
    refine (awake_any _ hE).mono ?_
    rintro e w3 ⟨rfl, hb3⟩
    go_wp2_with fail
    go_ret
    exact ⟨rfl, hb3⟩
  · go_enter Tryd.func8, Tryd.ntmps8
    go_wp2_with fail
    refine (root_pos _ hn h1 _).mono ?_
    rintro e w' ⟨r, hr, rfl, rfl⟩
    obtain ⟨r0, r1, r2, r3⟩ := id hr
    by_cases hz : n = 0
    · have hr0 : r = 0 := root_unique (s := 0) hr (by omega) (by omega) (by omega)
      subst hr0
      subst hz
      clear r2 r3 hr
      go_wp2_with fail
      refine (awake_any _ hE).mono ?_
      rintro e w3 ⟨rfl, hb3⟩
      go_wp2_with fail
      go_ret
      exact ⟨rfl, hb3⟩
    · have hp : 1 ≤ r := by
        rcases Int.lt_or_le 0 r with h | h
        · exact h
        · have : r = 0 := by omega
          subst this
          omega
      have q1 : r ≤ n / r := (Int.le_ediv_iff_mul_le (by omega)).2 r2
      have q2 : n / (r + 1) < r + 1 := Int.ediv_lt_of_lt_mul (by omega) r3
      clear r2 r3 hr
      go_wp2_with fail
      refine (awake_any _ hE).mono ?_
      rintro e w3 ⟨rfl, hb3⟩
      go_wp2_with fail
      go_ret
      exact ⟨rfl, hb3⟩
theorem div_exact {a b : Int} (a0 : -1000000000000 ≤ a) (a1 : a ≤ 1000000000000) (b0 : -1000000000000 ≤ b) (b1 : b ≤ 1000000000000) (hb : b ≠ 0) :
    (a - modZ a b).tmod b = 0 ∧ (a - modZ a b).tdiv b = divZ a b ∧ (0 < b ∧ 0 ≤ modZ a b ∧ modZ a b < b ∨ b < 0 ∧ b < modZ a b ∧ modZ a b ≤ 0) := by
  have ea := clipZ_id a a0 a1
  have eb := clipZ_id b b0 b1
  have hm : modZ a b = a.fmod b := by unfold modZ; rw [ea, eb]
  have hd : divZ a b = a.fdiv b := by unfold divZ; rw [ea, eb]
  have he : a - modZ a b = b * divZ a b := by rw [hm, hd, Int.fmod_def]; omega
  rw [he]
  refine ⟨Int.mul_tmod_right _ _, Int.mul_tdiv_cancel_left _ hb, ?_⟩
  rw [hm]
  exact fmod_between hb
theorem divZ_zero (a : Int) : divZ a 0 = 0 := by unfold divZ; rw [show clipZ 0 = 0 from rfl, Int.fdiv_zero]
theorem modZ_zero {a : Int} (a0 : -1000000000000 ≤ a) (a1 : a ≤ 1000000000000) : modZ a 0 = a := by unfold modZ; rw [show clipZ 0 = 0 from rfl, Int.fmod_zero, clipZ_id a a0 a1]
theorem numDivides_walk (a : Int) (h0 : -9223372036854775808 ≤ a) (h1 : a ≤ 9223372036854775807) (b : Int) (h2 : -9223372036854775808 ≤ b) (h3 : b ≤ 9223372036854775807) (w : World) (hE : Env w) :
    Calls Tryd.prog 6 #[.int .i64 a, .int .i64 b] w fun e w' => e = .returned (.bool true) ∧ Below w.heap.size w w' := by
  obtain ⟨dq0, dq1⟩ := divZ_in a b
  obtain ⟨mq0, mq1⟩ := modZ_in a b
  have I1 := Lib.hid (inB_yes dq0 dq1)
  have I2 := Lib.hid (inB_yes mq0 mq1)
  by_cases ho : (1000000000000 < a ∨ a < -1000000000000) ∨ (1000000000000 < b ∨ b < -1000000000000)
  · have hx : 1000000000000 < a ∨ a < -1000000000000 ∧ a ≤ 1000000000000 ∨ -1000000000000 ≤ a ∧ a ≤ 1000000000000 ∧ 1000000000000 < b ∨ -1000000000000 ≤ a ∧ a ≤ 1000000000000 ∧ b ≤ 1000000000000 ∧ b < -1000000000000 := by omega
    clear ho
    rcases hx with o1 | ⟨o1, o2⟩ | ⟨o1, o2, o3⟩ | ⟨o1, o2, o3, o4⟩
    all_goals
      go_enter Tryd.func6, Tryd.ntmps6
      go_wp2_with fail
      refine (div_any _ _ _).mono ?_
      rintro e w' ⟨rfl, rfl⟩
      go_wp2_with fail
      refine (mod_any _ _ _).mono ?_
      rintro e w' ⟨rfl, rfl⟩
      go_wp2_with fail
      refine (in_any _ _).mono ?_
      rintro e w' ⟨rfl, rfl⟩
      rw [I1.out]
      go_wp2_with fail
      refine (in_any _ _).mono ?_
      rintro e w' ⟨rfl, rfl⟩
      rw [I2.out]
      go_wp2_with fail
      refine (awake_any _ hE).mono ?_
      rintro e w3 ⟨rfl, hb3⟩
      go_wp2_with fail
      go_ret
      exact ⟨rfl, hb3⟩
  · obtain ⟨a0, a1, b0, b1⟩ : -1000000000000 ≤ a ∧ a ≤ 1000000000000 ∧ -1000000000000 ≤ b ∧ b ≤ 1000000000000 := by omega
    clear ho
    by_cases hb : b = 0
    · subst hb
      have D := Lib.hid (divZ_zero a)
      have M := Lib.hid (modZ_zero a0 a1)
      go_enter Tryd.func6, Tryd.ntmps6
      go_wp2_with fail
      refine (div_any _ _ _).mono ?_
      rintro e w' ⟨rfl, rfl⟩
      rw [D.out]
      go_wp2_with fail
      refine (mod_any _ _ _).mono ?_
      rintro e w' ⟨rfl, rfl⟩
      rw [M.out]
      go_wp2_with fail
      refine (in_any _ _).mono ?_
      rintro e w' ⟨rfl, rfl⟩
      rw [show inB 0 = true from rfl]
      go_wp2_with fail
      refine (in_any _ _).mono ?_
      rintro e w' ⟨rfl, rfl⟩
      rw [inB_yes a0 a1]
      go_wp2_with fail
      refine (awake_any _ hE).mono ?_
      rintro e w3 ⟨rfl, hb3⟩
      go_wp2_with fail
      go_ret
      exact ⟨rfl, hb3⟩
    · obtain ⟨e1, e2, e3⟩ := div_exact a0 a1 b0 b1 hb
      have f0 : (b == 0) = false := beq_eq_false_iff_ne.2 hb
      have f1 : ((a - modZ a b).tmod b == 0) = true := beq_iff_eq.2 e1
      have f2 : ((a - modZ a b).tdiv b == divZ a b) = true := beq_iff_eq.2 e2
      have g1 : 0 ≤ a - modZ a b → ((a - modZ a b) % b == 0) = true := fun h => by rw [← Int.tmod_eq_emod_of_nonneg h]; exact f1
      have g2 : 0 ≤ a - modZ a b → ((a - modZ a b) / b == divZ a b) = true := fun h => by rw [← Int.tdiv_eq_ediv_of_nonneg h]; exact f2
      have l0 : -1000000000000 ≤ (a - modZ a b).tdiv b := by rw [e2]; exact dq0
      have l1 : (a - modZ a b).tdiv b ≤ 1000000000000 := by rw [e2]; exact dq1
      clear e1 e2
      have hs : (0 < b ∨ b < 0) := by omega
      rcases e3 with ⟨s0, s1, s2⟩ | ⟨s0, s1, s2⟩
      all_goals
        clear hs g1 g2
        go_enter Tryd.func6, Tryd.ntmps6
        go_wp2_with fail
        refine (div_any _ _ _).mono ?_
        rintro e w' ⟨rfl, rfl⟩
        go_wp2_with fail
        refine (mod_any _ _ _).mono ?_
        rintro e w' ⟨rfl, rfl⟩
        go_wp2_with fail
        refine (in_any _ _).mono ?_
        rintro e w' ⟨rfl, rfl⟩
        rw [I1.out]
        go_wp2_with fail
        refine (in_any _ _).mono ?_
        rintro e w' ⟨rfl, rfl⟩
        rw [I2.out]
        go_wp2_with fail
        refine (awake_any _ hE).mono ?_
        rintro e w3 ⟨rfl, hb3⟩
        go_wp2_with fail
        go_ret
        exact ⟨rfl, hb3⟩
end Go.Proofs.YtcbjkdbclimbeaaDoor
