/-
  The contracts of package num's integer functions and of the reference's: what each call returns, and that it leaves memory alone.
-/
import Derived.Test.YtcbjkdbclimbeaaDoorMath
import Derived.WalkSpells
import Derived.Lib.Hide
import Derived.WalkLawsBesides
namespace Go.Proofs.YtcbjkdbclimbeaaDoor
open Go.RowKit
set_option maxHeartbeats 400000
theorem clip_any (n : Int) (w : World) : Calls Tryd.prog 11 #[.int .i64 n] w fun e w' => e = .returned (.int .i64 (clipZ n)) ∧ w = w' := by
  rcases Int.lt_or_le 1000000000000 n with h | h
  · rw [clipZ_up n h]
    go_enter Tryd.func11, Tryd.ntmps11
    go_wp2
    all_goals
      go_ret
      exact ⟨ret_int (by omega), rfl⟩
  · rcases Int.lt_or_le n (-1000000000000) with h' | h'
    · rw [clipZ_dn n h']
      go_enter Tryd.func11, Tryd.ntmps11
      go_wp2
      all_goals
        go_ret
        exact ⟨ret_int (by omega), rfl⟩
    · rw [clipZ_id n h' h]
      go_enter Tryd.func11, Tryd.ntmps11
      go_wp2
      all_goals
        go_ret
        exact ⟨ret_int (by omega), rfl⟩
theorem rclip_any (n : Int) (w : World) : Calls Tryd.prog 14 #[.int .i64 n] w fun e w' => e = .returned (.int .i64 (clipZ n)) ∧ w = w' := by
  rcases Int.lt_or_le 1000000000000 n with h | h
  · rw [clipZ_up n h]
    go_enter Tryd.func14, Tryd.ntmps14
    go_wp2
    go_ret
    exact ⟨rfl, rfl⟩
  · rcases Int.lt_or_le n (-1000000000000) with h' | h'
    · rw [clipZ_dn n h']
      go_enter Tryd.func14, Tryd.ntmps14
      go_wp2
      go_ret
      exact ⟨rfl, rfl⟩
    · rw [clipZ_id n h' h]
      go_enter Tryd.func14, Tryd.ntmps14
      go_wp2
      go_ret
      exact ⟨rfl, rfl⟩
theorem in_any (n : Int) (w : World) : Calls Tryd.prog 12 #[.int .i64 n] w fun e w' => e = .returned (.bool (inB n)) ∧ w = w' := by
  rcases Int.lt_or_le 1000000000000 n with h | h
  · rw [inB_no (Or.inr h)]
    go_enter Tryd.func12, Tryd.ntmps12
    go_wp2
    go_ret
    exact ⟨ret_bool (by simp; try omega), rfl⟩
  · rcases Int.lt_or_le n (-1000000000000) with h' | h'
    · rw [inB_no (Or.inl h')]
      go_enter Tryd.func12, Tryd.ntmps12
      go_wp2
      go_ret
      exact ⟨ret_bool (by simp; try omega), rfl⟩
    · rw [inB_yes h' h]
      go_enter Tryd.func12, Tryd.ntmps12
      go_wp2
      go_ret
      exact ⟨ret_bool (by simp; try omega), rfl⟩
theorem rin_any (n : Int) (w : World) : Calls Tryd.prog 13 #[.int .i64 n] w fun e w' => e = .returned (.bool (inB n)) ∧ w = w' := by
  rcases Int.lt_or_le 1000000000000 n with h | h
  · rw [inB_no (Or.inr h)]
    go_enter Tryd.func13, Tryd.ntmps13
    go_wp2
    go_ret
    exact ⟨ret_bool (by simp; try omega), rfl⟩
  · rcases Int.lt_or_le n (-1000000000000) with h' | h'
    · rw [inB_no (Or.inl h')]
      go_enter Tryd.func13, Tryd.ntmps13
      go_wp2
      go_ret
      exact ⟨ret_bool (by simp; try omega), rfl⟩
    · rw [inB_yes h' h]
      go_enter Tryd.func13, Tryd.ntmps13
      go_wp2
      go_ret
      exact ⟨ret_bool (by simp; try omega), rfl⟩
theorem magnitude_any (n : Int) (h0 : -1000000000000 ≤ n) (h1 : n ≤ 1000000000000) (w : World) : Calls Tryd.prog 31 #[.int .i64 n] w fun e w' => e = .returned (.int .i64 (absZ n)) ∧ w = w' := by
  rcases Int.lt_or_le n 0 with h | h
  · rw [absZ_neg h]
    go_enter Tryd.func31, Tryd.ntmps31
    go_wp2
    all_goals
      go_ret
      exact ⟨ret_int (by omega), rfl⟩
  · rw [absZ_pos h]
    go_enter Tryd.func31, Tryd.ntmps31
    go_wp2
    all_goals
      go_ret
      exact ⟨ret_int (by omega), rfl⟩
theorem rabs_any (n : Int) (h0 : -1000000000000 ≤ n) (h1 : n ≤ 1000000000000) (w : World) : Calls Tryd.prog 33 #[.int .i64 n] w fun e w' => e = .returned (.int .i64 (absZ n)) ∧ w = w' := by
  rcases Int.lt_or_le n 0 with h | h
  · rw [absZ_neg h]
    go_enter Tryd.func33, Tryd.ntmps33
    go_wp2
    go_ret
    exact ⟨rfl, rfl⟩
  · rw [absZ_pos h]
    go_enter Tryd.func33, Tryd.ntmps33
    go_wp2
    go_ret
    exact ⟨rfl, rfl⟩
theorem add_any (a b : Int) (w : World) : Calls Tryd.prog 16 #[.int .i64 a, .int .i64 b] w fun e w' => e = .returned (.int .i64 (addZ a b)) ∧ w = w' := by
  unfold addZ
  have x0 := clipZ_lo a
  have x1 := clipZ_hi a
  have y0 := clipZ_lo b
  have y1 := clipZ_hi b
  go_enter Tryd.func16, Tryd.ntmps16
  go_wp2_with (go_at_call 11; refine (clip_any _ _).mono ?_; rintro e w' ⟨rfl, rfl⟩)
  go_ret
  exact ⟨rfl, rfl⟩
theorem radd_any (a b : Int) (w : World) : Calls Tryd.prog 18 #[.int .i64 a, .int .i64 b] w fun e w' => e = .returned (.int .i64 (addZ a b)) ∧ w = w' := by
  unfold addZ
  have x0 := clipZ_lo a
  have x1 := clipZ_hi a
  have y0 := clipZ_lo b
  have y1 := clipZ_hi b
  go_enter Tryd.func18, Tryd.ntmps18
  go_wp2_with (go_at_call 14; refine (rclip_any _ _).mono ?_; rintro e w' ⟨rfl, rfl⟩)
  go_ret
  exact ⟨rfl, rfl⟩
end Go.Proofs.YtcbjkdbclimbeaaDoor
