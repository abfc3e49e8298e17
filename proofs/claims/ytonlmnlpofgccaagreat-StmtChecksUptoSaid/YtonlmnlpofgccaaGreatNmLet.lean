/-
  The contracts of letter and digit, of the library and of the reference.
-/
import Derived.Test.YtonlmnlpofgccaaGreatNmBase
namespace Go.Proofs.YtonlmnlpofgccaaGreat.Na
open Go.RowKit
set_option maxHeartbeats 1000000
theorem letter_any (x : Int) (w : World) : Calls Tryz.prog 45 #[.int .u8 x] w fun e w' => e = .returned (.bool (ltrI x)) ∧ w' = w := by
  unfold ltrI
  by_cases h1 : 97 ≤ x
  · have t1 : decide (97 ≤ x) = true := decide_eq_true h1
    have HR : Hid (decide (x ≤ 122) = (decide (97 ≤ x) && decide (x ≤ 122))) := Lib.hid (by rw [t1]; rfl)
    by_cases h2 : x ≤ 122
    · have t2 : decide (x ≤ 122) = true := decide_eq_true h2
      rw [t1, t2]
      clear HR
      go_enter Tryz.func45, Tryz.ntmps45
      go_wp2_with fail
      go_ret
      exact ⟨rfl, rfl⟩
    · have t2 : decide (x ≤ 122) = false := decide_eq_false h2
      rw [t1, t2]
      clear HR
      go_enter Tryz.func45, Tryz.ntmps45
      go_wp2_with fail
      go_ret
      exact ⟨rfl, rfl⟩
  · have t1 : decide (97 ≤ x) = false := decide_eq_false h1
    rw [t1, Bool.false_and]
    go_enter Tryz.func45, Tryz.ntmps45
    go_wp2_with fail
    go_ret
    exact ⟨rfl, rfl⟩
theorem digit_any (x : Int) (w : World) : Calls Tryz.prog 47 #[.int .u8 x] w fun e w' => e = .returned (.bool (digI x)) ∧ w' = w := by
  unfold digI
  by_cases h1 : 48 ≤ x
  · have t1 : decide (48 ≤ x) = true := decide_eq_true h1
    by_cases h2 : x ≤ 57
    · have t2 : decide (x ≤ 57) = true := decide_eq_true h2
      rw [t1, t2]
      go_enter Tryz.func47, Tryz.ntmps47
      go_wp2_with fail
      go_ret
      exact ⟨rfl, rfl⟩
    · have t2 : decide (x ≤ 57) = false := decide_eq_false h2
      rw [t1, t2]
      go_enter Tryz.func47, Tryz.ntmps47
      go_wp2_with fail
      go_ret
      exact ⟨rfl, rfl⟩
  · have t1 : decide (48 ≤ x) = false := decide_eq_false h1
    rw [t1, Bool.false_and]
    go_enter Tryz.func47, Tryz.ntmps47
    go_wp2_with fail
    go_ret
    exact ⟨rfl, rfl⟩
theorem rletter_any (x : Int) (w : World) : Calls Tryz.prog 77 #[.int .u8 x] w fun e w' => e = .returned (.bool (ltrI x)) ∧ w' = w := by
  unfold ltrI
  by_cases h1 : 97 ≤ x
  · have t1 : decide (97 ≤ x) = true := decide_eq_true h1
    by_cases h2 : x ≤ 122
    · have t2 : decide (x ≤ 122) = true := decide_eq_true h2
      rw [t1, t2]
      go_enter Tryz.func77, Tryz.ntmps77
      go_wp2_with fail
      go_ret
      exact ⟨rfl, rfl⟩
    · have t2 : decide (x ≤ 122) = false := decide_eq_false h2
      rw [t1, t2]
      go_enter Tryz.func77, Tryz.ntmps77
      go_wp2_with fail
      go_ret
      exact ⟨rfl, rfl⟩
  · have t1 : decide (97 ≤ x) = false := decide_eq_false h1
    rw [t1, Bool.false_and]
    go_enter Tryz.func77, Tryz.ntmps77
    go_wp2_with fail
    go_ret
    exact ⟨rfl, rfl⟩
theorem letter_at {x : Int} {b : Bool} (h : ltrI x = b) (w : World) : Calls Tryz.prog 45 #[.int .u8 x] w fun e w' => e = .returned (.bool b) ∧ w' = w := by rw [← h]; exact letter_any x w
theorem digit_at {x : Int} {b : Bool} (h : digI x = b) (w : World) : Calls Tryz.prog 47 #[.int .u8 x] w fun e w' => e = .returned (.bool b) ∧ w' = w := by rw [← h]; exact digit_any x w
theorem rletter_at {x : Int} {b : Bool} (h : ltrI x = b) (w : World) : Calls Tryz.prog 77 #[.int .u8 x] w fun e w' => e = .returned (.bool b) ∧ w' = w := by rw [← h]; exact rletter_any x w
end Go.Proofs.YtonlmnlpofgccaaGreat.Na
