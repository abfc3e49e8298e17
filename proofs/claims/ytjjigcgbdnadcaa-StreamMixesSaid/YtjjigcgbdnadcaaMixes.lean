/-
  The statement StreamMixes, walked.
-/
import Derived.Test.YtjjigcgbdnadcaaAwake
namespace Go.Proofs.Ytjjigcgbdnadcaa
open Go.RowKit
set_option maxHeartbeats 1000000
theorem beq_ne {a b : Nat} (h : a ≠ b) : ((a : Int) == (b : Int)) = false := by rw [beq_eq_false_iff_ne]; omega
theorem streamMixes_walk (x : Nat) (hx : x < 18446744073709551616) (y : Nat) (hy : y < 18446744073709551616) (w : World) : Calls Try.prog 3 #[.int .u64 x, .int .u64 y] w (Gives (.bool true) w) := by
  have M1 := Lib.hid (mix_any x hx)
  have M2 := Lib.hid (mix_any y hy)
  have R1 := Lib.hid (rmix_any x hx)
  have R2 := Lib.hid (rmix_any y hy)
  have hi := fun h => mixN_inj hx hy h
  by_cases h : x = y
  · subst h
    obtain ⟨a, ea⟩ : ∃ a, mixN x = a := ⟨_, rfl⟩
    rw [ea] at M1 R1 M2 R2
    clear ea hi hx hy
    go_enter Try.func3, Try.ntmps3
    go_wp2_with fail
    refine (M1.out _).mono ?_
    rintro e w1 ⟨rfl, rfl⟩
    go_wp2_with fail
    refine (M2.out _).mono ?_
    rintro e w1 ⟨rfl, rfl⟩
    go_wp2_with fail
    refine (R1.out _).mono ?_
    rintro e w1 ⟨rfl, rfl⟩
    go_wp2_with fail
    refine (R2.out _).mono ?_
    rintro e w1 ⟨rfl, rfl⟩
    go_wp2_with fail
    refine (awake_any _).mono ?_
    rintro e w1 ⟨rfl, hb⟩
    go_wp2_with fail
    go_ret
    exact ⟨rfl, hb⟩
  · have k1 := beq_ne h
    have k2 := beq_ne (fun e => h (hi e))
    obtain ⟨a, ea⟩ : ∃ a, mixN x = a := ⟨_, rfl⟩
    obtain ⟨b, eb⟩ : ∃ a, mixN y = a := ⟨_, rfl⟩
    rw [ea] at M1 R1 k2
    rw [eb] at M2 R2 k2
    clear ea eb hi hx hy h
    go_enter Try.func3, Try.ntmps3
    go_wp2_with fail
    refine (M1.out _).mono ?_
    rintro e w1 ⟨rfl, rfl⟩
    go_wp2_with fail
    refine (M2.out _).mono ?_
    rintro e w1 ⟨rfl, rfl⟩
    go_wp2_with fail
    refine (R1.out _).mono ?_
    rintro e w1 ⟨rfl, rfl⟩
    go_wp2_with fail
    refine (R2.out _).mono ?_
    rintro e w1 ⟨rfl, rfl⟩
    go_wp2_with fail
    refine (awake_any _).mono ?_
    rintro e w1 ⟨rfl, hb⟩
    go_wp2_with fail
    go_ret
    exact ⟨rfl, hb⟩
end Go.Proofs.Ytjjigcgbdnadcaa
