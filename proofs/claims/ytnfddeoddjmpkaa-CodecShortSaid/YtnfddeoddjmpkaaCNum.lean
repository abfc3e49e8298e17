/-
  The contracts of number and integer, of the library and of the reference.
-/
import Derived.Test.YtnfddeoddjmpkaaCBase
namespace Go.Proofs.Ytnfddeoddjmpkaa.Co
open Go.RowKit
set_option maxHeartbeats 1000000
theorem not_run {n : Int} (h : -9223372036854775808 ≤ n) (h2 : n ≤ 9223372036854775807) : Op.unary .xor (.int .i64 n) = pure (.int .i64 (-1 - n)) := by
  show pure (Value.int .i64 (bits .xor .i64 (-1) n)) = _
  rw [not_i64 h h2]
theorem number_any (n : Int) (w : World) (h : -9223372036854775808 ≤ n) (h2 : n ≤ 9223372036854775807) : Calls Try.prog 34 #[.int .i64 n] w fun e w' => e = .returned (.int .u64 (numZ n : Nat)) ∧ w = w' := by
  by_cases hn : n < 0
  · have e1 := not_run h h2
    have E := Lib.hid (numZ_neg hn)
    go_enter Try.func34, Try.ntmps34
    go_wp2_with fail
    go_ret
    exact ⟨ret_int (by rw [E.out]; omega), rfl⟩
  · have E := Lib.hid (numZ_pos hn)
    go_enter Try.func34, Try.ntmps34
    go_wp2_with fail
    go_ret
    exact ⟨ret_int (by rw [E.out]; omega), rfl⟩
theorem rnumber_any (n : Int) (w : World) (h : -9223372036854775808 ≤ n) (h2 : n ≤ 9223372036854775807) : Calls Try.prog 29 #[.int .i64 n] w fun e w' => e = .returned (.int .u64 (numZ n : Nat)) ∧ w = w' := by
  by_cases hn : n < 0
  · have E := Lib.hid (numZ_neg hn)
    go_enter Try.func29, Try.ntmps29
    go_wp2_with fail
    go_ret
    exact ⟨ret_int (by rw [E.out]; omega), rfl⟩
  · have E := Lib.hid (numZ_pos hn)
    go_enter Try.func29, Try.ntmps29
    go_wp2_with fail
    go_ret
    exact ⟨ret_int (by rw [E.out]; omega), rfl⟩
theorem integer_any (u : Nat) (w : World) (h : u < 18446744073709551616) : Calls Try.prog 30 #[.int .u64 (u : Nat)] w fun e w' => e = .returned (.int .i64 (intZ u)) ∧ w = w' := by
  have e1 := not_run (n := (u : Int) / 2) (by omega) (by omega)
  by_cases hn : u % 2 = 1
  · have E := Lib.hid (intZ_odd hn)
    have H : (((u : Int) % 2) == 1) = true := by rw [beq_iff_eq]; omega
    clear hn
    go_enter Try.func30, Try.ntmps30
    go_wp2_with fail
    go_ret
    exact ⟨ret_int (by rw [E.out]; omega), rfl⟩
  · have E := Lib.hid (intZ_even hn)
    have H : (((u : Int) % 2) == 1) = false := by rw [beq_eq_false_iff_ne]; omega
    clear hn
    go_enter Try.func30, Try.ntmps30
    go_wp2_with fail
    go_ret
    exact ⟨ret_int (by rw [E.out]; omega), rfl⟩
theorem rinteger_any (u : Nat) (w : World) (h : u < 18446744073709551616) : Calls Try.prog 31 #[.int .u64 (u : Nat)] w fun e w' => e = .returned (.int .i64 (intZ u)) ∧ w = w' := by
  by_cases hn : u % 2 = 1
  · have E := Lib.hid (intZ_odd hn)
    have H : (((u : Int) % 2) == 1) = true := by rw [beq_iff_eq]; omega
    clear hn
    go_enter Try.func31, Try.ntmps31
    go_wp2_with fail
    go_ret
    exact ⟨ret_int (by rw [E.out]; omega), rfl⟩
  · have E := Lib.hid (intZ_even hn)
    have H : (((u : Int) % 2) == 1) = false := by rw [beq_eq_false_iff_ne]; omega
    clear hn
    go_enter Try.func31, Try.ntmps31
    go_wp2_with fail
    go_ret
    exact ⟨ret_int (by rw [E.out]; omega), rfl⟩
end Go.Proofs.Ytnfddeoddjmpkaa.Co
