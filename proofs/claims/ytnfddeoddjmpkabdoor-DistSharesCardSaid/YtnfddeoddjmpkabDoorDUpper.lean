/-
  The contracts of upperHalf, and of the reference's Upper and uniform.
-/
import Derived.Test.YtnfddeoddjmpkabDoorDBase
import Derived.Test.YtnfddeoddjmpkabDoorStMath
namespace Go.Proofs.YtnfddeoddjmpkabDoor.Di
open Go.RowKit
open St (hiN high_parts hiN_lt)
set_option maxHeartbeats 1000000
theorem wrap_nat {n : Nat} (h : n < 18446744073709551616) : IntKind.u64.wrap (n : Int) = (n : Int) := by rw [IntKind.wrap_u64]; omega
theorem wrap_i {n : Nat} (h : n < 9223372036854775808) : IntKind.i64.wrap (n : Int) = (n : Int) := by rw [IntKind.wrap_i64]; omega
theorem wrap_of {e : Int} {n : Nat} (he : e = (n : Int)) (h : n < 18446744073709551616) : IntKind.u64.wrap e = (n : Int) := by rw [he]; exact wrap_nat h
theorem mul32 {x y : Nat} (hx : x < 4294967296) (hy : y < 4294967296) : x * y ≤ 18446744065119617025 := Nat.mul_le_mul (show x ≤ 4294967295 by omega) (show y ≤ 4294967295 by omega)
theorem upper_walk (u N h l : Nat) (w1 : IntKind.u64.wrap (N : Int) = (N : Int)) (w2 : IntKind.i64.wrap (h : Int) = (h : Int)) (M : Hid (∀ w, Calls Tryd.prog 28 #[.int .u64 u, .int .u64 N] w fun e w' => e = .returned (.tuple #[.int .u64 (h : Nat), .int .u64 (l : Nat)]) ∧ w = w')) (w : World) :
    Calls Tryd.prog 63 #[.int .u64 u, .int .i64 N] w fun e w' => e = .returned (.int .i64 (h : Nat)) ∧ w = w' := by
  go_enter Tryd.func63, Tryd.ntmps63
  go_wp2_with fail
  refine (M.out _).mono ?_
  rintro e w1 ⟨rfl, rfl⟩
  go_wp2_with fail
  go_ret
  exact ⟨rfl, rfl⟩
theorem upper_any (u N : Nat) (hu : u < 18446744073709551616) (h0 : 0 < N) (hN : N < 9223372036854775808) (w : World) : Calls Tryd.prog 63 #[.int .u64 u, .int .i64 N] w fun e w' => e = .returned (.int .i64 (hiN u N : Nat)) ∧ w = w' :=
  upper_walk u N (hiN u N) (u * N % 18446744073709551616) (wrap_nat (by omega)) (wrap_i (by have := hiN_lt hu h0; omega)) (Lib.hid (mul64_any u N _ _ hu (by omega) rfl rfl)) w
/-- The value of DUniform. -/
def uniV (a b : Int) (u : Nat) : Int := a + ((hiN u (b - a + 1).toNat : Nat) : Int)
end Go.Proofs.YtnfddeoddjmpkabDoor.Di
