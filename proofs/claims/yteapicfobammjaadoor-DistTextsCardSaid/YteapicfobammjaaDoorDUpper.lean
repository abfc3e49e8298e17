/-
  The contracts of upperHalf, and of the reference's Upper and uniform.
-/
import Derived.Test.YteapicfobammjaaDoorDBase
import Derived.Test.YteapicfobammjaaDoorStMath
namespace Go.Proofs.YteapicfobammjaaDoor.Di
open Go.RowKit
open St (hiN high_parts hiN_lt)
set_option maxHeartbeats 1000000
theorem wrap_nat {n : Nat} (h : n < 18446744073709551616) : IntKind.u64.wrap (n : Int) = (n : Int) := by rw [IntKind.wrap_u64]; omega
theorem wrap_i {n : Nat} (h : n < 9223372036854775808) : IntKind.i64.wrap (n : Int) = (n : Int) := by rw [IntKind.wrap_i64]; omega
theorem wrap_of {e : Int} {n : Nat} (he : e = (n : Int)) (h : n < 18446744073709551616) : IntKind.u64.wrap e = (n : Int) := by rw [he]; exact wrap_nat h
theorem mul32 {x y : Nat} (hx : x < 4294967296) (hy : y < 4294967296) : x * y ≤ 18446744065119617025 := Nat.mul_le_mul (show x ≤ 4294967295 by omega) (show y ≤ 4294967295 by omega)
theorem upper_walk (u N h l : Nat) (w1 : IntKind.u64.wrap (N : Int) = (N : Int)) (w2 : IntKind.i64.wrap (h : Int) = (h : Int)) (M : Hid (∀ w, Calls Tryd.prog 55 #[.int .u64 u, .int .u64 N] w fun e w' => e = .returned (.tuple #[.int .u64 (h : Nat), .int .u64 (l : Nat)]) ∧ w = w')) (w : World) :
    Calls Tryd.prog 99 #[.int .u64 u, .int .i64 N] w fun e w' => e = .returned (.int .i64 (h : Nat)) ∧ w = w' := by
  go_enter Tryd.func99, Tryd.ntmps99
  go_wp2_with fail
  refine (M.out _).mono ?_
  rintro e w1 ⟨rfl, rfl⟩
  go_wp2_with fail
  go_ret
  exact ⟨rfl, rfl⟩
theorem upper_any (u N : Nat) (hu : u < 18446744073709551616) (h0 : 0 < N) (hN : N < 9223372036854775808) (w : World) : Calls Tryd.prog 99 #[.int .u64 u, .int .i64 N] w fun e w' => e = .returned (.int .i64 (hiN u N : Nat)) ∧ w = w' :=
  upper_walk u N (hiN u N) (u * N % 18446744073709551616) (wrap_nat (by omega)) (wrap_i (by have := hiN_lt hu h0; omega)) (Lib.hid (mul64_any u N _ _ hu (by omega) rfl rfl)) w
theorem rupper_walk (a b al ah bl bh y t t1 mid m1 m0 z o o1 x s r : Nat) (e1 : bits BinOp.and IntKind.u64 (a : Int) 4294967295 = (al : Int)) (e2 : (a : Int) / 4294967296 = (ah : Int)) (e3 : bits BinOp.and IntKind.u64 (b : Int) 4294967295 = (bl : Int)) (e4 : (b : Int) / 4294967296 = (bh : Int))
    (e5 : IntKind.u64.wrap ((ah : Int) * (bl : Int)) = (y : Int)) (e6 : IntKind.u64.wrap ((al : Int) * (bl : Int)) = (t : Int)) (e7 : (t : Int) / 4294967296 = (t1 : Int)) (e8 : IntKind.u64.wrap ((y : Int) + (t1 : Int)) = (mid : Int)) (e9 : (mid : Int) / 4294967296 = (m1 : Int)) (e10 : bits BinOp.and IntKind.u64 (mid : Int) 4294967295 = (m0 : Int))
    (e11 : IntKind.u64.wrap ((al : Int) * (bh : Int)) = (z : Int)) (e12 : IntKind.u64.wrap ((z : Int) + (m0 : Int)) = (o : Int)) (e13 : (o : Int) / 4294967296 = (o1 : Int)) (e14 : IntKind.u64.wrap ((ah : Int) * (bh : Int)) = (x : Int)) (e15 : IntKind.u64.wrap ((x : Int) + (m1 : Int)) = (s : Int)) (e16 : IntKind.u64.wrap ((s : Int) + (o1 : Int)) = (r : Int)) (w : World) :
    Calls Tryd.prog 100 #[.int .u64 a, .int .u64 b] w fun e w' => e = .returned (.int .u64 (r : Nat)) ∧ w = w' := by
  go_enter Tryd.func100, Tryd.ntmps100
  go_wp2_with fail
  go_ret
  exact ⟨rfl, rfl⟩
theorem rupper_any (a b : Nat) (ha : a < 18446744073709551616) (hb : b < 18446744073709551616) (w : World) : Calls Tryd.prog 100 #[.int .u64 a, .int .u64 b] w fun e w' => e = .returned (.int .u64 (hiN a b : Nat)) ∧ w = w' := by
  have hr := high_parts a b
  have e1 : bits BinOp.and IntKind.u64 (a : Int) 4294967295 = ((a % 4294967296 : Nat) : Int) := and_low ha rfl
  have e2 : (a : Int) / 4294967296 = ((a / 4294967296 : Nat) : Int) := rfl
  have e3 : bits BinOp.and IntKind.u64 (b : Int) 4294967295 = ((b % 4294967296 : Nat) : Int) := and_low hb rfl
  have e4 : (b : Int) / 4294967296 = ((b / 4294967296 : Nat) : Int) := rfl
  have l1 : a / 4294967296 < 4294967296 := by omega
  have l2 : b / 4294967296 < 4294967296 := by omega
  have l3 : a % 4294967296 < 4294967296 := by omega
  have l4 : b % 4294967296 < 4294967296 := by omega
  generalize a / 4294967296 = ah at *
  generalize a % 4294967296 = al at *
  generalize b / 4294967296 = bh at *
  generalize b % 4294967296 = bl at *
  have b1 := mul32 l1 l4
  have b2 := mul32 l3 l4
  have b3 := mul32 l3 l2
  have b4 := mul32 l1 l2
  obtain ⟨y, ey⟩ : ∃ y, ah * bl = y := ⟨_, rfl⟩
  obtain ⟨t, et⟩ : ∃ y, al * bl = y := ⟨_, rfl⟩
  obtain ⟨z, ez⟩ : ∃ y, al * bh = y := ⟨_, rfl⟩
  obtain ⟨x, ex⟩ : ∃ y, ah * bh = y := ⟨_, rfl⟩
  rw [ey] at b1 hr
  rw [et] at b2 hr
  rw [ez] at b3 hr
  rw [ex] at b4 hr
  have f1 : (ah : Int) * (bl : Int) = (y : Int) := by rw [← ey, Int.natCast_mul]
  have f2 : (al : Int) * (bl : Int) = (t : Int) := by rw [← et, Int.natCast_mul]
  have f3 : (al : Int) * (bh : Int) = (z : Int) := by rw [← ez, Int.natCast_mul]
  have f4 : (ah : Int) * (bh : Int) = (x : Int) := by rw [← ex, Int.natCast_mul]
  clear ey et ez ex
  rw [← hr]
  clear hr
  refine rupper_walk a b al ah bl bh y t (t / 4294967296) (y + t / 4294967296) ((y + t / 4294967296) / 4294967296) ((y + t / 4294967296) % 4294967296) z (z + (y + t / 4294967296) % 4294967296) ((z + (y + t / 4294967296) % 4294967296) / 4294967296) x (x + (y + t / 4294967296) / 4294967296) _ e1 e2 e3 e4 (wrap_of f1 (by omega)) (wrap_of f2 (by omega)) ?_ (wrap_of ?_ (by omega)) ?_ (and_low (by omega) rfl) (wrap_of f3 (by omega)) (wrap_of ?_ (by omega)) ?_ (wrap_of f4 (by omega)) (wrap_of ?_ (by omega)) (wrap_of ?_ (by omega)) w
  all_goals omega
/-- The value of DUniform. -/
def uniV (a b : Int) (u : Nat) : Int := a + ((hiN u (b - a + 1).toNat : Nat) : Int)
theorem runi_walk (a b : Int) (u N r : Nat) (a0 : 0 ≤ a) (a1 : a ≤ 1000000000) (b0 : a ≤ b) (b1 : b ≤ 1000000000) (e1 : b - a + 1 = (N : Int)) (w1 : IntKind.u64.wrap (N : Int) = (N : Int)) (w2 : IntKind.i64.wrap (r : Int) = (r : Int)) (hr : (r : Int) ≤ 1000000000)
    (U : Hid (∀ w, Calls Tryd.prog 100 #[.int .u64 u, .int .u64 N] w fun e w' => e = .returned (.int .u64 (r : Nat)) ∧ w = w')) (w : World) :
    Calls Tryd.prog 73 #[.int .i64 a, .int .i64 b, .int .u64 u] w fun e w' => e = .returned (.int .i64 (a + (r : Int))) ∧ w = w' := by
  go_enter Tryd.func73, Tryd.ntmps73
  go_wp2_with fail
  refine (U.out _).mono ?_
  rintro e w1 ⟨rfl, rfl⟩
  go_wp2_with fail
  go_ret
  exact ⟨rfl, rfl⟩
theorem runi_any (a b : Int) (u : Nat) (hu : u < 18446744073709551616) (a0 : 0 ≤ a) (b0 : a ≤ b) (b1 : b ≤ 1000000000) (w : World) : Calls Tryd.prog 73 #[.int .i64 a, .int .i64 b, .int .u64 u] w fun e w' => e = .returned (.int .i64 (uniV a b u)) ∧ w = w' := by
  unfold uniV
  obtain ⟨N, eN⟩ : ∃ N, (b - a + 1).toNat = N := ⟨_, rfl⟩
  rw [eN]
  have h1 := hiN_lt hu (n := N) (by omega)
  exact runi_walk a b u N (hiN u N) a0 (by omega) b0 b1 (by omega) (wrap_nat (by omega)) (wrap_i (by omega)) (by omega) (Lib.hid (rupper_any u N hu (by omega))) w
end Go.Proofs.YteapicfobammjaaDoor.Di
