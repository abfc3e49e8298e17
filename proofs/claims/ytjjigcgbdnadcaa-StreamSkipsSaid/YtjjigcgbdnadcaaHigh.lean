/-
  The contracts of math/bits.Mul64 and of the reference's High.
-/
import Derived.Test.YtjjigcgbdnadcaaSplit
import Derived.Test.YtjjigcgbdnadcaaShelf
namespace Go.Proofs.Ytjjigcgbdnadcaa
open Go.RowKit
set_option maxHeartbeats 400000
theorem mul64_any (x y : Nat) (hx : x < 18446744073709551616) (hy : y < 18446744073709551616) (w : World) :
    Calls Try.prog 29 #[.int .u64 x, .int .u64 y] w fun e w' => e = .returned (.tuple #[.int .u64 (hiN x y : Nat), .int .u64 ((x * y % 18446744073709551616 : Nat) : Int)]) ∧ w = w' := by
  unfold hiN
  exact (show Calls Try.prog 29 #[.int .u64 x, .int .u64 y] w fun e w' => e = .returned (.tuple #[.int .u64 ((x * y / 18446744073709551616 : Nat) : Int), .int .u64 ((x * y % 18446744073709551616 : Nat) : Int)]) ∧ w' = w from Any.bits_Mul64 Try.lays264 x y hx hy w).mono fun _ _ ⟨he, hw⟩ => ⟨he, hw.symm⟩
theorem high_walk (a b al ah bl bh y t t1 mid m1 m0 z o o1 x s r : Nat) (e1 : (a : Int) % 4294967296 = (al : Int)) (e2 : (a : Int) / 4294967296 = (ah : Int)) (e3 : (b : Int) % 4294967296 = (bl : Int)) (e4 : (b : Int) / 4294967296 = (bh : Int))
    (e5 : IntKind.u64.wrap ((ah : Int) * (bl : Int)) = (y : Int)) (e6 : IntKind.u64.wrap ((al : Int) * (bl : Int)) = (t : Int)) (e7 : (t : Int) / 4294967296 = (t1 : Int)) (e8 : IntKind.u64.wrap ((y : Int) + (t1 : Int)) = (mid : Int)) (e9 : (mid : Int) / 4294967296 = (m1 : Int)) (e10 : (mid : Int) % 4294967296 = (m0 : Int))
    (e11 : IntKind.u64.wrap ((al : Int) * (bh : Int)) = (z : Int)) (e12 : IntKind.u64.wrap ((z : Int) + (m0 : Int)) = (o : Int)) (e13 : (o : Int) / 4294967296 = (o1 : Int)) (e14 : IntKind.u64.wrap ((ah : Int) * (bh : Int)) = (x : Int)) (e15 : IntKind.u64.wrap ((x : Int) + (m1 : Int)) = (s : Int)) (e16 : IntKind.u64.wrap ((s : Int) + (o1 : Int)) = (r : Int)) (w1 : IntKind.u64.wrap (ah : Int) = (ah : Int)) (w2 : IntKind.u64.wrap (bh : Int) = (bh : Int)) (w3 : IntKind.u64.wrap (t1 : Int) = (t1 : Int)) (w4 : IntKind.u64.wrap (m1 : Int) = (m1 : Int)) (w5 : IntKind.u64.wrap (o1 : Int) = (o1 : Int)) (w : World) :
    Calls Try.prog 30 #[.int .u64 a, .int .u64 b] w fun e w' => e = .returned (.int .u64 (r : Nat)) ∧ w = w' := by
  go_enter Try.func30, Try.ntmps30
  go_wp2_with fail
  go_ret
  exact ⟨rfl, rfl⟩
theorem wrap_nat {n : Nat} (h : n < 18446744073709551616) : IntKind.u64.wrap (n : Int) = (n : Int) := by rw [IntKind.wrap_u64]; omega
theorem wrap_of {e : Int} {n : Nat} (he : e = (n : Int)) (h : n < 18446744073709551616) : IntKind.u64.wrap e = (n : Int) := by rw [he]; exact wrap_nat h
theorem mul32 {x y : Nat} (hx : x < 4294967296) (hy : y < 4294967296) : x * y ≤ 18446744065119617025 := Nat.mul_le_mul (show x ≤ 4294967295 by omega) (show y ≤ 4294967295 by omega)
theorem high_any (a b : Nat) (ha : a < 18446744073709551616) (hb : b < 18446744073709551616) (w : World) : Calls Try.prog 30 #[.int .u64 a, .int .u64 b] w fun e w' => e = .returned (.int .u64 (hiN a b : Nat)) ∧ w = w' := by
  have hr := high_parts a b
  have e1 : (a : Int) % 4294967296 = ((a % 4294967296 : Nat) : Int) := rfl
  have e2 : (a : Int) / 4294967296 = ((a / 4294967296 : Nat) : Int) := rfl
  have e3 : (b : Int) % 4294967296 = ((b % 4294967296 : Nat) : Int) := rfl
  have e4 : (b : Int) / 4294967296 = ((b / 4294967296 : Nat) : Int) := rfl
  have l1 : a / 4294967296 < 4294967296 := by omega
  have l2 : b / 4294967296 < 4294967296 := by omega
  have l3 : a % 4294967296 < 4294967296 := by omega
  have l4 : b % 4294967296 < 4294967296 := by omega
  generalize a / 4294967296 = ah at *
  generalize a % 4294967296 = al at *
  generalize b / 4294967296 = bh at *
  generalize b % 4294967296 = bl at *
  have b1 := mul32 l1 l4
  have b2 := mul32 l3 l4
  have b3 := mul32 l3 l2
  have b4 := mul32 l1 l2
  obtain ⟨y, ey⟩ : ∃ y, ah * bl = y := ⟨_, rfl⟩
  obtain ⟨t, et⟩ : ∃ y, al * bl = y := ⟨_, rfl⟩
  obtain ⟨z, ez⟩ : ∃ y, al * bh = y := ⟨_, rfl⟩
  obtain ⟨x, ex⟩ : ∃ y, ah * bh = y := ⟨_, rfl⟩
  rw [ey] at b1 hr
  rw [et] at b2 hr
  rw [ez] at b3 hr
  rw [ex] at b4 hr
  have f1 : (ah : Int) * (bl : Int) = (y : Int) := by rw [← ey, Int.natCast_mul]
  have f2 : (al : Int) * (bl : Int) = (t : Int) := by rw [← et, Int.natCast_mul]
  have f3 : (al : Int) * (bh : Int) = (z : Int) := by rw [← ez, Int.natCast_mul]
  have f4 : (ah : Int) * (bh : Int) = (x : Int) := by rw [← ex, Int.natCast_mul]
  clear ey et ez ex
  rw [← hr]
  clear hr
  refine high_walk a b al ah bl bh y t (t / 4294967296) (y + t / 4294967296) ((y + t / 4294967296) / 4294967296) ((y + t / 4294967296) % 4294967296) z (z + (y + t / 4294967296) % 4294967296) ((z + (y + t / 4294967296) % 4294967296) / 4294967296) x (x + (y + t / 4294967296) / 4294967296) _ e1 e2 e3 e4 (wrap_of f1 (by omega)) (wrap_of f2 (by omega)) ?_ (wrap_of ?_ (by omega)) ?_ ?_ (wrap_of f3 (by omega)) (wrap_of ?_ (by omega)) ?_ (wrap_of f4 (by omega)) (wrap_of ?_ (by omega)) (wrap_of ?_ (by omega)) (wrap_nat (by omega)) (wrap_nat (by omega)) (wrap_nat (by omega)) (wrap_nat (by omega)) (wrap_nat (by omega)) w
  all_goals omega
end Go.Proofs.Ytjjigcgbdnadcaa
