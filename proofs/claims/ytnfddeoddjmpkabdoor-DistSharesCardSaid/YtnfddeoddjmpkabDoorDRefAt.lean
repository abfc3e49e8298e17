/-
  The contracts of the reference's At, Least, Most.
-/
import Derived.Test.YtnfddeoddjmpkabDoorDSingle
namespace Go.Proofs.YtnfddeoddjmpkabDoor.Di
open Go.RowKit
open St (hiN hiN_lt)
set_option maxHeartbeats 2000000
theorem hi_zero (N : Nat) : hiN 0 N = 0 := by unfold St.hiN; rw [Nat.zero_mul, Nat.zero_div]
theorem hi_last {N : Nat} (h : 0 < N) (h2 : N < 18446744073709551616) : hiN 18446744073709551615 N = N - 1 := by
  unfold St.hiN; omega
theorem ext_one {op a b n : Int} {lv lw : Nat} {V W : Nat → Int} {u : Nat} (h4 : op ≠ 4) : extV (errD op a b n lv lw V W) op a b n lv V W u = atV (errD op a b n lv lw V W) op a b lv V W u := by
  unfold extV atV atB tkV
  by_cases hE : errD op a b n lv lw V W = 0
  · rw [if_pos hE, if_neg h4, if_pos (decide_eq_true ⟨hE, h4⟩), Int.one_mul]
  · rw [if_neg hE, if_neg (by simp [hE])]
end Go.Proofs.YtnfddeoddjmpkabDoor.Di
