/-
  The contracts of the reference's operations: Sub, Mul.
-/
import Derived.Test.YteapicfobammjaaDoorRefOps
namespace Go.Proofs.YteapicfobammjaaDoor
open Go.RowKit
set_option maxHeartbeats 8000000
theorem rmul_made {a b c d : Int} (h1 : okF a b = true) (h2 : okF c d = true) : mulO a b c d =
    cut (sg (negB a c) (absN a * absN c / Nat.gcd (absN a * absN c) (absN b * absN d))) (absN b * absN d / Nat.gcd (absN a * absN c) (absN b * absN d)) := by
  have hb := (okF_true h1).1
  have hd := (okF_true h2).1
  rw [← made_eq _ _ _ (Nat.mul_ne_zero (by unfold absN; omega) (by unfold absN; omega)), sg_mul_sign]
  show both a b c d _ = _
  rw [both_yes h1 h2, qv_mul]
  rfl
end Go.Proofs.YteapicfobammjaaDoor
