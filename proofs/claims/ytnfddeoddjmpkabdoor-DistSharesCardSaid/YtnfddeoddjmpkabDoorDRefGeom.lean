/-
  The contract of the reference's geometric.
-/
import Derived.Test.YtnfddeoddjmpkabDoorDGeom
namespace Go.Proofs.YtnfddeoddjmpkabDoor.Di
open Go.RowKit
set_option maxHeartbeats 1000000
theorem geo_sub {t a' q r : Nat} (e : t = q * (a' + 1) + r) (hr : r < a' + 1) : t * a' / (a' + 1) = if r = 0 then t - q else t - (q + 1) := by
  have hq : q ≤ t := by rw [e, Nat.mul_add]; omega
  obtain ⟨X, eX⟩ : ∃ X, t = q + X := ⟨t - q, by omega⟩
  have e2 : t * a' + r = X * (a' + 1) := by
    have h1 : t * (a' + 1) = q * (a' + 1) + X * (a' + 1) := by rw [← Nat.add_mul, ← eX]
    have h2 : t * (a' + 1) = t * a' + t := by rw [Nat.mul_add, Nat.mul_one]
    omega
  have hX : t - q = X := by omega
  by_cases h0 : r = 0
  · rw [if_pos h0, hX]
    rw [show t * a' = X * (a' + 1) by omega]
    exact Nat.mul_div_cancel X (by omega)
  · rw [if_neg h0]
    have hX1 : 0 < X := by
      rcases Nat.eq_zero_or_pos X with h | h
      · rw [h, Nat.zero_mul] at e2; omega
      · exact h
    obtain ⟨Y, rfl⟩ : ∃ Y, X = Y + 1 := ⟨X - 1, by omega⟩
    rw [show t - (q + 1) = Y by omega]
    have h3 : (Y + 1) * (a' + 1) = Y * (a' + 1) + (a' + 1) := by rw [Nat.add_mul, Nat.one_mul]
    refine Nat.div_eq_of_lt_le (by omega) ?_
    rw [h3]; omega
theorem nat_bd {q t : Nat} (h : q ≤ t) (ht : is64 t) : is64 q := by unfold is64 at *; omega
end Go.Proofs.YtnfddeoddjmpkabDoor.Di
