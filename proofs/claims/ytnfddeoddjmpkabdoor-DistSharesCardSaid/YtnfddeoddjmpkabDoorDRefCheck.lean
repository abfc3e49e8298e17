/-
  The contracts of the reference's unused, table, Check.
-/
import Derived.Test.YtnfddeoddjmpkabDoorDCheck2
namespace Go.Proofs.YtnfddeoddjmpkabDoor.Di
open Go.RowKit
set_option maxHeartbeats 2000000
theorem len0 {m : Nat} (h : m ≠ 0) : ((m : Int) == 0) = false := by rw [beq_eq_false_iff_ne]; omega
/-- Both lists empty, or not: as the walk asks it. -/
theorem lists2 (m l : Nat) : (m = 0 ∧ l = 0) ∨ (m = 0 ∧ l ≠ 0 ∧ ((l : Int) == 0) = false) ∨ (m ≠ 0 ∧ ((m : Int) == 0) = false) := by
  by_cases h : m = 0
  · by_cases h2 : l = 0
    · exact .inl ⟨h, h2⟩
    · exact .inr (.inl ⟨h, h2, len0 h2⟩)
  · exact .inr (.inr ⟨h, len0 h⟩)
end Go.Proofs.YtnfddeoddjmpkabDoor.Di
