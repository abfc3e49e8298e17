/-
  The contracts of Check, valid, hasNext, ends, and of the reference's Check.
-/
import Derived.Test.YtnfddeoddjmpkabDoorStBase
namespace Go.Proofs.YtnfddeoddjmpkabDoor.St
open Go.RowKit
set_option maxHeartbeats 400000
def okS (p : Int) : Bool := decide (0 ≤ p ∧ p ≤ 1000000000000)
def errS (p : Int) : Int := if okS p then 0 else 2
def hasS (p : Int) : Bool := decide (0 ≤ p ∧ p < 1000000000000)
theorem okS_yes {p : Int} (h : 0 ≤ p) (h1 : p ≤ 1000000000000) : okS p = true := by unfold okS; exact decide_eq_true ⟨h, h1⟩
theorem okS_no {p : Int} (h : p < 0 ∨ 1000000000000 < p) : okS p = false := by unfold okS; exact decide_eq_false (by omega)
theorem okS_true {p : Int} (h : okS p = true) : 0 ≤ p ∧ p ≤ 1000000000000 := by unfold okS at h; exact of_decide_eq_true h
theorem okS_false {p : Int} (h : okS p = false) : p < 0 ∨ 1000000000000 < p := by unfold okS at h; have := of_decide_eq_false h; omega
theorem hasS_true {p : Int} (h : hasS p = true) : 0 ≤ p ∧ p < 1000000000000 := by unfold hasS at h; exact of_decide_eq_true h
theorem hasS_false {p : Int} (h : hasS p = false) : p < 0 ∨ 1000000000000 ≤ p := by unfold hasS at h; have := of_decide_eq_false h; omega
theorem errS_no {p : Int} (h : okS p = false) : errS p = 2 := by unfold errS; rw [h]; rfl
theorem errS_yes {p : Int} (h : okS p = true) : errS p = 0 := by unfold errS; rw [h]; rfl
end Go.Proofs.YtnfddeoddjmpkabDoor.St
