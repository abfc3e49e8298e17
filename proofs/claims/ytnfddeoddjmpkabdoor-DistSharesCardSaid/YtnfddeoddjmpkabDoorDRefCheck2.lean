/-
  The contract of the reference's Check.
-/
import Derived.Test.YtnfddeoddjmpkabDoorDRefTable
namespace Go.Proofs.YtnfddeoddjmpkabDoor.Di
open Go.RowKit
set_option maxHeartbeats 2000000
theorem err_no {op a b n : Int} {lv lw : Nat} {V W : Nat → Int} (h : unB op a b n lv lw = false) : errD op a b n lv lw V W = 1 := by unfold errD errW; rw [h]; rfl
theorem err_yes {op a b n : Int} {lv lw : Nat} {V W : Nat → Int} (h : unB op a b n lv lw = true) (h3 : op ≠ 3) : errD op a b n lv lw V W = bE (rngB op a b n lv lw V W) := by unfold errD errW; rw [h, if_pos rfl, if_neg h3]; rfl
theorem err_three {a b n : Int} {lv lw : Nat} {V W : Nat → Int} (h : unB 3 a b n lv lw = true) : errD 3 a b n lv lw V W = tabE lv lw V W := by unfold errD errW; rw [h, if_pos rfl, if_pos rfl]; rfl
end Go.Proofs.YtnfddeoddjmpkabDoor.Di
