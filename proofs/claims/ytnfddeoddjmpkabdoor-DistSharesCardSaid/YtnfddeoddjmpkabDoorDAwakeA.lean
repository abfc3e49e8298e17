/-
  awake answers yes in every world.
-/
import Derived.Test.YtnfddeoddjmpkabDoorDAwake
namespace Go.Proofs.YtnfddeoddjmpkabDoor.Di
open Go.RowKit
set_option maxHeartbeats 2000000
theorem at_is (op a b n : Int) (p : Option Addr) (lv c : Nat) (q : Option Addr) (lw f : Nat) (V W : Nat → Int) (u : Nat) (hu : u < 18446744073709551616) (w : World) (hV : Row w p lv V) (hW : Row w q lw W) (v : Int) (h : atV (errD op a b n lv lw V W) op a b lv V W u = v) (h2 : atB (errD op a b n lv lw V W) op = true) :
    Calls Tryd.prog 12 #[.agg #[.int .i64 op, .int .i64 a, .int .i64 b, .int .i64 n, .slice p lv c, .slice q lw f], .int .u64 u] w (Gives (.tuple #[.int .i64 v, .bool true]) w) := by
  have g := at_any op a b n p lv c q lw f V W u hu w hV hW
  rw [h, h2] at g
  exact g
theorem num9 : num 9 = ⟨#[57]⟩ := num_dig 9 (by decide)
theorem num2 : num 2 = ⟨#[50]⟩ := num_dig 2 (by decide)
theorem num1 : num 1 = ⟨#[49]⟩ := num_dig 1 (by decide)
theorem num3 : num 3 = ⟨#[51]⟩ := num_dig 3 (by decide)
theorem text_is : txtD (errD 3 0 0 0 2 2 VT WT) 3 0 0 0 2 VT WT = ⟨#[116, 97, 98, 108, 101, 32, 57, 58, 49, 32, 50, 58, 51]⟩ := by
  unfold txtD
  rw [if_pos (by decide +kernel)]
  show tbt VT WT 2 = _
  show (wTable ++ (sp ++ num 9 ++ col ++ num 1)) ++ (sp ++ num 2 ++ col ++ num 3) = _
  rw [num9, num1, num2, num3]
  rfl
theorem mean_is : meanO (errD 3 0 0 0 2 2 VT WT) 3 0 0 0 2 VT WT = some (15, 4) := by
  unfold meanO
  rw [if_pos (by decide +kernel)]
  show ofO (sumP VT WT 2) (sumT WT 2) = _
  rw [show sumP VT WT 2 = 15 from by decide +kernel, show sumT WT 2 = 4 from by decide +kernel]
  decide +kernel
theorem awake_any (w : World) (hE : Env w) : Calls Tryd.prog 11 #[] w (Gives (.bool true) w) := by
  have z := fun (w2 : World) => row_nil w2 Z0
  refine awake_walk w hE w.heap.size rfl (Lib.hid fun w2 _ => at_is 2 1 6 0 none 0 0 none 0 0 Z0 Z0 0 (by decide) w2 (z _) (z _) 1 (by decide +kernel) (by decide +kernel))
    (Lib.hid fun w2 _ => at_is 2 1 6 0 none 0 0 none 0 0 Z0 Z0 9223372036854775808 (by decide) w2 (z _) (z _) 4 (by decide +kernel) (by decide +kernel))
    (Lib.hid fun w2 _ => at_is 2 1 6 0 none 0 0 none 0 0 Z0 Z0 18446744073709551615 (by decide) w2 (z _) (z _) 6 (by decide +kernel) (by decide +kernel))
    (Lib.hid fun w2 h => at_is 3 0 0 0 _ 2 2 _ 2 2 VT WT 9223372036854775808 (by decide) w2 h.1 h.2.1 2 (by decide +kernel) (by decide +kernel))
    (Lib.hid fun w2 h => at_is 3 0 0 0 _ 2 2 _ 2 2 VT WT 18446744073709551615 (by decide) w2 h.1 h.2.1 9 (by decide +kernel) (by decide +kernel))
    (Lib.hid fun w2 _ => at_is 5 2 5 0 none 0 0 none 0 0 Z0 Z0 0 (by decide) w2 (z _) (z _) 1 (by decide +kernel) (by decide +kernel))
    (Lib.hid fun w2 _ => at_is 5 2 5 0 none 0 0 none 0 0 Z0 Z0 9223372036854775809 (by decide) w2 (z _) (z _) 2 (by decide +kernel) (by decide +kernel))
    (Lib.hid fun w2 _ => at_is 5 2 5 0 none 0 0 none 0 0 Z0 Z0 18446744073709551615 (by decide) w2 (z _) (z _) 5 (by decide +kernel) (by decide +kernel))
    (Lib.hid fun w2 h => ?_) (Lib.hid fun w2 h => ?_) (Lib.hid fun w2 _ => ?_) (Lib.hid fun w2 _ => ?_) (Lib.hid fun w2 _ => ?_) (Lib.hid fun w2 _ => ?_) (Lib.hid fun w2 _ => ?_)
  · have g := mean_any 3 0 0 0 _ 2 2 _ 2 2 VT WT w2 h.1 h.2.1
    rw [mean_is] at g
    exact g
  · have g := text_any 3 0 0 0 _ 2 2 _ 2 2 VT WT w2 h.2.2 h.1 h.2.1
    rw [text_is] at g
    exact g
  · have g := check_any 2 3 2 0 none 0 0 none 0 0 Z0 Z0 w2 (z _) (z _)
    rw [show errD 2 3 2 0 0 0 Z0 Z0 = 2 from by decide +kernel] at g
    exact g
  · have g := check_any 1 0 1 0 none 0 0 none 0 0 Z0 Z0 w2 (z _) (z _)
    rw [show errD 1 0 1 0 0 0 Z0 Z0 = 1 from by decide +kernel] at g
    exact g
  · have g := least_any 2 1 6 0 none 0 0 none 0 0 Z0 Z0 w2 (z _) (z _)
    rw [show lstV 2 1 6 0 0 0 Z0 Z0 = 1 from by decide +kernel] at g
    exact g
  · have g := most_any 2 1 6 0 none 0 0 none 0 0 Z0 Z0 w2 (z _) (z _)
    rw [show mstV 2 1 6 0 0 0 Z0 Z0 = 6 from by decide +kernel] at g
    exact g
  · have g := same_any 2 1 6 0 none 0 0 none 0 0 Z0 Z0 2 1 6 0 none 0 0 none 0 0 Z0 Z0 w2 (z _) (z _) (z _) (z _)
    rw [show sameD 2 1 6 0 0 0 Z0 Z0 2 1 6 0 0 0 Z0 Z0 = true from by decide +kernel] at g
    exact g
end Go.Proofs.YtnfddeoddjmpkabDoor.Di
