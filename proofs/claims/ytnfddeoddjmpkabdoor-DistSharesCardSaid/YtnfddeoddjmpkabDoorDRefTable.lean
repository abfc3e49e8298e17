/-
  The contracts of the reference's table and Check.
-/
import Derived.Test.YtnfddeoddjmpkabDoorDRefCheck
namespace Go.Proofs.YtnfddeoddjmpkabDoor.Di
open Go.RowKit
set_option maxHeartbeats 2000000
def bE (x : Bool) : Int := if x = true then 0 else 2
def tabE (lv lw : Nat) (V W : Nat → Int) : Int := if lenE lv lw = 0 then bE (allB 0 1000000000 V lv && allB 1 1000 W lw) else lenE lv lw
theorem both_no1 {V W : Nat → Int} {k n : Nat} (h : k < n) (h2 : inB 0 (V k) 1000000000 = false) : (allB 0 1000000000 V n && allB 1 1000 W n) = false := by rw [← allB_end h h2]; rfl
theorem both_no2 {V W : Nat → Int} {k n : Nat} (h : k < n) (h2 : inB 1 (W k) 1000 = false) : (allB 0 1000000000 V n && allB 1 1000 W n) = false := by rw [← allB_end (V := W) h h2, Bool.and_false]
theorem tab_len (n m : Nat) (V W : Nat → Int) (h : lenE n m ≠ 0) : tabE n m V W = lenE n m := by unfold tabE; rw [if_neg h]
end Go.Proofs.YtnfddeoddjmpkabDoor.Di
