/-
  The statements DistValues, DistDraws, DistSteps, walked.
-/
import Derived.Test.YtnfddeoddjmpkabDoorDAwakeA
import Derived.Test.YtnfddeoddjmpkabDoorDRefDraw2
namespace Go.Proofs.YtnfddeoddjmpkabDoor.Di
open Go.RowKit
open St (nextU errS tri nextU_lt)
set_option maxHeartbeats 8000000
def shB (lv lw : Nat) : Bool := decide (lv ≤ 100) && decide (lw ≤ 100)
theorem short_any (op a b n : Int) (p : Option Addr) (lv c : Nat) (q : Option Addr) (lw f : Nat) (w : World) : Calls Tryd.prog 9 #[.agg #[.int .i64 op, .int .i64 a, .int .i64 b, .int .i64 n, .slice p lv c, .slice q lw f]] w (Gives (.bool (shB lv lw)) w) := by
  unfold shB
  by_cases h : lv ≤ 100
  · have h1 : decide ((lv : Int) ≤ 100) = true := decide_eq_true (by omega)
    by_cases h2 : lw ≤ 100
    · have h3 : decide ((lw : Int) ≤ 100) = true := decide_eq_true (by omega)
      rw [decide_eq_true h, decide_eq_true h2]
      clear h h2
      go_enter Tryd.func9, Tryd.ntmps9
      go_wp2_with fail
      go_ret
      exact ⟨rfl, by (repeat (first | (with_reducible exact Below.refl _ _) | (with_reducible assumption) | (with_reducible apply bl_alloc) | (with_reducible apply bl_drewN) | (with_reducible apply bl_drew) | (with_reducible refine bl_set ?_ (by first | (simp; done) | (simp; omega)) _) | (with_reducible refine bl_call ?_ (by assumption))))⟩
    · have h3 : decide ((lw : Int) ≤ 100) = false := decide_eq_false (by omega)
      rw [decide_eq_true h, decide_eq_false h2]
      clear h h2
      go_enter Tryd.func9, Tryd.ntmps9
      go_wp2_with fail
      go_ret
      exact ⟨rfl, by (repeat (first | (with_reducible exact Below.refl _ _) | (with_reducible assumption) | (with_reducible apply bl_alloc) | (with_reducible apply bl_drewN) | (with_reducible apply bl_drew) | (with_reducible refine bl_set ?_ (by first | (simp; done) | (simp; omega)) _) | (with_reducible refine bl_call ?_ (by assumption))))⟩
  · have h1 : decide ((lv : Int) ≤ 100) = false := decide_eq_false (by omega)
    rw [decide_eq_false h, Bool.false_and]
    clear h
    go_enter Tryd.func9, Tryd.ntmps9
    go_wp2_with fail
    go_ret
    exact ⟨rfl, by (repeat (first | (with_reducible exact Below.refl _ _) | (with_reducible assumption) | (with_reducible apply bl_alloc) | (with_reducible apply bl_drewN) | (with_reducible apply bl_drew) | (with_reducible refine bl_set ?_ (by first | (simp; done) | (simp; omega)) _) | (with_reducible refine bl_call ?_ (by assumption))))⟩
end Go.Proofs.YtnfddeoddjmpkabDoor.Di
