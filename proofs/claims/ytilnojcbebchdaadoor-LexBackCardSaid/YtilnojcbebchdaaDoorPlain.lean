/-
  The contracts of package num's integer functions and of the reference's: what each call returns, and that it leaves memory alone.
-/
import Derived.Test.YtilnojcbebchdaaDoorMath
import Derived.WalkSpells
import Derived.Lib.Hide
import Derived.WalkLawsBesides
namespace Go.Proofs.YtilnojcbebchdaaDoor
open Go.RowKit
set_option maxHeartbeats 400000
theorem in_any (n : Int) (w : World) : Calls Tryd.prog 53 #[.int .i64 n] w fun e w' => e = .returned (.bool (inB n)) ∧ w = w' := by
  rcases Int.lt_or_le 1000000000000 n with h | h
  · rw [inB_no (Or.inr h)]
    go_enter Tryd.func53, Tryd.ntmps53
    go_wp2
    go_ret
    exact ⟨ret_bool (by simp; try omega), rfl⟩
  · rcases Int.lt_or_le n (-1000000000000) with h' | h'
    · rw [inB_no (Or.inl h')]
      go_enter Tryd.func53, Tryd.ntmps53
      go_wp2
      go_ret
      exact ⟨ret_bool (by simp; try omega), rfl⟩
    · rw [inB_yes h' h]
      go_enter Tryd.func53, Tryd.ntmps53
      go_wp2
      go_ret
      exact ⟨ret_bool (by simp; try omega), rfl⟩
end Go.Proofs.YtilnojcbebchdaaDoor
