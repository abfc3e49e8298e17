/-
  The contracts of the reference's operations: usual; what the sign of a difference says.
-/
import Derived.Test.YteapicfobammjaaDoorRefOps2
namespace Go.Proofs.YteapicfobammjaaDoor
open Go.RowKit
set_option maxHeartbeats 8000000
theorem triW.new {w : World} {x y z : Value} {t : TypeId} : triW (w.alloc (.cells #[x, y, z] t)) w.heap.size x y z := (by first | (refine ⟨⟨?_, ?_, ?_, ?_⟩, ?_, ?_, ?_⟩ <;> first | (go_simp; done) | (simp; done) | (simp; omega)))
theorem triW.set3 {w : World} {g : Nat} {x y z x2 y2 z2 : Value} (h : triW w g x y z) : triW (((w.setCell ⟨g, 0, none⟩ x2).setCell ⟨g, 1, none⟩ y2).setCell ⟨g, 2, none⟩ z2) g x2 y2 z2 := by
  obtain ⟨⟨h0, h1, h2, h3⟩, h4, h5, h6⟩ := h
  refine ⟨⟨?_, ?_, ?_, by simp [World.setCell]; exact h3⟩, ?_, ?_, ?_⟩ <;> go_simp
theorem cmp_signs {P Q : Int} {m : Bool} {z : Nat} (h : sg m z = P - Q) : (z = 0 → cmpZ P Q = 0) ∧ (z ≠ 0 → m = true → cmpZ P Q = -1) ∧ (z ≠ 0 → m = false → cmpZ P Q = 1) := by
  unfold sg at h
  unfold cmpZ
  refine ⟨fun hz => ?_, fun hz hm => ?_, fun hz hm => ?_⟩
  · subst hz
    have : P - Q = 0 := by rw [← h]; split <;> simp
    split <;> first | omega | (split <;> omega)
  · subst hm
    simp at h
    split <;> first | omega | (split <;> omega)
  · subst hm
    simp at h
    split <;> first | omega | (split <;> omega)
end Go.Proofs.YteapicfobammjaaDoor
