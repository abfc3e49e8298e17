/-
  The contract of package dist's Draw.
-/
import Derived.Test.YtnfddeoddjmpkabDoorDSingle
import Derived.Test.YtnfddeoddjmpkabDoorStNext
namespace Go.Proofs.YtnfddeoddjmpkabDoor.Di
open Go.RowKit
open St (nextU errS tri nextU_lt)
set_option maxHeartbeats 4000000
theorem six.far3 {w : World} {b g : Nat} {x0 x1 x2 x3 x4 x5 y0 y1 y2 : Value} (h : six w b x0 x1 x2 x3 x4 x5) (hne : b ≠ g) : six (((w.setCell ⟨g, 0, none⟩ y0).setCell ⟨g, 1, none⟩ y1).setCell ⟨g, 2, none⟩ y2) b x0 x1 x2 x3 x4 x5 := by
  obtain ⟨h0, h1, h2, h3, h4, h5, h6⟩ := h
  exact ⟨St.far3 h0 hne, St.far3 h1 hne, St.far3 h2 hne, St.far3 h3 hne, St.far3 h4 hne, St.far3 h5 hne, by simp [World.setCell]; exact h6⟩
/-- The sum of the values of i numbers from a position on. -/
def drawS (g : Nat → Int) (P : Nat) : Nat → Int
  | 0 => 0
  | i + 1 => drawS g P i + g (P + i)
theorem keep7 {w : World} {B C : Nat} {x0 x1 x2 x3 x4 x5 y0 y1 y2 : Value} (h : six w B x0 x1 x2 x3 x4 x5) (g : tri w C y0 y1 y2) : w.cell? ⟨B, 0, none⟩ = some x0 ∧ w.cell? ⟨B, 1, none⟩ = some x1 ∧ w.cell? ⟨B, 2, none⟩ = some x2 ∧ w.cell? ⟨B, 3, none⟩ = some x3 ∧ w.cell? ⟨B, 4, none⟩ = some x4 ∧ w.cell? ⟨B, 5, none⟩ = some x5 ∧ w.cell? ⟨C, 1, none⟩ = some y1 :=
  ⟨h.1, h.2.1, h.2.2.1, h.2.2.2.1, h.2.2.2.2.1, h.2.2.2.2.2.1, g.2.1⟩
end Go.Proofs.YtnfddeoddjmpkabDoor.Di
