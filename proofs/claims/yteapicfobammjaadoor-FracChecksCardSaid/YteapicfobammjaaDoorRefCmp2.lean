/-
  The contract of the reference's Cmp.
-/
import Derived.Test.YteapicfobammjaaDoorRefCmp
namespace Go.Proofs.YteapicfobammjaaDoor
open Go.RowKit
set_option maxHeartbeats 1000000
theorem keep22 {w : World} {p q : Nat} {x y u v : Value} (h : two w p x y) (k : two w q u v) : w.cell? ⟨p, 0, none⟩ = some x ∧ w.cell? ⟨p, 1, none⟩ = some y ∧ w.cell? ⟨q, 0, none⟩ = some u ∧ w.cell? ⟨q, 1, none⟩ = some v := ⟨h.1, h.2.1, k.1, k.2.1⟩
theorem two.far3 {w : World} {g b : Nat} {x y z u v : Value} (h : two w b u v) (hne : b ≠ g) : two (((w.setCell ⟨g, 0, none⟩ x).setCell ⟨g, 1, none⟩ y).setCell ⟨g, 2, none⟩ z) b u v := by
  obtain ⟨h1, h2, h3, h4, h5⟩ := h
  refine ⟨Go.Proofs.YteapicfobammjaaDoor.far3 h1 hne, Go.Proofs.YteapicfobammjaaDoor.far3 h2 hne, ?_, ?_, by simp [World.setCell]; exact h5⟩ <;> go_simp
end Go.Proofs.YteapicfobammjaaDoor
