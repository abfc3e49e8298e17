/-
  Words for worlds, blocks of three cells (a stream in memory), and the contracts of the small functions: Mix, Check, valid, hasNext, ends.
-/
import Derived.Test.YtnfddeoddjmpkabDoorStMath
import Derived.WalkSpells
import Derived.WalkLawsBesides
import Derived.Test.YtnfddeoddjmpkabDoorRows
import Derived.LoopTactic
import Derived.RegionTactic
import Derived.Deep.QuietTactic
import Derived.BigQuiet
import Derived.Outline
import Derived.Deep.DeepCutAuto
import Derived.Deep.CutBlock
import Derived.Deep.RegionHeld3
namespace Go.Proofs.YtnfddeoddjmpkabDoor.St
open Go.RowKit
set_option maxHeartbeats 400000
theorem ret_int {k : IntKind} {a b : Int} (h : a = b) : Ending.returned (.int k a) = .returned (.int k b) := by rw [h]
theorem ret_bool {a b : Bool} (h : a = b) : Ending.returned (.bool a) = .returned (.bool b) := by rw [h]
def Gives (v : Value) (w : World) (e : Ending) (w' : World) : Prop := e = .returned v ∧ Below w.heap.size w w'
theorem below_drewN {B : Nat} {a w : World} (h : Below B a w) (n : Nat) : Below B a (w.drewN n) := ⟨h.os, h.tape, h.output, h.size, h.block⟩
section
variable {a w w2 : World}
theorem bl_alloc {o : Obj} (h : Below a.heap.size a w) : Below a.heap.size a (w.alloc o) := h.alloc h.size o
theorem bl_drewN {n : Nat} (h : Below a.heap.size a w) : Below a.heap.size a (w.drewN n) := below_drewN h n
theorem bl_drew (h : Below a.heap.size a w) : Below a.heap.size a w.drew := h.drew
theorem bl_set {p : Addr} (h : Below a.heap.size a w) (hp : a.heap.size ≤ p.block) (u : Value) : Below a.heap.size a (w.setCell p u) := h.setCell hp u
theorem bl_call (h : Below a.heap.size a w) (hb : Below w.heap.size w w2) : Below a.heap.size a w2 := h.trans (hb.mono h.size)
theorem bcell {W w1 : World} (hb : Below W.heap.size W w1) : (∀ b o, b < W.heap.size → w1.cell? ⟨b, o, none⟩ = W.cell? ⟨b, o, none⟩) ∧ (∀ b o, b < W.heap.size → w1.frozen? ⟨b, o, none⟩ = W.frozen? ⟨b, o, none⟩) :=
  ⟨fun b o h => hb.cell (p := ⟨b, o, none⟩) h, fun b o h => hb.frozen (p := ⟨b, o, none⟩) h⟩
end
/-- A block of three cells that may be written. -/
def tri (w : World) (b : Nat) (x y z : Value) : Prop :=
  w.cell? ⟨b, 0, none⟩ = some x ∧ w.cell? ⟨b, 1, none⟩ = some y ∧ w.cell? ⟨b, 2, none⟩ = some z ∧ w.frozen? ⟨b, 0, none⟩ = false ∧ w.frozen? ⟨b, 1, none⟩ = false ∧ w.frozen? ⟨b, 2, none⟩ = false ∧ b < w.heap.size
section
variable {w w2 : World} {b : Nat} {x y z : Value}
theorem tri.call (h : tri w b x y z) (hb : Below w.heap.size w w2) : tri w2 b x y z := by
  obtain ⟨h1, h2, h3, h4, h5, h6, h7⟩ := h
  exact ⟨(hb.cell (p := ⟨b, 0, none⟩) h7).trans h1, (hb.cell (p := ⟨b, 1, none⟩) h7).trans h2, (hb.cell (p := ⟨b, 2, none⟩) h7).trans h3,
    (hb.frozen (p := ⟨b, 0, none⟩) h7).trans h4, (hb.frozen (p := ⟨b, 1, none⟩) h7).trans h5, (hb.frozen (p := ⟨b, 2, none⟩) h7).trans h6, Nat.lt_of_lt_of_le h7 hb.size⟩
theorem tri.on (hb : Below w.heap.size w w2) (h : tri w b x y z) : tri w2 b x y z := h.call hb
theorem tri.drew (h : tri w b x y z) : tri w.drew b x y z := h
theorem tri.drewN (h : tri w b x y z) (n : Nat) : tri (w.drewN n) b x y z := h
theorem tri.alloc {o : Obj} (h : tri w b x y z) : tri (w.alloc o) b x y z := h.call ((Below.refl _ _).alloc (Nat.le_refl _) o)
theorem tri.new {t : TypeId} : tri (w.alloc (.cells #[x, y, z] t)) w.heap.size x y z := by
  refine ⟨?_, ?_, ?_, ?_, ?_, ?_, ?_⟩ <;> first | (go_simp; done) | (simp; done) | (simp; omega)
theorem tri.set3 {x2 y2 z2 : Value} (h : tri w b x y z) : tri (((w.setCell ⟨b, 0, none⟩ x2).setCell ⟨b, 1, none⟩ y2).setCell ⟨b, 2, none⟩ z2) b x2 y2 z2 := by
  obtain ⟨h1, h2, h3, h4, h5, h6, h7⟩ := h
  refine ⟨?_, ?_, ?_, ?_, ?_, ?_, by simp [World.setCell]; exact h7⟩ <;> go_simp
theorem far3 {g o : Nat} {v x2 y2 z2 : Value} (h : w.cell? ⟨b, o, none⟩ = some v) (hne : b ≠ g) : (((w.setCell ⟨g, 0, none⟩ x2).setCell ⟨g, 1, none⟩ y2).setCell ⟨g, 2, none⟩ z2).cell? ⟨b, o, none⟩ = some v := by
  have hn : ∀ i, (⟨b, o, none⟩ : Addr) ≠ ⟨g, i, none⟩ := fun i e => hne (by injection e)
  rw [World.cell?_setCell_other _ _ _ _ (fun e => hn 2 (by first | exact e | exact e.symm)), World.cell?_setCell_other _ _ _ _ (fun e => hn 1 (by first | exact e | exact e.symm)), World.cell?_setCell_other _ _ _ _ (fun e => hn 0 (by first | exact e | exact e.symm))]
  exact h
theorem tri.far {g : Nat} {x2 y2 z2 : Value} (h : tri w b x y z) (hne : b ≠ g) : tri (((w.setCell ⟨g, 0, none⟩ x2).setCell ⟨g, 1, none⟩ y2).setCell ⟨g, 2, none⟩ z2) b x y z := by
  obtain ⟨h1, h2, h3, h4, h5, h6, h7⟩ := h
  refine ⟨far3 h1 hne, far3 h2 hne, far3 h3 hne, ?_, ?_, ?_, by simp [World.setCell]; exact h7⟩ <;> go_simp
end
theorem step_a (x : Nat) (hx : x < 18446744073709551616) : IntKind.u64.wrap (bits .xor .u64 (x : Int) ((x : Int) / 1073741824) * 13787848793156543929) = ((stepN 1073741824 13787848793156543929 x : Nat) : Int) := mixStep_u64 x 1073741824 13787848793156543929 hx
theorem step_b (x : Nat) (hx : x < 18446744073709551616) : IntKind.u64.wrap (bits .xor .u64 (x : Int) ((x : Int) / 134217728) * 10723151780598845931) = ((stepN 134217728 10723151780598845931 x : Nat) : Int) := mixStep_u64 x 134217728 10723151780598845931 hx
theorem step_c (x : Nat) (hx : x < 18446744073709551616) : bits .xor .u64 (x : Int) ((x : Int) / 2147483648) = ((x ^^^ x / 2147483648 : Nat) : Int) := xorShift_u64 x 2147483648 hx
end Go.Proofs.YtnfddeoddjmpkabDoor.St
