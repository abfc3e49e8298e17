/-
  The statement FracOrders, walked.
-/
import Derived.Test.YtnfddeoddjmpkabDoorAwake
namespace Go.Proofs.YtnfddeoddjmpkabDoor
open Go.RowKit
set_option maxHeartbeats 3000000
/-- Three fractions among the arguments. -/
structure Three (w : World) (p : Nat) (a b c d m n : Int) : Prop where
  h : two w p (.int .i64 a) (.int .i64 b) ∧ two w (p + 1) (.int .i64 c) (.int .i64 d) ∧ two w (p + 1 + 1) (.int .i64 m) (.int .i64 n)
section
variable {w w2 : World} {p : Nat} {a b c d m n : Int}
theorem Three.on (hb : Below w.heap.size w w2) (k : Three w p a b c d m n) : Three w2 p a b c d m n := ⟨k.h.1.on hb, k.h.2.1.on hb, k.h.2.2.on hb⟩
theorem Three.drew (k : Three w p a b c d m n) : Three w.drew p a b c d m n := ⟨k.h.1.drew, k.h.2.1.drew, k.h.2.2.drew⟩
theorem Three.alloc {o : Obj} (k : Three w p a b c d m n) : Three (w.alloc o) p a b c d m n := ⟨k.h.1.alloc, k.h.2.1.alloc, k.h.2.2.alloc⟩
theorem Three.keep (k : Three w p a b c d m n) : w.cell? ⟨p, 0, none⟩ = some (.int .i64 a) ∧ w.cell? ⟨p, 1, none⟩ = some (.int .i64 b) ∧ w.cell? ⟨p + 1, 0, none⟩ = some (.int .i64 c) ∧ w.cell? ⟨p + 1, 1, none⟩ = some (.int .i64 d) ∧
    w.cell? ⟨p + 1 + 1, 0, none⟩ = some (.int .i64 m) ∧ w.cell? ⟨p + 1 + 1, 1, none⟩ = some (.int .i64 n) :=
  ⟨k.h.1.1, k.h.1.2.1, k.h.2.1.1, k.h.2.1.2.1, k.h.2.2.1, k.h.2.2.2.1⟩
end
theorem new3 {w : World} {x y : Value} {t : TypeId} {o o2 : Obj} : two (((w.alloc o).alloc o2).alloc (.cells #[x, y] t)) (w.heap.size + 1 + 1) x y := by
  have h := new2 (w := w.alloc o) (x := x) (y := y) (t := t) (o := o2)
  rwa [show (w.alloc o).heap.size = w.heap.size + 1 from by simp] at h
theorem Three.new {w : World} {a b c d m n : Int} {t t2 t3 : TypeId} : Three (((w.alloc (.cells #[.int .i64 a, .int .i64 b] t)).alloc (.cells #[.int .i64 c, .int .i64 d] t2)).alloc (.cells #[.int .i64 m, .int .i64 n] t3)) w.heap.size a b c d m n :=
  ⟨two.new.alloc.alloc, new2.alloc, new3⟩
/-- What stands where the ways of a test meet: the answer no, the arguments, nothing below changed. -/
def Met (w : World) (a b c d m n : Int) (v : Value) (wr : World) : Prop := v = .bool false ∧ Three wr w.heap.size a b c d m n ∧ Below w.heap.size w wr
theorem way3 (x y z : Int) (h : x ≤ 0 → y ≤ 0 → z ≤ 0) : (decide (x ≤ 0) = false) ∨ (decide (x ≤ 0) = true ∧ decide (y ≤ 0) = false) ∨ (decide (x ≤ 0) = true ∧ decide (y ≤ 0) = true ∧ decide (0 < z) = false) := by
  simp; omega
end Go.Proofs.YtnfddeoddjmpkabDoor
