/-
  The contracts of package frac's small functions: magnitude, negative, gcd, fraction, Valid.
-/
import Derived.Test.YtonlmnlpofgccaaGreatMath
import Derived.WalkSpells
import Derived.Lib.Hide
import Derived.WalkLawsBesides
import Derived.LoopTactic
import Derived.RegionTactic
import Derived.Deep.QuietTactic
import Derived.BigQuiet
import Derived.Outline
import Derived.Deep.DeepCutAuto
import Derived.Deep.CutBlock
import Derived.Deep.RegionHeld3
namespace Go.Proofs.YtonlmnlpofgccaaGreat
open Go.RowKit
set_option maxHeartbeats 400000
theorem ret_int {k : IntKind} {a b : Int} (h : a = b) : Ending.returned (.int k a) = .returned (.int k b) := by rw [h]
theorem ret_bool {a b : Bool} (h : a = b) : Ending.returned (.bool a) = .returned (.bool b) := by rw [h]
def absN (n : Int) : Nat := n.natAbs
theorem absN_le {n : Int} (h0 : -9223372036854775808 ≤ n) (h1 : n ≤ 9223372036854775807) : absN n ≤ 9223372036854775808 := by unfold absN; omega
def negB (a b : Int) : Bool := decide (a < 0) != decide (b < 0)
def Quiet (v : Value) (w : World) (e : Ending) (w' : World) : Prop := e = .returned v ∧ ∃ n, w' = w.drewN n
theorem cut_yes {n : Int} {d : Nat} (h : n.natAbs ≤ 4611686018427387904 ∧ d ≤ 1000000000000000) : cut n d = some (n, (d : Int)) := by unfold cut; rw [if_pos h]
theorem cut_no {n : Int} {d : Nat} (h : ¬ (n.natAbs ≤ 4611686018427387904 ∧ d ≤ 1000000000000000)) : cut n d = none := by unfold cut; rw [if_neg h]
def Gives (v : Value) (w : World) (e : Ending) (w' : World) : Prop := e = .returned v ∧ Below w.heap.size w w'
section
variable {P : Program} {f : FuncId} {args : Array Value} {w : World} {a n : Nat} {v : Value}
theorem quiet_left (h : Calls P f args (w.drewN n) fun e w' => e = .returned v ∧ w.drewN n = w') : Calls P f args (w.drewN n) fun e w'' => e = .returned v ∧ ∃ m, w'' = w.drewN m :=
  h.mono fun _ _ ⟨he, hm⟩ => ⟨he, n, hm.symm⟩
theorem quiet_add_left (h : Calls P f args (w.drewN (a + n)) fun e w' => e = .returned v ∧ w.drewN (a + n) = w') : Calls P f args (w.drewN (a + n)) fun e w'' => e = .returned v ∧ ∃ m, w'' = w.drewN (a + m) :=
  h.mono fun _ _ ⟨he, hm⟩ => ⟨he, n, hm.symm⟩
theorem quiet_sum (h : Calls P f args (w.drewN n) (Quiet v (w.drewN n))) : Calls P f args (w.drewN n) fun e w'' => e = .returned v ∧ ∃ m, w'' = w.drewN m :=
  h.mono fun _ _ ⟨he, m, hm⟩ => ⟨he, n + m, by rw [hm, World.drewN_drewN]⟩
theorem quiet_add_sum (h : Calls P f args (w.drewN (a + n)) (Quiet v (w.drewN (a + n)))) : Calls P f args (w.drewN (a + n)) fun e w'' => e = .returned v ∧ ∃ m, w'' = w.drewN (a + m) :=
  h.mono fun _ _ ⟨he, m, hm⟩ => ⟨he, n + m, by rw [hm, World.drewN_drewN, Nat.add_assoc]⟩
end
theorem below_drewN {B : Nat} {a w : World} (h : Below B a w) (n : Nat) : Below B a (w.drewN n) := ⟨h.os, h.tape, h.output, h.size, h.block⟩
section
variable {a w w2 : World}
theorem bl_alloc {o : Obj} (h : Below a.heap.size a w) : Below a.heap.size a (w.alloc o) := h.alloc h.size o
theorem bl_drewN {n : Nat} (h : Below a.heap.size a w) : Below a.heap.size a (w.drewN n) := below_drewN h n
theorem bl_drew (h : Below a.heap.size a w) : Below a.heap.size a w.drew := h.drew
theorem bl_set {p : Addr} (h : Below a.heap.size a w) (hp : a.heap.size ≤ p.block) (u : Value) : Below a.heap.size a (w.setCell p u) := h.setCell hp u
theorem bl_call (h : Below a.heap.size a w) (hb : Below w.heap.size w w2) : Below a.heap.size a w2 := h.trans (hb.mono h.size)
theorem bcell {W w1 : World} (hb : Below W.heap.size W w1) : (∀ b o, b < W.heap.size → w1.cell? ⟨b, o, none⟩ = W.cell? ⟨b, o, none⟩) ∧ (∀ b o, b < W.heap.size → w1.frozen? ⟨b, o, none⟩ = W.frozen? ⟨b, o, none⟩) :=
  ⟨fun b o h => hb.cell (p := ⟨b, o, none⟩) h, fun b o h => hb.frozen (p := ⟨b, o, none⟩) h⟩
end
/-- A block of two cells that may be written. -/
def two (w : World) (b : Nat) (x y : Value) : Prop := w.cell? ⟨b, 0, none⟩ = some x ∧ w.cell? ⟨b, 1, none⟩ = some y ∧ w.frozen? ⟨b, 0, none⟩ = false ∧ w.frozen? ⟨b, 1, none⟩ = false ∧ b < w.heap.size
theorem two.call {w w2 : World} {b : Nat} {x y : Value} (h : two w b x y) (hb : Below w.heap.size w w2) : two w2 b x y := by
  obtain ⟨h1, h2, h3, h4, h5⟩ := h
  exact ⟨(hb.cell (p := ⟨b, 0, none⟩) h5).trans h1, (hb.cell (p := ⟨b, 1, none⟩) h5).trans h2, (hb.frozen (p := ⟨b, 0, none⟩) h5).trans h3, (hb.frozen (p := ⟨b, 1, none⟩) h5).trans h4, Nat.lt_of_lt_of_le h5 hb.size⟩
theorem two.on {w w2 : World} {b : Nat} {x y : Value} (hb : Below w.heap.size w w2) (h : two w b x y) : two w2 b x y := h.call hb
theorem two.drew {w : World} {b : Nat} {x y : Value} (h : two w b x y) : two w.drew b x y := h
theorem two.drewN {w : World} {b : Nat} {x y : Value} (h : two w b x y) (n : Nat) : two (w.drewN n) b x y := h
theorem two.alloc {w : World} {b : Nat} {x y : Value} {o : Obj} (h : two w b x y) : two (w.alloc o) b x y := h.call ((Below.refl _ _).alloc (Nat.le_refl _) o)
theorem keep_alloc {w : World} {b o : Nat} {v : Value} {x : Obj} (h : w.cell? ⟨b, o, none⟩ = some v) (hb : b < w.heap.size) : (w.alloc x).cell? ⟨b, o, none⟩ = some v :=
  (World.cell?_alloc_lt w x ⟨b, o, none⟩ hb).trans h
theorem two.new {w : World} {x y : Value} {t : TypeId} : two (w.alloc (.cells #[x, y] t)) w.heap.size x y := by
  refine ⟨?_, ?_, ?_, ?_, ?_⟩ <;> first | (go_simp; done) | (simp; done) | (simp; omega)
theorem far2 {w : World} {g b o : Nat} {x y v : Value} (h : w.cell? ⟨b, o, none⟩ = some v) (hne : b ≠ g) : ((w.setCell ⟨g, 0, none⟩ x).setCell ⟨g, 1, none⟩ y).cell? ⟨b, o, none⟩ = some v := by
  rw [World.cell?_setCell_other _ _ _ _ (fun e => hne (by injection e with e; first | exact e | exact e.symm)), World.cell?_setCell_other _ _ _ _ (fun e => hne (by injection e with e; first | exact e | exact e.symm))]
  exact h
theorem two.far {w : World} {g b : Nat} {x y u v : Value} (h : two w b u v) (hne : b ≠ g) : two ((w.setCell ⟨g, 0, none⟩ x).setCell ⟨g, 1, none⟩ y) b u v := by
  obtain ⟨h1, h2, h3, h4, h5⟩ := h
  refine ⟨far2 h1 hne, far2 h2 hne, ?_, ?_, by simp [World.setCell]; exact h5⟩
  · go_simp
  · go_simp
theorem two.set2 {w : World} {g : Nat} {x y u v : Value} (h : two w g u v) : two ((w.setCell ⟨g, 0, none⟩ x).setCell ⟨g, 1, none⟩ y) g x y := by
  obtain ⟨h1, h2, h3, h4, h5⟩ := h
  refine ⟨?_, ?_, ?_, ?_, by simp [World.setCell]; exact h5⟩
  · go_simp
  · go_simp
  · go_simp
  · go_simp
def inR (n d : Int) : Prop := 1 ≤ d ∧ d ≤ 1000000000000000 ∧ -4611686018427387904 ≤ n ∧ n ≤ 4611686018427387904
theorem okF_out {n d : Int} (h : ¬ inR n d) : okF n d = false := by
  cases e : okF n d
  · rfl
  · have := okF_true e; exact absurd ⟨this.1, this.2.1, this.2.2.1, this.2.2.2.1⟩ h
theorem okF_in {n d : Int} (h : inR n d) : okF n d = (((Nat.gcd (absN n) (absN d) : Nat) : Int) == 1) := by
  unfold okF absN
  obtain ⟨h1, h2, h3, h4⟩ := h
  rw [Bool.eq_iff_iff, decide_eq_true_eq, beq_iff_eq]
  constructor
  · intro e; omega
  · intro e; exact ⟨h1, h2, h3, h4, by omega⟩
end Go.Proofs.YtonlmnlpofgccaaGreat
