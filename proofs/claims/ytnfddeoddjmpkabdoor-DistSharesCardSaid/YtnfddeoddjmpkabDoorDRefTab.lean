/-
  The contract of the reference's tabled.
-/
import Derived.Test.YtnfddeoddjmpkabDoorDTableA
import Derived.Test.YtnfddeoddjmpkabDoorDCheck
namespace Go.Proofs.YtnfddeoddjmpkabDoor.Di
open Go.RowKit
open St (hiN hiN_lt)
set_option maxHeartbeats 4000000
def one (_ : Nat) : Int := 1
theorem one_le {U : Nat → Bool} {n : Nat} : sumIf U one n ≤ (n : Int) := by
  induction n with
  | zero => exact Int.le_refl _
  | succ k ih =>
    show sumIf U one k + _ ≤ _
    cases U k
    · rw [if_neg (by decide)]; omega
    · rw [if_pos rfl]; show _ + (1 : Int) ≤ _; omega
def put (U : Nat → Bool) (b i : Nat) : Bool := U i || i == b
theorem all_used {U : Nat → Bool} {n : Nat} (h : sumIf U one n = (n : Int)) {i : Nat} (hi : i < n) : U i = true := by
  cases hu : U i
  · have := sumIf_add (U := U) (U' := put U i) (W := one) hi hu (fun _ _ => rfl)
    have h2 := one_le (U := put U i) (n := n)
    rw [this, h] at h2
    have : one i = 1 := rfl
    omega
  · rfl
/-- The marks of what has been taken, and the distribution's own cells. -/
def Marks (w : World) (n : Nat) (vv ww : Value) (U : Nat → Bool) (wr : World) : Prop :=
  (∀ j, j < n → wr.cell? ⟨w.heap.size + 1, j, none⟩ = some (.bool (U j)) ∧ wr.frozen? ⟨w.heap.size + 1, j, none⟩ = false) ∧ wr.cell? ⟨w.heap.size, 4, none⟩ = some vv ∧ wr.cell? ⟨w.heap.size, 5, none⟩ = some ww ∧ Below w.heap.size w wr ∧ w.heap.size + 1 < wr.heap.size
theorem marks_draw {w wr : World} {n : Nat} {vv ww : Value} {U : Nat → Bool} (h : Marks w n vv ww U wr) (t : Nat) : Marks w n vv ww U (wr.drewN t) :=
  ⟨h.1, h.2.1, h.2.2.1, bl_drewN h.2.2.2.1, h.2.2.2.2⟩
theorem marks_start (w : World) (n : Nat) (x0 x1 x2 x3 vv ww : Value) (t t2 : TypeId) : Marks w n vv ww (fun _ => false) ((w.alloc (.cells #[x0, x1, x2, x3, vv, ww] t)).alloc (.cells (Array.replicate n (.bool false)) t2)) := by
  have hz : (w.alloc (.cells #[x0, x1, x2, x3, vv, ww] t)).heap.size = w.heap.size + 1 := by simp
  have hs := (six.new (w := w) (x0 := x0) (x1 := x1) (x2 := x2) (x3 := x3) (x4 := vv) (x5 := ww) (t := t)).alloc (o := .cells (Array.replicate n (.bool false)) t2)
  refine ⟨fun j hj => ⟨?_, ?_⟩, hs.2.2.2.2.1, hs.2.2.2.2.2.1, bl_alloc (bl_alloc (Below.refl _ _)), by simp⟩
  · rw [← hz]
    unfold World.cell?
    rw [heap_alloc_new]
    simp [hj]
  · rw [← hz]
    unfold World.frozen?
    rw [heap_alloc_new]
    simp
theorem marks_step {w wr : World} {n k : Nat} {vv ww : Value} {U : Nat → Bool} (h : Marks w n vv ww U wr) (hk : k < n) : Marks w n vv ww (put U k) (wr.setCell ⟨w.heap.size + 1, k, none⟩ (.bool true)) := by
  obtain ⟨h1, h2, h3, h4, h5⟩ := h
  refine ⟨fun j hj => ⟨?_, ?_⟩, ?_, ?_, bl_set h4 (Nat.le_succ _) _, by simp [World.setCell]; exact h5⟩
  · by_cases e : j = k
    · subst e
      have hc := (h1 j hj).1
      have hf := (h1 j hj).2
      have hp : put U j j = true := by unfold put; rw [beq_self_eq_true, Bool.or_true]
      rw [hp]
      go_simp
    · rw [World.cell?_setCell_other _ _ _ _ (fun e2 => e (by injection e2 with _ e3; first | exact e3 | exact e3.symm))]
      have hp : put U k j = U j := by unfold put; rw [show (j == k) = false from by rw [beq_eq_false_iff_ne]; exact e, Bool.or_false]
      rw [hp]
      exact (h1 j hj).1
  · have := (h1 j hj).2
    go_simp
  · rw [World.cell?_setCell_other _ _ _ _ (fun e2 => by injection e2 with e3 _; omega)]; exact h2
  · rw [World.cell?_setCell_other _ _ _ _ (fun e2 => by injection e2 with e3 _; omega)]; exact h3
/-- Of the first i the best that has not been taken. -/
def Best (U : Nat → Bool) (V : Nat → Int) (i : Nat) (bb : Int) : Prop := (bb = -1 ∧ ∀ x, x < i → U x = true) ∨ ∃ y : Nat, bb = (y : Int) ∧ y < i ∧ U y = false ∧ ∀ x, x < i → U x = false → V y ≤ V x
theorem best_skip {U : Nat → Bool} {V : Nat → Int} {i : Nat} {bb : Int} (h : Best U V i bb) (hu : U i = true) : Best U V (i + 1) bb := by
  rcases h with ⟨h1, h2⟩ | ⟨y, h1, h2, h3, h4⟩
  · refine .inl ⟨h1, fun x hx => ?_⟩
    by_cases e : x = i
    · subst e; exact hu
    · exact h2 x (by omega)
  · refine .inr ⟨y, h1, by omega, h3, fun x hx hx2 => ?_⟩
    by_cases e : x = i
    · subst e; rw [hu] at hx2; cases hx2
    · exact h4 x (by omega) hx2
theorem best_first {U : Nat → Bool} {V : Nat → Int} {i : Nat} (h : ∀ x, x < i → U x = true) (hu : U i = false) : Best U V (i + 1) (i : Int) := by
  refine .inr ⟨i, rfl, by omega, hu, fun x hx hx2 => ?_⟩
  by_cases e : x = i
  · subst e; exact Int.le_refl _
  · rw [h x (by omega)] at hx2; cases hx2
theorem best_turn {U : Nat → Bool} {V : Nat → Int} {i y : Nat} (h : ∀ x, x < i → U x = false → V y ≤ V x) (hu : U i = false) (hl : V i < V y) : Best U V (i + 1) (i : Int) := by
  refine .inr ⟨i, rfl, by omega, hu, fun x hx hx2 => ?_⟩
  by_cases e : x = i
  · subst e; exact Int.le_refl _
  · have := h x (by omega) hx2; omega
theorem best_stay {U : Nat → Bool} {V : Nat → Int} {i y : Nat} (hy : y < i) (hu : U y = false) (h : ∀ x, x < i → U x = false → V y ≤ V x) (hl : ¬ V i < V y) : Best U V (i + 1) (y : Int) := by
  refine .inr ⟨y, rfl, by omega, hu, fun x hx hx2 => ?_⟩
  by_cases e : x = i
  · subst e; omega
  · exact h x (by omega) hx2
/-- What has been taken is no more than what has not. -/
def Lower (U : Nat → Bool) (V : Nat → Int) (n : Nat) : Prop := ∀ c i, c < n → i < n → U c = true → U i = false → V c ≤ V i
theorem lower_step {U : Nat → Bool} {V : Nat → Int} {n y : Nat} (h : Lower U V n) (hy : y < n) (hu : U y = false) (hb : ∀ x, x < n → U x = false → V y ≤ V x) : Lower (put U y) V n := by
  intro c i hc hi h1 h2
  unfold put at h1 h2
  rw [Bool.or_eq_false_iff] at h2
  rcases Bool.or_eq_true_iff.1 h1 with g | g
  · exact h c i hc hi g h2.1
  · rw [beq_iff_eq] at g; subst g; exact hb i hi h2.1
theorem take_value {U : Nat → Bool} {V W : Nat → Int} {n y : Nat} {K : Int} (hW : ∀ i, i < n → 0 ≤ W i) (hy : y < n) (hu : U y = false) (hb : ∀ x, x < n → U x = false → V y ≤ V x) (hl : Lower U V n) (k1 : sumIf U W n ≤ K) (k2 : K < sumIf U W n + W y) : tabV V W n K = V y := by
  refine tab_taken hW hy hu (fun i hi hlt => ?_) (fun i hi hui => hl i y hi hy hui hu) k1 k2
  cases h : U i
  · have := hb i hi h; omega
  · rfl
end Go.Proofs.YtnfddeoddjmpkabDoor.Di
