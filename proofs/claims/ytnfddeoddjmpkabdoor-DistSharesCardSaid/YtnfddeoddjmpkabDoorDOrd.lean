/-
  An order of the places as a function; the weights of the first places; the world behind the making of the order.
-/
import Derived.Test.YtnfddeoddjmpkabDoorDStable
import Derived.Test.YtnfddeoddjmpkabDoorDUpper
import Derived.Laws.MakeOwn
namespace Go.Proofs.YtnfddeoddjmpkabDoor.Di
open Go.RowKit
set_option maxHeartbeats 1000000
structure Ord (n : Nat) (V : Nat → Int) (D : Nat → Nat) : Prop where
  lt : ∀ j, j < n → D j < n
  inj : ∀ i j, i < j → j < n → D i ≠ D j
  sur : ∀ i, i < n → ∃ j, j < n ∧ D j = i
  up : ∀ i j, i < j → j < n → V (D i) ≤ V (D j)
theorem Ordered.ord {m : Nat} {V : Nat → Int} {d : Array (Fin (m + 1))} (h : Ordered V d) : Ord (m + 1) V (fun j => d[j]!.val) := by
  refine ⟨fun j _ => (d[j]!).isLt, fun i j hij hj he => ?_, fun i hi => ?_, h.up⟩
  · have hn := h.nodup
    rw [List.Nodup, List.pairwise_iff_getElem] at hn
    have hs := h.size
    refine hn i j (by simp; omega) (by simp; omega) hij ?_
    rw [getElem!_pos d i (by omega), getElem!_pos d j (by omega)] at he
    simpa using Fin.ext he
  · have hm := h.all ⟨i, hi⟩
    obtain ⟨j, hj, e⟩ := List.getElem_of_mem hm
    have hs := h.size
    have hj' : j < d.size := by simpa using hj
    refine ⟨j, by omega, ?_⟩
    show (d[j]!).val = i
    rw [getElem!_pos d j hj']
    have : d[j] = ⟨i, hi⟩ := by simpa using e
    rw [this]
def usedBy (D : Nat → Nat) : Nat → Nat → Bool
  | 0, _ => false
  | j + 1, i => usedBy D j i || i == D j
theorem used_iff {D : Nat → Nat} {j i : Nat} : usedBy D j i = true ↔ ∃ x, x < j ∧ D x = i := by
  induction j with
  | zero =>
    constructor
    · intro h; exact absurd (show false = true from h) (by decide)
    · rintro ⟨x, h, _⟩; omega
  | succ k ih =>
    show (usedBy D k i || i == D k) = true ↔ _
    rw [Bool.or_eq_true, ih, beq_iff_eq]
    constructor
    · rintro (⟨x, hx, e⟩ | e)
      · exact ⟨x, by omega, e⟩
      · exact ⟨k, by omega, e.symm⟩
    · rintro ⟨x, hx, e⟩
      by_cases h : x = k
      · subst h; exact .inr e.symm
      · exact .inl ⟨x, by omega, e⟩
def cum (D : Nat → Nat) (W : Nat → Int) (n j : Nat) : Int := sumIf (usedBy D j) W n
theorem Ord.fresh {n : Nat} {V : Nat → Int} {D : Nat → Nat} (h : Ord n V D) {j : Nat} (hj : j < n) : usedBy D j (D j) = false := by
  cases hu : usedBy D j (D j)
  · rfl
  · obtain ⟨x, hx, e⟩ := used_iff.1 hu
    exact absurd e (h.inj x j hx hj)
theorem Ord.next {n : Nat} {V : Nat → Int} {D : Nat → Nat} (h : Ord n V D) (W : Nat → Int) {j : Nat} (hj : j < n) : cum D W n (j + 1) = cum D W n j + W (D j) :=
  sumIf_add (h.lt j hj) (h.fresh hj) (fun _ _ => rfl)
theorem Ord.whole {n : Nat} {V : Nat → Int} {D : Nat → Nat} (h : Ord n V D) (W : Nat → Int) : cum D W n n = sumT W n :=
  sumIf_all fun i hi => used_iff.2 (h.sur i hi)
theorem Ord.value {n : Nat} {V : Nat → Int} {D : Nat → Nat} (h : Ord n V D) {W : Nat → Int} (hW : ∀ i, i < n → 0 ≤ W i) {j : Nat} (hj : j < n) {K : Int} (k1 : cum D W n j ≤ K) (k2 : K < cum D W n j + W (D j)) : tabV V W n K = V (D j) := by
  refine tab_taken hW (h.lt j hj) (h.fresh hj) (fun i hi hlt => ?_) (fun i _ hu => ?_) k1 k2
  · obtain ⟨x, hx, e⟩ := h.sur i hi
    refine used_iff.2 ⟨x, ?_, e⟩
    rcases Nat.lt_trichotomy x j with g | g | g
    · exact g
    · subst g; rw [e] at hlt; omega
    · have := h.up j x g hx; rw [e] at this; omega
  · obtain ⟨x, hx, e⟩ := used_iff.1 hu
    have := h.up x j hx hj
    rw [e] at this; exact this
/-- The row of places while it is filled: the first k are filled. -/
def Fill (w : World) (n : Nat) (sv : Value) (k : Nat) (wr : World) : Prop :=
  (∀ j, j < n → wr.cell? ⟨w.heap.size + 1, j, none⟩ = some (.int .i64 ((if j < k then j else 0 : Nat) : Int)) ∧ wr.frozen? ⟨w.heap.size + 1, j, none⟩ = false) ∧ wr.cell? ⟨w.heap.size, 0, none⟩ = some sv ∧ Below w.heap.size w wr ∧ w.heap.size + 1 < wr.heap.size
theorem fill_start (w : World) (n : Nat) (sv : Value) (t t2 : TypeId) : Fill w n sv 0 ((w.alloc (.cells #[sv] t)).alloc (.cells (Array.replicate n (.int .i64 0)) t2)) := by
  have hz : (w.alloc (.cells #[sv] t)).heap.size = w.heap.size + 1 := by simp
  refine ⟨fun j hj => ⟨?_, ?_⟩, ?_, ?_, by simp⟩
  · rw [← hz]
    unfold World.cell?
    rw [heap_alloc_new]
    simp [hj]
  · rw [← hz]
    unfold World.frozen?
    rw [heap_alloc_new]
    simp
  · rw [Lib.cell?_alloc_some _ (show (w.alloc (.cells #[sv] t)).cell? ⟨w.heap.size, 0, none⟩ = some sv by simp)]
  · exact bl_alloc (bl_alloc (Below.refl _ _))
theorem fill_step {w wr : World} {n k : Nat} {sv : Value} (h : Fill w n sv k wr) (hk : k < n) : Fill w n sv (k + 1) (wr.setCell ⟨w.heap.size + 1, k, none⟩ (.int .i64 (k : Int))) := by
  obtain ⟨h1, h2, h3, h4⟩ := h
  refine ⟨fun j hj => ⟨?_, ?_⟩, ?_, bl_set h3 (by show _ ≤ w.heap.size + 1; omega) _, by simp [World.setCell]; exact h4⟩
  · by_cases e : j = k
    · subst e
      rw [if_pos (by omega)]
      have hc := (h1 j hj).1
      have hf := (h1 j hj).2
      go_simp
    · rw [World.cell?_setCell_other _ _ _ _ (fun e2 => e (by injection e2 with _ e3; first | exact e3 | exact e3.symm))]
      rw [(h1 j hj).1]
      congr 3
      by_cases g : j < k
      · rw [if_pos g, if_pos (by omega)]
      · rw [if_neg g, if_neg (by omega)]
  · have := (h1 j hj).2
    go_simp
  · rw [World.cell?_setCell_other _ _ _ _ (fun e2 => by injection e2 with e3 _; omega)]
    exact h2
/-- The row of places behind the sort. -/
def Laid (w : World) (n : Nat) (sv : Value) (D : Nat → Nat) (wr : World) : Prop :=
  (∀ j, j < n → wr.cell? ⟨w.heap.size + 1, j, none⟩ = some (.int .i64 ((D j : Nat) : Int))) ∧ wr.cell? ⟨w.heap.size, 0, none⟩ = some sv ∧ Below w.heap.size w wr
end Go.Proofs.YtnfddeoddjmpkabDoor.Di
