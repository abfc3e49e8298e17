/-
  Plain mathematics of DTable: the value at which the sum of the weights up to it passes a number.
-/
import Derived.Test.YtnfddeoddjmpkabDoorDBase
namespace Go.Proofs.YtnfddeoddjmpkabDoor.Di
def sumIf (U : Nat → Bool) (W : Nat → Int) : Nat → Int
  | 0 => 0
  | k + 1 => sumIf U W k + (if U k = true then W k else 0)
def ltB (V : Nat → Int) (v : Int) (i : Nat) : Bool := decide (V i < v)
def leB (V : Nat → Int) (v : Int) (i : Nat) : Bool := decide (V i ≤ v)
def TabIs (V W : Nat → Int) (n : Nat) (K v : Int) : Prop := sumIf (ltB V v) W n ≤ K ∧ K < sumIf (leB V v) W n
def tabP (V W : Nat → Int) (n : Nat) (K : Int) (i : Nat) : Bool := decide (sumIf (ltB V (V i)) W n ≤ K) && decide (K < sumIf (leB V (V i)) W n)
def tabV (V W : Nat → Int) (n : Nat) (K : Int) : Int := match (List.range n).find? (tabP V W n K) with
  | some i => V i
  | none => 0
theorem sumIf_mono {U U' : Nat → Bool} {W : Nat → Int} {n : Nat} (hW : ∀ i, i < n → 0 ≤ W i) (h : ∀ i, i < n → U i = true → U' i = true) : sumIf U W n ≤ sumIf U' W n := by
  induction n with
  | zero => exact Int.le_refl _
  | succ k ih =>
    have h1 := ih (fun i hi => hW i (by omega)) (fun i hi => h i (by omega))
    have h2 := hW k (by omega)
    have h3 := h k (by omega)
    show sumIf U W k + _ ≤ sumIf U' W k + _
    cases hu : U k
    · rw [if_neg (by decide)]
      cases hu' : U' k
      · rw [if_neg (by decide)]; omega
      · rw [if_pos rfl]; omega
    · rw [h3 hu, if_pos rfl]; omega
theorem sumIf_same {U U' : Nat → Bool} {W : Nat → Int} {n : Nat} (h : ∀ i, i < n → U i = U' i) : sumIf U W n = sumIf U' W n := by
  induction n with
  | zero => rfl
  | succ k ih =>
    show sumIf U W k + _ = sumIf U' W k + _
    rw [ih (fun i hi => h i (by omega)), h k (by omega)]
theorem sumIf_add {U U' : Nat → Bool} {W : Nat → Int} {n b : Nat} (hb : b < n) (hu : U b = false) (h : ∀ i, i < n → U' i = (U i || i == b)) : sumIf U' W n = sumIf U W n + W b := by
  induction n with
  | zero => omega
  | succ k ih =>
    show sumIf U' W k + _ = sumIf U W k + _ + _
    by_cases e : b = k
    · subst e
      have h1 : sumIf U' W b = sumIf U W b := sumIf_same fun i hi => by
        rw [h i (by omega), show (i == b) = false from by rw [beq_eq_false_iff_ne]; omega, Bool.or_false]
      rw [h1, h b (by omega), hu, beq_self_eq_true]
      simp
    · rw [ih (by omega) (fun i hi => h i (by omega)), h k (by omega), show (k == b) = false from by rw [beq_eq_false_iff_ne]; omega, Bool.or_false]
      omega
theorem sumIf_all {U : Nat → Bool} {W : Nat → Int} {n : Nat} (h : ∀ i, i < n → U i = true) : sumIf U W n = sumT W n := by
  induction n with
  | zero => rfl
  | succ k ih =>
    show sumIf U W k + _ = sumT W k + W k
    rw [ih (fun i hi => h i (by omega)), h k (by omega), if_pos rfl]
theorem sumIf_none {U : Nat → Bool} {W : Nat → Int} {n : Nat} (h : ∀ i, i < n → U i = false) : sumIf U W n = 0 := by
  induction n with
  | zero => rfl
  | succ k ih =>
    show sumIf U W k + _ = 0
    rw [ih (fun i hi => h i (by omega)), h k (by omega), if_neg (by decide)]; rfl
theorem tab_unique {V W : Nat → Int} {n : Nat} {K v v' : Int} (hW : ∀ i, i < n → 0 ≤ W i) (h : TabIs V W n K v) (h' : TabIs V W n K v') : v = v' := by
  have key : ∀ {x y : Int}, x < y → TabIs V W n K x → TabIs V W n K y → False := fun {x y} hxy hx hy => by
    have := sumIf_mono (U := leB V x) (U' := ltB V y) hW (fun i _ hi => by
      unfold leB at hi; unfold ltB
      have := of_decide_eq_true hi
      exact decide_eq_true (by omega))
    have h1 := hx.2
    have h2 := hy.1
    omega
  rcases Int.lt_trichotomy v v' with g | g | g
  · exact (key g h h').elim
  · exact g
  · exact (key g h' h).elim
theorem tab_eq {V W : Nat → Int} {n b : Nat} {K : Int} (hW : ∀ i, i < n → 0 ≤ W i) (hb : b < n) (h : TabIs V W n K (V b)) : tabV V W n K = V b := by
  unfold tabV
  cases hf : (List.range n).find? (tabP V W n K) with
  | none =>
    have := List.find?_eq_none.1 hf b (List.mem_range.2 hb)
    exact absurd (by unfold tabP; rw [decide_eq_true h.1, decide_eq_true h.2]; rfl) this
  | some i =>
    have hi := List.find?_some hf
    unfold tabP at hi
    rw [Bool.and_eq_true] at hi
    exact tab_unique hW ⟨of_decide_eq_true hi.1, of_decide_eq_true hi.2⟩ h
/-- The elements of U are taken, none of the others is less than b, none of them is more: b's value is the one. -/
theorem tab_taken {V W : Nat → Int} {n b : Nat} {K : Int} {U : Nat → Bool} (hW : ∀ i, i < n → 0 ≤ W i) (hb : b < n) (hu : U b = false) (h1 : ∀ i, i < n → V i < V b → U i = true) (h2 : ∀ i, i < n → U i = true → V i ≤ V b)
    (k1 : sumIf U W n ≤ K) (k2 : K < sumIf U W n + W b) : tabV V W n K = V b := by
  refine tab_eq hW hb ⟨?_, ?_⟩
  · exact Int.le_trans (sumIf_mono hW fun i hi h => h1 i hi (of_decide_eq_true h)) k1
  · refine Int.lt_of_lt_of_le k2 ?_
    rw [← sumIf_add (U' := fun i => U i || i == b) hb hu (fun _ _ => rfl)]
    refine sumIf_mono hW fun i hi h => ?_
    unfold leB
    rcases Bool.or_eq_true_iff.1 h with h | h
    · exact decide_eq_true (h2 i hi h)
    · rw [beq_iff_eq] at h; subst h; exact decide_eq_true (Int.le_refl _)
theorem sumT_bd {W : Nat → Int} {n : Nat} (h : ∀ i, i < n → 1 ≤ W i ∧ W i ≤ 1000) : (n : Int) ≤ sumT W n ∧ sumT W n ≤ 1000 * (n : Int) := by
  induction n with
  | zero => exact ⟨by show (0 : Int) ≤ 0; omega, by show (0 : Int) ≤ _; omega⟩
  | succ k ih =>
    have h1 := ih fun i hi => h i (by omega)
    have h2 := h k (by omega)
    show _ ≤ sumT W k + W k ∧ sumT W k + W k ≤ _
    omega
end Go.Proofs.YtnfddeoddjmpkabDoor.Di
