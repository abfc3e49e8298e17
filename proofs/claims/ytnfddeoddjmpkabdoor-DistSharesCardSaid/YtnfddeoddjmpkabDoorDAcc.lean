/-
  What an accepted distribution is; the values, and their bounds.
-/
import Derived.Test.YtnfddeoddjmpkabDoorDRefTab2
import Derived.Test.YtnfddeoddjmpkabDoorDRefGeom
import Derived.Test.YtnfddeoddjmpkabDoorDRefCheck2
namespace Go.Proofs.YtnfddeoddjmpkabDoor.Di
open Go.RowKit
open St (hiN hiN_lt)
set_option maxHeartbeats 2000000
def Acc (op a b n : Int) (lv lw : Nat) (V W : Nat → Int) : Prop :=
  (op = 1 ∧ 0 ≤ a ∧ a ≤ 1000000000) ∨ (op = 2 ∧ 0 ≤ a ∧ a ≤ b ∧ b ≤ 1000000000) ∨
  (op = 3 ∧ lw = lv ∧ 1 ≤ lv ∧ lv ≤ 20 ∧ (∀ i, i < lv → 0 ≤ V i ∧ V i ≤ 1000000000) ∧ (∀ i, i < lv → 1 ≤ W i ∧ W i ≤ 1000)) ∨
  (op = 4 ∧ 1 ≤ n ∧ n ≤ 20 ∧ 0 ≤ a ∧ a ≤ b ∧ b ≤ 1000000) ∨ (op = 5 ∧ 1 ≤ a ∧ a ≤ 1000 ∧ 1 ≤ b ∧ b ≤ 1000)
theorem inB_iff {lo x hi : Int} (h : inB lo x hi = true) : lo ≤ x ∧ x ≤ hi := by
  unfold inB at h
  simpa using h
theorem errW_zero {op : Int} {u r : Bool} {E : Int} (h : errW op u E r = 0) : u = true ∧ r = true ∧ (op = 3 → E = 0) := by
  unfold errW at h
  cases u
  · rw [if_neg (by decide)] at h; omega
  · rw [if_pos rfl] at h
    by_cases h3 : op = 3
    · rw [if_pos h3] at h
      by_cases hE : E = 0
      · rw [if_pos hE] at h
        cases r
        · rw [if_neg (by decide)] at h; omega
        · exact ⟨rfl, rfl, fun _ => hE⟩
      · rw [if_neg hE] at h; exact absurd h hE
    · rw [if_neg h3] at h
      cases r
      · rw [if_neg (by decide)] at h; omega
      · exact ⟨rfl, rfl, fun h => absurd h h3⟩
theorem lenE_zero {n m : Nat} (h : lenE n m = 0) : m = n ∧ 1 ≤ n ∧ n ≤ 20 := by
  unfold lenE at h
  by_cases e : n = m
  · rw [if_pos e] at h
    by_cases h0 : n = 0
    · rw [if_pos h0] at h; omega
    · rw [if_neg h0] at h
      by_cases h2 : 20 < n
      · rw [if_pos h2] at h; omega
      · exact ⟨e.symm, by omega, by omega⟩
  · rw [if_neg e] at h; omega
theorem acc_of {op a b n : Int} {lv lw : Nat} {V W : Nat → Int} (h : errD op a b n lv lw V W = 0) : Acc op a b n lv lw V W := by
  obtain ⟨hu, hr, h3⟩ := errW_zero h
  unfold unB at hu
  unfold rngB at hr
  by_cases o1 : op = 1
  · rw [if_pos o1] at hr; exact .inl ⟨o1, inB_iff hr⟩
  rw [if_neg o1] at hu hr
  by_cases o2 : op = 2
  · rw [if_pos o2, Bool.and_eq_true] at hr
    have := inB_iff hr.1
    exact .inr (.inl ⟨o2, this.1, this.2, of_decide_eq_true hr.2⟩)
  rw [if_neg o2] at hu hr
  by_cases o3 : op = 3
  · rw [if_pos o3, Bool.and_eq_true] at hr
    obtain ⟨e, e1, e2⟩ := lenE_zero (h3 o3)
    subst e
    exact .inr (.inr (.inl ⟨o3, rfl, e1, e2, fun i hi => allB_true hr.1 hi, fun i hi => allB_true hr.2 hi⟩))
  rw [if_neg o3] at hu hr
  by_cases o4 : op = 4
  · rw [if_pos o4, Bool.and_eq_true, Bool.and_eq_true] at hr
    obtain ⟨⟨r1, r2⟩, r3⟩ := hr
    have h1 := inB_iff r1
    have h2 := inB_iff r2
    exact .inr (.inr (.inr (.inl ⟨o4, h1.1, h1.2, h2.1, h2.2, of_decide_eq_true r3⟩)))
  rw [if_neg o4] at hu hr
  by_cases o5 : op = 5
  · rw [Bool.and_eq_true] at hr
    have h1 := inB_iff hr.1
    have h2 := inB_iff hr.2
    exact .inr (.inr (.inr (.inr ⟨o5, h1.1, h1.2, h2.1, h2.2⟩)))
  rw [if_neg o5] at hu
  cases hu
/-- The value of an accepted distribution for a random number (of one of the numbers of a sum). -/
def sglV (op a b : Int) (lv : Nat) (V W : Nat → Int) (u : Nat) : Int :=
  if op = 1 then a else if op = 3 then tblV V W lv u else if op = 5 then ((geoV a.toNat b.toNat u : Nat) : Int) else uniV a b u
theorem uniV_bd {a b : Int} {u : Nat} (hu : u < 18446744073709551616) (h : a ≤ b) : a ≤ uniV a b u ∧ uniV a b u ≤ b := by
  unfold uniV
  have := hiN_lt hu (n := (b - a + 1).toNat) (by omega)
  omega
theorem tabV_bd {V W : Nat → Int} {n : Nat} {K : Int} (h : ∀ i, i < n → 0 ≤ V i ∧ V i ≤ 1000000000) : 0 ≤ tabV V W n K ∧ tabV V W n K ≤ 1000000000 := by
  unfold tabV
  cases hf : (List.range n).find? (tabP V W n K) with
  | none => exact ⟨by show (0 : Int) ≤ 0; omega, by show (0 : Int) ≤ _; omega⟩
  | some i => exact h i (List.mem_range.1 (List.mem_of_find?_eq_some hf))
theorem geoR_bd (a v : Nat) : ∀ (m t k : Nat), k ≤ geoR a v m t k ∧ geoR a v m t k ≤ k + m
  | 0, _, k => ⟨Nat.le_refl _, Nat.le_refl _⟩
  | m + 1, t, k => by
    show k ≤ (if _ then _ else _) ∧ (if _ then _ else _) ≤ _
    by_cases h : t * (a - 1) / a ≤ v
    · rw [if_pos h]; omega
    · rw [if_neg h]; have := geoR_bd a v m (t * (a - 1) / a) (k + 1); omega
theorem geoV_bd {a lim u : Nat} (h : 1 ≤ lim) : 1 ≤ geoV a lim u ∧ geoV a lim u ≤ lim := by
  unfold geoV
  have := geoR_bd a (notU u) (lim - 1) 18446744073709551615 1
  omega
theorem sgl_bd {op a b n : Int} {lv lw : Nat} {V W : Nat → Int} {u : Nat} (hu : u < 18446744073709551616) (h : Acc op a b n lv lw V W) : 0 ≤ sglV op a b lv V W u ∧ sglV op a b lv V W u ≤ 1000000000 ∧ (op = 4 → sglV op a b lv V W u ≤ 1000000) := by
  unfold sglV
  rcases h with ⟨rfl, h⟩ | ⟨rfl, h⟩ | ⟨rfl, h1, h2, h3, h4, h5⟩ | ⟨rfl, h⟩ | ⟨rfl, h⟩
  · rw [if_pos rfl]; omega
  · rw [if_neg (by decide), if_neg (by decide), if_neg (by decide)]; have := uniV_bd hu h.2.1; omega
  · rw [if_neg (by decide), if_pos rfl]; have := tabV_bd (W := W) (K := ((hiN u (sumT W lv).toNat : Nat) : Int)) h4; unfold tblV; omega
  · rw [if_neg (by decide), if_neg (by decide), if_neg (by decide)]; have := uniV_bd hu h.2.2.2.1; omega
  · rw [if_neg (by decide), if_neg (by decide), if_pos rfl]; have := geoV_bd (a := a.toNat) (lim := b.toNat) (u := u) (by omega); omega
def tkV (op n : Int) : Int := if op = 4 then n else 1
theorem tk_bd {op a b n : Int} {lv lw : Nat} {V W : Nat → Int} (h : Acc op a b n lv lw V W) : 1 ≤ tkV op n ∧ tkV op n ≤ 20 := by
  unfold tkV
  rcases h with ⟨rfl, h⟩ | ⟨rfl, h⟩ | ⟨rfl, h⟩ | ⟨rfl, h⟩ | ⟨rfl, h⟩
  all_goals first | (rw [if_neg (by decide)]; omega) | (rw [if_pos rfl]; omega)
end Go.Proofs.YtnfddeoddjmpkabDoor.Di
