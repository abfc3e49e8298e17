/-
  Plain definitions and facts about the integers that package num computes with: clipping, the quotient rounded down, and their bounds. Nothing of the program stands here.
-/
import Derived.Test.YtilnojcbebchdaaDoorRows
import Derived.WalkKit
namespace Go.Proofs.YtilnojcbebchdaaDoor

def clipZ (n : Int) : Int := if 1000000000000 < n then 1000000000000 else if n < -1000000000000 then -1000000000000 else n
theorem clipZ_lo (n : Int) : -1000000000000 ≤ clipZ n := by unfold clipZ; split <;> (try split) <;> omega
theorem clipZ_hi (n : Int) : clipZ n ≤ 1000000000000 := by unfold clipZ; split <;> (try split) <;> omega
theorem clipZ_id (n : Int) (h0 : -1000000000000 ≤ n) (h1 : n ≤ 1000000000000) : clipZ n = n := by unfold clipZ; rw [if_neg (by omega), if_neg (by omega)]
theorem clipZ_up (n : Int) (h : 1000000000000 < n) : clipZ n = 1000000000000 := by unfold clipZ; rw [if_pos h]
theorem clipZ_dn (n : Int) (h : n < -1000000000000) : clipZ n = -1000000000000 := by unfold clipZ; rw [if_neg (by omega), if_pos h]
theorem clipZ_clipZ (n : Int) : clipZ (clipZ n) = clipZ n := clipZ_id _ (clipZ_lo n) (clipZ_hi n)
def inB (n : Int) : Bool := decide (-1000000000000 ≤ n ∧ n ≤ 1000000000000)
theorem inB_yes {n : Int} (h0 : -1000000000000 ≤ n) (h1 : n ≤ 1000000000000) : inB n = true := by unfold inB; simp; omega
theorem inB_no {n : Int} (h : n < -1000000000000 ∨ 1000000000000 < n) : inB n = false := by unfold inB; simp; omega
theorem inB_true {n : Int} (h : inB n = true) : -1000000000000 ≤ n ∧ n ≤ 1000000000000 := by unfold inB at h; simpa using h
theorem inB_false {n : Int} (h : inB n = false) : n < -1000000000000 ∨ 1000000000000 < n := by unfold inB at h; simp at h; omega
def absZ (n : Int) : Int := if n < 0 then -n else n
theorem absZ_neg {n : Int} (h : n < 0) : absZ n = -n := by unfold absZ; rw [if_pos h]
theorem absZ_pos {n : Int} (h : 0 ≤ n) : absZ n = n := by unfold absZ; rw [if_neg (by omega)]
theorem absZ_nonneg (n : Int) : 0 ≤ absZ n := by unfold absZ; split <;> omega
theorem absZ_hi (n : Int) (h0 : -1000000000000 ≤ n) (h1 : n ≤ 1000000000000) : absZ n ≤ 1000000000000 := by unfold absZ; split <;> omega
theorem absZ_zero (n : Int) : absZ n = 0 ↔ n = 0 := by unfold absZ; split <;> omega
def addZ (a b : Int) : Int := clipZ (clipZ a + clipZ b)
def mulZ (a b : Int) : Int := clipZ (clipZ a * clipZ b)
def divZ (a b : Int) : Int := (clipZ a).fdiv (clipZ b)
def modZ (a b : Int) : Int := (clipZ a).fmod (clipZ b)
theorem fdiv_low {x y : Int} (hy : y ≠ 0) (hs : x < 0 ∧ 0 ≤ y ∨ 0 ≤ x ∧ y < 0) (hr : x.tmod y ≠ 0) : x.fdiv y = x.tdiv y - 1 := by
  rw [Int.fdiv_eq_tdiv, if_neg (fun h => hr (Int.dvd_iff_tmod_eq_zero.1 h))]
  rcases hs with ⟨h1, h2⟩ | ⟨h1, h2⟩
  · rw [if_neg (by omega), if_pos h2, Int.sign_eq_one_of_pos (by omega)]
  · rw [if_pos h1, if_neg (by omega)]
theorem fdiv_same {x y : Int} (h : x.tmod y = 0 ∨ (x < 0 ∧ y < 0 ∨ 0 ≤ x ∧ 0 ≤ y)) : x.fdiv y = x.tdiv y := by
  rw [Int.fdiv_eq_tdiv]
  by_cases hd : y ∣ x
  · rw [if_pos hd]; omega
  · rw [if_neg hd]
    rcases h with h | ⟨h1, h2⟩ | ⟨h1, h2⟩
    · exact absurd (Int.dvd_iff_tmod_eq_zero.2 h) hd
    · rw [if_neg (by omega), if_neg (by omega), Int.sign_eq_neg_one_of_neg h2]; omega
    · rw [if_pos h1, if_pos h2]; omega
theorem tdiv_lo {x : Int} (y : Int) (h0 : -1000000000000 ≤ x) (h1 : x ≤ 1000000000000) : -1000000000000 ≤ x.tdiv y := by
  have := Int.natAbs_tdiv_le_natAbs x y; omega
theorem tdiv_hi {x : Int} (y : Int) (h0 : -1000000000000 ≤ x) (h1 : x ≤ 1000000000000) : x.tdiv y ≤ 1000000000000 := by
  have := Int.natAbs_tdiv_le_natAbs x y; omega
theorem mul_fdiv (x y : Int) : x - y * x.fdiv y = x.fmod y := (Int.fmod_def x y).symm
theorem fmod_between {x y : Int} (hy : y ≠ 0) : 0 < y ∧ 0 ≤ x.fmod y ∧ x.fmod y < y ∨ y < 0 ∧ y < x.fmod y ∧ x.fmod y ≤ 0 := by
  rcases Int.lt_or_le 0 y with h | h
  · refine Or.inl ⟨h, ?_, Int.fmod_lt_of_pos x h⟩
    rw [Int.fmod_eq_emod_of_nonneg x (by omega)]; exact Int.emod_nonneg x hy
  · have hn : 0 < -y := by omega
    have e : x.fmod y = -((-x).fmod (-y)) := by rw [Int.neg_fmod_neg]; omega
    have a := Int.fmod_lt_of_pos (-x) hn
    have b : 0 ≤ (-x).fmod (-y) := by rw [Int.fmod_eq_emod_of_nonneg (-x) (by omega)]; exact Int.emod_nonneg (-x) (by omega)
    exact Or.inr ⟨by omega, by omega, by omega⟩
theorem abs_prod (x y : Int) : (x < 0 ∧ y < 0 ∨ 0 ≤ x ∧ 0 ≤ y) ∧ absZ y * absZ x = x * y ∧ 0 ≤ x * y ∨ (x < 0 ∧ 0 ≤ y ∨ 0 ≤ x ∧ y < 0) ∧ absZ y * absZ x = -(x * y) ∧ x * y ≤ 0 := by
  rcases Int.lt_or_le x 0 with hx | hx <;> rcases Int.lt_or_le y 0 with hy | hy
  · rw [absZ_neg hx, absZ_neg hy, Int.neg_mul_neg, Int.mul_comm y x]
    exact Or.inl ⟨by omega, rfl, Int.mul_nonneg_of_nonpos_of_nonpos (by omega) (by omega)⟩
  · rw [absZ_neg hx, absZ_pos hy, Int.mul_neg, Int.mul_comm y x]
    have := Int.mul_nonneg (a := -x) (b := y) (by omega) hy
    rw [Int.neg_mul] at this
    exact Or.inr ⟨by omega, rfl, by omega⟩
  · rw [absZ_pos hx, absZ_neg hy, Int.neg_mul, Int.mul_comm y x]
    have := Int.mul_nonneg (a := x) (b := -y) hx (by omega)
    rw [Int.mul_neg] at this
    exact Or.inr ⟨by omega, rfl, by omega⟩
  · rw [absZ_pos hx, absZ_pos hy, Int.mul_comm y x]
    exact Or.inl ⟨by omega, rfl, Int.mul_nonneg hx hy⟩
theorem modZ_in (a b : Int) : -1000000000000 ≤ modZ a b ∧ modZ a b ≤ 1000000000000 := by
  unfold modZ
  have x0 := clipZ_lo a
  have x1 := clipZ_hi a
  have y0 := clipZ_lo b
  have y1 := clipZ_hi b
  by_cases hy : clipZ b = 0
  · rw [hy, Int.fmod_zero]; exact ⟨x0, x1⟩
  · rcases fmod_between (x := clipZ a) hy with h | h <;> omega
theorem mul_in {x y : Int} (hx : x ≠ 0) (h : absZ y ≤ 1000000000000 / absZ x) : -1000000000000 ≤ x * y ∧ x * y ≤ 1000000000000 := by
  have h0 : 0 < absZ x := by have := absZ_nonneg x; have := absZ_zero x; omega
  rw [Int.le_ediv_iff_mul_le h0] at h
  rcases abs_prod x y with ⟨_, e, n⟩ | ⟨_, e, n⟩ <;> rw [e] at h <;> omega
theorem mul_out {x y : Int} (hx : x ≠ 0) (h : 1000000000000 / absZ x < absZ y) : (x < 0 ∧ y < 0 ∨ 0 ≤ x ∧ 0 ≤ y) ∧ 1000000000000 < x * y ∨ (x < 0 ∧ 0 ≤ y ∨ 0 ≤ x ∧ y < 0) ∧ x * y < -1000000000000 := by
  have h0 : 0 < absZ x := by have := absZ_nonneg x; have := absZ_zero x; omega
  have h := Int.lt_mul_of_ediv_lt h0 h
  rcases abs_prod x y with ⟨s, e, n⟩ | ⟨s, e, n⟩ <;> rw [e] at h
  · exact Or.inl ⟨s, h⟩
  · exact Or.inr ⟨s, by omega⟩
theorem ret_int {k : IntKind} {a b : Int} (h : a = b) : Ending.returned (.int k a) = .returned (.int k b) := by rw [h]
theorem ret_bool {a b : Bool} (h : a = b) : Ending.returned (.bool a) = .returned (.bool b) := by rw [h]
theorem addZ_comm (a b : Int) : addZ b a = addZ a b := by unfold addZ; rw [Int.add_comm]
theorem mulZ_comm (a b : Int) : mulZ b a = mulZ a b := by unfold mulZ; rw [Int.mul_comm]
theorem divZ_in (a b : Int) : -1000000000000 ≤ divZ a b ∧ divZ a b ≤ 1000000000000 := by
  unfold divZ
  have x0 := clipZ_lo a
  have x1 := clipZ_hi a
  have pos : ∀ x y : Int, -1000000000000 ≤ x → x ≤ 1000000000000 → 0 < y → -1000000000000 ≤ x.fdiv y ∧ x.fdiv y ≤ 1000000000000 := by
    intro x y h0 h1 hy
    rw [Int.fdiv_eq_ediv_of_nonneg x (by omega)]
    constructor
    · exact (Int.le_ediv_iff_mul_le hy).2 (by omega)
    · have := Int.ediv_lt_of_lt_mul (a := x) (b := 1000000000001) hy (by omega)
      omega
  generalize clipZ a = x at *
  generalize clipZ b = y at *
  rcases Int.lt_trichotomy y 0 with hy | hy | hy
  · have := pos (-x) (-y) (by omega) (by omega) (by omega)
    rwa [Int.neg_fdiv_neg] at this
  · subst hy; rw [Int.fdiv_zero]; omega
  · exact pos x y x0 x1 hy
end Go.Proofs.YtilnojcbebchdaaDoor
