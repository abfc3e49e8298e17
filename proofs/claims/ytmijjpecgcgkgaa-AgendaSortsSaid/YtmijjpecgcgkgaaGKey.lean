/-
  The order of events, without the walks.
-/
import Derived.Test.YtmijjpecgcgkgaaGBase
namespace Go.Proofs.Ytmijjpecgcgkgaa.Ag
open Go.RowKit
set_option maxHeartbeats 1000000
theorem cmpI_eq (x y : Ev) : cmpI x y = if cmp1 x.t y.t = 0 then (if cmp1 x.p y.p = 0 then (if cmp1 x.f y.f = 0 then cmp1 x.s y.s else cmp1 x.f y.f) else cmp1 x.p y.p) else cmp1 x.t y.t := by
  have h0 : orF (cmpV x y) 1 = cmp1 x.t y.t := rfl
  have h1 : orF (cmpV x y) 2 = if cmp1 x.t y.t = 0 then cmp1 x.p y.p else cmp1 x.t y.t := rfl
  have h2 : orF (cmpV x y) 3 = if orF (cmpV x y) 2 = 0 then cmp1 x.f y.f else orF (cmpV x y) 2 := rfl
  have h3 : cmpI x y = if orF (cmpV x y) 3 = 0 then cmp1 x.s y.s else orF (cmpV x y) 3 := rfl
  rw [h3, h2, h1]
  generalize cmp1 x.t y.t = a
  generalize cmp1 x.p y.p = b
  generalize cmp1 x.f y.f = c
  generalize cmp1 x.s y.s = d
  by_cases ha : a = 0 <;> by_cases hb : b = 0 <;> by_cases hc : c = 0 <;> simp_all
theorem cmp1_lt {a b : Int} (h : a < b) : cmp1 a b = -1 := by unfold cmp1; rw [if_pos h]
theorem cmp1_gt {a b : Int} (h : b < a) : cmp1 a b = 1 := by unfold cmp1; rw [if_neg (by omega), if_pos h]
theorem cmp1_eq {a b : Int} (h : a = b) : cmp1 a b = 0 := by unfold cmp1; rw [if_neg (by omega), if_neg (by omega)]
theorem cmp1_zero {a b : Int} : cmp1 a b = 0 ↔ a = b := by
  constructor
  · intro h; unfold cmp1 at h; split at h
    · omega
    · split at h <;> omega
  · exact cmp1_eq
theorem cmp1_neg {a b : Int} : cmp1 a b < 0 ↔ a < b := by
  constructor
  · intro h; unfold cmp1 at h; split at h
    · assumption
    · split at h <;> omega
  · intro h; rw [cmp1_lt h]; decide
/-- a comes before b. -/
def Lt (x y : Ev) : Prop := x.t < y.t ∨ x.t = y.t ∧ (x.p < y.p ∨ x.p = y.p ∧ (x.f < y.f ∨ x.f = y.f ∧ x.s < y.s))
def Tie (x y : Ev) : Prop := x.t = y.t ∧ x.p = y.p ∧ x.f = y.f ∧ x.s = y.s
theorem ltB_iff {x y : Ev} : ltB x y = true ↔ Lt x y := by
  unfold ltB Lt
  rw [decide_eq_true_eq, cmpI_eq]
  have ht := @cmp1_zero x.t y.t
  have hp := @cmp1_zero x.p y.p
  have hf := @cmp1_zero x.f y.f
  have nt := @cmp1_neg x.t y.t
  have np := @cmp1_neg x.p y.p
  have nf := @cmp1_neg x.f y.f
  have ns := @cmp1_neg x.s y.s
  split
  · split
    · split
      · rw [ns]; omega
      · rw [nf]; omega
    · rw [np]; omega
  · rw [nt]; omega
theorem cmpI_zero {x y : Ev} : cmpI x y = 0 ↔ Tie x y := by
  unfold Tie
  rw [cmpI_eq]
  have ht := @cmp1_zero x.t y.t
  have hp := @cmp1_zero x.p y.p
  have hf := @cmp1_zero x.f y.f
  have hs := @cmp1_zero x.s y.s
  split
  · split
    · split
      · rw [hs]; omega
      · rw [hf]; omega
    · rw [hp]; omega
  · rw [ht]; omega
theorem ltB_false {x y : Ev} : ltB x y = false ↔ ¬ Lt x y := by
  rw [← ltB_iff]; simp
theorem Lt.trans {x y z : Ev} (h : Lt x y) (h2 : Lt y z) : Lt x z := by unfold Lt at *; omega
theorem Lt.irrefl {x : Ev} : ¬ Lt x x := by unfold Lt; omega
theorem Lt.total {x y : Ev} (h : ¬ Lt x y) (h2 : ¬ Tie x y) : Lt y x := by unfold Lt Tie at *; omega
end Go.Proofs.Ytmijjpecgcgkgaa.Ag
