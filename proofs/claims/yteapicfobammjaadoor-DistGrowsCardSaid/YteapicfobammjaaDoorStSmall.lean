/-
  The contracts of Check, valid, hasNext, ends, and of the reference's Check.
-/
import Derived.Test.YteapicfobammjaaDoorStBase
namespace Go.Proofs.YteapicfobammjaaDoor.St
open Go.RowKit
set_option maxHeartbeats 400000
def okS (p : Int) : Bool := decide (0 ≤ p ∧ p ≤ 1000000000000)
def errS (p : Int) : Int := if okS p then 0 else 2
def hasS (p : Int) : Bool := decide (0 ≤ p ∧ p < 1000000000000)
theorem okS_yes {p : Int} (h : 0 ≤ p) (h1 : p ≤ 1000000000000) : okS p = true := by unfold okS; exact decide_eq_true ⟨h, h1⟩
theorem okS_no {p : Int} (h : p < 0 ∨ 1000000000000 < p) : okS p = false := by unfold okS; exact decide_eq_false (by omega)
theorem okS_true {p : Int} (h : okS p = true) : 0 ≤ p ∧ p ≤ 1000000000000 := by unfold okS at h; exact of_decide_eq_true h
theorem okS_false {p : Int} (h : okS p = false) : p < 0 ∨ 1000000000000 < p := by unfold okS at h; have := of_decide_eq_false h; omega
theorem hasS_true {p : Int} (h : hasS p = true) : 0 ≤ p ∧ p < 1000000000000 := by unfold hasS at h; exact of_decide_eq_true h
theorem hasS_false {p : Int} (h : hasS p = false) : p < 0 ∨ 1000000000000 ≤ p := by unfold hasS at h; have := of_decide_eq_false h; omega
theorem check_any (k : Nat) (p : Int) (b : Bool) (w : World) : Calls Tryd.prog 77 #[.agg #[.int .u64 k, .int .i64 p, .bool b]] w (Gives (.int .i64 (errS p)) w) := by
  rcases (show p < 0 ∨ (0 ≤ p ∧ 1000000000000 < p) ∨ (0 ≤ p ∧ p ≤ 1000000000000) by omega) with h | ⟨h, h'⟩ | ⟨h, h'⟩
  · rw [show errS p = 2 by unfold errS; rw [okS_no (Or.inl h)]; rfl]
    go_enter Tryd.func77, Tryd.ntmps77
    go_wp2
    go_ret
    exact ⟨rfl, by repeat (first | exact Below.refl _ _ | assumption | apply bl_alloc | apply bl_drewN | apply bl_drew | (refine bl_set ?_ (by first | (simp; done) | (simp; omega)) _) | (refine bl_call ?_ (by assumption)))⟩
  · rw [show errS p = 2 by unfold errS; rw [okS_no (Or.inr h')]; rfl]
    go_enter Tryd.func77, Tryd.ntmps77
    go_wp2
    go_ret
    exact ⟨rfl, by repeat (first | exact Below.refl _ _ | assumption | apply bl_alloc | apply bl_drewN | apply bl_drew | (refine bl_set ?_ (by first | (simp; done) | (simp; omega)) _) | (refine bl_call ?_ (by assumption)))⟩
  · rw [show errS p = 0 by unfold errS; rw [okS_yes h h']; rfl]
    go_enter Tryd.func77, Tryd.ntmps77
    go_wp2
    go_ret
    exact ⟨rfl, by repeat (first | exact Below.refl _ _ | assumption | apply bl_alloc | apply bl_drewN | apply bl_drew | (refine bl_set ?_ (by first | (simp; done) | (simp; omega)) _) | (refine bl_call ?_ (by assumption)))⟩
theorem rcheck_any (k : Nat) (p : Int) (b : Bool) (w : World) : Calls Tryd.prog 80 #[.agg #[.int .u64 k, .int .i64 p, .bool b]] w (Gives (.int .i64 (errS p)) w) := by
  rcases (show p < 0 ∨ (0 ≤ p ∧ 1000000000000 < p) ∨ (0 ≤ p ∧ p ≤ 1000000000000) by omega) with h | ⟨h, h'⟩ | ⟨h, h'⟩
  · rw [show errS p = 2 by unfold errS; rw [okS_no (Or.inl h)]; rfl]
    go_enter Tryd.func80, Tryd.ntmps80
    go_wp2
    go_ret
    exact ⟨rfl, by repeat (first | exact Below.refl _ _ | assumption | apply bl_alloc | apply bl_drewN | apply bl_drew | (refine bl_set ?_ (by first | (simp; done) | (simp; omega)) _) | (refine bl_call ?_ (by assumption)))⟩
  · rw [show errS p = 2 by unfold errS; rw [okS_no (Or.inr h')]; rfl]
    go_enter Tryd.func80, Tryd.ntmps80
    go_wp2
    go_ret
    exact ⟨rfl, by repeat (first | exact Below.refl _ _ | assumption | apply bl_alloc | apply bl_drewN | apply bl_drew | (refine bl_set ?_ (by first | (simp; done) | (simp; omega)) _) | (refine bl_call ?_ (by assumption)))⟩
  · rw [show errS p = 0 by unfold errS; rw [okS_yes h h']; rfl]
    go_enter Tryd.func80, Tryd.ntmps80
    go_wp2
    go_ret
    exact ⟨rfl, by repeat (first | exact Below.refl _ _ | assumption | apply bl_alloc | apply bl_drewN | apply bl_drew | (refine bl_set ?_ (by first | (simp; done) | (simp; omega)) _) | (refine bl_call ?_ (by assumption)))⟩
theorem errS_no {p : Int} (h : okS p = false) : errS p = 2 := by unfold errS; rw [h]; rfl
theorem errS_yes {p : Int} (h : okS p = true) : errS p = 0 := by unfold errS; rw [h]; rfl
theorem valid_any (k : Nat) (p : Int) (b : Bool) (w : World) : Calls Tryd.prog 118 #[.agg #[.int .u64 k, .int .i64 p, .bool b]] w (Gives (.bool (okS p)) w) := by
  cases h : okS p
  · have E := Lib.hid (errS_no h)
    clear h
    go_enter Tryd.func118, Tryd.ntmps118
    go_wp2_with fail
    refine (check_any _ _ _ _).mono ?_
    rintro e w1 ⟨rfl, hb1⟩
    rw [E.out]
    go_wp2_with fail
    go_ret
    exact ⟨rfl, by repeat (first | exact Below.refl _ _ | assumption | apply bl_alloc | apply bl_drewN | apply bl_drew | (refine bl_set ?_ (by first | (simp; done) | (simp; omega)) _) | (refine bl_call ?_ (by assumption)))⟩
  · have E := Lib.hid (errS_yes h)
    clear h
    go_enter Tryd.func118, Tryd.ntmps118
    go_wp2_with fail
    refine (check_any _ _ _ _).mono ?_
    rintro e w1 ⟨rfl, hb1⟩
    rw [E.out]
    go_wp2_with fail
    go_ret
    exact ⟨rfl, by repeat (first | exact Below.refl _ _ | assumption | apply bl_alloc | apply bl_drewN | apply bl_drew | (refine bl_set ?_ (by first | (simp; done) | (simp; omega)) _) | (refine bl_call ?_ (by assumption)))⟩
theorem has_any (k : Nat) (p : Int) (b : Bool) (w : World) : Calls Tryd.prog 101 #[.agg #[.int .u64 k, .int .i64 p, .bool b]] w (Gives (.bool (hasS p)) w) := by
  cases h : okS p
  · have E := Lib.hid h
    have hf : hasS p = false := by have := okS_false h; unfold hasS; exact decide_eq_false (by omega)
    rw [hf]
    clear h hf
    go_enter Tryd.func101, Tryd.ntmps101
    go_wp2_with fail
    refine (valid_any _ _ _ _).mono ?_
    rintro e w1 ⟨rfl, hb1⟩
    rw [E.out]
    go_wp2_with fail
    go_ret
    exact ⟨rfl, by repeat (first | exact Below.refl _ _ | assumption | apply bl_alloc | apply bl_drewN | apply bl_drew | (refine bl_set ?_ (by first | (simp; done) | (simp; omega)) _) | (refine bl_call ?_ (by assumption)))⟩
  · have E := Lib.hid h
    have hf : hasS p = decide (p < 1000000000000) := by have := okS_true h; unfold hasS; rw [decide_eq_decide]; omega
    rw [hf]
    clear h hf
    go_enter Tryd.func101, Tryd.ntmps101
    go_wp2_with fail
    refine (valid_any _ _ _ _).mono ?_
    rintro e w1 ⟨rfl, hb1⟩
    rw [E.out]
    have A1 : tri w1 (w.heap.size) (.int .u64 k) (.int .i64 p) (.bool b) := tri.call (by refine ⟨?_, ?_, ?_, ?_, ?_, ?_, ?_⟩ <;> first | (go_simp; done) | (simp; done) | (simp; omega)) hb1
    obtain ⟨a0, a1, a2, a3, a4, a5, a6⟩ := A1
    have A1 : tri _ _ _ _ _ := ⟨a0, a1, a2, a3, a4, a5, a6⟩
    go_wp2_with fail
    go_ret
    exact ⟨rfl, by repeat (first | exact Below.refl _ _ | assumption | apply bl_alloc | apply bl_drewN | apply bl_drew | (refine bl_set ?_ (by first | (simp; done) | (simp; omega)) _) | (refine bl_call ?_ (by assumption)))⟩
theorem ends_any (k : Nat) (p : Int) (b : Bool) (w : World) : Calls Tryd.prog 103 #[.agg #[.int .u64 k, .int .i64 p, .bool b]] w (Gives (.bool (!hasS p)) w) := by
  cases h : okS p
  · have E := Lib.hid (errS_no h)
    have hf : hasS p = false := by have := okS_false h; unfold hasS; exact decide_eq_false (by omega)
    rw [hf]
    clear h hf
    go_enter Tryd.func103, Tryd.ntmps103
    go_wp2_with fail
    refine (rcheck_any _ _ _ _).mono ?_
    rintro e w1 ⟨rfl, hb1⟩
    rw [E.out]
    go_wp2_with fail
    go_ret
    exact ⟨rfl, by repeat (first | exact Below.refl _ _ | assumption | apply bl_alloc | apply bl_drewN | apply bl_drew | (refine bl_set ?_ (by first | (simp; done) | (simp; omega)) _) | (refine bl_call ?_ (by assumption)))⟩
  · have E := Lib.hid (errS_yes h)
    have hf : (!hasS p) = (p == 1000000000000) := by
      have := okS_true h
      unfold hasS
      rcases Int.lt_or_le p 1000000000000 with h1 | h1
      · rw [decide_eq_true (by omega), beq_eq_false_iff_ne.2 (by omega)]; rfl
      · rw [decide_eq_false (by omega), beq_iff_eq.2 (by omega)]; rfl
    rw [hf]
    clear h hf
    go_enter Tryd.func103, Tryd.ntmps103
    go_wp2_with fail
    refine (rcheck_any _ _ _ _).mono ?_
    rintro e w1 ⟨rfl, hb1⟩
    rw [E.out]
    have A1 : tri w1 (w.heap.size) (.int .u64 k) (.int .i64 p) (.bool b) := tri.call (by refine ⟨?_, ?_, ?_, ?_, ?_, ?_, ?_⟩ <;> first | (go_simp; done) | (simp; done) | (simp; omega)) hb1
    obtain ⟨a0, a1, a2, a3, a4, a5, a6⟩ := A1
    have A1 : tri _ _ _ _ _ := ⟨a0, a1, a2, a3, a4, a5, a6⟩
    go_wp2_with fail
    go_ret
    exact ⟨rfl, by repeat (first | exact Below.refl _ _ | assumption | apply bl_alloc | apply bl_drewN | apply bl_drew | (refine bl_set ?_ (by first | (simp; done) | (simp; omega)) _) | (refine bl_call ?_ (by assumption)))⟩
end Go.Proofs.YteapicfobammjaaDoor.St
