/-
  The contract of the reference's formed and Same.
-/
import Derived.Test.YtilnojcbebchdaaDoorLxForm
namespace Go.Proofs.YtilnojcbebchdaaDoor.Lx
open Go.RowKit
set_option maxHeartbeats 2000000
set_option linter.unusedVariables false
set_option maxRecDepth 100000 in
theorem rformed_word (t : ByteArray) (n ln : Int) (w : World) (hs : t.size ≤ 9223372036854775807) : Calls Tryd.prog 36 #[.agg #[.int .i64 1, .string t, .int .i64 n, .int .i64 ln]] w (Gives (.bool (fmB ⟨1, t, n, ln⟩)) w) := by
  have HV : Hid (fmB ⟨1, t, n, ln⟩ = (isWd (bs t) && decide (n = 0))) := Lib.hid rfl
  have I1 := fun w1 => rword_any t w1 hs
  obtain ⟨B, hB⟩ : ∃ B, isWd (bs t) = B := ⟨_, rfl⟩
  rw [hB] at HV
  simp only [hB] at I1
  clear hB
  cases B with
  | false =>
    go_enter Tryd.func36, Tryd.ntmps36
    go_wp2_with (go_at_call 26; refine (I1 _).mono ?_; rintro e w1 ⟨rfl, rfl⟩)
    go_ret
    exact gives_eq (by rw [HV.out]; rfl) (by (repeat (first | (with_reducible exact Below.refl _ _) | (with_reducible assumption) | (with_reducible apply bl_alloc) | (with_reducible apply bl_drewN) | (with_reducible apply bl_drew) | (with_reducible refine bl_set ?_ (by first | (simp; done) | (simp; omega)) _) | (with_reducible refine bl_call ?_ (by assumption)))))
  | true =>
    have HR : Hid (fmB ⟨1, t, n, ln⟩ = (n == 0)) := Lib.hid (by rw [HV.out]; by_cases e : n = 0 <;> simp [e])
    clear HV
    go_enter Tryd.func36, Tryd.ntmps36
    go_wp2_with (go_at_call 26; refine (I1 _).mono ?_; rintro e w1 ⟨rfl, rfl⟩)
    go_ret
    exact gives_eq (by rw [HR.out]; rfl) (by (repeat (first | (with_reducible exact Below.refl _ _) | (with_reducible assumption) | (with_reducible apply bl_alloc) | (with_reducible apply bl_drewN) | (with_reducible apply bl_drew) | (with_reducible refine bl_set ?_ (by first | (simp; done) | (simp; omega)) _) | (with_reducible refine bl_call ?_ (by assumption)))))
set_option maxRecDepth 100000 in
theorem rformed_num (t : ByteArray) (n ln : Int) (w : World) : Calls Tryd.prog 36 #[.agg #[.int .i64 2, .string t, .int .i64 n, .int .i64 ln]] w (Gives (.bool (fmB ⟨2, t, n, ln⟩)) w) := by
  have HV : Hid (fmB ⟨2, t, n, ln⟩ = (decide (t.size = 0) && (decide (0 ≤ n) && decide (n ≤ 1000000000000)))) := Lib.hid rfl
  by_cases h1 : t.size = 0
  · have q2 := nil_yes h1
    rw [decide_eq_true h1] at HV
    by_cases h2 : 0 ≤ n
    · have c2 : decide (0 ≤ n) = true := decide_eq_true h2
      rw [c2] at HV
      by_cases h3 : n ≤ 1000000000000
      · have c3 : decide (n ≤ 1000000000000) = true := decide_eq_true h3
        rw [c3] at HV
        go_enter Tryd.func36, Tryd.ntmps36
        go_wp2_with fail
        go_ret
        exact gives_eq (by rw [HV.out]; rfl) (by (repeat (first | (with_reducible exact Below.refl _ _) | (with_reducible assumption) | (with_reducible apply bl_alloc) | (with_reducible apply bl_drewN) | (with_reducible apply bl_drew) | (with_reducible refine bl_set ?_ (by first | (simp; done) | (simp; omega)) _) | (with_reducible refine bl_call ?_ (by assumption)))))
      · have c3 : decide (n ≤ 1000000000000) = false := decide_eq_false h3
        rw [c3] at HV
        go_enter Tryd.func36, Tryd.ntmps36
        go_wp2_with fail
        go_ret
        exact gives_eq (by rw [HV.out]; rfl) (by (repeat (first | (with_reducible exact Below.refl _ _) | (with_reducible assumption) | (with_reducible apply bl_alloc) | (with_reducible apply bl_drewN) | (with_reducible apply bl_drew) | (with_reducible refine bl_set ?_ (by first | (simp; done) | (simp; omega)) _) | (with_reducible refine bl_call ?_ (by assumption)))))
    · have c2 : decide (0 ≤ n) = false := decide_eq_false h2
      have HR : Hid (fmB ⟨2, t, n, ln⟩ = false) := Lib.hid (by rw [HV.out, c2]; rfl)
      clear HV
      go_enter Tryd.func36, Tryd.ntmps36
      go_wp2_with fail
      go_ret
      exact gives_eq (by rw [HR.out]; rfl) (by (repeat (first | (with_reducible exact Below.refl _ _) | (with_reducible assumption) | (with_reducible apply bl_alloc) | (with_reducible apply bl_drewN) | (with_reducible apply bl_drew) | (with_reducible refine bl_set ?_ (by first | (simp; done) | (simp; omega)) _) | (with_reducible refine bl_call ?_ (by assumption)))))
  · have q2 := nil_no h1
    have HR : Hid (fmB ⟨2, t, n, ln⟩ = false) := Lib.hid (by rw [HV.out, decide_eq_false h1]; rfl)
    clear HV
    go_enter Tryd.func36, Tryd.ntmps36
    go_wp2_with fail
    go_ret
    exact gives_eq (by rw [HR.out]; rfl) (by (repeat (first | (with_reducible exact Below.refl _ _) | (with_reducible assumption) | (with_reducible apply bl_alloc) | (with_reducible apply bl_drewN) | (with_reducible apply bl_drew) | (with_reducible refine bl_set ?_ (by first | (simp; done) | (simp; omega)) _) | (with_reducible refine bl_call ?_ (by assumption)))))
set_option maxRecDepth 100000 in
theorem rformed_sign (t : ByteArray) (n ln : Int) (w : World) : Calls Tryd.prog 36 #[.agg #[.int .i64 3, .string t, .int .i64 n, .int .i64 ln]] w (Gives (.bool (fmB ⟨3, t, n, ln⟩)) w) := by
  have HV : Hid (fmB ⟨3, t, n, ln⟩ = (isSg (bs t) && decide (n = 0))) := Lib.hid rfl
  have I1 := fun w1 => rsign_any t w1
  obtain ⟨B, hB⟩ : ∃ B, isSg (bs t) = B := ⟨_, rfl⟩
  rw [hB] at HV
  simp only [hB] at I1
  clear hB
  cases B with
  | false =>
    go_enter Tryd.func36, Tryd.ntmps36
    go_wp2_with (go_at_call 42; refine (I1 _).mono ?_; rintro e w1 ⟨rfl, rfl⟩)
    go_ret
    exact gives_eq (by rw [HV.out]; rfl) (by (repeat (first | (with_reducible exact Below.refl _ _) | (with_reducible assumption) | (with_reducible apply bl_alloc) | (with_reducible apply bl_drewN) | (with_reducible apply bl_drew) | (with_reducible refine bl_set ?_ (by first | (simp; done) | (simp; omega)) _) | (with_reducible refine bl_call ?_ (by assumption)))))
  | true =>
    have HR : Hid (fmB ⟨3, t, n, ln⟩ = (n == 0)) := Lib.hid (by rw [HV.out]; by_cases e : n = 0 <;> simp [e])
    clear HV
    go_enter Tryd.func36, Tryd.ntmps36
    go_wp2_with (go_at_call 42; refine (I1 _).mono ?_; rintro e w1 ⟨rfl, rfl⟩)
    go_ret
    exact gives_eq (by rw [HR.out]; rfl) (by (repeat (first | (with_reducible exact Below.refl _ _) | (with_reducible assumption) | (with_reducible apply bl_alloc) | (with_reducible apply bl_drewN) | (with_reducible apply bl_drew) | (with_reducible refine bl_set ?_ (by first | (simp; done) | (simp; omega)) _) | (with_reducible refine bl_call ?_ (by assumption)))))
set_option maxRecDepth 100000 in
theorem rformed_else (k : Int) (t : ByteArray) (n ln : Int) (w : World) (k1 : ¬ k = 1) (k2 : ¬ k = 2) (k3 : ¬ k = 3) : Calls Tryd.prog 36 #[.agg #[.int .i64 k, .string t, .int .i64 n, .int .i64 ln]] w (Gives (.bool (fmB ⟨k, t, n, ln⟩)) w) := by
  have HV : Hid (fmB ⟨k, t, n, ln⟩ = (decide (n = 0) && decide (t.size = 0))) := Lib.hid (by unfold fmB; rw [if_neg k1, if_neg k2, if_neg k3])
  have e1 : (k == 1) = false := beq_eq_false_iff_ne.2 k1
  have e2 : (k == 2) = false := beq_eq_false_iff_ne.2 k2
  have e3 : (k == 3) = false := beq_eq_false_iff_ne.2 k3
  by_cases h2 : t.size = 0
  · have q2 := nil_yes h2
    have HR : Hid (fmB ⟨k, t, n, ln⟩ = (n == 0)) := Lib.hid (by rw [HV.out, decide_eq_true h2]; by_cases e : n = 0 <;> simp [e])
    clear HV k1 k2 k3
    go_enter Tryd.func36, Tryd.ntmps36
    go_wp2_with fail
    go_ret
    exact gives_eq (by rw [HR.out]; rfl) (by (repeat (first | (with_reducible exact Below.refl _ _) | (with_reducible assumption) | (with_reducible apply bl_alloc) | (with_reducible apply bl_drewN) | (with_reducible apply bl_drew) | (with_reducible refine bl_set ?_ (by first | (simp; done) | (simp; omega)) _) | (with_reducible refine bl_call ?_ (by assumption)))))
  · have q2 := nil_no h2
    have HR : Hid (fmB ⟨k, t, n, ln⟩ = false) := Lib.hid (by rw [HV.out, decide_eq_false h2, Bool.and_false])
    clear HV k1 k2 k3
    go_enter Tryd.func36, Tryd.ntmps36
    go_wp2_with fail
    go_ret
    exact gives_eq (by rw [HR.out]; rfl) (by (repeat (first | (with_reducible exact Below.refl _ _) | (with_reducible assumption) | (with_reducible apply bl_alloc) | (with_reducible apply bl_drewN) | (with_reducible apply bl_drew) | (with_reducible refine bl_set ?_ (by first | (simp; done) | (simp; omega)) _) | (with_reducible refine bl_call ?_ (by assumption)))))
theorem rformed_any (x : Tk) (w : World) (hs : x.t.size ≤ 9223372036854775807) : Calls Tryd.prog 36 #[.agg #[.int .i64 x.k, .string x.t, .int .i64 x.n, .int .i64 x.l]] w (Gives (.bool (fmB x)) w) := by
  obtain ⟨k, t, n, ln⟩ := x
  show Calls Tryd.prog 36 #[.agg #[.int .i64 k, .string t, .int .i64 n, .int .i64 ln]] w (Gives (.bool (fmB ⟨k, t, n, ln⟩)) w)
  by_cases k1 : k = 1
  · subst k1; exact rformed_word t n ln w hs
  by_cases k2 : k = 2
  · subst k2; exact rformed_num t n ln w
  by_cases k3 : k = 3
  · subst k3; exact rformed_sign t n ln w
  exact rformed_else k t n ln w k1 k2 k3
end Go.Proofs.YtilnojcbebchdaaDoor.Lx
