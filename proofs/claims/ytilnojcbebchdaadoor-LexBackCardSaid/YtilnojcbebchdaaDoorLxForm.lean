/-
  The contract of formed.
-/
import Derived.Test.YtilnojcbebchdaaDoorLxFirst
import Derived.Test.YtilnojcbebchdaaDoorLxLong
namespace Go.Proofs.YtilnojcbebchdaaDoor.Lx
open Go.RowKit
set_option maxHeartbeats 2000000
set_option linter.unusedVariables false
/-- Whether the fields of a token are as its kind requires. -/
def fmB (x : Tk) : Bool := if x.k = 1 then isWd (bs x.t) && decide (x.n = 0) else if x.k = 2 then decide (x.t.size = 0) && (decide (0 ≤ x.n) && decide (x.n ≤ 1000000000000)) else if x.k = 3 then isSg (bs x.t) && decide (x.n = 0) else decide (x.n = 0) && decide (x.t.size = 0)
theorem wd_size {l : List UInt8} : isWd l = (decide (l.length ≠ 0) && decide (wdN l = l.length)) := by
  rw [Bool.eq_iff_iff, wd_iff, Bool.and_eq_true, decide_eq_true_eq, decide_eq_true_eq]
  constructor
  · rintro ⟨h1, h2⟩
    obtain ⟨e1, e2⟩ := wdN_eq h1
    exact ⟨by omega, by omega⟩
  · rintro ⟨h1, h2⟩
    by_cases h : spn ltrC l = 0
    · have : wdN l = 0 := by unfold wdN; rw [if_pos h]
      omega
    · obtain ⟨e1, e2⟩ := wdN_eq h
      exact ⟨h, by omega⟩
theorem nil_yes {s : ByteArray} (h : s.size = 0) : (s.toList == []) = true := by
  rw [beq_iff_eq, Lib.toList_data]
  exact List.length_eq_zero_iff.1 (by rw [bs_len]; exact h)
theorem nil_no {s : ByteArray} (h : ¬ s.size = 0) : (s.toList == []) = false := by
  rw [beq_eq_false_iff_ne, Lib.toList_data]
  intro e
  have := bs_len s
  rw [show bs s = [] from e] at this
  simp at this
  omega
/-- The four cells of a box. -/
def box4 (w' : World) (g : Nat) (k : Int) (t : ByteArray) (n ln : Int) : Prop := w'.cell? ⟨g, 0, none⟩ = some (.int .i64 k) ∧ w'.cell? ⟨g, 1, none⟩ = some (.string t) ∧ w'.cell? ⟨g, 2, none⟩ = some (.int .i64 n) ∧ w'.cell? ⟨g, 3, none⟩ = some (.int .i64 ln)
theorem box4.new {w : World} {k : Int} {t : ByteArray} {n ln : Int} : box4 (w.alloc (.cells #[.int .i64 k, .string t, .int .i64 n, .int .i64 ln] 31)) w.heap.size k t n ln := by
  have h := new4 (w := w) (x := ⟨k, t, n, ln⟩) (t := 31)
  exact ⟨h.1, h.2.1, h.2.2.1, h.2.2.2⟩
theorem box4.on {w w2 : World} {g : Nat} {k : Int} {t : ByteArray} {n ln : Int} (hb : Below w.heap.size w w2) (hg : g < w.heap.size) (h : box4 w g k t n ln) : box4 w2 g k t n ln := by
  obtain ⟨h0, h1, h2, h3⟩ := h
  exact ⟨(hb.cell (p := ⟨g, 0, none⟩) hg).trans h0, (hb.cell (p := ⟨g, 1, none⟩) hg).trans h1, (hb.cell (p := ⟨g, 2, none⟩) hg).trans h2, (hb.cell (p := ⟨g, 3, none⟩) hg).trans h3⟩
theorem box4.drew {w : World} {g : Nat} {k : Int} {t : ByteArray} {n ln : Int} (h : box4 w g k t n ln) : box4 w.drew g k t n ln := h
theorem box4.keep {w' : World} {g : Nat} {k : Int} {t : ByteArray} {n ln : Int} (h : box4 w' g k t n ln) : w'.cell? ⟨g, 0, none⟩ = some (.int .i64 k) ∧ w'.cell? ⟨g, 1, none⟩ = some (.string t) ∧ w'.cell? ⟨g, 2, none⟩ = some (.int .i64 n) ∧ w'.cell? ⟨g, 3, none⟩ = some (.int .i64 ln) := h
set_option maxRecDepth 100000 in
theorem formed_word (t : ByteArray) (n ln : Int) (w : World) (hs : t.size ≤ 9223372036854775807) : Calls Tryd.prog 44 #[.agg #[.int .i64 1, .string t, .int .i64 n, .int .i64 ln]] w (Gives (.bool (fmB ⟨1, t, n, ln⟩)) w) := by
  have hs' : (t.size : Int) ≤ 9223372036854775807 := by omega
  have HV : Hid (fmB ⟨1, t, n, ln⟩ = (decide (n = 0) && (decide (t.size ≠ 0) && decide (wdN (bs t) = t.size)))) := Lib.hid (by
    have e := wd_size (l := bs t)
    rw [bs_len] at e
    show (isWd (bs t) && decide (n = 0)) = _
    rw [e, Bool.and_comm])
  by_cases h1 : n = 0
  · subst h1
    by_cases h2 : t.size = 0
    · have q2 := nil_yes h2
      have q3 : (t.toList != []) = false := by simp only [bne, q2]; rfl
      have HR : Hid (fmB ⟨1, t, 0, ln⟩ = false) := Lib.hid (by rw [HV.out, decide_eq_false (by omega : ¬ t.size ≠ 0)]; rfl)
      clear HV
      go_enter Tryd.func44, Tryd.ntmps44
      go_wp2_with fail
      go_quiet (fail)
      all_goals
        go_wp2_with fail
        go_ret
        exact gives_eq (by rw [HR.out]; rfl) (by (repeat (first | (with_reducible exact Below.refl _ _) | (with_reducible assumption) | (with_reducible apply bl_alloc) | (with_reducible apply bl_drewN) | (with_reducible apply bl_drew) | (with_reducible refine bl_set ?_ (by first | (simp; done) | (simp; omega)) _) | (with_reducible refine bl_call ?_ (by assumption)))))
    · have q2 := nil_no h2
      have q3 : (t.toList != []) = true := by simp only [bne, q2]; rfl
      obtain ⟨K, hK⟩ : ∃ K, wdN (bs t) = K := ⟨_, rfl⟩
      have HR : Hid (fmB ⟨1, t, 0, ln⟩ = ((K : Int) == (t.size : Int))) := Lib.hid (by
        rw [HV.out, decide_eq_true h2, hK]
        show decide (K = t.size) = _
        by_cases e : K = t.size
        · rw [decide_eq_true e, e]; simp
        · rw [decide_eq_false e]
          symm
          rw [beq_eq_false_iff_ne]
          omega)
      have I1 := fun w1 => wordsize_at hK hs w1
      clear HV hK
      have hn4 := box4.new (w := w) (k := 1) (t := t) (n := 0) (ln := ln)
      obtain ⟨B, hB⟩ : ∃ B, ((K : Int) == (t.size : Int)) = B := ⟨_, rfl⟩
      rw [hB] at HR
      go_enter Tryd.func44, Tryd.ntmps44
      go_wp2_with fail
      go_region_held3 (fun w' => w'.cell? ⟨w.heap.size, 0, none⟩ = some (.int .i64 1) ∧ w'.cell? ⟨w.heap.size, 1, none⟩ = some (.string t) ∧ w'.cell? ⟨w.heap.size, 2, none⟩ = some (.int .i64 0) ∧ w'.cell? ⟨w.heap.size, 3, none⟩ = some (.int .i64 ln)) (first | (with_reducible exact box4.keep A1) | (with_reducible exact box4.keep (box4.drew hn4)) | (with_reducible exact box4.keep hn4) | (go_keep; done)) ((go_at_call 54; refine (I1 _).mono ?_; rintro e w1 ⟨rfl, hb1⟩; have A1 := box4.on hb1 (by simp) (box4.drew hn4)))
      all_goals
        go_wp2_with fail
        go_ret
        exact gives_eq (by rw [HR.out]; rfl) (by (repeat (first | (with_reducible exact Below.refl _ _) | (with_reducible assumption) | (with_reducible apply bl_alloc) | (with_reducible apply bl_drewN) | (with_reducible apply bl_drew) | (with_reducible refine bl_set ?_ (by first | (simp; done) | (simp; omega)) _) | (with_reducible refine bl_call ?_ (by assumption)))))
  · have q1 : (n == 0) = false := beq_eq_false_iff_ne.2 h1
    have HR : Hid (fmB ⟨1, t, n, ln⟩ = false) := Lib.hid (by rw [HV.out, decide_eq_false h1]; rfl)
    clear HV
    go_enter Tryd.func44, Tryd.ntmps44
    go_wp2_with fail
    go_quiet (fail)
    all_goals
      go_wp2_with fail
      go_ret
      exact gives_eq (by rw [HR.out]; rfl) (by (repeat (first | (with_reducible exact Below.refl _ _) | (with_reducible assumption) | (with_reducible apply bl_alloc) | (with_reducible apply bl_drewN) | (with_reducible apply bl_drew) | (with_reducible refine bl_set ?_ (by first | (simp; done) | (simp; omega)) _) | (with_reducible refine bl_call ?_ (by assumption)))))
set_option maxRecDepth 100000 in
theorem formed_num (t : ByteArray) (n ln : Int) (w : World) : Calls Tryd.prog 44 #[.agg #[.int .i64 2, .string t, .int .i64 n, .int .i64 ln]] w (Gives (.bool (fmB ⟨2, t, n, ln⟩)) w) := by
  have HV : Hid (fmB ⟨2, t, n, ln⟩ = (decide (t.size = 0) && (decide (0 ≤ n) && decide (n ≤ 1000000000000)))) := Lib.hid rfl
  by_cases h1 : t.size = 0
  · have q2 := nil_yes h1
    by_cases h2 : 0 ≤ n
    · have c2 : decide (0 ≤ n) = true := decide_eq_true h2
      have HR : Hid (fmB ⟨2, t, n, ln⟩ = inB n) := Lib.hid (by
        rw [HV.out, decide_eq_true h1, c2]
        unfold inB
        rw [Bool.eq_iff_iff]
        simp
        omega)
      obtain ⟨B, hB⟩ : ∃ B, inB n = B := ⟨_, rfl⟩
      have I1 := in_any n
      rw [hB] at HR
      simp only [hB] at I1
      clear HV hB
      go_enter Tryd.func44, Tryd.ntmps44
      go_wp2_with (go_at_call 53; refine (I1 _).mono ?_; rintro e w1 ⟨rfl, rfl⟩)
      go_ret
      exact gives_eq (by rw [HR.out]; rfl) (by (repeat (first | (with_reducible exact Below.refl _ _) | (with_reducible assumption) | (with_reducible apply bl_alloc) | (with_reducible apply bl_drewN) | (with_reducible apply bl_drew) | (with_reducible refine bl_set ?_ (by first | (simp; done) | (simp; omega)) _) | (with_reducible refine bl_call ?_ (by assumption)))))
    · have c2 : decide (0 ≤ n) = false := decide_eq_false h2
      have HR : Hid (fmB ⟨2, t, n, ln⟩ = false) := Lib.hid (by rw [HV.out, c2, Bool.false_and, Bool.and_false])
      clear HV
      go_enter Tryd.func44, Tryd.ntmps44
      go_wp2_with fail
      go_ret
      exact gives_eq (by rw [HR.out]; rfl) (by (repeat (first | (with_reducible exact Below.refl _ _) | (with_reducible assumption) | (with_reducible apply bl_alloc) | (with_reducible apply bl_drewN) | (with_reducible apply bl_drew) | (with_reducible refine bl_set ?_ (by first | (simp; done) | (simp; omega)) _) | (with_reducible refine bl_call ?_ (by assumption)))))
  · have q2 := nil_no h1
    have HR : Hid (fmB ⟨2, t, n, ln⟩ = false) := Lib.hid (by rw [HV.out, decide_eq_false h1]; rfl)
    clear HV
    go_enter Tryd.func44, Tryd.ntmps44
    go_wp2_with fail
    go_ret
    exact gives_eq (by rw [HR.out]; rfl) (by (repeat (first | (with_reducible exact Below.refl _ _) | (with_reducible assumption) | (with_reducible apply bl_alloc) | (with_reducible apply bl_drewN) | (with_reducible apply bl_drew) | (with_reducible refine bl_set ?_ (by first | (simp; done) | (simp; omega)) _) | (with_reducible refine bl_call ?_ (by assumption)))))
set_option maxRecDepth 100000 in
theorem formed_sign (t : ByteArray) (n ln : Int) (w : World) : Calls Tryd.prog 44 #[.agg #[.int .i64 3, .string t, .int .i64 n, .int .i64 ln]] w (Gives (.bool (fmB ⟨3, t, n, ln⟩)) w) := by
  have HV : Hid (fmB ⟨3, t, n, ln⟩ = (isSg (bs t) && decide (n = 0))) := Lib.hid rfl
  by_cases h1 : n = 0
  · subst h1
    have HR : Hid (fmB ⟨3, t, 0, ln⟩ = isSg (bs t)) := Lib.hid (by rw [HV.out]; simp)
    obtain ⟨B, hB⟩ : ∃ B, isSg (bs t) = B := ⟨_, rfl⟩
    have I1 := sign_any t
    rw [hB] at HR
    simp only [hB] at I1
    clear HV hB
    go_enter Tryd.func44, Tryd.ntmps44
    go_wp2_with (go_at_call 57; refine (I1 _).mono ?_; rintro e w1 ⟨rfl, rfl⟩)
    go_ret
    exact gives_eq (by rw [HR.out]; rfl) (by (repeat (first | (with_reducible exact Below.refl _ _) | (with_reducible assumption) | (with_reducible apply bl_alloc) | (with_reducible apply bl_drewN) | (with_reducible apply bl_drew) | (with_reducible refine bl_set ?_ (by first | (simp; done) | (simp; omega)) _) | (with_reducible refine bl_call ?_ (by assumption)))))
  · have q1 : (n == 0) = false := beq_eq_false_iff_ne.2 h1
    have HR : Hid (fmB ⟨3, t, n, ln⟩ = false) := Lib.hid (by rw [HV.out, decide_eq_false h1, Bool.and_false])
    clear HV
    go_enter Tryd.func44, Tryd.ntmps44
    go_wp2_with fail
    go_ret
    exact gives_eq (by rw [HR.out]; rfl) (by (repeat (first | (with_reducible exact Below.refl _ _) | (with_reducible assumption) | (with_reducible apply bl_alloc) | (with_reducible apply bl_drewN) | (with_reducible apply bl_drew) | (with_reducible refine bl_set ?_ (by first | (simp; done) | (simp; omega)) _) | (with_reducible refine bl_call ?_ (by assumption)))))
set_option maxRecDepth 100000 in
theorem formed_else (k : Int) (t : ByteArray) (n ln : Int) (w : World) (k1 : ¬ k = 1) (k2 : ¬ k = 2) (k3 : ¬ k = 3) : Calls Tryd.prog 44 #[.agg #[.int .i64 k, .string t, .int .i64 n, .int .i64 ln]] w (Gives (.bool (fmB ⟨k, t, n, ln⟩)) w) := by
  have HV : Hid (fmB ⟨k, t, n, ln⟩ = (decide (n = 0) && decide (t.size = 0))) := Lib.hid (by unfold fmB; rw [if_neg k1, if_neg k2, if_neg k3])
  have e1 : (k == 1) = false := beq_eq_false_iff_ne.2 k1
  have e2 : (k == 2) = false := beq_eq_false_iff_ne.2 k2
  have e3 : (k == 3) = false := beq_eq_false_iff_ne.2 k3
  by_cases h1 : n = 0
  · subst h1
    by_cases h2 : t.size = 0
    · have q2 := nil_yes h2
      have HR : Hid (fmB ⟨k, t, 0, ln⟩ = true) := Lib.hid (by rw [HV.out, decide_eq_true h2]; rfl)
      clear HV k1 k2 k3
      go_enter Tryd.func44, Tryd.ntmps44
      go_wp2_with fail
      go_ret
      exact gives_eq (by rw [HR.out]; rfl) (by (repeat (first | (with_reducible exact Below.refl _ _) | (with_reducible assumption) | (with_reducible apply bl_alloc) | (with_reducible apply bl_drewN) | (with_reducible apply bl_drew) | (with_reducible refine bl_set ?_ (by first | (simp; done) | (simp; omega)) _) | (with_reducible refine bl_call ?_ (by assumption)))))
    · have q2 := nil_no h2
      have HR : Hid (fmB ⟨k, t, 0, ln⟩ = false) := Lib.hid (by rw [HV.out, decide_eq_false h2, Bool.and_false])
      clear HV k1 k2 k3
      go_enter Tryd.func44, Tryd.ntmps44
      go_wp2_with fail
      go_ret
      exact gives_eq (by rw [HR.out]; rfl) (by (repeat (first | (with_reducible exact Below.refl _ _) | (with_reducible assumption) | (with_reducible apply bl_alloc) | (with_reducible apply bl_drewN) | (with_reducible apply bl_drew) | (with_reducible refine bl_set ?_ (by first | (simp; done) | (simp; omega)) _) | (with_reducible refine bl_call ?_ (by assumption)))))
  · have q1 : (n == 0) = false := beq_eq_false_iff_ne.2 h1
    have HR : Hid (fmB ⟨k, t, n, ln⟩ = false) := Lib.hid (by rw [HV.out, decide_eq_false h1]; rfl)
    clear HV k1 k2 k3
    go_enter Tryd.func44, Tryd.ntmps44
    go_wp2_with fail
    go_ret
    exact gives_eq (by rw [HR.out]; rfl) (by (repeat (first | (with_reducible exact Below.refl _ _) | (with_reducible assumption) | (with_reducible apply bl_alloc) | (with_reducible apply bl_drewN) | (with_reducible apply bl_drew) | (with_reducible refine bl_set ?_ (by first | (simp; done) | (simp; omega)) _) | (with_reducible refine bl_call ?_ (by assumption)))))
theorem formed_any (x : Tk) (w : World) (hs : x.t.size ≤ 9223372036854775807) : Calls Tryd.prog 44 #[.agg #[.int .i64 x.k, .string x.t, .int .i64 x.n, .int .i64 x.l]] w (Gives (.bool (fmB x)) w) := by
  obtain ⟨k, t, n, ln⟩ := x
  show Calls Tryd.prog 44 #[.agg #[.int .i64 k, .string t, .int .i64 n, .int .i64 ln]] w (Gives (.bool (fmB ⟨k, t, n, ln⟩)) w)
  by_cases k1 : k = 1
  · subst k1; exact formed_word t n ln w hs
  by_cases k2 : k = 2
  · subst k2; exact formed_num t n ln w
  by_cases k3 : k = 3
  · subst k3; exact formed_sign t n ln w
  exact formed_else k t n ln w k1 k2 k3
theorem formed_at {x : Tk} {b : Bool} (h : fmB x = b) (hs : x.t.size ≤ 9223372036854775807) (w : World) : Calls Tryd.prog 44 #[.agg #[.int .i64 x.k, .string x.t, .int .i64 x.n, .int .i64 x.l]] w (Gives (.bool b) w) := by rw [← h]; exact formed_any x w hs
end Go.Proofs.YtilnojcbebchdaaDoor.Lx
