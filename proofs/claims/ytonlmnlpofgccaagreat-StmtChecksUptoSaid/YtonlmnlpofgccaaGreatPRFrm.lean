/-
  Several parts of this proof in one text.
-/
import Derived.Test.YtonlmnlpofgccaaGreatPBase
import Derived.Test.YtonlmnlpofgccaaGreatECheckN
import Derived.Test.YtonlmnlpofgccaaGreatPOth
/-
  The contracts of the reference's Of and zero.
-/
namespace Go.Proofs.YtonlmnlpofgccaaGreat.Sm
open Go.RowKit
open Go.Proofs.YtonlmnlpofgccaaGreat.Na (bs bs_inj chk)
open Go.Proofs.YtonlmnlpofgccaaGreat.Ex (Ex Nm Kin In Sz Lo Gives bl_alloc bl_drewN bl_drew bl_set bl_call block_lt eq_yes eq_no emp_yes emp_no)
set_option maxHeartbeats 2000000
set_option linter.unusedVariables false
/-- The fields that a form uses, in the order of the reference's record. -/
def fm (o : Int) : Array Value := #[.bool (uN o), .bool (uO o), .bool (uE o), .bool (uF o), .bool (uA o), .bool (uD o), .bool (uG o), .bool (uB o), .bool (uL o)]
theorem fm_no {o : Int} (h : o < 1 ∨ 18 < o) : fm o = #[.bool false, .bool false, .bool false, .bool false, .bool false, .bool false, .bool false, .bool false, .bool false] := by
  unfold fm uN uO uE uF uA uD uG uB uL
  have e1 : decide (o = 1 ∨ o = 2 ∨ o = 6 ∨ o = 7 ∨ o = 8 ∨ o = 9 ∨ o = 10 ∨ o = 11 ∨ o = 12 ∨ o = 13 ∨ o = 14 ∨ o = 15 ∨ o = 16 ∨ o = 17) = false := decide_eq_false (by omega)
  have e2 : decide (o = 2 ∨ o = 9 ∨ o = 13) = false := decide_eq_false (by omega)
  have e3 : decide (o = 1 ∨ o = 3 ∨ o = 4 ∨ o = 5 ∨ o = 6 ∨ o = 7 ∨ o = 8 ∨ o = 12 ∨ o = 13 ∨ o = 14 ∨ o = 15 ∨ o = 16 ∨ o = 17) = false := decide_eq_false (by omega)
  have e4 : decide (o = 6) = false := decide_eq_false (by omega)
  have e5 : decide (o = 13 ∨ o = 14) = false := decide_eq_false (by omega)
  have e6 : decide (o = 2) = false := decide_eq_false (by omega)
  have e7 : decide (o = 3 ∨ o = 4) = false := decide_eq_false (by omega)
  have e8 : decide (o = 3) = false := decide_eq_false (by omega)
  rw [e1, e2, e3, e4, e5, e6, e7, e8]
set_option maxRecDepth 100000 in
theorem rof_any (o : Int) (w : World) : Calls Tryz.prog 52 #[.int .i64 o] w (fun e w' => e = .returned (.tuple #[.agg (fm o), .bool (kn o)]) ∧ Below w.heap.size w w') := by
  by_cases ho : o < 1 ∨ 18 < o
  · have hk : kn o = false := by unfold kn; by_cases h : 1 ≤ o <;> simp [h] <;> omega
    rw [fm_no ho, hk]
    have n1 : (o == 1) = false := beq_eq_false_iff_ne.2 (by omega)
    have n2 : (o == 2) = false := beq_eq_false_iff_ne.2 (by omega)
    have n3 : (o == 3) = false := beq_eq_false_iff_ne.2 (by omega)
    have n4 : (o == 4) = false := beq_eq_false_iff_ne.2 (by omega)
    have n5 : (o == 5) = false := beq_eq_false_iff_ne.2 (by omega)
    have n6 : (o == 6) = false := beq_eq_false_iff_ne.2 (by omega)
    have n7 : (o == 7) = false := beq_eq_false_iff_ne.2 (by omega)
    have n8 : (o == 8) = false := beq_eq_false_iff_ne.2 (by omega)
    have n9 : (o == 9) = false := beq_eq_false_iff_ne.2 (by omega)
    have n10 : (o == 10) = false := beq_eq_false_iff_ne.2 (by omega)
    have n11 : (o == 11) = false := beq_eq_false_iff_ne.2 (by omega)
    have n12 : (o == 12) = false := beq_eq_false_iff_ne.2 (by omega)
    have n13 : (o == 13) = false := beq_eq_false_iff_ne.2 (by omega)
    have n14 : (o == 14) = false := beq_eq_false_iff_ne.2 (by omega)
    have n15 : (o == 15) = false := beq_eq_false_iff_ne.2 (by omega)
    have n16 : (o == 16) = false := beq_eq_false_iff_ne.2 (by omega)
    have n17 : (o == 17) = false := beq_eq_false_iff_ne.2 (by omega)
    have n18 : (o == 18) = false := beq_eq_false_iff_ne.2 (by omega)
    clear ho hk
    go_enter Tryz.func52, Tryz.ntmps52
    go_wp2_with fail
    exact bodyPost_ret (v := .tuple #[.agg #[.bool false, .bool false, .bool false, .bool false, .bool false, .bool false, .bool false, .bool false, .bool false], .bool false]) (by simp [results, Tryz.results52, go_sem]) rfl ⟨rfl, by (repeat (first | (with_reducible exact Below.refl _ _) | (with_reducible assumption) | (with_reducible apply bl_alloc) | (with_reducible apply bl_drewN) | (with_reducible apply bl_drew) | (with_reducible refine bl_set ?_ (by first | (simp; done) | (simp; omega)) _) | (with_reducible refine bl_call ?_ (by assumption))))⟩
  · have h : o = 1 ∨ o = 2 ∨ o = 3 ∨ o = 4 ∨ o = 5 ∨ o = 6 ∨ o = 7 ∨ o = 8 ∨ o = 9 ∨ o = 10 ∨ o = 11 ∨ o = 12 ∨ o = 13 ∨ o = 14 ∨ o = 15 ∨ o = 16 ∨ o = 17 ∨ o = 18 := by omega
    clear ho
    rcases h with rfl | rfl | rfl | rfl | rfl | rfl | rfl | rfl | rfl | rfl | rfl | rfl | rfl | rfl | rfl | rfl | rfl | rfl
    · rw [show fm 1 = #[.bool true, .bool false, .bool true, .bool false, .bool false, .bool false, .bool false, .bool false, .bool false] from rfl, show kn 1 = true from rfl]
      go_enter Tryz.func52, Tryz.ntmps52
      go_wp2_with fail
      exact bodyPost_ret (v := .tuple #[.agg #[.bool true, .bool false, .bool true, .bool false, .bool false, .bool false, .bool false, .bool false, .bool false], .bool true]) (by simp [results, Tryz.results52, go_sem]) rfl ⟨rfl, by (repeat (first | (with_reducible exact Below.refl _ _) | (with_reducible assumption) | (with_reducible apply bl_alloc) | (with_reducible apply bl_drewN) | (with_reducible apply bl_drew) | (with_reducible refine bl_set ?_ (by first | (simp; done) | (simp; omega)) _) | (with_reducible refine bl_call ?_ (by assumption))))⟩
    · rw [show fm 2 = #[.bool true, .bool true, .bool false, .bool false, .bool false, .bool true, .bool false, .bool false, .bool false] from rfl, show kn 2 = true from rfl]
      go_enter Tryz.func52, Tryz.ntmps52
      go_wp2_with fail
      exact bodyPost_ret (v := .tuple #[.agg #[.bool true, .bool true, .bool false, .bool false, .bool false, .bool true, .bool false, .bool false, .bool false], .bool true]) (by simp [results, Tryz.results52, go_sem]) rfl ⟨rfl, by (repeat (first | (with_reducible exact Below.refl _ _) | (with_reducible assumption) | (with_reducible apply bl_alloc) | (with_reducible apply bl_drewN) | (with_reducible apply bl_drew) | (with_reducible refine bl_set ?_ (by first | (simp; done) | (simp; omega)) _) | (with_reducible refine bl_call ?_ (by assumption))))⟩
    · rw [show fm 3 = #[.bool false, .bool false, .bool true, .bool false, .bool false, .bool false, .bool false, .bool true, .bool true] from rfl, show kn 3 = true from rfl]
      go_enter Tryz.func52, Tryz.ntmps52
      go_wp2_with fail
      exact bodyPost_ret (v := .tuple #[.agg #[.bool false, .bool false, .bool true, .bool false, .bool false, .bool false, .bool false, .bool true, .bool true], .bool true]) (by simp [results, Tryz.results52, go_sem]) rfl ⟨rfl, by (repeat (first | (with_reducible exact Below.refl _ _) | (with_reducible assumption) | (with_reducible apply bl_alloc) | (with_reducible apply bl_drewN) | (with_reducible apply bl_drew) | (with_reducible refine bl_set ?_ (by first | (simp; done) | (simp; omega)) _) | (with_reducible refine bl_call ?_ (by assumption))))⟩
    · rw [show fm 4 = #[.bool false, .bool false, .bool true, .bool false, .bool false, .bool false, .bool false, .bool true, .bool false] from rfl, show kn 4 = true from rfl]
      go_enter Tryz.func52, Tryz.ntmps52
      go_wp2_with fail
      exact bodyPost_ret (v := .tuple #[.agg #[.bool false, .bool false, .bool true, .bool false, .bool false, .bool false, .bool false, .bool true, .bool false], .bool true]) (by simp [results, Tryz.results52, go_sem]) rfl ⟨rfl, by (repeat (first | (with_reducible exact Below.refl _ _) | (with_reducible assumption) | (with_reducible apply bl_alloc) | (with_reducible apply bl_drewN) | (with_reducible apply bl_drew) | (with_reducible refine bl_set ?_ (by first | (simp; done) | (simp; omega)) _) | (with_reducible refine bl_call ?_ (by assumption))))⟩
    · rw [show fm 5 = #[.bool false, .bool false, .bool true, .bool false, .bool false, .bool false, .bool false, .bool false, .bool false] from rfl, show kn 5 = true from rfl]
      go_enter Tryz.func52, Tryz.ntmps52
      go_wp2_with fail
      exact bodyPost_ret (v := .tuple #[.agg #[.bool false, .bool false, .bool true, .bool false, .bool false, .bool false, .bool false, .bool false, .bool false], .bool true]) (by simp [results, Tryz.results52, go_sem]) rfl ⟨rfl, by (repeat (first | (with_reducible exact Below.refl _ _) | (with_reducible assumption) | (with_reducible apply bl_alloc) | (with_reducible apply bl_drewN) | (with_reducible apply bl_drew) | (with_reducible refine bl_set ?_ (by first | (simp; done) | (simp; omega)) _) | (with_reducible refine bl_call ?_ (by assumption))))⟩
    · rw [show fm 6 = #[.bool true, .bool false, .bool true, .bool true, .bool false, .bool false, .bool true, .bool false, .bool false] from rfl, show kn 6 = true from rfl]
      go_enter Tryz.func52, Tryz.ntmps52
      go_wp2_with fail
      exact bodyPost_ret (v := .tuple #[.agg #[.bool true, .bool false, .bool true, .bool true, .bool false, .bool false, .bool true, .bool false, .bool false], .bool true]) (by simp [results, Tryz.results52, go_sem]) rfl ⟨rfl, by (repeat (first | (with_reducible exact Below.refl _ _) | (with_reducible assumption) | (with_reducible apply bl_alloc) | (with_reducible apply bl_drewN) | (with_reducible apply bl_drew) | (with_reducible refine bl_set ?_ (by first | (simp; done) | (simp; omega)) _) | (with_reducible refine bl_call ?_ (by assumption))))⟩
    · rw [show fm 7 = #[.bool true, .bool false, .bool true, .bool false, .bool false, .bool false, .bool false, .bool false, .bool false] from rfl, show kn 7 = true from rfl]
      go_enter Tryz.func52, Tryz.ntmps52
      go_wp2_with fail
      exact bodyPost_ret (v := .tuple #[.agg #[.bool true, .bool false, .bool true, .bool false, .bool false, .bool false, .bool false, .bool false, .bool false], .bool true]) (by simp [results, Tryz.results52, go_sem]) rfl ⟨rfl, by (repeat (first | (with_reducible exact Below.refl _ _) | (with_reducible assumption) | (with_reducible apply bl_alloc) | (with_reducible apply bl_drewN) | (with_reducible apply bl_drew) | (with_reducible refine bl_set ?_ (by first | (simp; done) | (simp; omega)) _) | (with_reducible refine bl_call ?_ (by assumption))))⟩
    · rw [show fm 8 = #[.bool true, .bool false, .bool true, .bool false, .bool false, .bool false, .bool false, .bool false, .bool false] from rfl, show kn 8 = true from rfl]
      go_enter Tryz.func52, Tryz.ntmps52
      go_wp2_with fail
      exact bodyPost_ret (v := .tuple #[.agg #[.bool true, .bool false, .bool true, .bool false, .bool false, .bool false, .bool false, .bool false, .bool false], .bool true]) (by simp [results, Tryz.results52, go_sem]) rfl ⟨rfl, by (repeat (first | (with_reducible exact Below.refl _ _) | (with_reducible assumption) | (with_reducible apply bl_alloc) | (with_reducible apply bl_drewN) | (with_reducible apply bl_drew) | (with_reducible refine bl_set ?_ (by first | (simp; done) | (simp; omega)) _) | (with_reducible refine bl_call ?_ (by assumption))))⟩
    · rw [show fm 9 = #[.bool true, .bool true, .bool false, .bool false, .bool false, .bool false, .bool false, .bool false, .bool false] from rfl, show kn 9 = true from rfl]
      go_enter Tryz.func52, Tryz.ntmps52
      go_wp2_with fail
      exact bodyPost_ret (v := .tuple #[.agg #[.bool true, .bool true, .bool false, .bool false, .bool false, .bool false, .bool false, .bool false, .bool false], .bool true]) (by simp [results, Tryz.results52, go_sem]) rfl ⟨rfl, by (repeat (first | (with_reducible exact Below.refl _ _) | (with_reducible assumption) | (with_reducible apply bl_alloc) | (with_reducible apply bl_drewN) | (with_reducible apply bl_drew) | (with_reducible refine bl_set ?_ (by first | (simp; done) | (simp; omega)) _) | (with_reducible refine bl_call ?_ (by assumption))))⟩
    · rw [show fm 10 = #[.bool true, .bool false, .bool false, .bool false, .bool false, .bool false, .bool false, .bool false, .bool false] from rfl, show kn 10 = true from rfl]
      go_enter Tryz.func52, Tryz.ntmps52
      go_wp2_with fail
      exact bodyPost_ret (v := .tuple #[.agg #[.bool true, .bool false, .bool false, .bool false, .bool false, .bool false, .bool false, .bool false, .bool false], .bool true]) (by simp [results, Tryz.results52, go_sem]) rfl ⟨rfl, by (repeat (first | (with_reducible exact Below.refl _ _) | (with_reducible assumption) | (with_reducible apply bl_alloc) | (with_reducible apply bl_drewN) | (with_reducible apply bl_drew) | (with_reducible refine bl_set ?_ (by first | (simp; done) | (simp; omega)) _) | (with_reducible refine bl_call ?_ (by assumption))))⟩
    · rw [show fm 11 = #[.bool true, .bool false, .bool false, .bool false, .bool false, .bool false, .bool false, .bool false, .bool false] from rfl, show kn 11 = true from rfl]
      go_enter Tryz.func52, Tryz.ntmps52
      go_wp2_with fail
      exact bodyPost_ret (v := .tuple #[.agg #[.bool true, .bool false, .bool false, .bool false, .bool false, .bool false, .bool false, .bool false, .bool false], .bool true]) (by simp [results, Tryz.results52, go_sem]) rfl ⟨rfl, by (repeat (first | (with_reducible exact Below.refl _ _) | (with_reducible assumption) | (with_reducible apply bl_alloc) | (with_reducible apply bl_drewN) | (with_reducible apply bl_drew) | (with_reducible refine bl_set ?_ (by first | (simp; done) | (simp; omega)) _) | (with_reducible refine bl_call ?_ (by assumption))))⟩
    · rw [show fm 12 = #[.bool true, .bool false, .bool true, .bool false, .bool false, .bool false, .bool false, .bool false, .bool false] from rfl, show kn 12 = true from rfl]
      go_enter Tryz.func52, Tryz.ntmps52
      go_wp2_with fail
      exact bodyPost_ret (v := .tuple #[.agg #[.bool true, .bool false, .bool true, .bool false, .bool false, .bool false, .bool false, .bool false, .bool false], .bool true]) (by simp [results, Tryz.results52, go_sem]) rfl ⟨rfl, by (repeat (first | (with_reducible exact Below.refl _ _) | (with_reducible assumption) | (with_reducible apply bl_alloc) | (with_reducible apply bl_drewN) | (with_reducible apply bl_drew) | (with_reducible refine bl_set ?_ (by first | (simp; done) | (simp; omega)) _) | (with_reducible refine bl_call ?_ (by assumption))))⟩
    · rw [show fm 13 = #[.bool true, .bool true, .bool true, .bool false, .bool true, .bool false, .bool false, .bool false, .bool false] from rfl, show kn 13 = true from rfl]
      go_enter Tryz.func52, Tryz.ntmps52
      go_wp2_with fail
      exact bodyPost_ret (v := .tuple #[.agg #[.bool true, .bool true, .bool true, .bool false, .bool true, .bool false, .bool false, .bool false, .bool false], .bool true]) (by simp [results, Tryz.results52, go_sem]) rfl ⟨rfl, by (repeat (first | (with_reducible exact Below.refl _ _) | (with_reducible assumption) | (with_reducible apply bl_alloc) | (with_reducible apply bl_drewN) | (with_reducible apply bl_drew) | (with_reducible refine bl_set ?_ (by first | (simp; done) | (simp; omega)) _) | (with_reducible refine bl_call ?_ (by assumption))))⟩
    · rw [show fm 14 = #[.bool true, .bool false, .bool true, .bool false, .bool true, .bool false, .bool false, .bool false, .bool false] from rfl, show kn 14 = true from rfl]
      go_enter Tryz.func52, Tryz.ntmps52
      go_wp2_with fail
      exact bodyPost_ret (v := .tuple #[.agg #[.bool true, .bool false, .bool true, .bool false, .bool true, .bool false, .bool false, .bool false, .bool false], .bool true]) (by simp [results, Tryz.results52, go_sem]) rfl ⟨rfl, by (repeat (first | (with_reducible exact Below.refl _ _) | (with_reducible assumption) | (with_reducible apply bl_alloc) | (with_reducible apply bl_drewN) | (with_reducible apply bl_drew) | (with_reducible refine bl_set ?_ (by first | (simp; done) | (simp; omega)) _) | (with_reducible refine bl_call ?_ (by assumption))))⟩
    · rw [show fm 15 = #[.bool true, .bool false, .bool true, .bool false, .bool false, .bool false, .bool false, .bool false, .bool false] from rfl, show kn 15 = true from rfl]
      go_enter Tryz.func52, Tryz.ntmps52
      go_wp2_with fail
      exact bodyPost_ret (v := .tuple #[.agg #[.bool true, .bool false, .bool true, .bool false, .bool false, .bool false, .bool false, .bool false, .bool false], .bool true]) (by simp [results, Tryz.results52, go_sem]) rfl ⟨rfl, by (repeat (first | (with_reducible exact Below.refl _ _) | (with_reducible assumption) | (with_reducible apply bl_alloc) | (with_reducible apply bl_drewN) | (with_reducible apply bl_drew) | (with_reducible refine bl_set ?_ (by first | (simp; done) | (simp; omega)) _) | (with_reducible refine bl_call ?_ (by assumption))))⟩
    · rw [show fm 16 = #[.bool true, .bool false, .bool true, .bool false, .bool false, .bool false, .bool false, .bool false, .bool false] from rfl, show kn 16 = true from rfl]
      go_enter Tryz.func52, Tryz.ntmps52
      go_wp2_with fail
      exact bodyPost_ret (v := .tuple #[.agg #[.bool true, .bool false, .bool true, .bool false, .bool false, .bool false, .bool false, .bool false, .bool false], .bool true]) (by simp [results, Tryz.results52, go_sem]) rfl ⟨rfl, by (repeat (first | (with_reducible exact Below.refl _ _) | (with_reducible assumption) | (with_reducible apply bl_alloc) | (with_reducible apply bl_drewN) | (with_reducible apply bl_drew) | (with_reducible refine bl_set ?_ (by first | (simp; done) | (simp; omega)) _) | (with_reducible refine bl_call ?_ (by assumption))))⟩
    · rw [show fm 17 = #[.bool true, .bool false, .bool true, .bool false, .bool false, .bool false, .bool false, .bool false, .bool false] from rfl, show kn 17 = true from rfl]
      go_enter Tryz.func52, Tryz.ntmps52
      go_wp2_with fail
      exact bodyPost_ret (v := .tuple #[.agg #[.bool true, .bool false, .bool true, .bool false, .bool false, .bool false, .bool false, .bool false, .bool false], .bool true]) (by simp [results, Tryz.results52, go_sem]) rfl ⟨rfl, by (repeat (first | (with_reducible exact Below.refl _ _) | (with_reducible assumption) | (with_reducible apply bl_alloc) | (with_reducible apply bl_drewN) | (with_reducible apply bl_drew) | (with_reducible refine bl_set ?_ (by first | (simp; done) | (simp; omega)) _) | (with_reducible refine bl_call ?_ (by assumption))))⟩
    · rw [show fm 18 = #[.bool false, .bool false, .bool false, .bool false, .bool false, .bool false, .bool false, .bool false, .bool false] from rfl, show kn 18 = true from rfl]
      go_enter Tryz.func52, Tryz.ntmps52
      go_wp2_with fail
      exact bodyPost_ret (v := .tuple #[.agg #[.bool false, .bool false, .bool false, .bool false, .bool false, .bool false, .bool false, .bool false, .bool false], .bool true]) (by simp [results, Tryz.results52, go_sem]) rfl ⟨rfl, by (repeat (first | (with_reducible exact Below.refl _ _) | (with_reducible assumption) | (with_reducible apply bl_alloc) | (with_reducible apply bl_drewN) | (with_reducible apply bl_drew) | (with_reducible refine bl_set ?_ (by first | (simp; done) | (simp; omega)) _) | (with_reducible refine bl_call ?_ (by assumption))))⟩
/-- An expression is zero. -/
theorem same_z (e : Ex) : Ex.same e zE = (decide (e.o = 0) && decide (bs e.s = []) && decide (e.n = 0) && decide (e.l.length = 0)) := by
  obtain ⟨o, s, n, l⟩ := e
  unfold zE
  rw [Ex.same]
  show (decide (o = 0) && decide (bs s = []) && decide (n = 0) && Ex.sameL l []) = (decide (o = 0) && decide (bs s = []) && decide (n = 0) && decide (l.length = 0))
  congr 1
  cases l with
  | nil => rfl
  | cons x t => rfl
set_option maxRecDepth 100000 in
theorem rzero_any (e : Ex) (p : Option Addr) (m c : Nat) (w : World) (h : In w e p m) : Calls Tryz.prog 75 #[.agg #[.int .i64 e.o, .string e.s, .int .i64 e.n, .slice p m c]] w (Gives (.bool (Ex.same e zE)) w) := by
  have hl : e.l.length = m := by
    obtain ⟨o, s, n, l⟩ := e
    exact h.len.1
  rw [same_z, hl]
  clear hl
  by_cases h1 : e.o = 0
  case neg =>
    have t1 : (e.o == 0) = false := beq_eq_false_iff_ne.2 h1
    rw [decide_eq_false h1]
    clear h h1
    go_enter Tryz.func75, Tryz.ntmps75
    go_wp2_with fail
    go_ret
    exact ⟨by simp, by (repeat (first | (with_reducible exact Below.refl _ _) | (with_reducible assumption) | (with_reducible apply bl_alloc) | (with_reducible apply bl_drewN) | (with_reducible apply bl_drew) | (with_reducible refine bl_set ?_ (by first | (simp; done) | (simp; omega)) _) | (with_reducible refine bl_call ?_ (by assumption))))⟩
  have t1 : (e.o == 0) = true := beq_iff_eq.2 h1
  rw [decide_eq_true h1]
  by_cases h2 : bs e.s = []
  case neg =>
    have t2 := emp_no h2
    rw [decide_eq_false h2]
    clear h h1 h2
    go_enter Tryz.func75, Tryz.ntmps75
    go_wp2_with fail
    go_ret
    exact ⟨by simp, by (repeat (first | (with_reducible exact Below.refl _ _) | (with_reducible assumption) | (with_reducible apply bl_alloc) | (with_reducible apply bl_drewN) | (with_reducible apply bl_drew) | (with_reducible refine bl_set ?_ (by first | (simp; done) | (simp; omega)) _) | (with_reducible refine bl_call ?_ (by assumption))))⟩
  have t2 := emp_yes h2
  rw [decide_eq_true h2]
  by_cases h3 : e.n = 0
  case neg =>
    have t3 : (e.n == 0) = false := beq_eq_false_iff_ne.2 h3
    rw [decide_eq_false h3]
    clear h h1 h2 h3
    go_enter Tryz.func75, Tryz.ntmps75
    go_wp2_with fail
    go_ret
    exact ⟨by simp, by (repeat (first | (with_reducible exact Below.refl _ _) | (with_reducible assumption) | (with_reducible apply bl_alloc) | (with_reducible apply bl_drewN) | (with_reducible apply bl_drew) | (with_reducible refine bl_set ?_ (by first | (simp; done) | (simp; omega)) _) | (with_reducible refine bl_call ?_ (by assumption))))⟩
  have t3 : (e.n == 0) = true := beq_iff_eq.2 h3
  rw [decide_eq_true h3]
  by_cases h4 : m = 0
  case neg =>
    have t4 : ((m : Int) == 0) = false := beq_eq_false_iff_ne.2 (by omega)
    rw [decide_eq_false h4]
    clear h h1 h2 h3 h4
    go_enter Tryz.func75, Tryz.ntmps75
    go_wp2_with fail
    go_ret
    exact ⟨by simp, by (repeat (first | (with_reducible exact Below.refl _ _) | (with_reducible assumption) | (with_reducible apply bl_alloc) | (with_reducible apply bl_drewN) | (with_reducible apply bl_drew) | (with_reducible refine bl_set ?_ (by first | (simp; done) | (simp; omega)) _) | (with_reducible refine bl_call ?_ (by assumption))))⟩
  have t4 : ((m : Int) == 0) = true := beq_iff_eq.2 (by omega)
  rw [decide_eq_true h4]
  clear h h1 h2 h3 h4
  go_enter Tryz.func75, Tryz.ntmps75
  go_wp2_with fail
  go_ret
  exact ⟨by simp, by (repeat (first | (with_reducible exact Below.refl _ _) | (with_reducible assumption) | (with_reducible apply bl_alloc) | (with_reducible apply bl_drewN) | (with_reducible apply bl_drew) | (with_reducible refine bl_set ?_ (by first | (simp; done) | (simp; omega)) _) | (with_reducible refine bl_call ?_ (by assumption))))⟩
end Go.Proofs.YtonlmnlpofgccaaGreat.Sm

/-
  The contract of the reference's formed.
-/
namespace Go.Proofs.YtonlmnlpofgccaaGreat.Sm
open Go.RowKit
open Go.Proofs.YtonlmnlpofgccaaGreat.Na (bs bs_inj chk)
open Go.Proofs.YtonlmnlpofgccaaGreat.Ex (Ex Nm Kin In Sz Lo Gives bl_alloc bl_drewN bl_drew bl_set bl_call block_lt emp_yes emp_no)
attribute [local go_sem] cs0 cs1 cs2 cs3 cs4 cs5 cs6 cs7 cs8 cs9 cs10 cs11 cs12 cs13 cs14 cs15 cs16 cs17 cs18 cs19 cs20
set_option maxHeartbeats 4000000
set_option linter.unusedVariables false
set_option linter.unusedSimpArgs false
/-- A boxed statement and its form, in a box behind it. -/
theorem frm_far {w w1 : World} (x : St) (P : Pl) (c : Array Value) (hb1 : Below (w.alloc (.cells (cs x P) 39)).heap.size (w.alloc (.cells (cs x P) 39)) w1) : Hid (∀ W, Below (w1.alloc (.cells c 87)).heap.size (w1.alloc (.cells c 87)) W → box21 W w.heap.size x P ∧ W.heap[w1.heap.size]? = some (.cells c 87 (0, 0))) := Lib.hid fun W hb => by
  have h1 : box21 (w.alloc (.cells (cs x P) 39)) w.heap.size x P := box_new21
  have h2 := World.alloc_heap_new w1 (.cells c 87)
  exact ⟨((h1.on hb1).on (show Below w1.heap.size w1 _ by (repeat (first | (with_reducible exact Below.refl _ _) | (with_reducible assumption) | (with_reducible apply bl_alloc) | (with_reducible apply bl_drewN) | (with_reducible apply bl_drew) | (with_reducible refine bl_set ?_ (by first | (simp; done) | (simp; omega)) _) | (with_reducible refine bl_call ?_ (by assumption)))))).on hb, (hb.block _ (by simp)).trans h2⟩
theorem frm_cells {W : World} {g : Nat} {a1 a2 a3 a4 a5 a6 a7 a8 a9 : Bool} (h : W.heap[g]? = some (.cells #[.bool a1, .bool a2, .bool a3, .bool a4, .bool a5, .bool a6, .bool a7, .bool a8, .bool a9] 87 (0, 0))) : W.cell? ⟨g, 0, none⟩ = some (.bool a1) ∧ W.cell? ⟨g, 1, none⟩ = some (.bool a2) ∧ W.cell? ⟨g, 2, none⟩ = some (.bool a3) ∧ W.cell? ⟨g, 3, none⟩ = some (.bool a4) ∧ W.cell? ⟨g, 4, none⟩ = some (.bool a5) ∧ W.cell? ⟨g, 5, none⟩ = some (.bool a6) ∧ W.cell? ⟨g, 6, none⟩ = some (.bool a7) ∧ W.cell? ⟨g, 7, none⟩ = some (.bool a8) ∧ W.cell? ⟨g, 8, none⟩ = some (.bool a9) :=
  ⟨cell_at h rfl, cell_at h rfl, cell_at h rfl, cell_at h rfl, cell_at h rfl, cell_at h rfl, cell_at h rfl, cell_at h rfl, cell_at h rfl⟩
set_option maxRecDepth 100000 in
theorem formed_walk (x : St) (P : Pl) (w : World) (a1 a2 a3 a4 a5 a6 a7 a8 a9 K z1 z2 z3 z4 z5 z6 z7 z8 z9 T X L V : Bool)
    (CO : Hid (∀ W, Below w.heap.size w W → Calls Tryz.prog 52 #[.int .i64 x.o] W (Gives (.tuple #[.agg #[.bool a1, .bool a2, .bool a3, .bool a4, .bool a5, .bool a6, .bool a7, .bool a8, .bool a9], .bool K]) W)))
    (C3 : Hid (∀ W, Below w.heap.size w W → Calls Tryz.prog 75 #[.agg #[.int .i64 x.e.o, .string x.e.s, .int .i64 x.e.n, .slice P.ep P.em P.ec]] W (Gives (.bool z3) W)))
    (C4 : Hid (∀ W, Below w.heap.size w W → Calls Tryz.prog 75 #[.agg #[.int .i64 x.g.o, .string x.g.s, .int .i64 x.g.n, .slice P.gp P.gm P.gc]] W (Gives (.bool z4) W)))
    (C6 : Hid (∀ W, Below w.heap.size w W → Calls Tryz.prog 76 #[.agg #[.int .i64 x.di.op, .int .i64 x.di.a, .int .i64 x.di.b, .int .i64 x.di.n, .slice P.vp P.vm P.vc, .slice P.wp P.wm P.wc], .agg #[.int .i64 0, .int .i64 0, .int .i64 0, .int .i64 0, .slice none 0 0, .slice none 0 0]] W (Gives (.bool z6) W)))
    (N1 : x.nm.toList.isEmpty = z1) (N2 : x.f.toList.isEmpty = z2) (N5 : ((P.am : Int) == 0) = z5) (N7 : x.fl = !z7) (N8 : ((P.bm : Int) == 0) = z8) (N9 : ((P.lm : Int) == 0) = z9)
    (E1 : Hid (T = ((a1 || z1) && (a2 || z2)))) (E2 : Hid (X = ((a3 || z3) && (a4 || z4) && (a5 || z5)))) (E3 : Hid (L = ((a8 || z8) && (a9 || z9)))) (E4 : Hid (V = (K && T && X && L && (a6 || z6) && (a7 || z7)))) :
    Calls Tryz.prog 53 #[.agg (cs x P)] w (Gives (.bool V) w) := by
  replace N7 := Lib.hid N7
  go_enter Tryz.func53, Tryz.ntmps53
  go_wp2_with fail
  refine (CO.out _ (by (repeat (first | (with_reducible exact Below.refl _ _) | (with_reducible assumption) | (with_reducible apply bl_alloc) | (with_reducible apply bl_drewN) | (with_reducible apply bl_drew) | (with_reducible refine bl_set ?_ (by first | (simp; done) | (simp; omega)) _) | (with_reducible refine bl_call ?_ (by assumption)))))).mono ?_
  rintro e w1 ⟨rfl, hb1⟩
  have FX := frm_far x P #[.bool a1, .bool a2, .bool a3, .bool a4, .bool a5, .bool a6, .bool a7, .bool a8, .bool a9] hb1
  go_upto_region 2 with fail
  go_cut [5] (fun v wr => v = .bool T ∧ Hid (Below (w1.alloc (.cells #[.bool a1, .bool a2, .bool a3, .bool a4, .bool a5, .bool a6, .bool a7, .bool a8, .bool a9] 87)).heap.size (w1.alloc (.cells #[.bool a1, .bool a2, .bool a3, .bool a4, .bool a5, .bool a6, .bool a7, .bool a8, .bool a9] 87)) wr))
  case first =>
    have q := FX.out _ (Below.refl _ _)
    obtain ⟨ca1, ca2, ca3, ca4, ca5, ca6, ca7, ca8, ca9⟩ := frm_cells q.2
    have b1 := q.1.c1
    have b2 := q.1.c2
    clear q
    cases a1 <;> cases z1 <;> cases a2 <;> cases z2
    all_goals
      have e0 := E1.out
      simp only [Bool.true_or, Bool.or_true, Bool.false_or, Bool.or_false, Bool.true_and, Bool.and_true, Bool.false_and, Bool.and_false, Bool.or_self, Bool.and_self] at e0
      subst e0
      go_wp2_with fail
      go_meet
      exact ⟨rfl, Lib.hid (by (repeat (first | (with_reducible exact Below.refl _ _) | (with_reducible assumption) | (with_reducible apply bl_alloc) | (with_reducible apply bl_drewN) | (with_reducible apply bl_drew) | (with_reducible refine bl_set ?_ (by first | (simp; done) | (simp; omega)) _) | (with_reducible refine bl_call ?_ (by assumption)))))⟩
  case rest =>
  obtain ⟨rfl, HB⟩ := hcut
  rename World => v1
  go_upto_region 3 with fail
  go_cut [6] (fun v wr => v = .bool X ∧ Hid (Below (w1.alloc (.cells #[.bool a1, .bool a2, .bool a3, .bool a4, .bool a5, .bool a6, .bool a7, .bool a8, .bool a9] 87)).heap.size (w1.alloc (.cells #[.bool a1, .bool a2, .bool a3, .bool a4, .bool a5, .bool a6, .bool a7, .bool a8, .bool a9] 87)) wr))
  case first =>
    have q := FX.out v1 (by have HBB := HB.out; (repeat (first | (with_reducible exact Below.refl _ _) | (with_reducible assumption) | (with_reducible apply bl_alloc) | (with_reducible apply bl_drewN) | (with_reducible apply bl_drew) | (with_reducible refine bl_set ?_ (by first | (simp; done) | (simp; omega)) _) | (with_reducible refine bl_call ?_ (by assumption)))))
    obtain ⟨ca1, ca2, ca3, ca4, ca5, ca6, ca7, ca8, ca9⟩ := frm_cells q.2
    have b3 := q.1.c3
    have b4 := q.1.c4
    have b5 := q.1.c5
    have b6 := q.1.c6
    have b7 := q.1.c7
    have b8 := q.1.c8
    have b9 := q.1.c9
    have b10 := q.1.c10
    have b11 := q.1.c11
    clear q
    have T5 := N5
    cases a3 with
    | true =>
      cases a4 with
      | true =>
        cases a5 with
        | true =>
          have e0 := E2.out
          simp only [Bool.true_or, Bool.or_true, Bool.false_or, Bool.or_false, Bool.true_and, Bool.and_true, Bool.false_and, Bool.and_false, Bool.or_self, Bool.and_self] at e0
          subst e0
          go_wp2_with fail
          go_meet
          exact ⟨rfl, Lib.hid (by have HBB := HB.out; (repeat (first | (with_reducible exact Below.refl _ _) | (with_reducible assumption) | (with_reducible apply bl_alloc) | (with_reducible apply bl_drewN) | (with_reducible apply bl_drew) | (with_reducible refine bl_set ?_ (by first | (simp; done) | (simp; omega)) _) | (with_reducible refine bl_call ?_ (by assumption)))))⟩
        | false =>
          cases z5 with
          | true =>
            have e0 := E2.out
            simp only [Bool.true_or, Bool.or_true, Bool.false_or, Bool.or_false, Bool.true_and, Bool.and_true, Bool.false_and, Bool.and_false, Bool.or_self, Bool.and_self] at e0
            subst e0
            go_wp2_with fail
            go_meet
            exact ⟨rfl, Lib.hid (by have HBB := HB.out; (repeat (first | (with_reducible exact Below.refl _ _) | (with_reducible assumption) | (with_reducible apply bl_alloc) | (with_reducible apply bl_drewN) | (with_reducible apply bl_drew) | (with_reducible refine bl_set ?_ (by first | (simp; done) | (simp; omega)) _) | (with_reducible refine bl_call ?_ (by assumption)))))⟩
          | false =>
            have e0 := E2.out
            simp only [Bool.true_or, Bool.or_true, Bool.false_or, Bool.or_false, Bool.true_and, Bool.and_true, Bool.false_and, Bool.and_false, Bool.or_self, Bool.and_self] at e0
            subst e0
            go_wp2_with fail
            go_meet
            exact ⟨rfl, Lib.hid (by have HBB := HB.out; (repeat (first | (with_reducible exact Below.refl _ _) | (with_reducible assumption) | (with_reducible apply bl_alloc) | (with_reducible apply bl_drewN) | (with_reducible apply bl_drew) | (with_reducible refine bl_set ?_ (by first | (simp; done) | (simp; omega)) _) | (with_reducible refine bl_call ?_ (by assumption)))))⟩
      | false =>
        cases z4 with
        | true =>
          cases a5 with
          | true =>
            have e0 := E2.out
            simp only [Bool.true_or, Bool.or_true, Bool.false_or, Bool.or_false, Bool.true_and, Bool.and_true, Bool.false_and, Bool.and_false, Bool.or_self, Bool.and_self] at e0
            subst e0
            go_wp2_with fail
            refine (C4.out _ (by have HBB := HB.out; (repeat (first | (with_reducible exact Below.refl _ _) | (with_reducible assumption) | (with_reducible apply bl_alloc) | (with_reducible apply bl_drewN) | (with_reducible apply bl_drew) | (with_reducible refine bl_set ?_ (by first | (simp; done) | (simp; omega)) _) | (with_reducible refine bl_call ?_ (by assumption)))))).mono ?_
            rintro e w4 ⟨rfl, hb4⟩
            have q := FX.out w4 (by have HBB := HB.out; (repeat (first | (with_reducible exact Below.refl _ _) | (with_reducible assumption) | (with_reducible apply bl_alloc) | (with_reducible apply bl_drewN) | (with_reducible apply bl_drew) | (with_reducible refine bl_set ?_ (by first | (simp; done) | (simp; omega)) _) | (with_reducible refine bl_call ?_ (by assumption)))))
            obtain ⟨ca1, ca2, ca3, ca4, ca5, ca6, ca7, ca8, ca9⟩ := frm_cells q.2
            have b11 := q.1.c11
            clear q
            go_wp2_with fail
            go_meet
            exact ⟨rfl, Lib.hid (by have HBB := HB.out; (repeat (first | (with_reducible exact Below.refl _ _) | (with_reducible assumption) | (with_reducible apply bl_alloc) | (with_reducible apply bl_drewN) | (with_reducible apply bl_drew) | (with_reducible refine bl_set ?_ (by first | (simp; done) | (simp; omega)) _) | (with_reducible refine bl_call ?_ (by assumption)))))⟩
          | false =>
            cases z5 with
            | true =>
              have e0 := E2.out
              simp only [Bool.true_or, Bool.or_true, Bool.false_or, Bool.or_false, Bool.true_and, Bool.and_true, Bool.false_and, Bool.and_false, Bool.or_self, Bool.and_self] at e0
              subst e0
              go_wp2_with fail
              refine (C4.out _ (by have HBB := HB.out; (repeat (first | (with_reducible exact Below.refl _ _) | (with_reducible assumption) | (with_reducible apply bl_alloc) | (with_reducible apply bl_drewN) | (with_reducible apply bl_drew) | (with_reducible refine bl_set ?_ (by first | (simp; done) | (simp; omega)) _) | (with_reducible refine bl_call ?_ (by assumption)))))).mono ?_
              rintro e w4 ⟨rfl, hb4⟩
              have q := FX.out w4 (by have HBB := HB.out; (repeat (first | (with_reducible exact Below.refl _ _) | (with_reducible assumption) | (with_reducible apply bl_alloc) | (with_reducible apply bl_drewN) | (with_reducible apply bl_drew) | (with_reducible refine bl_set ?_ (by first | (simp; done) | (simp; omega)) _) | (with_reducible refine bl_call ?_ (by assumption)))))
              obtain ⟨ca1, ca2, ca3, ca4, ca5, ca6, ca7, ca8, ca9⟩ := frm_cells q.2
              have b11 := q.1.c11
              clear q
              go_wp2_with fail
              go_meet
              exact ⟨rfl, Lib.hid (by have HBB := HB.out; (repeat (first | (with_reducible exact Below.refl _ _) | (with_reducible assumption) | (with_reducible apply bl_alloc) | (with_reducible apply bl_drewN) | (with_reducible apply bl_drew) | (with_reducible refine bl_set ?_ (by first | (simp; done) | (simp; omega)) _) | (with_reducible refine bl_call ?_ (by assumption)))))⟩
            | false =>
              have e0 := E2.out
              simp only [Bool.true_or, Bool.or_true, Bool.false_or, Bool.or_false, Bool.true_and, Bool.and_true, Bool.false_and, Bool.and_false, Bool.or_self, Bool.and_self] at e0
              subst e0
              go_wp2_with fail
              refine (C4.out _ (by have HBB := HB.out; (repeat (first | (with_reducible exact Below.refl _ _) | (with_reducible assumption) | (with_reducible apply bl_alloc) | (with_reducible apply bl_drewN) | (with_reducible apply bl_drew) | (with_reducible refine bl_set ?_ (by first | (simp; done) | (simp; omega)) _) | (with_reducible refine bl_call ?_ (by assumption)))))).mono ?_
              rintro e w4 ⟨rfl, hb4⟩
              have q := FX.out w4 (by have HBB := HB.out; (repeat (first | (with_reducible exact Below.refl _ _) | (with_reducible assumption) | (with_reducible apply bl_alloc) | (with_reducible apply bl_drewN) | (with_reducible apply bl_drew) | (with_reducible refine bl_set ?_ (by first | (simp; done) | (simp; omega)) _) | (with_reducible refine bl_call ?_ (by assumption)))))
              obtain ⟨ca1, ca2, ca3, ca4, ca5, ca6, ca7, ca8, ca9⟩ := frm_cells q.2
              have b11 := q.1.c11
              clear q
              go_wp2_with fail
              go_meet
              exact ⟨rfl, Lib.hid (by have HBB := HB.out; (repeat (first | (with_reducible exact Below.refl _ _) | (with_reducible assumption) | (with_reducible apply bl_alloc) | (with_reducible apply bl_drewN) | (with_reducible apply bl_drew) | (with_reducible refine bl_set ?_ (by first | (simp; done) | (simp; omega)) _) | (with_reducible refine bl_call ?_ (by assumption)))))⟩
        | false =>
          have e0 := E2.out
          simp only [Bool.true_or, Bool.or_true, Bool.false_or, Bool.or_false, Bool.true_and, Bool.and_true, Bool.false_and, Bool.and_false, Bool.or_self, Bool.and_self] at e0
          subst e0
          go_wp2_with fail
          refine (C4.out _ (by have HBB := HB.out; (repeat (first | (with_reducible exact Below.refl _ _) | (with_reducible assumption) | (with_reducible apply bl_alloc) | (with_reducible apply bl_drewN) | (with_reducible apply bl_drew) | (with_reducible refine bl_set ?_ (by first | (simp; done) | (simp; omega)) _) | (with_reducible refine bl_call ?_ (by assumption)))))).mono ?_
          rintro e w4 ⟨rfl, hb4⟩
          have q := FX.out w4 (by have HBB := HB.out; (repeat (first | (with_reducible exact Below.refl _ _) | (with_reducible assumption) | (with_reducible apply bl_alloc) | (with_reducible apply bl_drewN) | (with_reducible apply bl_drew) | (with_reducible refine bl_set ?_ (by first | (simp; done) | (simp; omega)) _) | (with_reducible refine bl_call ?_ (by assumption)))))
          obtain ⟨ca1, ca2, ca3, ca4, ca5, ca6, ca7, ca8, ca9⟩ := frm_cells q.2
          have b11 := q.1.c11
          clear q
          go_wp2_with fail
          go_meet
          exact ⟨rfl, Lib.hid (by have HBB := HB.out; (repeat (first | (with_reducible exact Below.refl _ _) | (with_reducible assumption) | (with_reducible apply bl_alloc) | (with_reducible apply bl_drewN) | (with_reducible apply bl_drew) | (with_reducible refine bl_set ?_ (by first | (simp; done) | (simp; omega)) _) | (with_reducible refine bl_call ?_ (by assumption)))))⟩
    | false =>
      cases z3 with
      | false =>
        have e0 := E2.out
        simp only [Bool.true_or, Bool.or_true, Bool.false_or, Bool.or_false, Bool.true_and, Bool.and_true, Bool.false_and, Bool.and_false, Bool.or_self, Bool.and_self] at e0
        subst e0
        go_wp2_with fail
        refine (C3.out _ (by have HBB := HB.out; (repeat (first | (with_reducible exact Below.refl _ _) | (with_reducible assumption) | (with_reducible apply bl_alloc) | (with_reducible apply bl_drewN) | (with_reducible apply bl_drew) | (with_reducible refine bl_set ?_ (by first | (simp; done) | (simp; omega)) _) | (with_reducible refine bl_call ?_ (by assumption)))))).mono ?_
        rintro e w3 ⟨rfl, hb3⟩
        have q := FX.out w3 (by have HBB := HB.out; (repeat (first | (with_reducible exact Below.refl _ _) | (with_reducible assumption) | (with_reducible apply bl_alloc) | (with_reducible apply bl_drewN) | (with_reducible apply bl_drew) | (with_reducible refine bl_set ?_ (by first | (simp; done) | (simp; omega)) _) | (with_reducible refine bl_call ?_ (by assumption)))))
        obtain ⟨ca1, ca2, ca3, ca4, ca5, ca6, ca7, ca8, ca9⟩ := frm_cells q.2
        have b7 := q.1.c7
        have b8 := q.1.c8
        have b9 := q.1.c9
        have b10 := q.1.c10
        have b11 := q.1.c11
        clear q
        go_wp2_with fail
        go_meet
        exact ⟨rfl, Lib.hid (by have HBB := HB.out; (repeat (first | (with_reducible exact Below.refl _ _) | (with_reducible assumption) | (with_reducible apply bl_alloc) | (with_reducible apply bl_drewN) | (with_reducible apply bl_drew) | (with_reducible refine bl_set ?_ (by first | (simp; done) | (simp; omega)) _) | (with_reducible refine bl_call ?_ (by assumption)))))⟩
      | true =>
        cases a4 with
        | true =>
          cases a5 with
          | true =>
            have e0 := E2.out
            simp only [Bool.true_or, Bool.or_true, Bool.false_or, Bool.or_false, Bool.true_and, Bool.and_true, Bool.false_and, Bool.and_false, Bool.or_self, Bool.and_self] at e0
            subst e0
            go_wp2_with fail
            refine (C3.out _ (by have HBB := HB.out; (repeat (first | (with_reducible exact Below.refl _ _) | (with_reducible assumption) | (with_reducible apply bl_alloc) | (with_reducible apply bl_drewN) | (with_reducible apply bl_drew) | (with_reducible refine bl_set ?_ (by first | (simp; done) | (simp; omega)) _) | (with_reducible refine bl_call ?_ (by assumption)))))).mono ?_
            rintro e w3 ⟨rfl, hb3⟩
            have q := FX.out w3 (by have HBB := HB.out; (repeat (first | (with_reducible exact Below.refl _ _) | (with_reducible assumption) | (with_reducible apply bl_alloc) | (with_reducible apply bl_drewN) | (with_reducible apply bl_drew) | (with_reducible refine bl_set ?_ (by first | (simp; done) | (simp; omega)) _) | (with_reducible refine bl_call ?_ (by assumption)))))
            obtain ⟨ca1, ca2, ca3, ca4, ca5, ca6, ca7, ca8, ca9⟩ := frm_cells q.2
            have b7 := q.1.c7
            have b8 := q.1.c8
            have b9 := q.1.c9
            have b10 := q.1.c10
            have b11 := q.1.c11
            clear q
            go_wp2_with fail
            go_meet
            exact ⟨rfl, Lib.hid (by have HBB := HB.out; (repeat (first | (with_reducible exact Below.refl _ _) | (with_reducible assumption) | (with_reducible apply bl_alloc) | (with_reducible apply bl_drewN) | (with_reducible apply bl_drew) | (with_reducible refine bl_set ?_ (by first | (simp; done) | (simp; omega)) _) | (with_reducible refine bl_call ?_ (by assumption)))))⟩
          | false =>
            cases z5 with
            | true =>
              have e0 := E2.out
              simp only [Bool.true_or, Bool.or_true, Bool.false_or, Bool.or_false, Bool.true_and, Bool.and_true, Bool.false_and, Bool.and_false, Bool.or_self, Bool.and_self] at e0
              subst e0
              go_wp2_with fail
              refine (C3.out _ (by have HBB := HB.out; (repeat (first | (with_reducible exact Below.refl _ _) | (with_reducible assumption) | (with_reducible apply bl_alloc) | (with_reducible apply bl_drewN) | (with_reducible apply bl_drew) | (with_reducible refine bl_set ?_ (by first | (simp; done) | (simp; omega)) _) | (with_reducible refine bl_call ?_ (by assumption)))))).mono ?_
              rintro e w3 ⟨rfl, hb3⟩
              have q := FX.out w3 (by have HBB := HB.out; (repeat (first | (with_reducible exact Below.refl _ _) | (with_reducible assumption) | (with_reducible apply bl_alloc) | (with_reducible apply bl_drewN) | (with_reducible apply bl_drew) | (with_reducible refine bl_set ?_ (by first | (simp; done) | (simp; omega)) _) | (with_reducible refine bl_call ?_ (by assumption)))))
              obtain ⟨ca1, ca2, ca3, ca4, ca5, ca6, ca7, ca8, ca9⟩ := frm_cells q.2
              have b7 := q.1.c7
              have b8 := q.1.c8
              have b9 := q.1.c9
              have b10 := q.1.c10
              have b11 := q.1.c11
              clear q
              go_wp2_with fail
              go_meet
              exact ⟨rfl, Lib.hid (by have HBB := HB.out; (repeat (first | (with_reducible exact Below.refl _ _) | (with_reducible assumption) | (with_reducible apply bl_alloc) | (with_reducible apply bl_drewN) | (with_reducible apply bl_drew) | (with_reducible refine bl_set ?_ (by first | (simp; done) | (simp; omega)) _) | (with_reducible refine bl_call ?_ (by assumption)))))⟩
            | false =>
              have e0 := E2.out
              simp only [Bool.true_or, Bool.or_true, Bool.false_or, Bool.or_false, Bool.true_and, Bool.and_true, Bool.false_and, Bool.and_false, Bool.or_self, Bool.and_self] at e0
              subst e0
              go_wp2_with fail
              refine (C3.out _ (by have HBB := HB.out; (repeat (first | (with_reducible exact Below.refl _ _) | (with_reducible assumption) | (with_reducible apply bl_alloc) | (with_reducible apply bl_drewN) | (with_reducible apply bl_drew) | (with_reducible refine bl_set ?_ (by first | (simp; done) | (simp; omega)) _) | (with_reducible refine bl_call ?_ (by assumption)))))).mono ?_
              rintro e w3 ⟨rfl, hb3⟩
              have q := FX.out w3 (by have HBB := HB.out; (repeat (first | (with_reducible exact Below.refl _ _) | (with_reducible assumption) | (with_reducible apply bl_alloc) | (with_reducible apply bl_drewN) | (with_reducible apply bl_drew) | (with_reducible refine bl_set ?_ (by first | (simp; done) | (simp; omega)) _) | (with_reducible refine bl_call ?_ (by assumption)))))
              obtain ⟨ca1, ca2, ca3, ca4, ca5, ca6, ca7, ca8, ca9⟩ := frm_cells q.2
              have b7 := q.1.c7
              have b8 := q.1.c8
              have b9 := q.1.c9
              have b10 := q.1.c10
              have b11 := q.1.c11
              clear q
              go_wp2_with fail
              go_meet
              exact ⟨rfl, Lib.hid (by have HBB := HB.out; (repeat (first | (with_reducible exact Below.refl _ _) | (with_reducible assumption) | (with_reducible apply bl_alloc) | (with_reducible apply bl_drewN) | (with_reducible apply bl_drew) | (with_reducible refine bl_set ?_ (by first | (simp; done) | (simp; omega)) _) | (with_reducible refine bl_call ?_ (by assumption)))))⟩
        | false =>
          cases z4 with
          | true =>
            cases a5 with
            | true =>
              have e0 := E2.out
              simp only [Bool.true_or, Bool.or_true, Bool.false_or, Bool.or_false, Bool.true_and, Bool.and_true, Bool.false_and, Bool.and_false, Bool.or_self, Bool.and_self] at e0
              subst e0
              go_wp2_with fail
              refine (C3.out _ (by have HBB := HB.out; (repeat (first | (with_reducible exact Below.refl _ _) | (with_reducible assumption) | (with_reducible apply bl_alloc) | (with_reducible apply bl_drewN) | (with_reducible apply bl_drew) | (with_reducible refine bl_set ?_ (by first | (simp; done) | (simp; omega)) _) | (with_reducible refine bl_call ?_ (by assumption)))))).mono ?_
              rintro e w3 ⟨rfl, hb3⟩
              have q := FX.out w3 (by have HBB := HB.out; (repeat (first | (with_reducible exact Below.refl _ _) | (with_reducible assumption) | (with_reducible apply bl_alloc) | (with_reducible apply bl_drewN) | (with_reducible apply bl_drew) | (with_reducible refine bl_set ?_ (by first | (simp; done) | (simp; omega)) _) | (with_reducible refine bl_call ?_ (by assumption)))))
              obtain ⟨ca1, ca2, ca3, ca4, ca5, ca6, ca7, ca8, ca9⟩ := frm_cells q.2
              have b7 := q.1.c7
              have b8 := q.1.c8
              have b9 := q.1.c9
              have b10 := q.1.c10
              have b11 := q.1.c11
              clear q
              go_wp2_with fail
              refine (C4.out _ (by have HBB := HB.out; (repeat (first | (with_reducible exact Below.refl _ _) | (with_reducible assumption) | (with_reducible apply bl_alloc) | (with_reducible apply bl_drewN) | (with_reducible apply bl_drew) | (with_reducible refine bl_set ?_ (by first | (simp; done) | (simp; omega)) _) | (with_reducible refine bl_call ?_ (by assumption)))))).mono ?_
              rintro e w4 ⟨rfl, hb4⟩
              have q := FX.out w4 (by have HBB := HB.out; (repeat (first | (with_reducible exact Below.refl _ _) | (with_reducible assumption) | (with_reducible apply bl_alloc) | (with_reducible apply bl_drewN) | (with_reducible apply bl_drew) | (with_reducible refine bl_set ?_ (by first | (simp; done) | (simp; omega)) _) | (with_reducible refine bl_call ?_ (by assumption)))))
              obtain ⟨ca1, ca2, ca3, ca4, ca5, ca6, ca7, ca8, ca9⟩ := frm_cells q.2
              have b11 := q.1.c11
              clear q
              go_wp2_with fail
              go_meet
              exact ⟨rfl, Lib.hid (by have HBB := HB.out; (repeat (first | (with_reducible exact Below.refl _ _) | (with_reducible assumption) | (with_reducible apply bl_alloc) | (with_reducible apply bl_drewN) | (with_reducible apply bl_drew) | (with_reducible refine bl_set ?_ (by first | (simp; done) | (simp; omega)) _) | (with_reducible refine bl_call ?_ (by assumption)))))⟩
            | false =>
              cases z5 with
              | true =>
                have e0 := E2.out
                simp only [Bool.true_or, Bool.or_true, Bool.false_or, Bool.or_false, Bool.true_and, Bool.and_true, Bool.false_and, Bool.and_false, Bool.or_self, Bool.and_self] at e0
                subst e0
                go_wp2_with fail
                refine (C3.out _ (by have HBB := HB.out; (repeat (first | (with_reducible exact Below.refl _ _) | (with_reducible assumption) | (with_reducible apply bl_alloc) | (with_reducible apply bl_drewN) | (with_reducible apply bl_drew) | (with_reducible refine bl_set ?_ (by first | (simp; done) | (simp; omega)) _) | (with_reducible refine bl_call ?_ (by assumption)))))).mono ?_
                rintro e w3 ⟨rfl, hb3⟩
                have q := FX.out w3 (by have HBB := HB.out; (repeat (first | (with_reducible exact Below.refl _ _) | (with_reducible assumption) | (with_reducible apply bl_alloc) | (with_reducible apply bl_drewN) | (with_reducible apply bl_drew) | (with_reducible refine bl_set ?_ (by first | (simp; done) | (simp; omega)) _) | (with_reducible refine bl_call ?_ (by assumption)))))
                obtain ⟨ca1, ca2, ca3, ca4, ca5, ca6, ca7, ca8, ca9⟩ := frm_cells q.2
                have b7 := q.1.c7
                have b8 := q.1.c8
                have b9 := q.1.c9
                have b10 := q.1.c10
                have b11 := q.1.c11
                clear q
                go_wp2_with fail
                refine (C4.out _ (by have HBB := HB.out; (repeat (first | (with_reducible exact Below.refl _ _) | (with_reducible assumption) | (with_reducible apply bl_alloc) | (with_reducible apply bl_drewN) | (with_reducible apply bl_drew) | (with_reducible refine bl_set ?_ (by first | (simp; done) | (simp; omega)) _) | (with_reducible refine bl_call ?_ (by assumption)))))).mono ?_
                rintro e w4 ⟨rfl, hb4⟩
                have q := FX.out w4 (by have HBB := HB.out; (repeat (first | (with_reducible exact Below.refl _ _) | (with_reducible assumption) | (with_reducible apply bl_alloc) | (with_reducible apply bl_drewN) | (with_reducible apply bl_drew) | (with_reducible refine bl_set ?_ (by first | (simp; done) | (simp; omega)) _) | (with_reducible refine bl_call ?_ (by assumption)))))
                obtain ⟨ca1, ca2, ca3, ca4, ca5, ca6, ca7, ca8, ca9⟩ := frm_cells q.2
                have b11 := q.1.c11
                clear q
                go_wp2_with fail
                go_meet
                exact ⟨rfl, Lib.hid (by have HBB := HB.out; (repeat (first | (with_reducible exact Below.refl _ _) | (with_reducible assumption) | (with_reducible apply bl_alloc) | (with_reducible apply bl_drewN) | (with_reducible apply bl_drew) | (with_reducible refine bl_set ?_ (by first | (simp; done) | (simp; omega)) _) | (with_reducible refine bl_call ?_ (by assumption)))))⟩
              | false =>
                have e0 := E2.out
                simp only [Bool.true_or, Bool.or_true, Bool.false_or, Bool.or_false, Bool.true_and, Bool.and_true, Bool.false_and, Bool.and_false, Bool.or_self, Bool.and_self] at e0
                subst e0
                go_wp2_with fail
                refine (C3.out _ (by have HBB := HB.out; (repeat (first | (with_reducible exact Below.refl _ _) | (with_reducible assumption) | (with_reducible apply bl_alloc) | (with_reducible apply bl_drewN) | (with_reducible apply bl_drew) | (with_reducible refine bl_set ?_ (by first | (simp; done) | (simp; omega)) _) | (with_reducible refine bl_call ?_ (by assumption)))))).mono ?_
                rintro e w3 ⟨rfl, hb3⟩
                have q := FX.out w3 (by have HBB := HB.out; (repeat (first | (with_reducible exact Below.refl _ _) | (with_reducible assumption) | (with_reducible apply bl_alloc) | (with_reducible apply bl_drewN) | (with_reducible apply bl_drew) | (with_reducible refine bl_set ?_ (by first | (simp; done) | (simp; omega)) _) | (with_reducible refine bl_call ?_ (by assumption)))))
                obtain ⟨ca1, ca2, ca3, ca4, ca5, ca6, ca7, ca8, ca9⟩ := frm_cells q.2
                have b7 := q.1.c7
                have b8 := q.1.c8
                have b9 := q.1.c9
                have b10 := q.1.c10
                have b11 := q.1.c11
                clear q
                go_wp2_with fail
                refine (C4.out _ (by have HBB := HB.out; (repeat (first | (with_reducible exact Below.refl _ _) | (with_reducible assumption) | (with_reducible apply bl_alloc) | (with_reducible apply bl_drewN) | (with_reducible apply bl_drew) | (with_reducible refine bl_set ?_ (by first | (simp; done) | (simp; omega)) _) | (with_reducible refine bl_call ?_ (by assumption)))))).mono ?_
                rintro e w4 ⟨rfl, hb4⟩
                have q := FX.out w4 (by have HBB := HB.out; (repeat (first | (with_reducible exact Below.refl _ _) | (with_reducible assumption) | (with_reducible apply bl_alloc) | (with_reducible apply bl_drewN) | (with_reducible apply bl_drew) | (with_reducible refine bl_set ?_ (by first | (simp; done) | (simp; omega)) _) | (with_reducible refine bl_call ?_ (by assumption)))))
                obtain ⟨ca1, ca2, ca3, ca4, ca5, ca6, ca7, ca8, ca9⟩ := frm_cells q.2
                have b11 := q.1.c11
                clear q
                go_wp2_with fail
                go_meet
                exact ⟨rfl, Lib.hid (by have HBB := HB.out; (repeat (first | (with_reducible exact Below.refl _ _) | (with_reducible assumption) | (with_reducible apply bl_alloc) | (with_reducible apply bl_drewN) | (with_reducible apply bl_drew) | (with_reducible refine bl_set ?_ (by first | (simp; done) | (simp; omega)) _) | (with_reducible refine bl_call ?_ (by assumption)))))⟩
          | false =>
            have e0 := E2.out
            simp only [Bool.true_or, Bool.or_true, Bool.false_or, Bool.or_false, Bool.true_and, Bool.and_true, Bool.false_and, Bool.and_false, Bool.or_self, Bool.and_self] at e0
            subst e0
            go_wp2_with fail
            refine (C3.out _ (by have HBB := HB.out; (repeat (first | (with_reducible exact Below.refl _ _) | (with_reducible assumption) | (with_reducible apply bl_alloc) | (with_reducible apply bl_drewN) | (with_reducible apply bl_drew) | (with_reducible refine bl_set ?_ (by first | (simp; done) | (simp; omega)) _) | (with_reducible refine bl_call ?_ (by assumption)))))).mono ?_
            rintro e w3 ⟨rfl, hb3⟩
            have q := FX.out w3 (by have HBB := HB.out; (repeat (first | (with_reducible exact Below.refl _ _) | (with_reducible assumption) | (with_reducible apply bl_alloc) | (with_reducible apply bl_drewN) | (with_reducible apply bl_drew) | (with_reducible refine bl_set ?_ (by first | (simp; done) | (simp; omega)) _) | (with_reducible refine bl_call ?_ (by assumption)))))
            obtain ⟨ca1, ca2, ca3, ca4, ca5, ca6, ca7, ca8, ca9⟩ := frm_cells q.2
            have b7 := q.1.c7
            have b8 := q.1.c8
            have b9 := q.1.c9
            have b10 := q.1.c10
            have b11 := q.1.c11
            clear q
            go_wp2_with fail
            refine (C4.out _ (by have HBB := HB.out; (repeat (first | (with_reducible exact Below.refl _ _) | (with_reducible assumption) | (with_reducible apply bl_alloc) | (with_reducible apply bl_drewN) | (with_reducible apply bl_drew) | (with_reducible refine bl_set ?_ (by first | (simp; done) | (simp; omega)) _) | (with_reducible refine bl_call ?_ (by assumption)))))).mono ?_
            rintro e w4 ⟨rfl, hb4⟩
            have q := FX.out w4 (by have HBB := HB.out; (repeat (first | (with_reducible exact Below.refl _ _) | (with_reducible assumption) | (with_reducible apply bl_alloc) | (with_reducible apply bl_drewN) | (with_reducible apply bl_drew) | (with_reducible refine bl_set ?_ (by first | (simp; done) | (simp; omega)) _) | (with_reducible refine bl_call ?_ (by assumption)))))
            obtain ⟨ca1, ca2, ca3, ca4, ca5, ca6, ca7, ca8, ca9⟩ := frm_cells q.2
            have b11 := q.1.c11
            clear q
            go_wp2_with fail
            go_meet
            exact ⟨rfl, Lib.hid (by have HBB := HB.out; (repeat (first | (with_reducible exact Below.refl _ _) | (with_reducible assumption) | (with_reducible apply bl_alloc) | (with_reducible apply bl_drewN) | (with_reducible apply bl_drew) | (with_reducible refine bl_set ?_ (by first | (simp; done) | (simp; omega)) _) | (with_reducible refine bl_call ?_ (by assumption)))))⟩
  case rest =>
  clear HB
  obtain ⟨rfl, HB⟩ := hcut
  rename World => v2
  go_upto_region 4 with fail
  go_cut [7] (fun v wr => v = .bool L ∧ Hid (Below (w1.alloc (.cells #[.bool a1, .bool a2, .bool a3, .bool a4, .bool a5, .bool a6, .bool a7, .bool a8, .bool a9] 87)).heap.size (w1.alloc (.cells #[.bool a1, .bool a2, .bool a3, .bool a4, .bool a5, .bool a6, .bool a7, .bool a8, .bool a9] 87)) wr))
  case first =>
    have q := FX.out v2 (by have HBB := HB.out; (repeat (first | (with_reducible exact Below.refl _ _) | (with_reducible assumption) | (with_reducible apply bl_alloc) | (with_reducible apply bl_drewN) | (with_reducible apply bl_drew) | (with_reducible refine bl_set ?_ (by first | (simp; done) | (simp; omega)) _) | (with_reducible refine bl_call ?_ (by assumption)))))
    obtain ⟨ca1, ca2, ca3, ca4, ca5, ca6, ca7, ca8, ca9⟩ := frm_cells q.2
    have b19 := q.1.c19
    have b20 := q.1.c20
    clear q
    cases a8 <;> cases z8 <;> cases a9 <;> cases z9
    all_goals
      have e0 := E3.out
      simp only [Bool.true_or, Bool.or_true, Bool.false_or, Bool.or_false, Bool.true_and, Bool.and_true, Bool.false_and, Bool.and_false, Bool.or_self, Bool.and_self] at e0
      subst e0
      go_wp2_with fail
      go_meet
      exact ⟨rfl, Lib.hid (by have HBB := HB.out; (repeat (first | (with_reducible exact Below.refl _ _) | (with_reducible assumption) | (with_reducible apply bl_alloc) | (with_reducible apply bl_drewN) | (with_reducible apply bl_drew) | (with_reducible refine bl_set ?_ (by first | (simp; done) | (simp; omega)) _) | (with_reducible refine bl_call ?_ (by assumption)))))⟩
  case rest =>
  clear HB
  obtain ⟨rfl, HB⟩ := hcut
  rename World => v3
  clear N1 N2 N5 N8 N9 E1 E2 E3 C3 C4 CO
  have q := FX.out v3 (by have HBB := HB.out; (repeat (first | (with_reducible exact Below.refl _ _) | (with_reducible assumption) | (with_reducible apply bl_alloc) | (with_reducible apply bl_drewN) | (with_reducible apply bl_drew) | (with_reducible refine bl_set ?_ (by first | (simp; done) | (simp; omega)) _) | (with_reducible refine bl_call ?_ (by assumption)))))
  obtain ⟨ca1, ca2, ca3, ca4, ca5, ca6, ca7, ca8, ca9⟩ := frm_cells q.2
  have b12 := q.1.c12
  have b13 := q.1.c13
  have b14 := q.1.c14
  have b15 := q.1.c15
  have b16 := q.1.c16
  have b17 := q.1.c17
  have b18 := q.1.c18
  clear q
  cases K with
  | false =>
    have e0 := E4.out
    simp only [Bool.true_or, Bool.or_true, Bool.false_or, Bool.or_false, Bool.true_and, Bool.and_true, Bool.false_and, Bool.and_false, Bool.or_self, Bool.and_self] at e0
    subst e0
    go_wp2_with fail
    go_ret
    exact ⟨rfl, by have HBB := HB.out; (repeat (first | (with_reducible exact Below.refl _ _) | (with_reducible assumption) | (with_reducible apply bl_alloc) | (with_reducible apply bl_drewN) | (with_reducible apply bl_drew) | (with_reducible refine bl_set ?_ (by first | (simp; done) | (simp; omega)) _) | (with_reducible refine bl_call ?_ (by assumption))))⟩
  | true =>
    cases T with
    | false =>
      have e0 := E4.out
      simp only [Bool.true_or, Bool.or_true, Bool.false_or, Bool.or_false, Bool.true_and, Bool.and_true, Bool.false_and, Bool.and_false, Bool.or_self, Bool.and_self] at e0
      subst e0
      go_wp2_with fail
      go_ret
      exact ⟨rfl, by have HBB := HB.out; (repeat (first | (with_reducible exact Below.refl _ _) | (with_reducible assumption) | (with_reducible apply bl_alloc) | (with_reducible apply bl_drewN) | (with_reducible apply bl_drew) | (with_reducible refine bl_set ?_ (by first | (simp; done) | (simp; omega)) _) | (with_reducible refine bl_call ?_ (by assumption))))⟩
    | true =>
      cases X with
      | false =>
        have e0 := E4.out
        simp only [Bool.true_or, Bool.or_true, Bool.false_or, Bool.or_false, Bool.true_and, Bool.and_true, Bool.false_and, Bool.and_false, Bool.or_self, Bool.and_self] at e0
        subst e0
        go_wp2_with fail
        go_ret
        exact ⟨rfl, by have HBB := HB.out; (repeat (first | (with_reducible exact Below.refl _ _) | (with_reducible assumption) | (with_reducible apply bl_alloc) | (with_reducible apply bl_drewN) | (with_reducible apply bl_drew) | (with_reducible refine bl_set ?_ (by first | (simp; done) | (simp; omega)) _) | (with_reducible refine bl_call ?_ (by assumption))))⟩
      | true =>
        cases L with
        | false =>
          have e0 := E4.out
          simp only [Bool.true_or, Bool.or_true, Bool.false_or, Bool.or_false, Bool.true_and, Bool.and_true, Bool.false_and, Bool.and_false, Bool.or_self, Bool.and_self] at e0
          subst e0
          go_wp2_with fail
          go_ret
          exact ⟨rfl, by have HBB := HB.out; (repeat (first | (with_reducible exact Below.refl _ _) | (with_reducible assumption) | (with_reducible apply bl_alloc) | (with_reducible apply bl_drewN) | (with_reducible apply bl_drew) | (with_reducible refine bl_set ?_ (by first | (simp; done) | (simp; omega)) _) | (with_reducible refine bl_call ?_ (by assumption))))⟩
        | true =>
          cases a6 with
          | true =>
            cases a7 with
            | true =>
              have e0 := E4.out
              simp only [Bool.true_or, Bool.or_true, Bool.false_or, Bool.or_false, Bool.true_and, Bool.and_true, Bool.false_and, Bool.and_false, Bool.or_self, Bool.and_self] at e0
              subst e0
              go_wp2_with fail
              go_ret
              exact ⟨rfl, by have HBB := HB.out; (repeat (first | (with_reducible exact Below.refl _ _) | (with_reducible assumption) | (with_reducible apply bl_alloc) | (with_reducible apply bl_drewN) | (with_reducible apply bl_drew) | (with_reducible refine bl_set ?_ (by first | (simp; done) | (simp; omega)) _) | (with_reducible refine bl_call ?_ (by assumption))))⟩
            | false =>
              cases z7 with
              | true =>
                have e0 := E4.out
                simp only [Bool.true_or, Bool.or_true, Bool.false_or, Bool.or_false, Bool.true_and, Bool.and_true, Bool.false_and, Bool.and_false, Bool.or_self, Bool.and_self] at e0
                subst e0
                have e7 := N7.out
                simp only [Bool.not_true] at e7
                rw [e7] at b18
                go_wp2_with fail
                go_ret
                exact ⟨rfl, by have HBB := HB.out; (repeat (first | (with_reducible exact Below.refl _ _) | (with_reducible assumption) | (with_reducible apply bl_alloc) | (with_reducible apply bl_drewN) | (with_reducible apply bl_drew) | (with_reducible refine bl_set ?_ (by first | (simp; done) | (simp; omega)) _) | (with_reducible refine bl_call ?_ (by assumption))))⟩
              | false =>
                have e0 := E4.out
                simp only [Bool.true_or, Bool.or_true, Bool.false_or, Bool.or_false, Bool.true_and, Bool.and_true, Bool.false_and, Bool.and_false, Bool.or_self, Bool.and_self] at e0
                subst e0
                have e7 := N7.out
                simp only [Bool.not_false] at e7
                rw [e7] at b18
                go_wp2_with fail
                go_ret
                exact ⟨rfl, by have HBB := HB.out; (repeat (first | (with_reducible exact Below.refl _ _) | (with_reducible assumption) | (with_reducible apply bl_alloc) | (with_reducible apply bl_drewN) | (with_reducible apply bl_drew) | (with_reducible refine bl_set ?_ (by first | (simp; done) | (simp; omega)) _) | (with_reducible refine bl_call ?_ (by assumption))))⟩
          | false =>
            cases z6 with
            | true =>
              cases a7 with
              | true =>
                have e0 := E4.out
                simp only [Bool.true_or, Bool.or_true, Bool.false_or, Bool.or_false, Bool.true_and, Bool.and_true, Bool.false_and, Bool.and_false, Bool.or_self, Bool.and_self] at e0
                subst e0
                go_wp2_with fail
                refine (C6.out _ (by have HBB := HB.out; (repeat (first | (with_reducible exact Below.refl _ _) | (with_reducible assumption) | (with_reducible apply bl_alloc) | (with_reducible apply bl_drewN) | (with_reducible apply bl_drew) | (with_reducible refine bl_set ?_ (by first | (simp; done) | (simp; omega)) _) | (with_reducible refine bl_call ?_ (by assumption)))))).mono ?_
                rintro e w6 ⟨rfl, hb6⟩
                have q := FX.out w6 (by have HBB := HB.out; (repeat (first | (with_reducible exact Below.refl _ _) | (with_reducible assumption) | (with_reducible apply bl_alloc) | (with_reducible apply bl_drewN) | (with_reducible apply bl_drew) | (with_reducible refine bl_set ?_ (by first | (simp; done) | (simp; omega)) _) | (with_reducible refine bl_call ?_ (by assumption)))))
                obtain ⟨ca1, ca2, ca3, ca4, ca5, ca6, ca7, ca8, ca9⟩ := frm_cells q.2
                have b18 := q.1.c18
                clear q
                (try rw [e7] at b18)
                go_wp2_with fail
                go_ret
                exact ⟨rfl, by have HBB := HB.out; (repeat (first | (with_reducible exact Below.refl _ _) | (with_reducible assumption) | (with_reducible apply bl_alloc) | (with_reducible apply bl_drewN) | (with_reducible apply bl_drew) | (with_reducible refine bl_set ?_ (by first | (simp; done) | (simp; omega)) _) | (with_reducible refine bl_call ?_ (by assumption))))⟩
              | false =>
                cases z7 with
                | true =>
                  have e0 := E4.out
                  simp only [Bool.true_or, Bool.or_true, Bool.false_or, Bool.or_false, Bool.true_and, Bool.and_true, Bool.false_and, Bool.and_false, Bool.or_self, Bool.and_self] at e0
                  subst e0
                  have e7 := N7.out
                  simp only [Bool.not_true] at e7
                  rw [e7] at b18
                  go_wp2_with fail
                  refine (C6.out _ (by have HBB := HB.out; (repeat (first | (with_reducible exact Below.refl _ _) | (with_reducible assumption) | (with_reducible apply bl_alloc) | (with_reducible apply bl_drewN) | (with_reducible apply bl_drew) | (with_reducible refine bl_set ?_ (by first | (simp; done) | (simp; omega)) _) | (with_reducible refine bl_call ?_ (by assumption)))))).mono ?_
                  rintro e w6 ⟨rfl, hb6⟩
                  have q := FX.out w6 (by have HBB := HB.out; (repeat (first | (with_reducible exact Below.refl _ _) | (with_reducible assumption) | (with_reducible apply bl_alloc) | (with_reducible apply bl_drewN) | (with_reducible apply bl_drew) | (with_reducible refine bl_set ?_ (by first | (simp; done) | (simp; omega)) _) | (with_reducible refine bl_call ?_ (by assumption)))))
                  obtain ⟨ca1, ca2, ca3, ca4, ca5, ca6, ca7, ca8, ca9⟩ := frm_cells q.2
                  have b18 := q.1.c18
                  clear q
                  (try rw [e7] at b18)
                  go_wp2_with fail
                  go_ret
                  exact ⟨rfl, by have HBB := HB.out; (repeat (first | (with_reducible exact Below.refl _ _) | (with_reducible assumption) | (with_reducible apply bl_alloc) | (with_reducible apply bl_drewN) | (with_reducible apply bl_drew) | (with_reducible refine bl_set ?_ (by first | (simp; done) | (simp; omega)) _) | (with_reducible refine bl_call ?_ (by assumption))))⟩
                | false =>
                  have e0 := E4.out
                  simp only [Bool.true_or, Bool.or_true, Bool.false_or, Bool.or_false, Bool.true_and, Bool.and_true, Bool.false_and, Bool.and_false, Bool.or_self, Bool.and_self] at e0
                  subst e0
                  have e7 := N7.out
                  simp only [Bool.not_false] at e7
                  rw [e7] at b18
                  go_wp2_with fail
                  refine (C6.out _ (by have HBB := HB.out; (repeat (first | (with_reducible exact Below.refl _ _) | (with_reducible assumption) | (with_reducible apply bl_alloc) | (with_reducible apply bl_drewN) | (with_reducible apply bl_drew) | (with_reducible refine bl_set ?_ (by first | (simp; done) | (simp; omega)) _) | (with_reducible refine bl_call ?_ (by assumption)))))).mono ?_
                  rintro e w6 ⟨rfl, hb6⟩
                  have q := FX.out w6 (by have HBB := HB.out; (repeat (first | (with_reducible exact Below.refl _ _) | (with_reducible assumption) | (with_reducible apply bl_alloc) | (with_reducible apply bl_drewN) | (with_reducible apply bl_drew) | (with_reducible refine bl_set ?_ (by first | (simp; done) | (simp; omega)) _) | (with_reducible refine bl_call ?_ (by assumption)))))
                  obtain ⟨ca1, ca2, ca3, ca4, ca5, ca6, ca7, ca8, ca9⟩ := frm_cells q.2
                  have b18 := q.1.c18
                  clear q
                  (try rw [e7] at b18)
                  go_wp2_with fail
                  go_ret
                  exact ⟨rfl, by have HBB := HB.out; (repeat (first | (with_reducible exact Below.refl _ _) | (with_reducible assumption) | (with_reducible apply bl_alloc) | (with_reducible apply bl_drewN) | (with_reducible apply bl_drew) | (with_reducible refine bl_set ?_ (by first | (simp; done) | (simp; omega)) _) | (with_reducible refine bl_call ?_ (by assumption))))⟩
            | false =>
              have e0 := E4.out
              simp only [Bool.true_or, Bool.or_true, Bool.false_or, Bool.or_false, Bool.true_and, Bool.and_true, Bool.false_and, Bool.and_false, Bool.or_self, Bool.and_self] at e0
              subst e0
              go_wp2_with fail
              refine (C6.out _ (by have HBB := HB.out; (repeat (first | (with_reducible exact Below.refl _ _) | (with_reducible assumption) | (with_reducible apply bl_alloc) | (with_reducible apply bl_drewN) | (with_reducible apply bl_drew) | (with_reducible refine bl_set ?_ (by first | (simp; done) | (simp; omega)) _) | (with_reducible refine bl_call ?_ (by assumption)))))).mono ?_
              rintro e w6 ⟨rfl, hb6⟩
              have q := FX.out w6 (by have HBB := HB.out; (repeat (first | (with_reducible exact Below.refl _ _) | (with_reducible assumption) | (with_reducible apply bl_alloc) | (with_reducible apply bl_drewN) | (with_reducible apply bl_drew) | (with_reducible refine bl_set ?_ (by first | (simp; done) | (simp; omega)) _) | (with_reducible refine bl_call ?_ (by assumption)))))
              obtain ⟨ca1, ca2, ca3, ca4, ca5, ca6, ca7, ca8, ca9⟩ := frm_cells q.2
              have b18 := q.1.c18
              clear q
              (try rw [e7] at b18)
              go_wp2_with fail
              go_ret
              exact ⟨rfl, by have HBB := HB.out; (repeat (first | (with_reducible exact Below.refl _ _) | (with_reducible assumption) | (with_reducible apply bl_alloc) | (with_reducible apply bl_drewN) | (with_reducible apply bl_drew) | (with_reducible refine bl_set ?_ (by first | (simp; done) | (simp; omega)) _) | (with_reducible refine bl_call ?_ (by assumption))))⟩
theorem len_zero {n m : Nat} (h : n = m) : ((m : Int) == 0) = decide (n = 0) := by
  subst h
  by_cases e : n = 0
  · subst e; rfl
  · rw [decide_eq_false e]; exact beq_eq_false_iff_ne.2 (by omega)
theorem emp_at (s : ByteArray) : s.toList.isEmpty = decide (bs s = []) := by
  by_cases h : bs s = []
  · rw [decide_eq_true h, emp_yes h]
  · rw [decide_eq_false h, emp_no h]
theorem rdsame_zero {w : World} {x : St} {P : Pl} (hx : SIn w x P) : Calls Tryz.prog 76 #[.agg #[.int .i64 x.di.op, .int .i64 x.di.a, .int .i64 x.di.b, .int .i64 x.di.n, .slice P.vp P.vm P.vc, .slice P.wp P.wm P.wc], .agg #[.int .i64 0, .int .i64 0, .int .i64 0, .int .i64 0, .slice none 0 0, .slice none 0 0]] w (Gives (.bool (sameDt x.di zD)) w) := by
  have h := Di.rsame_any x.di.op x.di.a x.di.b x.di.n P.vp x.di.vs.length P.vc P.wp x.di.ws.length P.wc _ _ 0 0 0 0 none 0 0 none 0 0 (fun i => ([] : List Int).getD i 0) (fun i => ([] : List Int).getD i 0) w hx.vs hx.ws (Di.row_nil _ _) (Di.row_nil _ _)
  rw [hx.vlen, hx.wlen] at h
  have e := sameD_list x.di zD
  rw [hx.vlen, hx.wlen] at e
  rw [← e]
  exact h
theorem rformed_any (x : St) (P : Pl) (w : World) (hx : SIn w x P) : Calls Tryz.prog 53 #[.agg (cs x P)] w (Gives (.bool (kn x.o && frm x)) w) := by
  have h1 : ((P.am : Int) == 0) = decide (x.ar.length = 0) := len_zero hx.ar.len.1
  have h2 : ((P.bm : Int) == 0) = decide (x.bo.length = 0) := len_zero hx.bo.len.1
  have h3 : ((P.lm : Int) == 0) = decide (x.el.length = 0) := len_zero hx.el.len.1
  refine formed_walk x P w (uN x.o) (uO x.o) (uE x.o) (uF x.o) (uA x.o) (uD x.o) (uG x.o) (uB x.o) (uL x.o) (kn x.o) (decide (bs x.nm = [])) (decide (bs x.f = [])) (Ex.same x.e zE) (Ex.same x.g zE) (decide (x.ar.length = 0)) (sameDt x.di zD) (!x.fl) (decide (x.bo.length = 0)) (decide (x.el.length = 0)) _ _ _ _
    (Lib.hid fun W hb => rof_any x.o W)
    (Lib.hid fun W hb => rzero_any x.e P.ep P.em P.ec W (hx.e.on hb))
    (Lib.hid fun W hb => rzero_any x.g P.gp P.gm P.gc W (hx.g.on hb))
    (Lib.hid fun W hb => rdsame_zero (hx.on hb))
    (emp_at _) (emp_at _) h1 (by simp) h2 h3 (Lib.hid rfl) (Lib.hid rfl) (Lib.hid rfl) (Lib.hid ?_)
  unfold frm
  cases kn x.o <;> cases uN x.o <;> cases uO x.o <;> cases uE x.o <;> cases uF x.o <;> simp [Bool.and_assoc, Bool.and_comm, Bool.and_left_comm]
end Go.Proofs.YtonlmnlpofgccaaGreat.Sm
