/-
  The contracts of Same: equal lists of numbers; sameOne where a text, a form or a flag differs.
-/
import Derived.Test.YtonlmnlpofgccaaGreatPBase
import Derived.Test.YtonlmnlpofgccaaGreatESame
namespace Go.Proofs.YtonlmnlpofgccaaGreat.Sm
open Go.RowKit
open Go.Proofs.YtonlmnlpofgccaaGreat.Na (bs bs_inj chk)
open Go.Proofs.YtonlmnlpofgccaaGreat.Ex (Ex Nm Kin In Sz Lo Gives bl_alloc bl_drewN bl_drew bl_set bl_call block_lt eq_yes eq_no)
attribute [local go_sem] cs0 cs1 cs2 cs3 cs4 cs5 cs6 cs7 cs8 cs9 cs10 cs11 cs12 cs13 cs14 cs15 cs16 cs17 cs18 cs19 cs20
set_option maxHeartbeats 8000000
set_option linter.unusedVariables false
theorem eqTo_list : ∀ (n : Nat) (l m : List Int), n ≤ l.length → n ≤ m.length → (Di.eqTo (fun i => l.getD i 0) (fun i => m.getD i 0) n = true ↔ l.take n = m.take n)
  | 0, l, m, _, _ => by simp [Di.eqTo]
  | n + 1, l, m, h1, h2 => by
    have ih := eqTo_list n l m (by omega) (by omega)
    rw [Di.eqTo, Bool.and_eq_true, ih, take_snoc' (show n < l.length by omega), take_snoc' (show n < m.length by omega)]
    have e1 : l.getD n 0 = l[n] := by simp [List.getD, List.getElem?_eq_getElem (show n < l.length by omega)]
    have e2 : m.getD n 0 = m[n] := by simp [List.getD, List.getElem?_eq_getElem (show n < m.length by omega)]
    rw [beq_iff_eq, e1, e2]
    constructor
    · rintro ⟨a, b⟩; rw [a, b]
    · intro h
      have := List.append_inj h (by simp; omega)
      exact ⟨this.1, by simpa using this.2⟩
where take_snoc' {l : List Int} {k : Nat} (h : k < l.length) : l.take (k + 1) = l.take k ++ [l[k]] := Ex.take_snoc h
theorem eqL_list (l m : List Int) : Di.eqL l.length m.length (fun i => l.getD i 0) (fun i => m.getD i 0) = decide (l = m) := by
  unfold Di.eqL
  by_cases h : l.length = m.length
  · rw [beq_iff_eq.2 h, Bool.true_and]
    have := eqTo_list l.length l m (Nat.le_refl _) (by omega)
    rw [List.take_length, h, List.take_length] at this
    rw [h]
    by_cases e : l = m
    · rw [decide_eq_true e]; exact this.2 e
    · rw [decide_eq_false e]
      cases hh : Di.eqTo (fun i => l.getD i 0) (fun i => m.getD i 0) m.length with
      | false => rfl
      | true => exact absurd (this.1 hh) e
  · rw [beq_eq_false_iff_ne.2 h, Bool.false_and, decide_eq_false (fun e => h (by rw [e]))]
theorem sameD_list (x y : Dt) : Di.sameD x.op x.a x.b x.n x.vs.length x.ws.length (fun i => x.vs.getD i 0) (fun i => x.ws.getD i 0) y.op y.a y.b y.n y.vs.length y.ws.length (fun i => y.vs.getD i 0) (fun i => y.ws.getD i 0) = sameDt x y := by
  unfold Di.sameD sameDt
  rw [eqL_list, eqL_list]
  rfl
theorem dsame_any {w : World} {x y : St} {P Q : Pl} (hx : SIn w x P) (hy : SIn w y Q) : Calls Tryz.prog 44 #[.agg #[.int .i64 x.di.op, .int .i64 x.di.a, .int .i64 x.di.b, .int .i64 x.di.n, .slice P.vp P.vm P.vc, .slice P.wp P.wm P.wc], .agg #[.int .i64 y.di.op, .int .i64 y.di.a, .int .i64 y.di.b, .int .i64 y.di.n, .slice Q.vp Q.vm Q.vc, .slice Q.wp Q.wm Q.wc]] w (Gives (.bool (sameDt x.di y.di)) w) := by
  have h := Di.same_any x.di.op x.di.a x.di.b x.di.n P.vp x.di.vs.length P.vc P.wp x.di.ws.length P.wc _ _ y.di.op y.di.a y.di.b y.di.n Q.vp y.di.vs.length Q.vc Q.wp y.di.ws.length Q.wc _ _ w hx.vs hx.ws hy.vs hy.ws
  rw [sameD_list, hx.vlen, hx.wlen, hy.vlen, hy.wlen] at h
  exact h
theorem args_any {w : World} {x y : St} {P Q : Pl} (hx : SIn w x P) (hy : SIn w y Q) : Calls Tryz.prog 43 #[.slice P.ap P.am P.ac, .slice Q.ap Q.am Q.ac, .func (.func 42) #[] #[]] w (Gives (.bool (Ex.sameL x.ar y.ar)) w) :=
  Ex.equal_of x.ar (fun e _ => Ex.same_any e) y.ar P.ap P.am P.ac Q.ap Q.am Q.ac w hx.ar hy.ar
/-- Two boxed statements. -/
theorem two_far {w : World} (x y : St) (P Q : Pl) : Hid (∀ W, Below ((w.alloc (.cells (cs x P) 39)).alloc (.cells (cs y Q) 39)).heap.size ((w.alloc (.cells (cs x P) 39)).alloc (.cells (cs y Q) 39)) W → box21 W w.heap.size x P ∧ box21 W (w.heap.size + 1) y Q) := Lib.hid fun W hb => by
  have h1 : box21 (w.alloc (.cells (cs x P) 39)) w.heap.size x P := box_new21
  have h2 := box_new21 (w := w.alloc (.cells (cs x P) 39)) (x := y) (P := Q)
  have e : (w.alloc (.cells (cs x P) 39)).heap.size = w.heap.size + 1 := by simp
  rw [e] at h2
  exact ⟨(h1.on (by (repeat (first | (with_reducible exact Below.refl _ _) | (with_reducible assumption) | (with_reducible apply bl_alloc) | (with_reducible apply bl_drewN) | (with_reducible apply bl_drew) | (with_reducible refine bl_set ?_ (by first | (simp; done) | (simp; omega)) _) | (with_reducible refine bl_call ?_ (by assumption)))))).on hb, h2.on hb⟩
set_option maxRecDepth 100000 in
theorem one_no1 (x y : St) (P Q : Pl) (w : World) (u1 : (x.o == y.o) = false) : Calls Tryz.prog 25 #[.agg (cs x P), .agg (cs y Q)] w (Gives (.bool false) w) := by
  go_enter Tryz.func25, Tryz.ntmps25
  go_wp2_with fail
  go_ret
  exact ⟨rfl, by (repeat (first | (with_reducible exact Below.refl _ _) | (with_reducible assumption) | (with_reducible apply bl_alloc) | (with_reducible apply bl_drewN) | (with_reducible apply bl_drew) | (with_reducible refine bl_set ?_ (by first | (simp; done) | (simp; omega)) _) | (with_reducible refine bl_call ?_ (by assumption))))⟩
set_option maxRecDepth 100000 in
theorem one_no2 (x y : St) (P Q : Pl) (w : World) (u1 : (x.o == y.o) = true) (u2 : (x.nm.toList == y.nm.toList) = false) : Calls Tryz.prog 25 #[.agg (cs x P), .agg (cs y Q)] w (Gives (.bool false) w) := by
  go_enter Tryz.func25, Tryz.ntmps25
  go_wp2_with fail
  go_ret
  exact ⟨rfl, by (repeat (first | (with_reducible exact Below.refl _ _) | (with_reducible assumption) | (with_reducible apply bl_alloc) | (with_reducible apply bl_drewN) | (with_reducible apply bl_drew) | (with_reducible refine bl_set ?_ (by first | (simp; done) | (simp; omega)) _) | (with_reducible refine bl_call ?_ (by assumption))))⟩
set_option maxRecDepth 100000 in
theorem one_no3 (x y : St) (P Q : Pl) (w : World) (u1 : (x.o == y.o) = true) (u2 : (x.nm.toList == y.nm.toList) = true) (u3 : (x.f.toList == y.f.toList) = false) : Calls Tryz.prog 25 #[.agg (cs x P), .agg (cs y Q)] w (Gives (.bool false) w) := by
  go_enter Tryz.func25, Tryz.ntmps25
  go_wp2_with fail
  go_ret
  exact ⟨rfl, by (repeat (first | (with_reducible exact Below.refl _ _) | (with_reducible assumption) | (with_reducible apply bl_alloc) | (with_reducible apply bl_drewN) | (with_reducible apply bl_drew) | (with_reducible refine bl_set ?_ (by first | (simp; done) | (simp; omega)) _) | (with_reducible refine bl_call ?_ (by assumption))))⟩
set_option maxRecDepth 100000 in
theorem one_no4 (x y : St) (P Q : Pl) (w : World) (u1 : (x.o == y.o) = true) (u2 : (x.nm.toList == y.nm.toList) = true) (u3 : (x.f.toList == y.f.toList) = true) (u4 : (x.fl == y.fl) = false) : Calls Tryz.prog 25 #[.agg (cs x P), .agg (cs y Q)] w (Gives (.bool false) w) := by
  go_enter Tryz.func25, Tryz.ntmps25
  go_wp2_with fail
  go_ret
  exact ⟨rfl, by (repeat (first | (with_reducible exact Below.refl _ _) | (with_reducible assumption) | (with_reducible apply bl_alloc) | (with_reducible apply bl_drewN) | (with_reducible apply bl_drew) | (with_reducible refine bl_set ?_ (by first | (simp; done) | (simp; omega)) _) | (with_reducible refine bl_call ?_ (by assumption))))⟩
end Go.Proofs.YtonlmnlpofgccaaGreat.Sm
