/-
  The contracts of Same: sameOne, the library's EqualFunc by it, Same.
-/
import Derived.Test.YtonlmnlpofgccaaGreatPBase
import Derived.Test.YtonlmnlpofgccaaGreatPSame
namespace Go.Proofs.YtonlmnlpofgccaaGreat.Sm
open Go.RowKit
open Go.Proofs.YtonlmnlpofgccaaGreat.Na (bs bs_inj chk)
open Go.Proofs.YtonlmnlpofgccaaGreat.Ex (Ex Nm Kin In Sz Lo Gives bl_alloc bl_drewN bl_drew bl_set bl_call block_lt eq_yes eq_no)
attribute [local go_sem] cs0 cs1 cs2 cs3 cs4 cs5 cs6 cs7 cs8 cs9 cs10 cs11 cs12 cs13 cs14 cs15 cs16 cs17 cs18 cs19 cs20
set_option maxHeartbeats 8000000
set_option linter.unusedVariables false
set_option maxRecDepth 100000 in
theorem one_calls (x y : St) (P Q : Pl) (w : World) (b1 b2 b3 b4 b5 b6 : Bool)
    (C1 : Hid (∀ W, Below w.heap.size w W → Calls Tryz.prog 42 #[.agg #[.int .i64 x.e.o, .string x.e.s, .int .i64 x.e.n, .slice P.ep P.em P.ec], .agg #[.int .i64 y.e.o, .string y.e.s, .int .i64 y.e.n, .slice Q.ep Q.em Q.ec]] W (Gives (.bool b1) W)))
    (C2 : Hid (∀ W, Below w.heap.size w W → Calls Tryz.prog 42 #[.agg #[.int .i64 x.g.o, .string x.g.s, .int .i64 x.g.n, .slice P.gp P.gm P.gc], .agg #[.int .i64 y.g.o, .string y.g.s, .int .i64 y.g.n, .slice Q.gp Q.gm Q.gc]] W (Gives (.bool b2) W)))
    (C3 : Hid (∀ W, Below w.heap.size w W → Calls Tryz.prog 43 #[.slice P.ap P.am P.ac, .slice Q.ap Q.am Q.ac, .func (.func 42) #[] #[]] W (Gives (.bool b3) W)))
    (C4 : Hid (∀ W, Below w.heap.size w W → Calls Tryz.prog 44 #[.agg #[.int .i64 x.di.op, .int .i64 x.di.a, .int .i64 x.di.b, .int .i64 x.di.n, .slice P.vp P.vm P.vc, .slice P.wp P.wm P.wc], .agg #[.int .i64 y.di.op, .int .i64 y.di.a, .int .i64 y.di.b, .int .i64 y.di.n, .slice Q.vp Q.vm Q.vc, .slice Q.wp Q.wm Q.wc]] W (Gives (.bool b4) W)))
    (C5 : Hid (∀ W, Below w.heap.size w W → Calls Tryz.prog 16 #[.slice P.bp P.bm P.bc, .slice Q.bp Q.bm Q.bc] W (Gives (.bool b5) W)))
    (C6 : Hid (∀ W, Below w.heap.size w W → Calls Tryz.prog 16 #[.slice P.lp P.lm P.lc, .slice Q.lp Q.lm Q.lc] W (Gives (.bool b6) W)))
    (u1 : (x.o == y.o) = true) (u2 : (x.nm.toList == y.nm.toList) = true) (u3 : (x.f.toList == y.f.toList) = true) (u4 : (x.fl == y.fl) = true) :
    Calls Tryz.prog 25 #[.agg (cs x P), .agg (cs y Q)] w (Gives (.bool (b1 && b2 && b3 && b4 && b5 && b6)) w) := by
  have FX := two_far (w := w) x y P Q
  go_enter Tryz.func25, Tryz.ntmps25
  go_wp2_with fail
  refine (C1.out _ (by (repeat (first | (with_reducible exact Below.refl _ _) | (with_reducible assumption) | (with_reducible apply bl_alloc) | (with_reducible apply bl_drewN) | (with_reducible apply bl_drew) | (with_reducible refine bl_set ?_ (by first | (simp; done) | (simp; omega)) _) | (with_reducible refine bl_call ?_ (by assumption)))))).mono ?_
  rintro e w1 ⟨rfl, hb1⟩
  cases b1 with
  | false =>
    go_wp2_with fail
    go_ret
    exact ⟨by simp, by (repeat (first | (with_reducible exact Below.refl _ _) | (with_reducible assumption) | (with_reducible apply bl_alloc) | (with_reducible apply bl_drewN) | (with_reducible apply bl_drew) | (with_reducible refine bl_set ?_ (by first | (simp; done) | (simp; omega)) _) | (with_reducible refine bl_call ?_ (by assumption))))⟩
  | true =>
  have q := FX.out w1 (by (repeat (first | (with_reducible exact Below.refl _ _) | (with_reducible assumption) | (with_reducible apply bl_alloc) | (with_reducible apply bl_drewN) | (with_reducible apply bl_drew) | (with_reducible refine bl_set ?_ (by first | (simp; done) | (simp; omega)) _) | (with_reducible refine bl_call ?_ (by assumption)))))
  have c7 := q.1.c7; have c8 := q.1.c8; have c9 := q.1.c9; have c10 := q.1.c10
  have d7 := q.2.c7; have d8 := q.2.c8; have d9 := q.2.c9; have d10 := q.2.c10
  clear q
  go_wp2_with fail
  clear c7 c8 c9 c10 d7 d8 d9 d10
  refine (C2.out _ (by (repeat (first | (with_reducible exact Below.refl _ _) | (with_reducible assumption) | (with_reducible apply bl_alloc) | (with_reducible apply bl_drewN) | (with_reducible apply bl_drew) | (with_reducible refine bl_set ?_ (by first | (simp; done) | (simp; omega)) _) | (with_reducible refine bl_call ?_ (by assumption)))))).mono ?_
  rintro e w2 ⟨rfl, hb2⟩
  cases b2 with
  | false =>
    go_wp2_with fail
    go_ret
    exact ⟨by simp, by (repeat (first | (with_reducible exact Below.refl _ _) | (with_reducible assumption) | (with_reducible apply bl_alloc) | (with_reducible apply bl_drewN) | (with_reducible apply bl_drew) | (with_reducible refine bl_set ?_ (by first | (simp; done) | (simp; omega)) _) | (with_reducible refine bl_call ?_ (by assumption))))⟩
  | true =>
  have q := FX.out w2 (by (repeat (first | (with_reducible exact Below.refl _ _) | (with_reducible assumption) | (with_reducible apply bl_alloc) | (with_reducible apply bl_drewN) | (with_reducible apply bl_drew) | (with_reducible refine bl_set ?_ (by first | (simp; done) | (simp; omega)) _) | (with_reducible refine bl_call ?_ (by assumption)))))
  have c11 := q.1.c11
  have d11 := q.2.c11
  clear q
  go_wp2_with fail
  clear c11 d11
  refine (C3.out _ (by (repeat (first | (with_reducible exact Below.refl _ _) | (with_reducible assumption) | (with_reducible apply bl_alloc) | (with_reducible apply bl_drewN) | (with_reducible apply bl_drew) | (with_reducible refine bl_set ?_ (by first | (simp; done) | (simp; omega)) _) | (with_reducible refine bl_call ?_ (by assumption)))))).mono ?_
  rintro e w3 ⟨rfl, hb3⟩
  cases b3 with
  | false =>
    go_wp2_with fail
    go_ret
    exact ⟨by simp, by (repeat (first | (with_reducible exact Below.refl _ _) | (with_reducible assumption) | (with_reducible apply bl_alloc) | (with_reducible apply bl_drewN) | (with_reducible apply bl_drew) | (with_reducible refine bl_set ?_ (by first | (simp; done) | (simp; omega)) _) | (with_reducible refine bl_call ?_ (by assumption))))⟩
  | true =>
  have q := FX.out w3 (by (repeat (first | (with_reducible exact Below.refl _ _) | (with_reducible assumption) | (with_reducible apply bl_alloc) | (with_reducible apply bl_drewN) | (with_reducible apply bl_drew) | (with_reducible refine bl_set ?_ (by first | (simp; done) | (simp; omega)) _) | (with_reducible refine bl_call ?_ (by assumption)))))
  have c12 := q.1.c12; have c13 := q.1.c13; have c14 := q.1.c14; have c15 := q.1.c15; have c16 := q.1.c16; have c17 := q.1.c17
  have d12 := q.2.c12; have d13 := q.2.c13; have d14 := q.2.c14; have d15 := q.2.c15; have d16 := q.2.c16; have d17 := q.2.c17
  clear q
  go_wp2_with fail
  clear c12 c13 c14 c15 c16 c17 d12 d13 d14 d15 d16 d17
  refine (C4.out _ (by (repeat (first | (with_reducible exact Below.refl _ _) | (with_reducible assumption) | (with_reducible apply bl_alloc) | (with_reducible apply bl_drewN) | (with_reducible apply bl_drew) | (with_reducible refine bl_set ?_ (by first | (simp; done) | (simp; omega)) _) | (with_reducible refine bl_call ?_ (by assumption)))))).mono ?_
  rintro e w4 ⟨rfl, hb4⟩
  cases b4 with
  | false =>
    go_wp2_with fail
    go_ret
    exact ⟨by simp, by (repeat (first | (with_reducible exact Below.refl _ _) | (with_reducible assumption) | (with_reducible apply bl_alloc) | (with_reducible apply bl_drewN) | (with_reducible apply bl_drew) | (with_reducible refine bl_set ?_ (by first | (simp; done) | (simp; omega)) _) | (with_reducible refine bl_call ?_ (by assumption))))⟩
  | true =>
  have q := FX.out w4 (by (repeat (first | (with_reducible exact Below.refl _ _) | (with_reducible assumption) | (with_reducible apply bl_alloc) | (with_reducible apply bl_drewN) | (with_reducible apply bl_drew) | (with_reducible refine bl_set ?_ (by first | (simp; done) | (simp; omega)) _) | (with_reducible refine bl_call ?_ (by assumption)))))
  have c19 := q.1.c19
  have d19 := q.2.c19
  clear q
  go_wp2_with fail
  clear c19 d19
  refine (C5.out _ (by (repeat (first | (with_reducible exact Below.refl _ _) | (with_reducible assumption) | (with_reducible apply bl_alloc) | (with_reducible apply bl_drewN) | (with_reducible apply bl_drew) | (with_reducible refine bl_set ?_ (by first | (simp; done) | (simp; omega)) _) | (with_reducible refine bl_call ?_ (by assumption)))))).mono ?_
  rintro e w5 ⟨rfl, hb5⟩
  cases b5 with
  | false =>
    go_wp2_with fail
    go_ret
    exact ⟨by simp, by (repeat (first | (with_reducible exact Below.refl _ _) | (with_reducible assumption) | (with_reducible apply bl_alloc) | (with_reducible apply bl_drewN) | (with_reducible apply bl_drew) | (with_reducible refine bl_set ?_ (by first | (simp; done) | (simp; omega)) _) | (with_reducible refine bl_call ?_ (by assumption))))⟩
  | true =>
  have q := FX.out w5 (by (repeat (first | (with_reducible exact Below.refl _ _) | (with_reducible assumption) | (with_reducible apply bl_alloc) | (with_reducible apply bl_drewN) | (with_reducible apply bl_drew) | (with_reducible refine bl_set ?_ (by first | (simp; done) | (simp; omega)) _) | (with_reducible refine bl_call ?_ (by assumption)))))
  have c20 := q.1.c20
  have d20 := q.2.c20
  clear q
  go_wp2_with fail
  clear c20 d20
  refine (C6.out _ (by (repeat (first | (with_reducible exact Below.refl _ _) | (with_reducible assumption) | (with_reducible apply bl_alloc) | (with_reducible apply bl_drewN) | (with_reducible apply bl_drew) | (with_reducible refine bl_set ?_ (by first | (simp; done) | (simp; omega)) _) | (with_reducible refine bl_call ?_ (by assumption)))))).mono ?_
  rintro e w6 ⟨rfl, hb6⟩
  go_wp2_with fail
  go_ret
  exact ⟨by simp, by (repeat (first | (with_reducible exact Below.refl _ _) | (with_reducible assumption) | (with_reducible apply bl_alloc) | (with_reducible apply bl_drewN) | (with_reducible apply bl_drew) | (with_reducible refine bl_set ?_ (by first | (simp; done) | (simp; omega)) _) | (with_reducible refine bl_call ?_ (by assumption))))⟩
end Go.Proofs.YtonlmnlpofgccaaGreat.Sm
