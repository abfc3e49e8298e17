/-
  The contract of checkOne.
-/
import Derived.Test.YtonlmnlpofgccaaGreatPOth
import Derived.Test.YtonlmnlpofgccaaGreatPUsage
namespace Go.Proofs.YtonlmnlpofgccaaGreat.Sm
open Go.RowKit
open Go.Proofs.YtonlmnlpofgccaaGreat.Na (bs bs_inj chk)
open Go.Proofs.YtonlmnlpofgccaaGreat.Ex (Ex Nm Kin In Sz Lo Gives bl_alloc bl_drewN bl_drew bl_set bl_call block_lt chkE ret_int)
attribute [local go_sem] cs0 cs1 cs2 cs3 cs4 cs5 cs6 cs7 cs8 cs9 cs10 cs11 cs12 cs13 cs14 cs15 cs16 cs17 cs18 cs19 cs20
set_option maxHeartbeats 4000000
set_option linter.unusedVariables false
/-- Some field that the form does not use is not zero. -/
def oth (x : St) : Bool := ((((((((!uN x.o && !decide (bs x.nm = [])) || (!uO x.o && !decide (bs x.f = []))) || (!uE x.o && !Ex.same x.e zE)) || (!uF x.o && !Ex.same x.g zE)) || (!uA x.o && !decide (x.ar.length = 0))) || (!uD x.o && !sameDt x.di zD)) || (!uG x.o && x.fl)) || (!uB x.o && !decide (x.bo.length = 0))) || (!uL x.o && !decide (x.el.length = 0))
theorem oth_frm (x : St) : oth x = !frm x := by
  unfold oth frm
  simp only [Bool.not_and, Bool.not_or, Bool.not_not]
theorem emp_is (s : ByteArray) : s.toList.isEmpty = !(!decide (bs s = [])) := by
  rw [Bool.not_not, Lib.toList_data]
  show (bs s).isEmpty = _
  cases bs s with
  | nil => rfl
  | cons x t => rfl
theorem len_is {n m : Nat} (h : n = m) : decide ((0 : Int) < (m : Int)) = !decide (n = 0) ∧ decide (0 < m) = !decide (n = 0) := by
  subst h
  by_cases e : n = 0
  · subst e; exact ⟨rfl, rfl⟩
  · rw [decide_eq_false e]
    exact ⟨decide_eq_true (by omega), decide_eq_true (by omega)⟩
theorem others_any (x : St) (P : Pl) (w : World) (hx : SIn w x P) : Calls Tryz.prog 29 #[.agg (cs x P), usV x.o] w (Gives (.bool (oth x)) w) := by
  have h1 := len_is hx.ar.len.1
  have h2 := len_is hx.bo.len.1
  have h3 := len_is hx.el.len.1
  exact others_walk x P w (uN x.o) (uO x.o) (uE x.o) (uF x.o) (uA x.o) (uD x.o) (uG x.o) (uB x.o) (uL x.o) (!decide (bs x.nm = [])) (!decide (bs x.f = [])) (!Ex.same x.e zE) (!Ex.same x.g zE) (!decide (x.ar.length = 0)) (!sameDt x.di zD) x.fl (!decide (x.bo.length = 0)) (!decide (x.el.length = 0)) _ _ _ _ _ _ _ _ _
    (Lib.hid fun W hb => by rw [Bool.not_not]; exact Ex.same_any x.e zE P.ep P.em P.ec none 0 0 W (hx.e.on hb) Ex.Kin.zero)
    (Lib.hid fun W hb => by rw [Bool.not_not]; exact Ex.same_any x.g zE P.gp P.gm P.gc none 0 0 W (hx.g.on hb) Ex.Kin.zero)
    (Lib.hid fun W hb => by
      rw [Bool.not_not]
      have h := Di.same_any x.di.op x.di.a x.di.b x.di.n P.vp x.di.vs.length P.vc P.wp x.di.ws.length P.wc _ _ 0 0 0 0 none 0 0 none 0 0 (fun i => ([] : List Int).getD i 0) (fun i => ([] : List Int).getD i 0) W (hx.on hb).vs (hx.on hb).ws (Di.row_nil _ _) (Di.row_nil _ _)
      rw [hx.vlen, hx.wlen] at h
      have e := sameD_list x.di zD
      rw [hx.vlen, hx.wlen] at e
      rw [← e]
      exact h)
    (emp_is _) (emp_is _) h1.1 h1.2 rfl h2.1 h2.2 h3.1 h3.2 rfl rfl rfl rfl rfl rfl rfl rfl rfl
theorem keepC {w' : World} {g g2 : Nat} {x : St} {P : Pl} {a1 a2 a3 a4 a5 a6 a7 a8 a9 : Bool} (h : box21 w' g x P ∧ w'.heap[g2]? = some (.cells #[.bool a1, .bool a2, .bool a3, .bool a4, .bool a5, .bool a6, .bool a7, .bool a8, .bool a9] 59 (0, 0))) : w'.cell? ⟨g, 1, none⟩ = some (.string x.nm) ∧ w'.cell? ⟨g, 2, none⟩ = some (.string x.f) ∧ w'.cell? ⟨g, 3, none⟩ = some (.int .i64 x.e.o) ∧ w'.cell? ⟨g, 4, none⟩ = some (.string x.e.s) ∧ w'.cell? ⟨g, 5, none⟩ = some (.int .i64 x.e.n) ∧ w'.cell? ⟨g, 6, none⟩ = some (.slice P.ep P.em P.ec) ∧ w'.cell? ⟨g, 7, none⟩ = some (.int .i64 x.g.o) ∧ w'.cell? ⟨g, 8, none⟩ = some (.string x.g.s) ∧ w'.cell? ⟨g, 9, none⟩ = some (.int .i64 x.g.n) ∧ w'.cell? ⟨g, 10, none⟩ = some (.slice P.gp P.gm P.gc) ∧ w'.cell? ⟨g, 11, none⟩ = some (.slice P.ap P.am P.ac) ∧ w'.cell? ⟨g, 12, none⟩ = some (.int .i64 x.di.op) ∧ w'.cell? ⟨g, 13, none⟩ = some (.int .i64 x.di.a) ∧ w'.cell? ⟨g, 14, none⟩ = some (.int .i64 x.di.b) ∧ w'.cell? ⟨g, 15, none⟩ = some (.int .i64 x.di.n) ∧ w'.cell? ⟨g, 16, none⟩ = some (.slice P.vp P.vm P.vc) ∧ w'.cell? ⟨g, 17, none⟩ = some (.slice P.wp P.wm P.wc) ∧ w'.cell? ⟨g2, 0, none⟩ = some (.bool a1) ∧ w'.cell? ⟨g2, 1, none⟩ = some (.bool a2) ∧ w'.cell? ⟨g2, 2, none⟩ = some (.bool a3) ∧ w'.cell? ⟨g2, 3, none⟩ = some (.bool a4) ∧ w'.cell? ⟨g2, 4, none⟩ = some (.bool a5) ∧ w'.cell? ⟨g2, 5, none⟩ = some (.bool a6) :=
  ⟨h.1.c1, h.1.c2, h.1.c3, h.1.c4, h.1.c5, h.1.c6, h.1.c7, h.1.c8, h.1.c9, h.1.c10, h.1.c11, h.1.c12, h.1.c13, h.1.c14, h.1.c15, h.1.c16, h.1.c17, cell_at h.2 rfl, cell_at h.2 rfl, cell_at h.2 rfl, cell_at h.2 rfl, cell_at h.2 rfl, cell_at h.2 rfl⟩
theorem cells6 (w : World) (t : TypeId) (r1 r2 r3 r4 r5 r6 : Int) : ∀ i, (h : i < [r1, r2, r3, r4, r5, r6].length) → (w.alloc (.cells #[.int .i64 r1, .int .i64 r2, .int .i64 r3, .int .i64 r4, .int .i64 r5, .int .i64 r6] t)).cell? ⟨w.heap.size, i, none⟩ = some (.int .i64 [r1, r2, r3, r4, r5, r6][i]) := by
  intro i h
  rw [World.cell?_alloc_mark]
  match i, h with
  | 0, _ => rfl
  | 1, _ => rfl
  | 2, _ => rfl
  | 3, _ => rfl
  | 4, _ => rfl
  | 5, _ => rfl
/-- A boxed statement and what its form uses, in a box behind it. -/
theorem chk_far {w w1 : World} (x : St) (P : Pl) (c : Array Value) (hb1 : Below (w.alloc (.cells (cs x P) 39)).heap.size (w.alloc (.cells (cs x P) 39)) w1) : Hid (∀ W, Below (w1.alloc (.cells c 59)).heap.size (w1.alloc (.cells c 59)) W → box21 W w.heap.size x P ∧ W.heap[w1.heap.size]? = some (.cells c 59 (0, 0))) := Lib.hid fun W hb => by
  have h1 : box21 (w.alloc (.cells (cs x P) 39)) w.heap.size x P := box_new21
  have h2 := World.alloc_heap_new w1 (.cells c 59)
  exact ⟨((h1.on hb1).on (show Below w1.heap.size w1 _ by (repeat (first | (with_reducible exact Below.refl _ _) | (with_reducible assumption) | (with_reducible apply bl_alloc) | (with_reducible apply bl_drewN) | (with_reducible apply bl_drew) | (with_reducible refine bl_set ?_ (by first | (simp; done) | (simp; omega)) _) | (with_reducible refine bl_call ?_ (by assumption)))))).on hb, (hb.block _ (by simp)).trans h2⟩
set_option maxRecDepth 100000 in
theorem one_chk (x : St) (P : Pl) (w : World) (HX : Hid (SIn w x P)) (a1 a2 a3 a4 a5 a6 a7 a8 a9 K O : Bool) (r1 r2 r3 r4 r5 r6 : Int)
    (CU : Hid (∀ W, Below w.heap.size w W → Calls Tryz.prog 28 #[.int .i64 x.o] W (Gives (.tuple #[.agg #[.bool a1, .bool a2, .bool a3, .bool a4, .bool a5, .bool a6, .bool a7, .bool a8, .bool a9], .bool K]) W)))
    (CO : Hid (∀ W, Below w.heap.size w W → Calls Tryz.prog 29 #[.agg (cs x P), .agg #[.bool a1, .bool a2, .bool a3, .bool a4, .bool a5, .bool a6, .bool a7, .bool a8, .bool a9]] W (Gives (.bool O) W)))
    (C1 : Hid (∀ W, Below w.heap.size w W → Calls Tryz.prog 31 #[.bool a1, .func (.func 32) #[] #[], .string x.nm] W (Gives (.int .i64 r1) W)))
    (C2 : Hid (∀ W, Below w.heap.size w W → Calls Tryz.prog 31 #[.bool a2, .func (.func 32) #[] #[], .string x.f] W (Gives (.int .i64 r2) W)))
    (C3 : Hid (∀ W, Below w.heap.size w W → Calls Tryz.prog 33 #[.bool a3, .func (.func 34) #[] #[], .agg #[.int .i64 x.e.o, .string x.e.s, .int .i64 x.e.n, .slice P.ep P.em P.ec]] W (Gives (.int .i64 r3) W)))
    (C4 : Hid (∀ W, Below w.heap.size w W → Calls Tryz.prog 33 #[.bool a4, .func (.func 34) #[] #[], .agg #[.int .i64 x.g.o, .string x.g.s, .int .i64 x.g.n, .slice P.gp P.gm P.gc]] W (Gives (.int .i64 r4) W)))
    (C5 : Hid (∀ W, Below w.heap.size w W → Calls Tryz.prog 35 #[.bool a5, .func (.func 36) #[] #[], .slice P.ap P.am P.ac] W (Gives (.int .i64 r5) W)))
    (C6 : Hid (∀ W, Below w.heap.size w W → Calls Tryz.prog 37 #[.bool a6, .func (.func 38) #[] #[], .agg #[.int .i64 x.di.op, .int .i64 x.di.a, .int .i64 x.di.b, .int .i64 x.di.n, .slice P.vp P.vm P.vc, .slice P.wp P.wm P.wc]] W (Gives (.int .i64 r6) W))) :
    Calls Tryz.prog 19 #[.agg (cs x P)] w (Gives (.int .i64 (if K && !O then orL [r1, r2, r3, r4, r5, r6] else 1)) w) := by
  obtain ⟨n21, hn21⟩ : ∃ n : Nat, 21 = n := ⟨_, rfl⟩
  have hsz : ∀ w, (sizeOf 39).run Tryz.prog w = .ok n21 w := fun w => by rw [Tryz.sizeOf39, hn21]
  have HN21 := Lib.hid hn21
  clear hn21
  have hcsz : (cs x P).size = n21 := HN21.out
  cases K with
  | false =>
    rw [show (if (false && !O) = true then orL [r1, r2, r3, r4, r5, r6] else 1) = (1 : Int) from rfl]
    go_enter Tryz.func19, Tryz.ntmps19
    go_wp2_with fail
    refine (CU.out _ (by (repeat (first | (with_reducible exact Below.refl _ _) | (with_reducible assumption) | (with_reducible apply bl_alloc) | (with_reducible apply bl_drewN) | (with_reducible apply bl_drew) | (with_reducible refine bl_set ?_ (by first | (simp; done) | (simp; omega)) _) | (with_reducible refine bl_call ?_ (by assumption)))))).mono ?_
    rintro e w1 ⟨rfl, hb1⟩
    go_wp2_with fail
    go_ret
    exact ⟨rfl, by (repeat (first | (with_reducible exact Below.refl _ _) | (with_reducible assumption) | (with_reducible apply bl_alloc) | (with_reducible apply bl_drewN) | (with_reducible apply bl_drew) | (with_reducible refine bl_set ?_ (by first | (simp; done) | (simp; omega)) _) | (with_reducible refine bl_call ?_ (by assumption))))⟩
  | true =>
    cases O with
    | true =>
      rw [show (if (true && !true) = true then orL [r1, r2, r3, r4, r5, r6] else 1) = (1 : Int) from rfl]
      go_enter Tryz.func19, Tryz.ntmps19
      go_wp2_with fail
      refine (CU.out _ (by (repeat (first | (with_reducible exact Below.refl _ _) | (with_reducible assumption) | (with_reducible apply bl_alloc) | (with_reducible apply bl_drewN) | (with_reducible apply bl_drew) | (with_reducible refine bl_set ?_ (by first | (simp; done) | (simp; omega)) _) | (with_reducible refine bl_call ?_ (by assumption)))))).mono ?_
      rintro e w1 ⟨rfl, hb1⟩
      have FX := chk_far x P #[.bool a1, .bool a2, .bool a3, .bool a4, .bool a5, .bool a6, .bool a7, .bool a8, .bool a9] hb1
      have q := FX.out _ (Below.refl _ _)
      have ld1 := q.1.cell.ldN HN21.out
      clear q
      go_wp2_with fail
      refine (CO.out _ (by (repeat (first | (with_reducible exact Below.refl _ _) | (with_reducible assumption) | (with_reducible apply bl_alloc) | (with_reducible apply bl_drewN) | (with_reducible apply bl_drew) | (with_reducible refine bl_set ?_ (by first | (simp; done) | (simp; omega)) _) | (with_reducible refine bl_call ?_ (by assumption)))))).mono ?_
      rintro e w2 ⟨rfl, hb2⟩
      go_wp2_with fail
      go_ret
      exact ⟨rfl, by (repeat (first | (with_reducible exact Below.refl _ _) | (with_reducible assumption) | (with_reducible apply bl_alloc) | (with_reducible apply bl_drewN) | (with_reducible apply bl_drew) | (with_reducible refine bl_set ?_ (by first | (simp; done) | (simp; omega)) _) | (with_reducible refine bl_call ?_ (by assumption))))⟩
    | false =>
      rw [show (if (true && !false) = true then orL [r1, r2, r3, r4, r5, r6] else 1) = orL [r1, r2, r3, r4, r5, r6] from rfl]
      go_enter Tryz.func19, Tryz.ntmps19
      go_wp2_with fail
      refine (CU.out _ (by (repeat (first | (with_reducible exact Below.refl _ _) | (with_reducible assumption) | (with_reducible apply bl_alloc) | (with_reducible apply bl_drewN) | (with_reducible apply bl_drew) | (with_reducible refine bl_set ?_ (by first | (simp; done) | (simp; omega)) _) | (with_reducible refine bl_call ?_ (by assumption)))))).mono ?_
      rintro e w1 ⟨rfl, hb1⟩
      have FX := chk_far x P #[.bool a1, .bool a2, .bool a3, .bool a4, .bool a5, .bool a6, .bool a7, .bool a8, .bool a9] hb1
      have q := FX.out _ (Below.refl _ _)
      have ld1 := q.1.cell.ldN HN21.out
      clear q
      go_wp2_with fail
      refine (CO.out _ (by (repeat (first | (with_reducible exact Below.refl _ _) | (with_reducible assumption) | (with_reducible apply bl_alloc) | (with_reducible apply bl_drewN) | (with_reducible apply bl_drew) | (with_reducible refine bl_set ?_ (by first | (simp; done) | (simp; omega)) _) | (with_reducible refine bl_call ?_ (by assumption)))))).mono ?_
      rintro e w2 ⟨rfl, hb2⟩
      clear ld1 hcsz
      go_wp2_with fail
      go_region_held3 (fun w' => w'.cell? ⟨w.heap.size, 1, none⟩ = some (.string x.nm) ∧ w'.cell? ⟨w.heap.size, 2, none⟩ = some (.string x.f) ∧ w'.cell? ⟨w.heap.size, 3, none⟩ = some (.int .i64 x.e.o) ∧ w'.cell? ⟨w.heap.size, 4, none⟩ = some (.string x.e.s) ∧ w'.cell? ⟨w.heap.size, 5, none⟩ = some (.int .i64 x.e.n) ∧ w'.cell? ⟨w.heap.size, 6, none⟩ = some (.slice P.ep P.em P.ec) ∧ w'.cell? ⟨w.heap.size, 7, none⟩ = some (.int .i64 x.g.o) ∧ w'.cell? ⟨w.heap.size, 8, none⟩ = some (.string x.g.s) ∧ w'.cell? ⟨w.heap.size, 9, none⟩ = some (.int .i64 x.g.n) ∧ w'.cell? ⟨w.heap.size, 10, none⟩ = some (.slice P.gp P.gm P.gc) ∧ w'.cell? ⟨w.heap.size, 11, none⟩ = some (.slice P.ap P.am P.ac) ∧ w'.cell? ⟨w.heap.size, 12, none⟩ = some (.int .i64 x.di.op) ∧ w'.cell? ⟨w.heap.size, 13, none⟩ = some (.int .i64 x.di.a) ∧ w'.cell? ⟨w.heap.size, 14, none⟩ = some (.int .i64 x.di.b) ∧ w'.cell? ⟨w.heap.size, 15, none⟩ = some (.int .i64 x.di.n) ∧ w'.cell? ⟨w.heap.size, 16, none⟩ = some (.slice P.vp P.vm P.vc) ∧ w'.cell? ⟨w.heap.size, 17, none⟩ = some (.slice P.wp P.wm P.wc) ∧ w'.cell? ⟨w1.heap.size, 0, none⟩ = some (.bool a1) ∧ w'.cell? ⟨w1.heap.size, 1, none⟩ = some (.bool a2) ∧ w'.cell? ⟨w1.heap.size, 2, none⟩ = some (.bool a3) ∧ w'.cell? ⟨w1.heap.size, 3, none⟩ = some (.bool a4) ∧ w'.cell? ⟨w1.heap.size, 4, none⟩ = some (.bool a5) ∧ w'.cell? ⟨w1.heap.size, 5, none⟩ = some (.bool a6)) (first | (refine keepC (FX.out _ ?_); (repeat (first | (with_reducible exact Below.refl _ _) | (with_reducible assumption) | (with_reducible apply bl_alloc) | (with_reducible apply bl_drewN) | (with_reducible apply bl_drew) | (with_reducible refine bl_set ?_ (by first | (simp; done) | (simp; omega)) _) | (with_reducible refine bl_call ?_ (by assumption)))); done) | (go_keep; done)) (first
        | (have t := hb8; go_at_call 30; refine (or_any [r1, r2, r3, r4, r5, r6] _ 6 6 _ rfl (by omega) (Lib.hid (cells6 _ _ _ _ _ _ _ _))).mono ?_; rintro e w9 ⟨rfl, rfl⟩)
        | (have t := hb7; go_at_call 37; refine (C6.out _ (by (repeat (first | (with_reducible exact Below.refl _ _) | (with_reducible assumption) | (with_reducible apply bl_alloc) | (with_reducible apply bl_drewN) | (with_reducible apply bl_drew) | (with_reducible refine bl_set ?_ (by first | (simp; done) | (simp; omega)) _) | (with_reducible refine bl_call ?_ (by assumption)))))).mono ?_; rintro e w8 ⟨rfl, hb8⟩)
        | (have t := hb6; go_at_call 35; refine (C5.out _ (by (repeat (first | (with_reducible exact Below.refl _ _) | (with_reducible assumption) | (with_reducible apply bl_alloc) | (with_reducible apply bl_drewN) | (with_reducible apply bl_drew) | (with_reducible refine bl_set ?_ (by first | (simp; done) | (simp; omega)) _) | (with_reducible refine bl_call ?_ (by assumption)))))).mono ?_; rintro e w7 ⟨rfl, hb7⟩)
        | (have t := hb5; go_at_call 33; refine (C4.out _ (by (repeat (first | (with_reducible exact Below.refl _ _) | (with_reducible assumption) | (with_reducible apply bl_alloc) | (with_reducible apply bl_drewN) | (with_reducible apply bl_drew) | (with_reducible refine bl_set ?_ (by first | (simp; done) | (simp; omega)) _) | (with_reducible refine bl_call ?_ (by assumption)))))).mono ?_; rintro e w6 ⟨rfl, hb6⟩)
        | (have t := hb4; go_at_call 33; refine (C3.out _ (by (repeat (first | (with_reducible exact Below.refl _ _) | (with_reducible assumption) | (with_reducible apply bl_alloc) | (with_reducible apply bl_drewN) | (with_reducible apply bl_drew) | (with_reducible refine bl_set ?_ (by first | (simp; done) | (simp; omega)) _) | (with_reducible refine bl_call ?_ (by assumption)))))).mono ?_; rintro e w5 ⟨rfl, hb5⟩)
        | (have t := hb3; go_at_call 31; refine (C2.out _ (by (repeat (first | (with_reducible exact Below.refl _ _) | (with_reducible assumption) | (with_reducible apply bl_alloc) | (with_reducible apply bl_drewN) | (with_reducible apply bl_drew) | (with_reducible refine bl_set ?_ (by first | (simp; done) | (simp; omega)) _) | (with_reducible refine bl_call ?_ (by assumption)))))).mono ?_; rintro e w4 ⟨rfl, hb4⟩)
        | (go_at_call 31; refine (C1.out _ (by (repeat (first | (with_reducible exact Below.refl _ _) | (with_reducible assumption) | (with_reducible apply bl_alloc) | (with_reducible apply bl_drewN) | (with_reducible apply bl_drew) | (with_reducible refine bl_set ?_ (by first | (simp; done) | (simp; omega)) _) | (with_reducible refine bl_call ?_ (by assumption)))))).mono ?_; rintro e w3 ⟨rfl, hb3⟩))
      go_wp2_with fail
      go_ret
      exact ⟨rfl, by (repeat (first | (with_reducible exact Below.refl _ _) | (with_reducible assumption) | (with_reducible apply bl_alloc) | (with_reducible apply bl_drewN) | (with_reducible apply bl_drew) | (with_reducible refine bl_set ?_ (by first | (simp; done) | (simp; omega)) _) | (with_reducible refine bl_call ?_ (by assumption))))⟩
theorem usage_gives {o : Int} {a1 a2 a3 a4 a5 a6 a7 a8 a9 K : Bool} (h1 : uN o = a1) (h2 : uO o = a2) (h3 : uE o = a3) (h4 : uF o = a4) (h5 : uA o = a5) (h6 : uD o = a6) (h7 : uG o = a7) (h8 : uB o = a8) (h9 : uL o = a9) (hk : kn o = K) (w : World) :
    Calls Tryz.prog 28 #[.int .i64 o] w (Gives (.tuple #[.agg #[.bool a1, .bool a2, .bool a3, .bool a4, .bool a5, .bool a6, .bool a7, .bool a8, .bool a9], .bool K]) w) := by
  subst h1 h2 h3 h4 h5 h6 h7 h8 h9 hk
  exact usage_any o w
theorem dcheck_any {w : World} {x : St} {P : Pl} (hx : SIn w x P) : Calls Tryz.prog 38 #[.agg #[.int .i64 x.di.op, .int .i64 x.di.a, .int .i64 x.di.b, .int .i64 x.di.n, .slice P.vp P.vm P.vc, .slice P.wp P.wm P.wc]] w (Gives (.int .i64 (dtE x.di)) w) := by
  have h := Di.check_any x.di.op x.di.a x.di.b x.di.n P.vp x.di.vs.length P.vc P.wp x.di.ws.length P.wc _ _ w hx.vs hx.ws
  rw [show dtE x.di = Di.errD x.di.op x.di.a x.di.b x.di.n x.di.vs.length x.di.ws.length (fun i => x.di.vs.getD i 0) (fun i => x.di.ws.getD i 0) from rfl]
  rw [hx.vlen, hx.wlen] at h ⊢
  exact h
theorem one_any (x : St) (P : Pl) (w : World) (hx : SIn w x P) (hs : SzS x) : Calls Tryz.prog 19 #[.agg (cs x P)] w (Gives (.int .i64 (oneE x)) w) := by
  have e : oneE x = if kn x.o && !oth x then orL [onE (uN x.o) (chk (bs x.nm)), onE (uO x.o) (chk (bs x.f)), onE (uE x.o) (chkE false x.e), onE (uF x.o) (chkE false x.g), onE (uA x.o) (argE x.ar), onE (uD x.o) (dtE x.di)] else 1 := by
    rw [oth_frm, Bool.not_not]
    unfold oneE restE
    simp only [orL, orE_right]
  rw [e]
  exact one_chk x P w (Lib.hid hx) _ _ _ _ _ _ _ _ _ _ _ _ _ _ _ _ _ (Lib.hid fun W hb => usage_gives rfl rfl rfl rfl rfl rfl rfl rfl rfl rfl W) (Lib.hid fun W hb => others_any x P W (hx.on hb))
    (Lib.hid fun W hb => usedS_any _ _ _ W (Lib.hid fun _ U hu => Na.check_any x.nm U (by have := hs.1; omega)))
    (Lib.hid fun W hb => usedS_any _ _ _ W (Lib.hid fun _ U hu => Na.check_any x.f U (by have := hs.2.1; omega)))
    (Lib.hid fun W hb => usedE_any _ _ _ _ _ _ W (Lib.hid fun _ U hu => Ex.check_any x.e P.ep P.em P.ec U ((hx.e.on hb).on hu) hs.2.2.1.1 hs.2.2.1.2))
    (Lib.hid fun W hb => usedE_any _ _ _ _ _ _ W (Lib.hid fun _ U hu => Ex.check_any x.g P.gp P.gm P.gc U ((hx.g.on hb).on hu) hs.2.2.2.1.1 hs.2.2.2.1.2))
    (Lib.hid fun W hb => usedA_any _ _ _ _ _ W (Lib.hid fun _ U hu => args_check x.ar P.ap P.am P.ac U ((hx.on hb).on hu).ar hs.2.2.2.2))
    (Lib.hid fun W hb => usedD_any _ x P _ W (Lib.hid fun _ U hu => dcheck_any ((hx.on hb).on hu)))
end Go.Proofs.YtonlmnlpofgccaaGreat.Sm
