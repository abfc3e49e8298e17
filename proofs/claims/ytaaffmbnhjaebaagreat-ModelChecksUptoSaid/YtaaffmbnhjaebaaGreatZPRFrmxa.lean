/-
  Parts of this proof: The contract of the reference's formed. The contract of the reference's exprs. The contract of the reference's one. The contracts of the reference's list and Check. The contract of the reference's routine.
-/
import Derived.Test.YtaaffmbnhjaebaaGreatZQRndxa
import Derived.Test.YtaaffmbnhjaebaaGreatZERChkxa
import Derived.Test.YtaaffmbnhjaebaaGreatZPRCntxa
import Derived.Test.YtaaffmbnhjaebaaGreatZQOwnxae
import Derived.Test.YtaaffmbnhjaebaaGreatZQAccxac
set_option linter.unusedSimpArgs false
namespace Go.Proofs.YtaaffmbnhjaebaaGreat.Sm
open Go.RowKit
open Go.Proofs.YtaaffmbnhjaebaaGreat.Na (bs)
open Go.Proofs.YtaaffmbnhjaebaaGreat.Ex (Ex Gives emp_yes emp_no)
attribute [local go_sem] cs0 cs1 cs2 cs3 cs4 cs5 cs6 cs7 cs8 cs9 cs10 cs11 cs12 cs13 cs14 cs15 cs16 cs17 cs18 cs19 cs20
set_option maxHeartbeats 4000000
set_option linter.unusedVariables false
set_option linter.unusedSimpArgs false
theorem frm_far {w w1 : World} (x : St) (P : Pl) (c : Array Value) (hb1 : Below (w.alloc (.cells (cs x P) 173)).heap.size (w.alloc (.cells (cs x P) 173)) w1) : Hid (∀ W, Below (w1.alloc (.cells c 219)).heap.size (w1.alloc (.cells c 219)) W → box21 W w.heap.size x P ∧ W.heap[w1.heap.size]? = some (.cells c 219 (0, 0))) := Lib.hid fun W hb => by
 have h1 : box21 (w.alloc (.cells (cs x P) 173)) w.heap.size x P := box_new21
 have h2 := World.alloc_heap_new w1 (.cells c 219)
 exact ⟨((h1.on hb1).on (show Below w1.heap.size w1 _ by exact bl)).on hb, (hb.block _ (by simp)).trans h2⟩
theorem frm_cells {W : World} {g : Nat} {a1 a2 a3 a4 a5 a6 a7 a8 a9 : Bool} (h : W.heap[g]? = some (.cells #[.bool a1, .bool a2, .bool a3, .bool a4, .bool a5, .bool a6, .bool a7, .bool a8, .bool a9] 219 (0, 0))) : W.cell? ⟨g, 0, none⟩ = some (.bool a1) ∧ W.cell? ⟨g, 1, none⟩ = some (.bool a2) ∧ W.cell? ⟨g, 2, none⟩ = some (.bool a3) ∧ W.cell? ⟨g, 3, none⟩ = some (.bool a4) ∧ W.cell? ⟨g, 4, none⟩ = some (.bool a5) ∧ W.cell? ⟨g, 5, none⟩ = some (.bool a6) ∧ W.cell? ⟨g, 6, none⟩ = some (.bool a7) ∧ W.cell? ⟨g, 7, none⟩ = some (.bool a8) ∧ W.cell? ⟨g, 8, none⟩ = some (.bool a9) :=
 ⟨cell_at h rfl, cell_at h rfl, cell_at h rfl, cell_at h rfl, cell_at h rfl, cell_at h rfl, cell_at h rfl, cell_at h rfl, cell_at h rfl⟩
theorem zPRFrma_a {p : Prop} (h : p := by have HBB := HB.out; exact bl) : p := h
theorem zPRFrma_9 {p : Prop} (h : p := by
 go_wp2_with fail
 go_meet
 exact ⟨rfl, Lib.hid zPRFrma_a⟩
 ) : p := h
theorem zPRFrma_6 {p : Prop} (h : p := by
 go_wp2_with fail
 refine (C4.out _ zPRFrma_a).mono ?_
 rintro e w4 ⟨rfl, hb4⟩
 have q := FX.out w4 zPRFrma_a
 obtain ⟨ca1, ca2, ca3, ca4, ca5, ca6, ca7, ca8, ca9⟩ := frm_cells q.2
 have b11 := q.1.c11
 clear q
 exact zPRFrma_9
 ) : p := h
theorem zPRFrma_0 {p : Prop} (h : p := by
 have e0 := E2.out
 simp only [Bool.true_or, Bool.or_true, Bool.false_or, Bool.or_false, Bool.true_and, Bool.and_true, Bool.false_and, Bool.and_false, Bool.or_self, Bool.and_self] at e0
 subst e0
 go_wp2_with fail
 refine (C3.out _ zPRFrma_a).mono ?_
 rintro e w3 ⟨rfl, hb3⟩
 have q := FX.out w3 zPRFrma_a
 obtain ⟨ca1, ca2, ca3, ca4, ca5, ca6, ca7, ca8, ca9⟩ := frm_cells q.2
 have b7 := q.1.c7
 have b8 := q.1.c8
 have b9 := q.1.c9
 have b10 := q.1.c10
 have b11 := q.1.c11
 clear q
 exact zPRFrma_6
 ) : p := h
theorem zPRFrma_1 {p : Prop} (h : p := by
 have e0 := E2.out
 simp only [Bool.true_or, Bool.or_true, Bool.false_or, Bool.or_false, Bool.true_and, Bool.and_true, Bool.false_and, Bool.and_false, Bool.or_self, Bool.and_self] at e0
 subst e0
 go_wp2_with fail
 refine (C3.out _ zPRFrma_a).mono ?_
 rintro e w3 ⟨rfl, hb3⟩
 have q := FX.out w3 zPRFrma_a
 obtain ⟨ca1, ca2, ca3, ca4, ca5, ca6, ca7, ca8, ca9⟩ := frm_cells q.2
 have b7 := q.1.c7
 have b8 := q.1.c8
 have b9 := q.1.c9
 have b10 := q.1.c10
 have b11 := q.1.c11
 clear q
 exact zPRFrma_9
 ) : p := h
theorem zPRFrma_2 {p : Prop} (h : p := by
 have e0 := E2.out
 simp only [Bool.true_or, Bool.or_true, Bool.false_or, Bool.or_false, Bool.true_and, Bool.and_true, Bool.false_and, Bool.and_false, Bool.or_self, Bool.and_self] at e0
 subst e0
 exact zPRFrma_6
 ) : p := h
theorem zPRFrma_8 {p : Prop} (h : p := by
 go_wp2_with fail
 go_ret
 exact ⟨rfl, by have HBB := HB.out; exact bl⟩
 ) : p := h
theorem zPRFrma_3 {p : Prop} (h : p := by
 go_wp2_with fail
 refine (C6.out _ zPRFrma_a).mono ?_
 rintro e w6 ⟨rfl, hb6⟩
 have q := FX.out w6 zPRFrma_a
 obtain ⟨ca1, ca2, ca3, ca4, ca5, ca6, ca7, ca8, ca9⟩ := frm_cells q.2
 have b18 := q.1.c18
 clear q
 (try rw [e7] at b18)
 exact zPRFrma_8
 ) : p := h
theorem zPRFrma_4 {p : Prop} (h : p := by
 have e0 := E4.out
 simp only [Bool.true_or, Bool.or_true, Bool.false_or, Bool.or_false, Bool.true_and, Bool.and_true, Bool.false_and, Bool.and_false, Bool.or_self, Bool.and_self] at e0
 subst e0
 exact zPRFrma_8
 ) : p := h
theorem zPRFrma_5 {p : Prop} (h : p := by
 have e0 := E2.out
 simp only [Bool.true_or, Bool.or_true, Bool.false_or, Bool.or_false, Bool.true_and, Bool.and_true, Bool.false_and, Bool.and_false, Bool.or_self, Bool.and_self] at e0
 subst e0
 exact zPRFrma_9
 ) : p := h
theorem zPRFrma_7 {p : Prop} (h : p := by
 have e0 := E4.out
 simp only [Bool.true_or, Bool.or_true, Bool.false_or, Bool.or_false, Bool.true_and, Bool.and_true, Bool.false_and, Bool.and_false, Bool.or_self, Bool.and_self] at e0
 subst e0
 exact zPRFrma_3
 ) : p := h
set_option maxRecDepth 100000 in
theorem formed_walk (x : St) (P : Pl) (w : World) (a1 a2 a3 a4 a5 a6 a7 a8 a9 K z1 z2 z3 z4 z5 z6 z7 z8 z9 T X L V : Bool)
 (CO : Hid (∀ W, Below w.heap.size w W → Calls Tryz.prog 184 #[.int .i64 x.o] W (Gives (.tuple #[.agg #[.bool a1, .bool a2, .bool a3, .bool a4, .bool a5, .bool a6, .bool a7, .bool a8, .bool a9], .bool K]) W)))
 (C3 : Hid (∀ W, Below w.heap.size w W → Calls Tryz.prog 191 #[.agg #[.int .i64 x.e.o, .string x.e.s, .int .i64 x.e.n, .slice P.ep P.em P.ec]] W (Gives (.bool z3) W)))
 (C4 : Hid (∀ W, Below w.heap.size w W → Calls Tryz.prog 191 #[.agg #[.int .i64 x.g.o, .string x.g.s, .int .i64 x.g.n, .slice P.gp P.gm P.gc]] W (Gives (.bool z4) W)))
 (C6 : Hid (∀ W, Below w.heap.size w W → Calls Tryz.prog 128 #[.agg #[.int .i64 x.di.op, .int .i64 x.di.a, .int .i64 x.di.b, .int .i64 x.di.n, .slice P.vp P.vm P.vc, .slice P.wp P.wm P.wc], .agg #[.int .i64 0, .int .i64 0, .int .i64 0, .int .i64 0, .slice none 0 0, .slice none 0 0]] W (Gives (.bool z6) W)))
 (N1 : x.nm.toList.isEmpty = z1) (N2 : x.f.toList.isEmpty = z2) (N5 : ((P.am : Int) == 0) = z5) (N7 : x.fl = !z7) (N8 : ((P.bm : Int) == 0) = z8) (N9 : ((P.lm : Int) == 0) = z9)
 (E1 : Hid (T = ((a1 || z1) && (a2 || z2)))) (E2 : Hid (X = ((a3 || z3) && (a4 || z4) && (a5 || z5)))) (E3 : Hid (L = ((a8 || z8) && (a9 || z9)))) (E4 : Hid (V = (K && T && X && L && (a6 || z6) && (a7 || z7)))) :
 Calls Tryz.prog 185 #[.agg (cs x P)] w (Gives (.bool V) w) := by
 replace N7 := Lib.hid N7
 go_enter Tryz.func185, Tryz.ntmps185
 go_wp2_with fail
 refine (CO.out _ bl).mono ?_
 rintro e w1 ⟨rfl, hb1⟩
 have FX := frm_far x P #[.bool a1, .bool a2, .bool a3, .bool a4, .bool a5, .bool a6, .bool a7, .bool a8, .bool a9] hb1
 go_upto_region 2 with fail
 go_cut [5] (fun v wr => v = .bool T ∧ Hid (Below (w1.alloc (.cells #[.bool a1, .bool a2, .bool a3, .bool a4, .bool a5, .bool a6, .bool a7, .bool a8, .bool a9] 219)).heap.size (w1.alloc (.cells #[.bool a1, .bool a2, .bool a3, .bool a4, .bool a5, .bool a6, .bool a7, .bool a8, .bool a9] 219)) wr))
 case first =>
  have q := FX.out _ (Below.refl _ _)
  obtain ⟨ca1, ca2, ca3, ca4, ca5, ca6, ca7, ca8, ca9⟩ := frm_cells q.2
  have b1 := q.1.c1
  have b2 := q.1.c2
  clear q
  cases a1 <;> cases z1 <;> cases a2 <;> cases z2
  all_goals
   have e0 := E1.out
   simp only [Bool.true_or, Bool.or_true, Bool.false_or, Bool.or_false, Bool.true_and, Bool.and_true, Bool.false_and, Bool.and_false, Bool.or_self, Bool.and_self] at e0
   subst e0
   go_wp2_with fail
   go_meet
   exact ⟨rfl, Lib.hid bl⟩
 case rest =>
 obtain ⟨rfl, HB⟩ := hcut
 rename World => v1
 go_upto_region 3 with fail
 go_cut [6] (fun v wr => v = .bool X ∧ Hid (Below (w1.alloc (.cells #[.bool a1, .bool a2, .bool a3, .bool a4, .bool a5, .bool a6, .bool a7, .bool a8, .bool a9] 219)).heap.size (w1.alloc (.cells #[.bool a1, .bool a2, .bool a3, .bool a4, .bool a5, .bool a6, .bool a7, .bool a8, .bool a9] 219)) wr))
 case first =>
  have q := FX.out v1 zPRFrma_a
  obtain ⟨ca1, ca2, ca3, ca4, ca5, ca6, ca7, ca8, ca9⟩ := frm_cells q.2
  have b3 := q.1.c3
  have b4 := q.1.c4
  have b5 := q.1.c5
  have b6 := q.1.c6
  have b7 := q.1.c7
  have b8 := q.1.c8
  have b9 := q.1.c9
  have b10 := q.1.c10
  have b11 := q.1.c11
  clear q
  have T5 := N5
  cases a3 with
  | true =>
   cases a4 with
   | true =>
    cases a5 with
    | true =>
     exact zPRFrma_5
    | false =>
     cases z5 with
     | true =>
      exact zPRFrma_5
     | false =>
      exact zPRFrma_5
   | false =>
    cases z4 with
    | true =>
     cases a5 with
     | true =>
      exact zPRFrma_2
     | false =>
      cases z5 with
      | true =>
       exact zPRFrma_2
      | false =>
       exact zPRFrma_2
    | false =>
     exact zPRFrma_2
  | false =>
   cases z3 with
   | false =>
    exact zPRFrma_1
   | true =>
    cases a4 with
    | true =>
     cases a5 with
     | true =>
      exact zPRFrma_1
     | false =>
      cases z5 with
      | true =>
       exact zPRFrma_1
      | false =>
       exact zPRFrma_1
    | false =>
     cases z4 with
     | true =>
      cases a5 with
      | true =>
       exact zPRFrma_0
      | false =>
       cases z5 with
       | true =>
        exact zPRFrma_0
       | false =>
        exact zPRFrma_0
     | false =>
      exact zPRFrma_0
 case rest =>
 clear HB
 obtain ⟨rfl, HB⟩ := hcut
 rename World => v2
 go_upto_region 4 with fail
 go_cut [7] (fun v wr => v = .bool L ∧ Hid (Below (w1.alloc (.cells #[.bool a1, .bool a2, .bool a3, .bool a4, .bool a5, .bool a6, .bool a7, .bool a8, .bool a9] 219)).heap.size (w1.alloc (.cells #[.bool a1, .bool a2, .bool a3, .bool a4, .bool a5, .bool a6, .bool a7, .bool a8, .bool a9] 219)) wr))
 case first =>
  have q := FX.out v2 zPRFrma_a
  obtain ⟨ca1, ca2, ca3, ca4, ca5, ca6, ca7, ca8, ca9⟩ := frm_cells q.2
  have b19 := q.1.c19
  have b20 := q.1.c20
  clear q
  cases a8 <;> cases z8 <;> cases a9 <;> cases z9
  all_goals
   have e0 := E3.out
   simp only [Bool.true_or, Bool.or_true, Bool.false_or, Bool.or_false, Bool.true_and, Bool.and_true, Bool.false_and, Bool.and_false, Bool.or_self, Bool.and_self] at e0
   subst e0
   go_wp2_with fail
   go_meet
   exact ⟨rfl, Lib.hid zPRFrma_a⟩
 case rest =>
 clear HB
 obtain ⟨rfl, HB⟩ := hcut
 rename World => v3
 clear N1 N2 N5 N8 N9 E1 E2 E3 C3 C4 CO
 have q := FX.out v3 zPRFrma_a
 obtain ⟨ca1, ca2, ca3, ca4, ca5, ca6, ca7, ca8, ca9⟩ := frm_cells q.2
 have b12 := q.1.c12
 have b13 := q.1.c13
 have b14 := q.1.c14
 have b15 := q.1.c15
 have b16 := q.1.c16
 have b17 := q.1.c17
 have b18 := q.1.c18
 clear q
 cases K with
 | false =>
  exact zPRFrma_4
 | true =>
  cases T with
  | false =>
   exact zPRFrma_4
  | true =>
   cases X with
   | false =>
    exact zPRFrma_4
   | true =>
    cases L with
    | false =>
     exact zPRFrma_4
    | true =>
     cases a6 with
     | true =>
      cases a7 with
      | true =>
       exact zPRFrma_4
      | false =>
       cases z7 with
       | true =>
        have e0 := E4.out
        simp only [Bool.true_or, Bool.or_true, Bool.false_or, Bool.or_false, Bool.true_and, Bool.and_true, Bool.false_and, Bool.and_false, Bool.or_self, Bool.and_self] at e0
        subst e0
        have e7 := N7.out
        simp only [Bool.not_true] at e7
        rw [e7] at b18
        exact zPRFrma_8
       | false =>
        have e0 := E4.out
        simp only [Bool.true_or, Bool.or_true, Bool.false_or, Bool.or_false, Bool.true_and, Bool.and_true, Bool.false_and, Bool.and_false, Bool.or_self, Bool.and_self] at e0
        subst e0
        have e7 := N7.out
        simp only [Bool.not_false] at e7
        rw [e7] at b18
        exact zPRFrma_8
     | false =>
      cases z6 with
      | true =>
       cases a7 with
       | true =>
        exact zPRFrma_7
       | false =>
        cases z7 with
        | true =>
         have e0 := E4.out
         simp only [Bool.true_or, Bool.or_true, Bool.false_or, Bool.or_false, Bool.true_and, Bool.and_true, Bool.false_and, Bool.and_false, Bool.or_self, Bool.and_self] at e0
         subst e0
         have e7 := N7.out
         simp only [Bool.not_true] at e7
         rw [e7] at b18
         exact zPRFrma_3
        | false =>
         have e0 := E4.out
         simp only [Bool.true_or, Bool.or_true, Bool.false_or, Bool.or_false, Bool.true_and, Bool.and_true, Bool.false_and, Bool.and_false, Bool.or_self, Bool.and_self] at e0
         subst e0
         have e7 := N7.out
         simp only [Bool.not_false] at e7
         rw [e7] at b18
         exact zPRFrma_3
      | false =>
       exact zPRFrma_7
theorem len_zero {n m : Nat} (h : n = m) : ((m : Int) == 0) = decide (n = 0) := by
 subst h
 by_cases e : n = 0
 · subst e; rfl
 · rw [decide_eq_false e]; exact beq_eq_false_iff_ne.2 (by omega)
theorem emp_at (s : ByteArray) : s.toList.isEmpty = decide (bs s = []) := by
 by_cases h : bs s = []
 · rw [decide_eq_true h, emp_yes h]
 · rw [decide_eq_false h, emp_no h]
theorem rdsame_zero {w : World} {x : St} {P : Pl} (hx : SIn w x P) : Calls Tryz.prog 128 #[.agg #[.int .i64 x.di.op, .int .i64 x.di.a, .int .i64 x.di.b, .int .i64 x.di.n, .slice P.vp P.vm P.vc, .slice P.wp P.wm P.wc], .agg #[.int .i64 0, .int .i64 0, .int .i64 0, .int .i64 0, .slice none 0 0, .slice none 0 0]] w (Gives (.bool (sameDt x.di zD)) w) := by
 have h := Di.rsame_any x.di.op x.di.a x.di.b x.di.n P.vp x.di.vs.length P.vc P.wp x.di.ws.length P.wc _ _ 0 0 0 0 none 0 0 none 0 0 (fun i => ([] : List Int).getD i 0) (fun i => ([] : List Int).getD i 0) w hx.vs hx.ws (Di.row_nil _ _) (Di.row_nil _ _)
 rw [hx.vlen, hx.wlen] at h
 have e := sameD_list x.di zD
 rw [hx.vlen, hx.wlen] at e
 rw [← e]
 exact h
theorem rformed_any (x : St) (P : Pl) (w : World) (hx : SIn w x P) : Calls Tryz.prog 185 #[.agg (cs x P)] w (Gives (.bool (kn x.o && frm x)) w) := by
 have h1 : ((P.am : Int) == 0) = decide (x.ar.length = 0) := len_zero hx.ar.len.1
 have h2 : ((P.bm : Int) == 0) = decide (x.bo.length = 0) := len_zero hx.bo.len.1
 have h3 : ((P.lm : Int) == 0) = decide (x.el.length = 0) := len_zero hx.el.len.1
 refine formed_walk x P w (uN x.o) (uO x.o) (uE x.o) (uF x.o) (uA x.o) (uD x.o) (uG x.o) (uB x.o) (uL x.o) (kn x.o) (decide (bs x.nm = [])) (decide (bs x.f = [])) (Ex.same x.e zE) (Ex.same x.g zE) (decide (x.ar.length = 0)) (sameDt x.di zD) (!x.fl) (decide (x.bo.length = 0)) (decide (x.el.length = 0)) _ _ _ _
  (Lib.hid fun W hb => rof_any x.o W)
  (Lib.hid fun W hb => rzero_any x.e P.ep P.em P.ec W (hx.e.on hb))
  (Lib.hid fun W hb => rzero_any x.g P.gp P.gm P.gc W (hx.g.on hb))
  (Lib.hid fun W hb => rdsame_zero (hx.on hb))
  (emp_at _) (emp_at _) h1 (by simp) h2 h3 (Lib.hid rfl) (Lib.hid rfl) (Lib.hid rfl) (Lib.hid ?_)
 unfold frm
 cases kn x.o <;> cases uN x.o <;> cases uO x.o <;> cases uE x.o <;> cases uF x.o <;> simp [Bool.and_assoc, Bool.and_comm, Bool.and_left_comm]
end Go.Proofs.YtaaffmbnhjaebaaGreat.Sm
namespace Go.Proofs.YtaaffmbnhjaebaaGreat.Sm
open Go.RowKit
open Go.Proofs.YtaaffmbnhjaebaaGreat.Ex (Ex In Sz Gives chkE)
attribute [local go_sem] cs0 cs1 cs2 cs3 cs4 cs5 cs6 cs7 cs8 cs9 cs10 cs11 cs12 cs13 cs14 cs15 cs16 cs17 cs18 cs19 cs20
set_option maxHeartbeats 4000000
set_option linter.unusedVariables false
set_option linter.unusedSimpArgs false
theorem frm2_far {w : World} (x : St) (P : Pl) (c : Array Value) : Hid (∀ W, Below ((w.alloc (.cells (cs x P) 173)).alloc (.cells c 219)).heap.size ((w.alloc (.cells (cs x P) 173)).alloc (.cells c 219)) W → box21 W w.heap.size x P ∧ W.heap[w.heap.size + 1]? = some (.cells c 219 (0, 0))) := Lib.hid fun W hb => by
 have h1 : box21 (w.alloc (.cells (cs x P) 173)) w.heap.size x P := box_new21
 have h2 := World.alloc_heap_new (w.alloc (.cells (cs x P) 173)) (.cells c 219)
 have e : (w.alloc (.cells (cs x P) 173)).heap.size = w.heap.size + 1 := by simp
 rw [e] at h2
 exact ⟨(h1.on bl).on hb, (hb.block _ (by simp)).trans h2⟩
theorem rxcheck_gives {e : Ex} {v : Int} (h : chkE false e = v) (p : Option Addr) (m c : Nat) (w : World) (hi : In w e p m) (hs : Sz e) (hc : Ex.cnt e ≤ 1000000) : Calls Tryz.prog 192 #[.agg #[.int .i64 e.o, .string e.s, .int .i64 e.n, .slice p m c]] w (Gives (.int .i64 v) w) := by rw [← h]; exact Ex.rcheck_any e p m c w hi hs hc
theorem zPRExpa_0 {p : Prop} (h : p := by
 go_wp2_with fail
 go_meet
 exact ⟨rfl, Lib.hid (by have HBB := HB.out; exact bl)⟩
 ) : p := h
set_option maxRecDepth 100000 in
theorem exprs_walk (x : St) (P : Pl) (w : World) (HX : Hid (SIn w x P)) (HSA : Hid (∀ y ∈ x.ar, Sz y ∧ Ex.cnt y ≤ 1000000)) (a1 a2 a3 a4 a5 a6 a7 a8 a9 D1 D2 D3 : Bool) (r3 r4 e1 e2 e3 : Int)
 (C3 : Hid (∀ W, Below w.heap.size w W → Calls Tryz.prog 192 #[.agg #[.int .i64 x.e.o, .string x.e.s, .int .i64 x.e.n, .slice P.ep P.em P.ec]] W (Gives (.int .i64 r3) W)))
 (C4 : Hid (∀ W, Below w.heap.size w W → Calls Tryz.prog 192 #[.agg #[.int .i64 x.g.o, .string x.g.s, .int .i64 x.g.n, .slice P.gp P.gm P.gc]] W (Gives (.int .i64 r4) W)))
 (H1 : Hid (e1 = onE a3 r3)) (G1 : Hid (D1 = (decide (e1 = 0) && a4))) (H2 : Hid (e2 = if D1 = true then r4 else e1)) (G3 : Hid (D3 = decide (6 < P.am))) (G2 : Hid (D2 = (decide (e2 = 0) && D3))) (H3 : Hid (e3 = if D2 = true then 6 else e2)) :
 Calls Tryz.prog 186 #[.agg (cs x P), .agg #[.bool a1, .bool a2, .bool a3, .bool a4, .bool a5, .bool a6, .bool a7, .bool a8, .bool a9]] w (Gives (.int .i64 (orE e3 (badA x.ar))) w) := by
 have FX := frm2_far (w := w) x P #[.bool a1, .bool a2, .bool a3, .bool a4, .bool a5, .bool a6, .bool a7, .bool a8, .bool a9]
 have HB0 : Hid (Below w.heap.size w ((w.alloc (.cells (cs x P) 173)).alloc (.cells #[.bool a1, .bool a2, .bool a3, .bool a4, .bool a5, .bool a6, .bool a7, .bool a8, .bool a9] 219))) := Lib.hid bl
 have q := FX.out _ (Below.refl _ _)
 obtain ⟨ca1, ca2, ca3, ca4, ca5, ca6, ca7, ca8, ca9⟩ := frm_cells q.2
 have b3 := q.1.c3
 have b4 := q.1.c4
 have b5 := q.1.c5
 have b6 := q.1.c6
 clear q
 go_enter Tryz.func186, Tryz.ntmps186
 go_upto_if 8 with fail
 go_cut [5] (fun v wr => v = .int .i64 e1 ∧ Hid (Below ((w.alloc (.cells (cs x P) 173)).alloc (.cells #[.bool a1, .bool a2, .bool a3, .bool a4, .bool a5, .bool a6, .bool a7, .bool a8, .bool a9] 219)).heap.size ((w.alloc (.cells (cs x P) 173)).alloc (.cells #[.bool a1, .bool a2, .bool a3, .bool a4, .bool a5, .bool a6, .bool a7, .bool a8, .bool a9] 219)) wr))
 case first =>
  cases a3 with
  | false =>
   obtain rfl : e1 = 0 := H1.out
   go_wp2_with fail
   go_meet
   exact ⟨rfl, Lib.hid bl⟩
  | true =>
   obtain rfl : e1 = r3 := H1.out
   go_wp2_with fail
   refine (C3.out _ bl).mono ?_
   rintro e w3 ⟨rfl, hb3⟩
   go_wp2_with fail
   go_meet
   exact ⟨rfl, Lib.hid bl⟩
 case rest =>
 obtain ⟨rfl, HB⟩ := hcut
 rename World => v1
 have q := FX.out v1 (by have HBB := HB.out; exact bl)
 obtain ⟨ca1, ca2, ca3, ca4, ca5, ca6, ca7, ca8, ca9⟩ := frm_cells q.2
 have b7 := q.1.c7
 have b8 := q.1.c8
 have b9 := q.1.c9
 have b10 := q.1.c10
 clear q
 go_upto_region 4 with fail
 go_cut [17] (fun v wr => v = .bool D1 ∧ wr = v1)
 case first =>
  by_cases h1 : e1 = 0
  · have t1 : (e1 == 0) = true := beq_iff_eq.2 h1
    have hd := G1.out
    rw [decide_eq_true h1, Bool.true_and] at hd
    subst hd
    clear h1 H2 G2 H3
    cases D1
    all_goals
     go_wp2_with fail
     go_meet
     exact ⟨rfl, rfl⟩
  · have t1 : (e1 == 0) = false := beq_eq_false_iff_ne.2 h1
    have hd := G1.out
    rw [decide_eq_false h1, Bool.false_and] at hd
    subst hd
    clear h1
    go_wp2_with fail
    go_meet
    exact ⟨rfl, rfl⟩
 case rest =>
 obtain ⟨rfl, rfl⟩ := hcut
 rename World => v1
 go_upto_if 17 with fail
 go_cut [5] (fun v wr => v = .int .i64 e2 ∧ Hid (Below ((w.alloc (.cells (cs x P) 173)).alloc (.cells #[.bool a1, .bool a2, .bool a3, .bool a4, .bool a5, .bool a6, .bool a7, .bool a8, .bool a9] 219)).heap.size ((w.alloc (.cells (cs x P) 173)).alloc (.cells #[.bool a1, .bool a2, .bool a3, .bool a4, .bool a5, .bool a6, .bool a7, .bool a8, .bool a9] 219)) wr))
 case first =>
  cases D1 with
  | false =>
   obtain rfl : e2 = e1 := H2.out
   exact zPRExpa_0
  | true =>
   obtain rfl : e2 = r4 := H2.out
   go_wp2_with fail
   refine (C4.out _ (by have HBB := HB.out; have HBC := HB0.out; exact bl)).mono ?_
   rintro e w3 ⟨rfl, hb3⟩
   exact zPRExpa_0
 case rest =>
 clear HB b7 b8 b9 b10 ca1 ca2 ca3 ca4 ca5 ca6 ca7 ca8 ca9
 obtain ⟨rfl, HB⟩ := hcut
 rename World => v2
 have b11 := (FX.out v2 HB.out).1.c11
 go_upto_region 6 with fail
 go_cut [28] (fun v wr => v = .bool D2 ∧ wr = v2)
 case first =>
  by_cases h1 : e2 = 0
  · have t1 : (e2 == 0) = true := beq_iff_eq.2 h1
    have hd := G2.out
    rw [decide_eq_true h1, Bool.true_and] at hd
    by_cases h6 : 6 < P.am
    · have t2 : decide ((6 : Int) < (P.am : Int)) = true := decide_eq_true (by omega)
      have t3 : (6 : Int) < (P.am : Int) := by omega
      obtain rfl : D2 = true := by rw [hd, G3.out, decide_eq_true h6]
      clear h1 hd H3 G2 H2
      go_wp2_with fail
      go_meet
      exact ⟨rfl, rfl⟩
    · have t2 : decide ((6 : Int) < (P.am : Int)) = false := decide_eq_false (by omega)
      have t3 : (P.am : Int) ≤ 6 := by omega
      obtain rfl : D2 = false := by rw [hd, G3.out, decide_eq_false h6]
      clear h1 hd H3 G2 H2
      go_wp2_with fail
      go_meet
      exact ⟨rfl, rfl⟩
  · have t1 : (e2 == 0) = false := beq_eq_false_iff_ne.2 h1
    have hd := G2.out
    rw [decide_eq_false h1, Bool.false_and] at hd
    subst hd
    clear h1
    go_wp2_with fail
    go_meet
    exact ⟨rfl, rfl⟩
 case rest =>
 obtain ⟨rfl, rfl⟩ := hcut
 rename World => v2
 go_upto_if 28 with fail
 go_cut [5] (fun v wr => v = .int .i64 e3 ∧ Hid (Below ((w.alloc (.cells (cs x P) 173)).alloc (.cells #[.bool a1, .bool a2, .bool a3, .bool a4, .bool a5, .bool a6, .bool a7, .bool a8, .bool a9] 219)).heap.size ((w.alloc (.cells (cs x P) 173)).alloc (.cells #[.bool a1, .bool a2, .bool a3, .bool a4, .bool a5, .bool a6, .bool a7, .bool a8, .bool a9] 219)) wr))
 case first =>
  cases D2 with
  | false =>
   obtain rfl : e3 = e2 := H3.out
   exact zPRExpa_0
  | true =>
   obtain rfl : e3 = 6 := H3.out
   exact zPRExpa_0
 case rest =>
 clear HB b11 C3 C4 H1 H2 H3 G1 G2 G3
 obtain ⟨rfl, HB⟩ := hcut
 rename World => v3
 have HB3 := HB
 clear HB
 go_wp2_with fail
 go_loopw [5, 6] (fun d i wr => ∃ (k : Nat) (V : Int), k ≤ P.am ∧ Hid (orE e3 (badA (x.ar.take k)) = V) ∧ d = .int .i64 V ∧ i = .int .i64 (k : Nat) ∧ Hid (Below ((w.alloc (.cells (cs x P) 173)).alloc (.cells #[.bool a1, .bool a2, .bool a3, .bool a4, .bool a5, .bool a6, .bool a7, .bool a8, .bool a9] 219)).heap.size ((w.alloc (.cells (cs x P) 173)).alloc (.cells #[.bool a1, .bool a2, .bool a3, .bool a4, .bool a5, .bool a6, .bool a7, .bool a8, .bool a9] 219)) wr)) (fun d i _ => P.am - (intOf i).toNat)
 case atStart => exact ⟨0, e3, Nat.zero_le _, Lib.hid (orE_right _), rfl, rfl, HB3⟩
 case round =>
  obtain ⟨k, V, hk, HV, rfl, rfl, HB⟩ := hrel
  have k0 : (0 : Int) ≤ (k : Int) := by omega
  obtain ⟨hal, ham⟩ := HX.out.ar.len
  have HLN := Lib.hid hal
  clear hal
  have b11 := (FX.out wr HB.out).1.c11
  by_cases hV : V = 0
  case neg =>
   have t1 : (V == 0) = false := beq_eq_false_iff_ne.2 hV
   have HR : Hid (orE e3 (badA x.ar) = V) := Lib.hid (by
    have h1 := HV.out
    have h2 := badA_app (x.ar.take k) (x.ar.drop k)
    rw [List.take_append_drop] at h2
    rw [h2, ← orE_assoc, h1, orE_no hV])
   clear hV
   go_wp2_with fail
   go_ret
   exact ⟨by rw [HR.out]; rfl, by have HBB := HB.out; exact bl⟩
  subst hV
  rcases Nat.lt_or_ge k P.am with h | h
  · have k1 : (k : Int) < (P.am : Int) := by omega
    obtain ⟨b', o'', hap, -, hG', hcell'⟩ := HX.out.ar.kids (by omega)
    have hkl' : k < x.ar.length := by rw [HLN.out]; exact h
    obtain ⟨q, j, c', hc4, hkin⟩ := hcell'.out k hkl'
    have hmem' : x.ar[k] ∈ x.ar := List.getElem_mem hkl'
    have hgx' : x.ar[k]? = some x.ar[k] := List.getElem?_eq_getElem hkl'
    obtain ⟨y, hy⟩ : ∃ y, x.ar[k] = y := ⟨_, rfl⟩
    rw [hy] at hc4 hkin hmem' hgx'
    have HBW : Hid (Below w.heap.size w wr) := Lib.hid (by have HBB := HB.out; have HBC := HB0.out; exact bl)
    obtain ⟨g0, g1, g2, g3⟩ := hc4.on HBW.out hG'
    rw [hap] at b11
    have hbi : b' < wr.heap.size := Nat.lt_of_lt_of_le hG' HBW.out.size
    have HKIN := Lib.hid hkin
    have hsy := HSA.out y hmem'
    obtain ⟨V2, hV2⟩ : ∃ v, chkE false y = v := ⟨_, rfl⟩
    have HC := Lib.hid (fun W hi => rxcheck_gives hV2 q j c' W hi hsy.1 hsy.2)
    have HR : Hid (orE e3 (badA (x.ar.take (k + 1))) = V2) := Lib.hid (by rw [badA_take hgx', ← orE_assoc, HV.out, orE_yes, hV2])
    clear hcell' hc4 hkin hy hmem' hgx' hkl' hsy hV2
    go_wp2_with fail
    refine (HC.out _ (HKIN.out.on (by have HBB := HBW.out; exact bl))).mono ?_
    rintro e w5 ⟨rfl, hb5⟩
    have HB5 : Hid (Below ((w.alloc (.cells (cs x P) 173)).alloc (.cells #[.bool a1, .bool a2, .bool a3, .bool a4, .bool a5, .bool a6, .bool a7, .bool a8, .bool a9] 219)).heap.size ((w.alloc (.cells (cs x P) 173)).alloc (.cells #[.bool a1, .bool a2, .bool a3, .bool a4, .bool a5, .bool a6, .bool a7, .bool a8, .bool a9] 219)) w5) := Lib.hid (by have HBB := HB.out; exact bl)
    clear hb5 HC
    go_wp2_with fail
    go_roundw
    case rel => exact ⟨k + 1, V2, by omega, HR, rfl, by go_num, HB5⟩
    case measure => simp [intOf]; omega
  · obtain rfl : P.am = k := by omega
    have HR : Hid (orE e3 (badA x.ar) = 0) := Lib.hid (by
     have h1 := HV.out
     rwa [List.take_of_length_le (by rw [HLN.out]; exact Nat.le_refl _)] at h1)
    go_wp2_with fail
    go_ret
    exact ⟨by rw [HR.out]; rfl, by have HBB := HB.out; exact bl⟩
theorem exprs_math (u v : Int) (b : Bool) (n : Nat) (z : Int) : orE (if (decide ((if (decide (u = 0) && b) = true then v else u) = 0) && decide (6 < n)) = true then 6 else (if (decide (u = 0) && b) = true then v else u)) z = orE u (orE (onE b v) (if 6 < n then 6 else z)) := by
 unfold orE onE
 by_cases h1 : u = 0 <;> by_cases h2 : v = 0 <;> by_cases h3 : 6 < n <;> cases b <;> simp [h1, h2, h3]
theorem rexprsL_any (x : St) (P : Pl) (w : World) (hx : SIn w x P) (hs : SzS x) (a1 a2 a3 a4 a5 a6 a7 a8 a9 : Bool) : Calls Tryz.prog 186 #[.agg (cs x P), .agg #[.bool a1, .bool a2, .bool a3, .bool a4, .bool a5, .bool a6, .bool a7, .bool a8, .bool a9]] w (Gives (.int .i64 (orE (onE a3 (chkE false x.e)) (orE (onE a4 (chkE false x.g)) (argE x.ar)))) w) := by
 have h := exprs_walk x P w (Lib.hid hx) (Lib.hid hs.2.2.2.2) a1 a2 a3 a4 a5 a6 a7 a8 a9 _ _ _ (chkE false x.e) (chkE false x.g) _ _ _
  (Lib.hid fun W hb => Ex.rcheck_any x.e P.ep P.em P.ec W (hx.e.on hb) hs.2.2.1.1 hs.2.2.1.2)
  (Lib.hid fun W hb => Ex.rcheck_any x.g P.gp P.gm P.gc W (hx.g.on hb) hs.2.2.2.1.1 hs.2.2.2.1.2)
  (Lib.hid rfl) (Lib.hid rfl) (Lib.hid rfl) (Lib.hid rfl) (Lib.hid rfl) (Lib.hid rfl)
 rw [exprs_math, ← hx.ar.len.1] at h
 exact h
end Go.Proofs.YtaaffmbnhjaebaaGreat.Sm
namespace Go.Proofs.YtaaffmbnhjaebaaGreat.Sm
open Go.RowKit
open Go.Proofs.YtaaffmbnhjaebaaGreat.Na (bs chk)
open Go.Proofs.YtaaffmbnhjaebaaGreat.Ex (Gives chkE)
attribute [local go_sem] cs0 cs1 cs2 cs3 cs4 cs5 cs6 cs7 cs8 cs9 cs10 cs11 cs12 cs13 cs14 cs15 cs16 cs17 cs18 cs19 cs20
set_option maxHeartbeats 4000000
set_option linter.unusedVariables false
set_option linter.unusedSimpArgs false
theorem zPROnea_2 {p : Prop} (h : p := by have HBB := HB.out; exact bl) : p := h
theorem zPROnea_0 {p : Prop} (h : p := by
 go_wp2_with fail
 refine (C1.out _ zPROnea_2).mono ?_
 rintro e w3 ⟨rfl, hb3⟩
 have q := FX.out w3 zPROnea_2
 obtain ⟨ca1, ca2, ca3, ca4, ca5, ca6, ca7, ca8, ca9⟩ := frm_cells q.2
 have b2 := q.1.c2
 clear q
 go_wp2_with fail
 go_meet
 exact ⟨rfl, Lib.hid zPROnea_2⟩
 ) : p := h
theorem zPROnea_1 {p : Prop} (h : p := by
 go_wp2_with fail
 go_ret
 exact ⟨rfl, by have HBB := HB3.out; have HBC := HB0.out; exact bl⟩
 ) : p := h
set_option maxRecDepth 100000 in
theorem rone_walk (x : St) (P : Pl) (w : World) (a1 a2 a3 a4 a5 a6 a7 a8 a9 K V D q1 q2 D3 : Bool) (c1 c2 r d R : Int)
 (CO : Hid (∀ W, Below w.heap.size w W → Calls Tryz.prog 184 #[.int .i64 x.o] W (Gives (.tuple #[.agg #[.bool a1, .bool a2, .bool a3, .bool a4, .bool a5, .bool a6, .bool a7, .bool a8, .bool a9], .bool K]) W)))
 (CF : Hid (∀ W, Below w.heap.size w W → Calls Tryz.prog 185 #[.agg (cs x P)] W (Gives (.bool V) W)))
 (C1 : Hid (∀ W, Below w.heap.size w W → Calls Tryz.prog 33 #[.string x.nm] W (Gives (.int .i64 c1) W)))
 (C2 : Hid (∀ W, Below w.heap.size w W → Calls Tryz.prog 33 #[.string x.f] W (Gives (.int .i64 c2) W)))
 (CE : Hid (∀ W, Below w.heap.size w W → Calls Tryz.prog 186 #[.agg (cs x P), .agg #[.bool a1, .bool a2, .bool a3, .bool a4, .bool a5, .bool a6, .bool a7, .bool a8, .bool a9]] W (Gives (.int .i64 r) W)))
 (CD : Hid (∀ W, Below w.heap.size w W → Calls Tryz.prog 142 #[.agg #[.int .i64 x.di.op, .int .i64 x.di.a, .int .i64 x.di.b, .int .i64 x.di.n, .slice P.vp P.vm P.vc, .slice P.wp P.wm P.wc]] W (Gives (.int .i64 d) W)))
 (Q1 : (c1 != 0) = q1) (Q2 : (c2 != 0) = q2) (Q3 : (r == 0) = D3)
 (G1 : Hid (D = ((a1 && q1) || (a2 && q2)))) (GR : Hid (R = if V = true then (if D = true then 3 else if (D3 && a6) = true then d else r) else 1)) :
 Calls Tryz.prog 180 #[.agg (cs x P)] w (Gives (.int .i64 R) w) := by
 obtain ⟨n21, hn21⟩ : ∃ n : Nat, 21 = n := ⟨_, rfl⟩
 have hsz : ∀ w, (sizeOf 173).run Tryz.prog w = .ok n21 w := fun w => by rw [Tryz.sizeOf173, hn21]
 have HN21 := Lib.hid hn21
 clear hn21
 have hcsz : (cs x P).size = n21 := HN21.out
 go_enter Tryz.func180, Tryz.ntmps180
 go_wp2_with fail
 refine (CO.out _ bl).mono ?_
 rintro e w1 ⟨rfl, hb1⟩
 have FX := frm_far x P #[.bool a1, .bool a2, .bool a3, .bool a4, .bool a5, .bool a6, .bool a7, .bool a8, .bool a9] hb1
 have HB0 : Hid (Below w.heap.size w (w1.alloc (.cells #[.bool a1, .bool a2, .bool a3, .bool a4, .bool a5, .bool a6, .bool a7, .bool a8, .bool a9] 219))) := Lib.hid bl
 have ld1 := (FX.out _ (Below.refl _ _)).1.cell.ldN HN21.out
 go_wp2_with fail
 refine (CF.out _ bl).mono ?_
 rintro e w2 ⟨rfl, hb2⟩
 have HB : Hid (Below (w1.alloc (.cells #[.bool a1, .bool a2, .bool a3, .bool a4, .bool a5, .bool a6, .bool a7, .bool a8, .bool a9] 219)).heap.size (w1.alloc (.cells #[.bool a1, .bool a2, .bool a3, .bool a4, .bool a5, .bool a6, .bool a7, .bool a8, .bool a9] 219)) w2) := Lib.hid bl
 clear ld1 hb1
 cases V with
 | false =>
  obtain rfl : R = 1 := by rw [GR.out]; rfl
  clear hb2
  go_wp2_with fail
  go_ret
  exact ⟨rfl, by have HBB := HB.out; have HBC := HB0.out; exact bl⟩
 | true =>
 clear hb2 CF
 replace GR : Hid (R = if D = true then 3 else if (D3 && a6) = true then d else r) := Lib.hid (by rw [GR.out, if_pos rfl])
 have q := FX.out w2 zPROnea_2
 obtain ⟨ca1, ca2, ca3, ca4, ca5, ca6, ca7, ca8, ca9⟩ := frm_cells q.2
 have b1 := q.1.c1
 have b2 := q.1.c2
 clear q
 go_upto_region 4 with fail
 go_cut [32] (fun v wr => v = .bool D ∧ Hid (Below (w1.alloc (.cells #[.bool a1, .bool a2, .bool a3, .bool a4, .bool a5, .bool a6, .bool a7, .bool a8, .bool a9] 219)).heap.size (w1.alloc (.cells #[.bool a1, .bool a2, .bool a3, .bool a4, .bool a5, .bool a6, .bool a7, .bool a8, .bool a9] 219)) wr))
 case first =>
  replace C1 : Hid (∀ W, Below (w1.alloc (.cells #[.bool a1, .bool a2, .bool a3, .bool a4, .bool a5, .bool a6, .bool a7, .bool a8, .bool a9] 219)).heap.size (w1.alloc (.cells #[.bool a1, .bool a2, .bool a3, .bool a4, .bool a5, .bool a6, .bool a7, .bool a8, .bool a9] 219)) W → Calls Tryz.prog 33 #[.string x.nm] W (Gives (.int .i64 c1) W)) := Lib.hid fun W hW => C1.out W (by have HBC := HB0.out; exact bl)
  replace C2 : Hid (∀ W, Below (w1.alloc (.cells #[.bool a1, .bool a2, .bool a3, .bool a4, .bool a5, .bool a6, .bool a7, .bool a8, .bool a9] 219)).heap.size (w1.alloc (.cells #[.bool a1, .bool a2, .bool a3, .bool a4, .bool a5, .bool a6, .bool a7, .bool a8, .bool a9] 219)) W → Calls Tryz.prog 33 #[.string x.f] W (Gives (.int .i64 c2) W)) := Lib.hid fun W hW => C2.out W (by have HBC := HB0.out; exact bl)
  clear GR Q3
  cases a1 with
  | false =>
   cases a2 with
   | false =>
    obtain rfl : D = false := by rw [G1.out]; rfl
    go_wp2_with fail
    go_meet
    exact ⟨rfl, Lib.hid zPROnea_2⟩
   | true =>
    cases q2
    all_goals
     have hd := G1.out
     simp only [Bool.false_and, Bool.true_and, Bool.false_or, Bool.or_false, Bool.and_true, Bool.and_false] at hd
     subst hd
     go_wp2_with fail
     refine (C2.out _ zPROnea_2).mono ?_
     rintro e w4 ⟨rfl, hb4⟩
     go_wp2_with fail
     go_meet
     exact ⟨rfl, Lib.hid zPROnea_2⟩
  | true =>
   cases q1 with
   | true =>
    obtain rfl : D = true := by rw [G1.out]; rfl
    exact zPROnea_0
   | false =>
    cases a2 with
    | false =>
     obtain rfl : D = false := by rw [G1.out]; rfl
     exact zPROnea_0
    | true =>
     cases q2
     all_goals
      have hd := G1.out
      simp only [Bool.false_and, Bool.true_and, Bool.false_or, Bool.or_false, Bool.and_true, Bool.and_false] at hd
      subst hd
      go_wp2_with fail
      refine (C1.out _ zPROnea_2).mono ?_
      rintro e w3 ⟨rfl, hb3⟩
      have q := FX.out w3 zPROnea_2
      obtain ⟨ca1, ca2, ca3, ca4, ca5, ca6, ca7, ca8, ca9⟩ := frm_cells q.2
      have b2 := q.1.c2
      clear q
      go_wp2_with fail
      refine (C2.out _ zPROnea_2).mono ?_
      rintro e w4 ⟨rfl, hb4⟩
      go_wp2_with fail
      go_meet
      exact ⟨rfl, Lib.hid zPROnea_2⟩
 case rest =>
 clear HB
 obtain ⟨rfl, HB⟩ := hcut
 rename World => v1
 clear C1 C2 Q1 Q2 G1
 cases D with
 | true =>
  obtain rfl : R = 3 := by rw [GR.out]; rfl
  go_wp2_with fail
  go_ret
  exact ⟨rfl, by have HBB := HB.out; have HBC := HB0.out; exact bl⟩
 | false =>
 replace GR : Hid (R = if (D3 && a6) = true then d else r) := Lib.hid (by rw [GR.out, if_neg (by decide)])
 have ld1 := (FX.out v1 HB.out).1.cell.ldN HN21.out
 clear ca1 ca2 ca3 ca4 ca5 ca6 ca7 ca8 ca9
 obtain ⟨ca1, ca2, ca3, ca4, ca5, ca6, ca7, ca8, ca9⟩ := frm_cells (FX.out v1 HB.out).2
 go_wp2_with fail
 refine (CE.out _ (by have HBB := HB.out; have HBC := HB0.out; exact bl)).mono ?_
 rintro e w3 ⟨rfl, hb3⟩
 have HB3 : Hid (Below (w1.alloc (.cells #[.bool a1, .bool a2, .bool a3, .bool a4, .bool a5, .bool a6, .bool a7, .bool a8, .bool a9] 219)).heap.size (w1.alloc (.cells #[.bool a1, .bool a2, .bool a3, .bool a4, .bool a5, .bool a6, .bool a7, .bool a8, .bool a9] 219)) w3) := Lib.hid zPROnea_2
 clear hb3 ld1 CE
 have q := FX.out w3 HB3.out
 obtain ⟨ca1, ca2, ca3, ca4, ca5, ca6, ca7, ca8, ca9⟩ := frm_cells q.2
 have b12 := q.1.c12
 have b13 := q.1.c13
 have b14 := q.1.c14
 have b15 := q.1.c15
 have b16 := q.1.c16
 have b17 := q.1.c17
 clear q
 cases D3 with
 | false =>
  obtain rfl : R = r := by rw [GR.out]; rfl
  exact zPROnea_1
 | true =>
  cases a6 with
  | false =>
   obtain rfl : R = r := by rw [GR.out]; rfl
   exact zPROnea_1
  | true =>
   obtain rfl : R = d := by rw [GR.out]; rfl
   go_wp2_with fail
   refine (CD.out _ (by have HBB := HB3.out; have HBC := HB0.out; exact bl)).mono ?_
   rintro e w4 ⟨rfl, hb4⟩
   exact zPROnea_1
theorem chk_two (l : List UInt8) : chk l = 0 ∨ chk l = 3 := by unfold chk; split <;> simp
theorem one_math (a1 a2 a3 a4 a5 a6 : Bool) (c1 c2 e g a d : Int) (h1 : c1 = 0 ∨ c1 = 3) (h2 : c2 = 0 ∨ c2 = 3) (h5 : a5 = false → a = 0) :
 (if ((a1 && (c1 != 0)) || (a2 && (c2 != 0))) = true then 3 else if (((orE (onE a3 e) (orE (onE a4 g) a)) == 0) && a6) = true then d else orE (onE a3 e) (orE (onE a4 g) a)) = orE (onE a1 c1) (orE (onE a2 c2) (orE (onE a3 e) (orE (onE a4 g) (orE (onE a5 a) (onE a6 d))))) := by
 have e5 : onE a5 a = a := by cases a5; · rw [h5 rfl]; rfl
                              · rfl
 rw [e5]
 have e3 : orE (onE a3 e) (orE (onE a4 g) (orE a (onE a6 d))) = orE (orE (onE a3 e) (orE (onE a4 g) a)) (onE a6 d) := by rw [orE_assoc, orE_assoc]
 rw [e3]
 generalize orE (onE a3 e) (orE (onE a4 g) a) = r
 have e6 : (if ((r == 0) && a6) = true then d else r) = orE r (onE a6 d) := by
  unfold orE onE
  by_cases h : r = 0
  · subst h; cases a6 <;> simp
  · have : (r == 0) = false := beq_eq_false_iff_ne.2 h
    rw [this, if_neg h]; rfl
 rw [e6]
 rcases h1 with rfl | rfl <;> rcases h2 with rfl | rfl <;> cases a1 <;> cases a2 <;> rfl
theorem rdcheck_any {w : World} {x : St} {P : Pl} (hx : SIn w x P) : Calls Tryz.prog 142 #[.agg #[.int .i64 x.di.op, .int .i64 x.di.a, .int .i64 x.di.b, .int .i64 x.di.n, .slice P.vp P.vm P.vc, .slice P.wp P.wm P.wc]] w (Gives (.int .i64 (dtE x.di)) w) := by
 have h := Di.rcheck_any x.di.op x.di.a x.di.b x.di.n P.vp x.di.vs.length P.vc P.wp x.di.ws.length P.wc _ _ w hx.vs hx.ws
 rw [show dtE x.di = Di.errD x.di.op x.di.a x.di.b x.di.n x.di.vs.length x.di.ws.length (fun i => x.di.vs.getD i 0) (fun i => x.di.ws.getD i 0) from rfl]
 rw [hx.vlen, hx.wlen] at h ⊢
 exact h
theorem rone_any (x : St) (P : Pl) (w : World) (hx : SIn w x P) (hs : SzS x) : Calls Tryz.prog 180 #[.agg (cs x P)] w (Gives (.int .i64 (oneE x)) w) := by
 refine rone_walk x P w (uN x.o) (uO x.o) (uE x.o) (uF x.o) (uA x.o) (uD x.o) (uG x.o) (uB x.o) (uL x.o) (kn x.o) (kn x.o && frm x) _ _ _ _ (chk (bs x.nm)) (chk (bs x.f)) (orE (onE (uE x.o) (chkE false x.e)) (orE (onE (uF x.o) (chkE false x.g)) (argE x.ar))) (dtE x.di) (oneE x)
  (Lib.hid fun W hb => rof_any x.o W)
  (Lib.hid fun W hb => rformed_any x P W (hx.on hb))
  (Lib.hid fun W hb => Na.rcheck_any x.nm W (by have := hs.1; omega))
  (Lib.hid fun W hb => Na.rcheck_any x.f W (by have := hs.2.1; omega))
  (Lib.hid fun W hb => rexprsL_any x P W (hx.on hb) hs _ _ _ _ _ _ _ _ _)
  (Lib.hid fun W hb => rdcheck_any (hx.on hb))
  rfl rfl rfl (Lib.hid rfl) (Lib.hid ?_)
 unfold oneE
 cases hv : (kn x.o && frm x) with
 | false => rfl
 | true =>
  rw [if_pos rfl, if_pos rfl]
  unfold restE
  have hf : frm x = true := by simp only [Bool.and_eq_true] at hv; exact hv.2
  have h5 : uA x.o = false → argE x.ar = 0 := by
   intro h
   unfold frm at hf
   rw [h] at hf
   simp only [Bool.and_eq_true, Bool.false_or, decide_eq_true_eq] at hf
   have hn : x.ar = [] := List.length_eq_zero_iff.1 hf.1.1.1.1.2
   rw [hn]
   rfl
  exact (one_math _ _ _ _ _ _ _ _ _ _ _ _ (chk_two _) (chk_two _) h5).symm
end Go.Proofs.YtaaffmbnhjaebaaGreat.Sm
namespace Go.Proofs.YtaaffmbnhjaebaaGreat.Sm
open Go.RowKit
open Go.Proofs.YtaaffmbnhjaebaaGreat.Ex (Gives)
attribute [local go_sem] cs0 cs1 cs2 cs3 cs4 cs5 cs6 cs7 cs8 cs9 cs10 cs11 cs12 cs13 cs14 cs15 cs16 cs17 cs18 cs19 cs20
set_option maxHeartbeats 4000000
set_option linter.unusedVariables false
set_option linter.unusedSimpArgs false
theorem bad_ord (x : St) : badS (ord x) = orE (oneE x) (orE (badS (ordL x.bo)) (badS (ordL x.el))) := by rw [ord_one, badS, badS_app]
theorem badL_take {l : List St} {k : Nat} {x : St} (h : l[k]? = some x) : badS (ordL (l.take (k + 1))) = orE (badS (ordL (l.take k))) (badS (ord x)) := by rw [ordL_take h, badS_app]
theorem badL_stop {l : List St} {k : Nat} {x : St} (h : l[k]? = some x) (h0 : badS (ordL (l.take k)) = 0) (h1 : ¬ badS (ord x) = 0) : badS (ordL l) = badS (ord x) := by
 have h2 := ordL_app (l.take (k + 1)) (l.drop (k + 1))
 rw [List.take_append_drop] at h2
 rw [h2, badS_app, badL_take h, h0, orE_yes, orE_no h1]
theorem rone_gives {x : St} {v : Int} (h : oneE x = v) (P : Pl) (w : World) (hx : SIn w x P) (hs : SzS x) : Calls Tryz.prog 180 #[.agg (cs x P)] w (Gives (.int .i64 v) w) := by subst h; exact rone_any x P w hx hs
theorem zPRLsta_1 {p : Prop} (h : p := by have HBB := HW.out; exact bl) : p := h
theorem zPRLsta_0 {p : Prop} (h : p := by
 go_wp2_with fail
 go_ret
 exact ⟨by rw [HR.out]; rfl, zPRLsta_1⟩
 ) : p := h
set_option maxRecDepth 100000 in
theorem rlist_any (sl : List St) : ∀ (p : Option Addr) (m c : Nat) (w : World), LIn w sl p m → SzL sl → Calls Tryz.prog 163 #[.slice p m c] w (Gives (.int .i64 (badS (ordL sl))) w) := by
 induction sl using lst_ind with
 | h sl ih =>
  intro p m c w h hc
  have HH := Lib.hid h
  have HI := Lib.hid ih
  obtain ⟨hl, hm⟩ := h.len
  have HL := Lib.hid hl
  have HC := Lib.hid hc
  clear ih h hl hc
  obtain ⟨n21, hn21⟩ : ∃ n : Nat, 21 = n := ⟨_, rfl⟩
  have hsz : ∀ w, (sizeOf 173).run Tryz.prog w = .ok n21 w := fun w => by rw [Tryz.sizeOf173, hn21]
  have HN21 := Lib.hid hn21
  clear hn21
  go_enter Tryz.func163, Tryz.ntmps163
  go_wp2_with fail
  go_loopw [3] (fun i wr => ∃ k : Nat, k ≤ m ∧ Hid (badS (ordL (sl.take k)) = 0) ∧ i = .int .i64 (k : Nat) ∧ Hid (Below w.heap.size w wr)) (fun i _ => m - (intOf i).toNat)
  case atStart => exact ⟨0, Nat.zero_le _, Lib.hid rfl, rfl, Lib.hid bl⟩
  case round =>
   obtain ⟨k, hk, HT0, rfl, HW⟩ := hrel
   have k0 : (0 : Int) ≤ (k : Int) := by omega
   rcases Nat.lt_or_ge k m with h | h
   · have k1 : (k : Int) < (m : Int) := by omega
     obtain ⟨b, o', rfl, -, hG, hcell⟩ := HH.out.rows (by omega)
     have hkl : k < sl.length := by rw [HL.out]; omega
     obtain ⟨P, hc21, hsin⟩ := hcell.out k hkl
     have hmem : sl[k] ∈ sl := List.getElem_mem hkl
     have hgx : sl[k]? = some sl[k] := List.getElem?_eq_getElem hkl
     obtain ⟨x, hx⟩ : ∃ x, sl[k] = x := ⟨_, rfl⟩
     rw [hx] at hc21 hsin hmem hgx
     have HSIN := Lib.hid hsin
     have HX := Lib.hid hgx
     have HM := Lib.hid hmem
     have hcw := (hc21.on HW.out hG).at HN21.out
     have hbr : b < wr.heap.size := Nat.lt_of_lt_of_le hG HW.out.size
     have hcsz : (cs x P).size = n21 := HN21.out
     have ld1 := (hcw).ldN HN21.out
     have ld2 := (hcw).loadVar
     have ld3 := (hcw).loadAt
     have st1 := st_store x P
     have st2 := st_storeVar x P
     have st3 := st_storeAt x P
     have HCW := Lib.hid hcw
     clear hcell hc21 hsin hx hmem hgx hkl hcw
     obtain ⟨i1, i2⟩ := HI.out x HM.out
     have hsx := HC.out.mem HM.out
     obtain ⟨v1, hv1⟩ : ∃ v, oneE x = v := ⟨_, rfl⟩
     obtain ⟨v2, hv2⟩ : ∃ v, badS (ordL x.bo) = v := ⟨_, rfl⟩
     obtain ⟨v3, hv3⟩ : ∃ v, badS (ordL x.el) = v := ⟨_, rfl⟩
     have F1 := Lib.hid (fun W hi => rone_gives hv1 P W hi hsx)
     have F2 := Lib.hid (fun W hi => i1 P.bp P.bm P.bc W hi (HC.out.bo HM.out))
     have F3 := Lib.hid (fun W hi => i2 P.lp P.lm P.lc W hi (HC.out.el HM.out))
     rw [hv2] at F2
     rw [hv3] at F3
     have hbo : badS (ord x) = orE v1 (orE v2 v3) := by rw [bad_ord, hv1, hv2, hv3]
     have HT : Hid (badS (ordL (sl.take (k + 1))) = orE v1 (orE v2 v3)) := Lib.hid (by rw [badL_take HX.out, HT0.out, orE_yes, hbo])
     have HE : Hid (¬ orE v1 (orE v2 v3) = 0 → badS (ordL sl) = orE v1 (orE v2 v3)) := Lib.hid (fun h1 => by rw [← hbo] at h1 ⊢; exact badL_stop HX.out HT0.out h1)
     have FC := Lib.hid (fun W (hb : Below wr.heap.size wr W) => And.intro ((HCW.out.on hb hbr) 19 _ rfl) ((HCW.out.on hb hbr) 20 _ rfl))
     clear i1 i2 hsx hv1 hv2 hv3 hbo
     go_wp2_with fail
     refine (F1.out _ (HSIN.out.on zPRLsta_1)).mono ?_
     rintro e w1 ⟨rfl, hb1⟩
     have c19 := (FC.out w1 bl).1
     clear ld1 ld2 ld3 st1 st2 st3 F1
     by_cases z1 : v1 = 0
     case neg =>
      have t1 : (v1 == 0) = false := beq_eq_false_iff_ne.2 z1
      have t2 : (v1 != 0) = true := bne_iff_ne.2 z1
      have HR : Hid (badS (ordL sl) = v1) := Lib.hid (by rw [HE.out (by rw [orE_no z1]; exact z1), orE_no z1])
      clear z1
      exact zPRLsta_0
     subst z1
     go_wp2_with fail
     refine (F2.out _ (HSIN.out.bo.on zPRLsta_1)).mono ?_
     rintro e w2 ⟨rfl, hb2⟩
     have c20 := (FC.out w2 bl).2
     by_cases z1 : v2 = 0
     case neg =>
      have t1 : (v2 == 0) = false := beq_eq_false_iff_ne.2 z1
      have t2 : (v2 != 0) = true := bne_iff_ne.2 z1
      have HR : Hid (badS (ordL sl) = v2) := Lib.hid (by rw [HE.out (by rw [orE_yes, orE_no z1]; exact z1), orE_yes, orE_no z1])
      clear z1
      exact zPRLsta_0
     subst z1
     go_wp2_with fail
     refine (F3.out _ (HSIN.out.el.on zPRLsta_1)).mono ?_
     rintro e w3 ⟨rfl, hb3⟩
     by_cases z1 : v3 = 0
     case neg =>
      have t1 : (v3 == 0) = false := beq_eq_false_iff_ne.2 z1
      have t2 : (v3 != 0) = true := bne_iff_ne.2 z1
      have HR : Hid (badS (ordL sl) = v3) := Lib.hid (by rw [HE.out (by rw [orE_yes, orE_yes]; exact z1), orE_yes, orE_yes])
      clear z1
      exact zPRLsta_0
     subst z1
     have HR : Hid (badS (ordL (sl.take (k + 1))) = 0) := Lib.hid (by rw [HT.out, orE_yes, orE_yes])
     have HW3 : Hid (Below w.heap.size w w3) := Lib.hid zPRLsta_1
     go_wp2_with fail
     go_roundw
     case rel => exact ⟨k + 1, by omega, HR, by go_num, HW3⟩
     case measure => simp [intOf]; omega
   · obtain rfl : m = k := by omega
     have HR : Hid (badS (ordL sl) = 0) := Lib.hid (by have h1 := HT0.out; rwa [List.take_of_length_le (by rw [HL.out]; exact Nat.le_refl _)] at h1)
     exact zPRLsta_0
set_option maxRecDepth 100000 in
theorem rcheckL_any (sl : List St) (p : Option Addr) (m c : Nat) (w : World) (h : LIn w sl p m) (hs : SzL sl) (hc : cnL sl ≤ 4000000) : Calls Tryz.prog 143 #[.slice p m c] w (Gives (.int .i64 (chkL sl)) w) := by
 have HH := Lib.hid h
 have H1 := Lib.hid (fun W hi => rcount_any sl p m c W hi hc)
 have H2 := Lib.hid (fun W hi => rdepth_any sl p m c W hi hc)
 have H3 := Lib.hid (fun W hi => rlist_any sl p m c W hi hs)
 have hd := dpL_le_cnL sl
 obtain ⟨N, hN⟩ : ∃ N, cnL sl = N := ⟨_, rfl⟩
 obtain ⟨D, hD⟩ : ∃ D, dpL sl = D := ⟨_, rfl⟩
 obtain ⟨V, hV⟩ : ∃ V, badS (ordL sl) = V := ⟨_, rfl⟩
 have hk : chkL sl = if 200 < N then 6 else if 12 < D then 11 else V := by unfold chkL; rw [hN, hD, hV]
 rw [hk]
 rw [hN] at H1 hc hd
 rw [hD] at H2 hd
 rw [hV] at H3
 clear h hs hN hD hV hk
 by_cases h1 : 200 < N
 · rw [if_pos h1]
   have t1 : decide ((200 : Int) < (N : Int)) = true := decide_eq_true (by omega)
   have t2 : (200 : Int) < (N : Int) := by omega
   clear hd
   go_enter Tryz.func143, Tryz.ntmps143
   go_wp2_with fail
   refine (H1.out _ (HH.out.on bl)).mono ?_
   rintro e w1 ⟨rfl, hb1⟩
   go_wp2_with fail
   go_ret
   exact ⟨rfl, bl⟩
 rw [if_neg h1]
 have t1 : decide ((200 : Int) < (N : Int)) = false := decide_eq_false (by omega)
 have t2 : (N : Int) ≤ 200 := by omega
 by_cases h2 : 12 < D
 · rw [if_pos h2]
   have t3 : decide ((12 : Int) < (D : Int)) = true := decide_eq_true (by omega)
   have t4 : (12 : Int) < (D : Int) := by omega
   clear hd
   go_enter Tryz.func143, Tryz.ntmps143
   go_wp2_with fail
   refine (H1.out _ (HH.out.on bl)).mono ?_
   rintro e w1 ⟨rfl, hb1⟩
   go_wp2_with fail
   refine (H2.out _ (HH.out.on bl)).mono ?_
   rintro e w2 ⟨rfl, hb2⟩
   go_wp2_with fail
   go_ret
   exact ⟨rfl, bl⟩
 rw [if_neg h2]
 have t3 : decide ((12 : Int) < (D : Int)) = false := decide_eq_false (by omega)
 have t4 : (D : Int) ≤ 12 := by omega
 clear hd
 go_enter Tryz.func143, Tryz.ntmps143
 go_wp2_with fail
 refine (H1.out _ (HH.out.on bl)).mono ?_
 rintro e w1 ⟨rfl, hb1⟩
 go_wp2_with fail
 refine (H2.out _ (HH.out.on bl)).mono ?_
 rintro e w2 ⟨rfl, hb2⟩
 go_wp2_with fail
 refine (H3.out _ (HH.out.on bl)).mono ?_
 rintro e w3 ⟨rfl, hb3⟩
 go_wp2_with fail
 go_ret
 exact ⟨rfl, bl⟩
end Go.Proofs.YtaaffmbnhjaebaaGreat.Sm
namespace Go.Proofs.YtaaffmbnhjaebaaGreat.Md
open Go.RowKit Go.Maps
open Go.Proofs.YtaaffmbnhjaebaaGreat.Sm (chkL cnL orE orE_no orE_yes)
open Go.Proofs.YtaaffmbnhjaebaaGreat.Ex (Lo Gives block_lt)
attribute [local go_sem] cRou0 cRou1 cRou2 cRou3
set_option maxHeartbeats 4000000
set_option linter.unusedVariables false
theorem zQRora_0 {p : Prop} (h : p := by
 intro W2 hS2
 try dsimp only at hS2
 obtain ⟨s1, s2⟩ := hS2
 clear hHeld hra hrb
 first | (go_simp; done) | (go_simp; with_reducible rfl)
 ) : p := h
set_option maxRecDepth 100000 in
theorem rrou_any (x : Rou) (P : PRou) (w : World) (hx : ORou (Lo w.heap.size) w x P) (hz : ZRou x) (hc : cnL x.bo ≤ 4000000) : Calls Tryz.prog 119 #[.agg (cRou x P)] w (Gives (.int .i64 (rouT x)) w) := by
 have HX := Lib.hid hx
 have HZ := Lib.hid hz
 have FX := far (w := w) 79 (cRou x P)
 obtain ⟨hlp, hmp⟩ := hx.ps.len
 obtain ⟨hll, hml⟩ := hx.ls.len
 have hN : P.psm + P.lsm ≤ 1000000 := by have := hz.ln; rw [List.length_append] at this; omega
 have wr0 : IntKind.i64.wrap ((P.psm : Int) + (P.lsm : Int)) = (P.psm : Int) + (P.lsm : Int) := by rw [IntKind.wrap_i64]; omega
 have n1 : (0 : Int) ≤ (P.psm : Int) + (P.lsm : Int) := by omega
 have n2 : (P.psm : Int) + (P.lsm : Int) ≤ 9223372036854775807 := by omega
 by_cases h6 : 6 < P.psm
 · rw [show rouT x = 6 by unfold rouT; rw [if_pos (by omega)]]
   have d1 : decide ((6 : Int) < (P.psm : Int)) = true := decide_eq_true (by omega)
   have d2 : (6 : Int) < (P.psm : Int) := by omega
   clear hx hz hlp hmp hll hml h6 hN hc
   go_enter Tryz.func119, Tryz.ntmps119
   go_wp2_with fail
   go_ret
   exact ⟨rfl, bl⟩
 have d1 : decide ((6 : Int) < (P.psm : Int)) = false := decide_eq_false (by omega)
 have d2 : (P.psm : Int) ≤ 6 := by omega
 by_cases h16 : 16 < P.psm + P.lsm
 · rw [show rouT x = 6 by unfold rouT eachE; rw [if_neg (by omega), if_pos (by rw [List.length_append]; omega)]; rfl]
   have d3 : decide ((16 : Int) < (P.psm : Int) + (P.lsm : Int)) = true := decide_eq_true (by omega)
   have d4 : (16 : Int) < (P.psm : Int) + (P.lsm : Int) := by omega
   clear hx hz hlp hmp hll hml h6 hN hc h16
   go_enter Tryz.func119, Tryz.ntmps119
   go_wp2_with fail
   go_ret
   exact ⟨rfl, bl⟩
 have d3 : decide ((16 : Int) < (P.psm : Int) + (P.lsm : Int)) = false := decide_eq_false (by omega)
 have d4 : (P.psm : Int) + (P.lsm : Int) ≤ 16 := by omega
 obtain ⟨l, hl⟩ : ∃ l, x.ps ++ x.ls = l := ⟨_, rfl⟩
 obtain ⟨v2, hv2⟩ : ∃ v, chkL x.bo = v := ⟨_, rfl⟩
 have HE : Hid (rouT x = orE (goE (fun a f => stepN a (fldP f)) l []).1 v2) := Lib.hid (by
  unfold rouT eachE
  rw [if_neg (by omega), if_neg (by rw [List.length_append]; omega), hl, hv2])
 have CB := Lib.hid (fun W (hW : Below w.heap.size w W) => (show Calls Tryz.prog 143 #[.slice P.bop P.bom P.boc] W (Gives (.int .i64 v2) W) by rw [← hv2]; exact Sm.rcheckL_any x.bo P.bop P.bom P.boc W ((HX.out.bo.map hW.size fun b g _ => ⟨Nat.lt_of_lt_of_le g hW.size, hW.block b g⟩)) HZ.out.bo hc))
 have FK : Hid (∀ W, Below (w.alloc (.cells (cRou x P) 79)).heap.size (w.alloc (.cells (cRou x P) 79)) W → W.cell? ⟨w.heap.size, 3, none⟩ = some (.slice P.bop P.bom P.boc)) := Lib.hid fun W hb => (FX.out W hb).get (cRou3 x P)
 have HNm := Lib.hid (show ∀ f ∈ l, f.nm.size ≤ 9223372036854775807 from by rw [← hl]; exact hz.fl)
 have h0 : OwnL 103 2 RFld (w.alloc (.cells (cRou x P) 79)).heap.size (((w.alloc (.cells (cRou x P) 79)).drew).alloc (.cells #[] 103)) (.slice (some ⟨(w.alloc (.cells (cRou x P) 79)).heap.size, 0, none⟩) 0 0) ([] : List Fld) := OwnL.made (w := (w.alloc (.cells (cRou x P) 79)).drew) (Nat.le_refl _)
 have hbA : Below w.heap.size w (((w.alloc (.cells (cRou x P) 79)).drew).alloc (.cells #[] 103)) := bl
 have hbA1 : Below (w.alloc (.cells (cRou x P) 79)).heap.size (w.alloc (.cells (cRou x P) 79)) (((w.alloc (.cells (cRou x P) 79)).drew).alloc (.cells #[] 103)) := bl
 have hW1 : w.heap.size ≤ (w.alloc (.cells (cRou x P) 79)).heap.size := by simp
 have upF : ∀ {l2 : List Fld} {p : Option Addr} {m : Nat} {W : World}, Below w.heap.size w W → Rw 2 RFld (Lo w.heap.size) w l2 p m → Rw 2 RFld (Lo (w.alloc (.cells (cRou x P) 79)).heap.size) W l2 p m := fun hW h => (h.below RFld.map hW).mono RFld.map fun b g _ => Nat.lt_of_lt_of_le g hW1
 obtain ⟨va, wa, hra, hoa, hga⟩ := OwnL.app kFld RFld.map sFld h0 (upF hbA hx.ps) P.psc hbA1.size (by show 0 + P.psm ≤ _; omega)
 rw [show (w.alloc (.cells (cRou x P) 79)).heap.size = w.heap.size + 1 by simp] at hra
 have hba1 : Below (w.alloc (.cells (cRou x P) 79)).heap.size (w.alloc (.cells (cRou x P) 79)) wa := h0.below hga hbA1 (Nat.le_refl _) hbA1.size
 have hba : Below w.heap.size w wa := h0.below hga hbA hW1 hbA1.size
 obtain ⟨vb, wb, hrb, hob, hgb⟩ := OwnL.app kFld RFld.map sFld hoa (upF hba hx.ls) P.lsc hba1.size (by show ([] ++ x.ps).length + P.lsm ≤ _; rw [List.nil_append]; omega)
 have hbb1 : Below (w.alloc (.cells (cRou x P) 79)).heap.size (w.alloc (.cells (cRou x P) 79)) wb := hoa.below hgb hba1 (Nat.le_refl _) hba1.size
 rw [List.nil_append, hl] at hob
 have hll2 : l.length = P.psm + P.lsm := by rw [← hl, List.length_append, hlp, hll]
 obtain ⟨fp, fc, rfl, hfl⟩ := hob.rw RFld.map sFld (by omega)
 have SA := Lib.hid (show (w.alloc (.cells (cRou x P) 79)).drew.cell? ⟨w.heap.size, 1, none⟩ = some (.slice P.psp P.psm P.psc) ∧ (w.alloc (.cells (cRou x P) 79)).drew.cell? ⟨w.heap.size, 2, none⟩ = some (.slice P.lsp P.lsm P.lsc) from ⟨(FX.out _ bl).get (cRou1 x P), (FX.out _ bl).get (cRou2 x P)⟩)
 have SB := Lib.hid (show (((w.alloc (.cells (cRou x P) 79)).drew).alloc (.cells #[] 103)).cell? ⟨w.heap.size, 1, none⟩ = some (.slice P.psp P.psm P.psc) ∧ (((w.alloc (.cells (cRou x P) 79)).drew).alloc (.cells #[] 103)).cell? ⟨w.heap.size, 2, none⟩ = some (.slice P.lsp P.lsm P.lsc) from ⟨(FX.out _ hbA1).get (cRou1 x P), (FX.out _ hbA1).get (cRou2 x P)⟩)
 have SC := Lib.hid (show wa.cell? ⟨w.heap.size, 1, none⟩ = some (.slice P.psp P.psm P.psc) ∧ wa.cell? ⟨w.heap.size, 2, none⟩ = some (.slice P.lsp P.lsm P.lsc) from ⟨(FX.out _ hba1).get (cRou1 x P), (FX.out _ hba1).get (cRou2 x P)⟩)
 have SD := Lib.hid (show wb.cell? ⟨w.heap.size, 1, none⟩ = some (.slice P.psp P.psm P.psc) ∧ wb.cell? ⟨w.heap.size, 2, none⟩ = some (.slice P.lsp P.lsm P.lsc) from ⟨(FX.out _ hbb1).get (cRou1 x P), (FX.out _ hbb1).get (cRou2 x P)⟩)
 have HF := Lib.hid hfl
 have HBB1 := Lib.hid hbb1
 obtain ⟨n, hn⟩ : ∃ n, l.length = n := ⟨_, rfl⟩
 have HLN := Lib.hid hn
 rw [hn] at HF hll2 hrb
 have n16 : n ≤ 16 := by omega
 have nI : (n : Int) ≤ 16 := by omega
 clear hx hz hlp hmp hll hml h6 hN hc h16 hl hv2 hob hfl hga hgb hoa h0 upF hbA hbA1 hba hba1 hbb1 hn hll2
 go_enter Tryz.func119, Tryz.ntmps119
 go_wp2_with fail
 refine wp_region_held_drew (S := (fun (W : World) => W.cell? ⟨w.heap.size, 1, none⟩ = some (.slice P.psp P.psm P.psc) ∧ W.cell? ⟨w.heap.size, 2, none⟩ = some (.slice P.lsp P.lsm P.lsc))) (by kernel_rfl) SA.out (fun hHeld => ?_)
 refine htake 1 ((.pointer (some ⟨w.heap.size, 1, none⟩) : Value)) (hy := ?_) (h := ?_)
 · exact zQRora_0
 try simp only [Act.put, sA, sB, sC]
 refine htake 2 ((.slice P.psp P.psm P.psc : Value)) (hy := ?_) (h := ?_)
 · exact zQRora_0
 try simp only [Act.put, sA, sB, sC]
 refine htake 4 ((.pointer (some ⟨w.heap.size, 2, none⟩) : Value)) (hy := ?_) (h := ?_)
 · exact zQRora_0
 try simp only [Act.put, sA, sB, sC]
 refine htake 5 ((.slice P.lsp P.lsm P.lsc : Value)) (hy := ?_) (h := ?_)
 · exact zQRora_0
 try simp only [Act.put, sA, sB, sC]
 refine hcall 0 (fun K hK => ?_)
 go_simp
 clear hHeld
 refine hK.out _ _ (show ((fun (W : World) => W.cell? ⟨w.heap.size, 1, none⟩ = some (.slice P.psp P.psm P.psc) ∧ W.cell? ⟨w.heap.size, 2, none⟩ = some (.slice P.lsp P.lsm P.lsc))) _ from SB.out) (fun hHeld => ?_)
 clear hK K
 try simp only [Act.put, sA, sB, sC]
 refine hcall 3 (fun K hK => ?_)
 refine Lib.wp_append_run _ _ _ _ _ rfl _ _ rfl rfl _ _ hra ?_
 clear hHeld
 refine hK.out _ _ (show ((fun (W : World) => W.cell? ⟨w.heap.size, 1, none⟩ = some (.slice P.psp P.psm P.psc) ∧ W.cell? ⟨w.heap.size, 2, none⟩ = some (.slice P.lsp P.lsm P.lsc))) _ from SC.out) (fun hHeld => ?_)
 clear hK K
 try simp only [Act.put, sA, sB, sC]
 refine hcall 6 (fun K hK => ?_)
 refine Lib.wp_append_run _ _ _ _ _ rfl _ _ rfl rfl _ _ hrb ?_
 clear hHeld
 refine hK.out _ _ (show ((fun (W : World) => W.cell? ⟨w.heap.size, 1, none⟩ = some (.slice P.psp P.psm P.psc) ∧ W.cell? ⟨w.heap.size, 2, none⟩ = some (.slice P.lsp P.lsm P.lsc))) _ from SD.out) (fun hHeld => ?_)
 clear hK K
 try simp only [Act.put, sA, sB, sC]
 refine hcall 7 (fun K hK => ?_)
 go_simp
 clear hHeld
 refine hK.out _ _ (show ((fun (W : World) => W.cell? ⟨w.heap.size, 1, none⟩ = some (.slice P.psp P.psm P.psc) ∧ W.cell? ⟨w.heap.size, 2, none⟩ = some (.slice P.lsp P.lsm P.lsc))) _ from SD.out) (fun hHeld => ?_)
 clear hK K
 try simp only [Act.put, sA, sB, sC]
 refine wpAnyH_done (by kernel_rfl) ?_ _
 try refine NoPanic.normal ?_
 clear hHeld SA SB SC SD hra hrb
 go_wp2_with fail
 go_loopw [3, 5] (fun v i wr => ∃ (k : Nat) (acc : List ByteArray), k ≤ n ∧ i = .int .i64 (k : Nat) ∧ Hid (Bfo wb v acc wr ∧ acc.length ≤ k) ∧ Hid (goE (fun a f => stepN a (fldP f)) (l.take k) [] = (0, acc))) (fun _ i _ => n - (intOf i).toNat)
 case atStart => exact ⟨0, [], Nat.zero_le _, rfl, Lib.hid ⟨Bfo.nil wb, Nat.zero_le _⟩, Lib.hid rfl⟩
 case round =>
  obtain ⟨k, acc, hk, rfl, HO, HA⟩ := hrel
  have k0 : (0 : Int) ≤ (k : Int) := by omega
  obtain ⟨hbo, hal⟩ := HO.out
  obtain ⟨p, m, c, rfl, hst⟩ := hbo.strs (by omega)
  have HST := Lib.hid hst
  have HAL := Lib.hid hal
  have HBo := Lib.hid hbo
  have HBW : Hid (Below w.heap.size w wr) := Lib.hid (by have h1 := HBB1.out; have h2 := hbo.below; exact bl)
  have HBU : Hid (Below (w.alloc (.cells (cRou x P) 79)).heap.size (w.alloc (.cells (cRou x P) 79)) wr) := Lib.hid (by have h1 := HBB1.out; have h2 := hbo.below; exact bl)
  clear hst hbo HO hal
  rcases Nat.lt_or_ge k n with h | h
  · have k1 : (k : Int) < (n : Int) := by omega
    have hkl : k < l.length := by rw [HLN.out]; exact h
    have hgx := List.getElem?_eq_getElem hkl
    obtain ⟨b, o, hp, hbG, hG, hcell⟩ := (HF.out.on RFld.map HBo.out.below).rows (by omega)
    subst hp
    obtain ⟨d, hds, hat, hR⟩ := hcell.out k hkl
    obtain ⟨y, hy⟩ : ∃ y, l[k] = y := ⟨_, rfl⟩
    have HNy := Lib.hid (show y.nm.size ≤ 9223372036854775807 from by rw [← hy]; exact HNm.out _ (List.getElem_mem hkl))
    rw [hy] at hgx hR
    obtain rfl : d = cFld y := hR
    have a0 := hat.get (r := 0) (v := .string y.nm) rfl
    have a1 := hat.get (r := 1) (v := .int .i64 y.ty) rfl
    rw [show o + k * 2 + 0 = o + k * 2 by omega] at a0
    have HX2 := Lib.hid hgx
    obtain ⟨e1, he1⟩ : ∃ e, decE acc y.nm = e := ⟨_, rfl⟩
    obtain ⟨tb, ht⟩ : ∃ t, typ y.ty = t := ⟨_, rfl⟩
    obtain ⟨e, he⟩ : ∃ e, orE e1 (unl tb 1) = e := ⟨_, rfl⟩
    have HS : Hid ((stepN acc (fldP y)).1 = e) := Lib.hid (by
     show orE (decE acc y.nm) (fldT y) = e
     rw [he1, ← he]; unfold fldT; rw [ht]; cases tb <;> rfl)
    have C1 := Lib.hid (fun W (hW : Below wr.heap.size wr W) => rnamed_bf (U := wb) (v := .slice p m c) (c := c) he1 HNy.out HST.out hW)
    have C2 := Lib.hid (fun W => (show Calls Tryz.prog 65 #[.int .i64 y.ty] W (Stay (.bool tb) W) by rw [← ht]; exact typed_any y.ty W))
    have C4 := Lib.hid (fun W => (show Calls Tryz.prog 32 #[.int .i64 e1,   .int .i64 (unl tb 1)] W (Stay (.int .i64 e) W) by rw [← he]; exact first_any _ _ W))
    have FA : Hid (∀ W, Below wr.heap.size wr W → W.cell? ⟨b, o + k * 2, none⟩ = some (.string y.nm) ∧ W.cell? ⟨b, o + k * 2 + 1, none⟩ = some (.int .i64 y.ty)) := Lib.hid fun W hW => ⟨(hW.cell (p := ⟨b, o + k * 2, none⟩) (block_lt a0)).trans a0, (hW.cell (p := ⟨b, o + k * 2 + 1, none⟩) (block_lt a1)).trans a1⟩
    clear hgx hcell hds hat hy hkl he1 ht he hG hbG
    go_wp2_with fail
    go_region_held3 (fun W => W.cell? ⟨b, o + k * 2, none⟩ = some (.string y.nm) ∧ W.cell? ⟨b, o + k * 2 + 1, none⟩ = some (.int .i64 y.ty)) (first | (refine FA.out _ ?_; exact bl; done) | (go_keep; done)) (first
     | (have t := hb2; go_at_call 32; refine (C4.out _).mono ?_; rintro e w4 ⟨rfl, rfl⟩)
     | (have t := ht2; go_at_call 34; refine (unless_any tb 1 _).mono ?_; rintro e w3 ⟨rfl, rfl⟩; have hb2 := trivial)
     | (have t := hb1; go_at_call 65; refine (C2.out _).mono ?_; rintro e w2 ⟨rfl, rfl⟩; have ht2 := trivial)
     | (go_at_call 36; refine (C1.out _ bl).mono ?_; rintro e w1 ⟨rfl, hb1⟩))
    all_goals
     have HB1 : Hid (Below wr.heap.size wr w1) := Lib.hid bl
     obtain ⟨f0, f1⟩ := FA.out w1 HB1.out
     clear a0 a1
     by_cases h0 : e = 0
     rotate_left 1
     · have t1 : (e != 0) = true := bne_iff_ne.2 h0
       have HN := Lib.hid (show rouT x = e by
        rw [HE.out, goE_stop HX2.out HA.out (by rw [HS.out]; exact h0), HS.out, orE_no h0])
       clear h0
       go_wp2_with fail
       go_ret
       exact ⟨by rw [HN.out]; rfl, by have h1 := HB1.out; have h2 := HBW.out; exact bl⟩
     · subst h0
       have HN := Lib.hid (go_acc HX2.out HA.out HS.out)
       obtain ⟨v3, w3, hrun, hb3⟩ := HBo.out.app HB1.out y.nm (by have := HAL.out; omega)
       have HB3 := Lib.hid hb3
       clear hb3
       go_wp2_with (at_builtin; refine Lib.wpList_append_run _ rfl _ _ _ _ rfl _ _ rfl rfl _ _ hrun ?_)
       go_roundw
       case rel => exact ⟨k + 1, acc ++ [y.nm], by omega, by go_num, Lib.hid ⟨HB3.out, by rw [List.length_append]; have := HAL.out; simp; omega⟩, HN⟩
       case measure => simp [intOf]; omega
  · obtain rfl : n = k := by omega
    have HT := Lib.hid (show rouT x = v2 by
     have h1 := HA.out
     rw [List.take_of_length_le (by rw [HLN.out]; exact Nat.le_refl _)] at h1
     rw [HE.out, h1]; exact orE_yes)
    have q := FK.out wr HBU.out
    go_wp2_with fail
    refine (CB.out _ HBW.out).mono ?_
    rintro e w5 ⟨rfl, hb5⟩
    go_wp2_with fail
    go_ret
    exact ⟨by rw [HT.out]; rfl, by have h2 := HBW.out; exact bl⟩
end Go.Proofs.YtaaffmbnhjaebaaGreat.Md
