/-
  The statement FracOrders, walked.
-/
import Derived.Test.YtdjchdcpbinlnaaDoorAwake
namespace Go.Proofs.YtdjchdcpbinlnaaDoor
open Go.RowKit
set_option maxHeartbeats 3000000
/-- Three fractions among the arguments. -/
structure Three (w : World) (p : Nat) (a b c d m n : Int) : Prop where
  h : two w p (.int .i64 a) (.int .i64 b) ∧ two w (p + 1) (.int .i64 c) (.int .i64 d) ∧ two w (p + 1 + 1) (.int .i64 m) (.int .i64 n)
section
variable {w w2 : World} {p : Nat} {a b c d m n : Int}
theorem Three.on (hb : Below w.heap.size w w2) (k : Three w p a b c d m n) : Three w2 p a b c d m n := ⟨k.h.1.on hb, k.h.2.1.on hb, k.h.2.2.on hb⟩
theorem Three.drew (k : Three w p a b c d m n) : Three w.drew p a b c d m n := ⟨k.h.1.drew, k.h.2.1.drew, k.h.2.2.drew⟩
theorem Three.alloc {o : Obj} (k : Three w p a b c d m n) : Three (w.alloc o) p a b c d m n := ⟨k.h.1.alloc, k.h.2.1.alloc, k.h.2.2.alloc⟩
theorem Three.keep (k : Three w p a b c d m n) : w.cell? ⟨p, 0, none⟩ = some (.int .i64 a) ∧ w.cell? ⟨p, 1, none⟩ = some (.int .i64 b) ∧ w.cell? ⟨p + 1, 0, none⟩ = some (.int .i64 c) ∧ w.cell? ⟨p + 1, 1, none⟩ = some (.int .i64 d) ∧
    w.cell? ⟨p + 1 + 1, 0, none⟩ = some (.int .i64 m) ∧ w.cell? ⟨p + 1 + 1, 1, none⟩ = some (.int .i64 n) :=
  ⟨k.h.1.1, k.h.1.2.1, k.h.2.1.1, k.h.2.1.2.1, k.h.2.2.1, k.h.2.2.2.1⟩
end
theorem new3 {w : World} {x y : Value} {t : TypeId} {o o2 : Obj} : two (((w.alloc o).alloc o2).alloc (.cells #[x, y] t)) (w.heap.size + 1 + 1) x y := by
  have h := new2 (w := w.alloc o) (x := x) (y := y) (t := t) (o := o2)
  rwa [show (w.alloc o).heap.size = w.heap.size + 1 from by simp] at h
theorem Three.new {w : World} {a b c d m n : Int} {t t2 t3 : TypeId} : Three (((w.alloc (.cells #[.int .i64 a, .int .i64 b] t)).alloc (.cells #[.int .i64 c, .int .i64 d] t2)).alloc (.cells #[.int .i64 m, .int .i64 n] t3)) w.heap.size a b c d m n :=
  ⟨two.new.alloc.alloc, new2.alloc, new3⟩
/-- What stands where the ways of a test meet: the answer no, the arguments, nothing below changed. -/
def Met (w : World) (a b c d m n : Int) (v : Value) (wr : World) : Prop := v = .bool false ∧ Three wr w.heap.size a b c d m n ∧ Below w.heap.size w wr
theorem way3 (x y z : Int) (h : x ≤ 0 → y ≤ 0 → z ≤ 0) : (decide (x ≤ 0) = false) ∨ (decide (x ≤ 0) = true ∧ decide (y ≤ 0) = false) ∨ (decide (x ≤ 0) = true ∧ decide (y ≤ 0) = true ∧ decide (0 < z) = false) := by
  simp; omega
attribute [local irreducible] cmpF subO in
set_option maxRecDepth 100000 in
theorem fracOrders_walk (a b : Int) (n0 : -9223372036854775808 ≤ a) (n1 : a ≤ 9223372036854775807) (d0 : -9223372036854775808 ≤ b) (d1 : b ≤ 9223372036854775807) (c d : Int) (m0 : -9223372036854775808 ≤ c) (m1 : c ≤ 9223372036854775807) (f0 : -9223372036854775808 ≤ d) (f1 : d ≤ 9223372036854775807)
    (p q : Int) (u0 : -9223372036854775808 ≤ p) (u1 : p ≤ 9223372036854775807) (v0 : -9223372036854775808 ≤ q) (v1 : q ≤ 9223372036854775807) (w : World) (hE : Env w) :
    Calls Tryd.prog 7 #[.agg #[.int .i64 a, .int .i64 b], .agg #[.int .i64 c, .int .i64 d], .agg #[.int .i64 p, .int .i64 q]] w (Gives (.bool true) w) := by
  have R1 := cmp_range a b c d
  have k2 : cmpF a b a b = 0 := cmp_self a b
  have k3 : IntKind.i64.wrap (-cmpF c d a b) = cmpF a b c d := by rw [cmp_anti, Int.neg_neg, IntKind.wrap_i64]; omega
  have k4 : decide (cmpF a b c d < -1) = false := by simp; omega
  have k5 : decide (1 < cmpF a b c d) = false := by simp; omega
  have K6 := Lib.hid (way3 (cmpF a b c d) (cmpF c d p q) (cmpF a b p q) (fun h1 h2 => cmp_trans h1 h2))
  have K2 := Lib.hid k2
  have K3 := Lib.hid k3
  have K4 := Lib.hid k4
  have K5 := Lib.hid k5
  clear k2 k3 k4 k5 R1
  go_enter Tryd.func7, Tryd.ntmps7
  go_upto_region 1 with fail
  have T0 := Three.new (w := w) (a := a) (b := b) (c := c) (d := d) (m := p) (n := q) (t := 23) (t2 := 23) (t3 := 23)
  obtain ⟨p0, p1, p2, p3, p4, p5⟩ := T0.keep
  go_region_held3 (fun w' => w'.cell? ⟨w.heap.size, 0, none⟩ = some (.int .i64 a) ∧ w'.cell? ⟨w.heap.size, 1, none⟩ = some (.int .i64 b) ∧ w'.cell? ⟨w.heap.size + 1, 0, none⟩ = some (.int .i64 c) ∧ w'.cell? ⟨w.heap.size + 1, 1, none⟩ = some (.int .i64 d) ∧ w'.cell? ⟨w.heap.size + 1 + 1, 0, none⟩ = some (.int .i64 p) ∧ w'.cell? ⟨w.heap.size + 1 + 1, 1, none⟩ = some (.int .i64 q)) (first | (go_keep; done) | exact Three.keep T3 | exact Three.keep T2 | exact Three.keep T1 | exact Three.keep T0)
    (first
      | (go_at_call 25; refine (cmp_any _ _ _ _ (by assumption) (by assumption) (by assumption) (by assumption) (by assumption) (by assumption) (by assumption) (by assumption) _).mono ?_; rintro e w1 ⟨rfl, hb1⟩; have T1 := Three.on hb1 T0.drew)
      | (go_at_call 25; refine (cmp_any _ _ _ _ (by assumption) (by assumption) (by assumption) (by assumption) (by assumption) (by assumption) (by assumption) (by assumption) _).mono ?_; rintro e w2 ⟨rfl, hb2⟩; have T2 := Three.on hb2 T1)
      | (go_at_call 25; refine (cmp_any _ _ _ _ (by assumption) (by assumption) (by assumption) (by assumption) (by assumption) (by assumption) (by assumption) (by assumption) _).mono ?_; rintro e w3 ⟨rfl, hb3⟩; have T3 := Three.on hb3 T2))
  have B3 : Below w.heap.size w w3 := by repeat (first | exact Below.refl _ _ | assumption | apply bl_alloc | apply bl_drewN | apply bl_drew | (refine bl_set ?_ (by first | (simp; done) | (simp; omega)) _) | (refine bl_call ?_ (by assumption)))
  go_upto_region 2 with fail
  go_cut [52] (Met w a b c d p q)
  case first =>
    obtain ⟨q0, q1, q2, q3, q4, q5⟩ := T3.keep
    have k2 := K2.out
    have k3 := K3.out
    have k4 := K4.out
    have k5 := K5.out
    clear K2 K3 K4 K5
    rcases K6.out with h | ⟨h, h2⟩ | ⟨h, h2, h3⟩
    all_goals
      go_wp2_with fail
      refine (cmp_any _ _ _ _ n0 n1 d0 d1 n0 n1 d0 d1 _).mono ?_
      rintro e w4 ⟨rfl, hb4⟩
      have T4 := Three.on hb4 T3
      obtain ⟨q0, q1, q2, q3, q4, q5⟩ := T4.keep
      go_wp2_with fail
      refine (cmp_any _ _ _ _ m0 m1 f0 f1 n0 n1 d0 d1 _).mono ?_
      rintro e w5 ⟨rfl, hb5⟩
      have T5 := Three.on hb5 T4
      go_wp2_with fail
      go_meet
      exact ⟨rfl, T5, by repeat (first | exact Below.refl _ _ | assumption | apply bl_alloc | apply bl_drewN | apply bl_drew | (refine bl_set ?_ (by first | (simp; done) | (simp; omega)) _) | (refine bl_call ?_ (by assumption)))⟩
  case rest =>
    obtain ⟨rfl, T4, B4⟩ := hcut
    obtain ⟨q0, q1, q2, q3, q4, q5⟩ := T4.keep
    have K7 : Hid (okF a b = true → okF c d = true → (cmpF a b c d = 0 ↔ a = c ∧ b = d)) := Lib.hid cmp_eq
    clear K2 K3 K4 K5 K6
    go_upto_region 4 with fail
    go_cut [66] (Met w a b c d p q)
    case first =>
      cases h1 : okF a b
      · have H1 := Lib.hid h1
        clear h1
        go_wp2_with fail
        refine (valid_any a b (by omega) (by omega) (by omega) (by omega) _).mono ?_
        rintro e w5 ⟨rfl, hb5⟩
        rw [H1.out]
        have T5 := Three.on hb5 T4
        go_wp2_with fail
        go_meet
        exact ⟨rfl, T5, by repeat (first | exact Below.refl _ _ | assumption | apply bl_alloc | apply bl_drewN | apply bl_drew | (refine bl_set ?_ (by first | (simp; done) | (simp; omega)) _) | (refine bl_call ?_ (by assumption)))⟩
      · cases h2 : okF c d
        · have H1 := Lib.hid h1
          have H2 := Lib.hid h2
          clear h1 h2
          go_wp2_with fail
          refine (valid_any a b (by omega) (by omega) (by omega) (by omega) _).mono ?_
          rintro e w5 ⟨rfl, hb5⟩
          rw [H1.out]
          have T5 := Three.on hb5 T4
          obtain ⟨q0, q1, q2, q3, q4, q5⟩ := T5.keep
          go_wp2_with fail
          refine (valid_any c d (by omega) (by omega) (by omega) (by omega) _).mono ?_
          rintro e w6 ⟨rfl, hb6⟩
          rw [H2.out]
          have T6 := Three.on hb6 T5
          go_wp2_with fail
          go_meet
          exact ⟨rfl, T6, by repeat (first | exact Below.refl _ _ | assumption | apply bl_alloc | apply bl_drewN | apply bl_drew | (refine bl_set ?_ (by first | (simp; done) | (simp; omega)) _) | (refine bl_call ?_ (by assumption)))⟩
        · have E := K7.out h1 h2
          have H1 := Lib.hid h1
          have H2 := Lib.hid h2
          clear h1 h2
          have E3 : ((cmpF a b c d == 0) = true ∧ a = c ∧ b = d) ∨ ((cmpF a b c d == 0) = false ∧ ¬ a = c) ∨ ((cmpF a b c d == 0) = false ∧ a = c ∧ ¬ b = d) := by
            by_cases x : a = c
            · by_cases y : b = d
              · left; exact ⟨beq_iff_eq.2 (E.2 ⟨x, y⟩), x, y⟩
              · right; right; exact ⟨beq_eq_false_iff_ne.2 (fun h => y (E.1 h).2), x, y⟩
            · right; left; exact ⟨beq_eq_false_iff_ne.2 (fun h => x (E.1 h).1), x⟩
          clear E
          rcases E3 with ⟨e1, rfl, rfl⟩ | ⟨e1, e2⟩ | ⟨e1, rfl, e3⟩
          · go_wp2_with fail
            refine (valid_any a b (by omega) (by omega) (by omega) (by omega) _).mono ?_
            rintro e w5 ⟨rfl, hb5⟩
            rw [H1.out]
            have T5 := Three.on hb5 T4
            obtain ⟨q0, q1, q2, q3, q4, q5⟩ := T5.keep
            go_wp2_with fail
            refine (valid_any a b (by omega) (by omega) (by omega) (by omega) _).mono ?_
            rintro e w6 ⟨rfl, hb6⟩
            rw [H2.out]
            have T6 := Three.on hb6 T5
            obtain ⟨q0, q1, q2, q3, q4, q5⟩ := T6.keep
            go_wp2_with fail
            go_meet
            exact ⟨rfl, T6, by repeat (first | exact Below.refl _ _ | assumption | apply bl_alloc | apply bl_drewN | apply bl_drew | (refine bl_set ?_ (by first | (simp; done) | (simp; omega)) _) | (refine bl_call ?_ (by assumption)))⟩
          · go_wp2_with fail
            refine (valid_any a b (by omega) (by omega) (by omega) (by omega) _).mono ?_
            rintro e w5 ⟨rfl, hb5⟩
            rw [H1.out]
            have T5 := Three.on hb5 T4
            obtain ⟨q0, q1, q2, q3, q4, q5⟩ := T5.keep
            go_wp2_with fail
            refine (valid_any c d (by omega) (by omega) (by omega) (by omega) _).mono ?_
            rintro e w6 ⟨rfl, hb6⟩
            rw [H2.out]
            have T6 := Three.on hb6 T5
            obtain ⟨q0, q1, q2, q3, q4, q5⟩ := T6.keep
            go_wp2_with fail
            go_meet
            exact ⟨rfl, T6, by repeat (first | exact Below.refl _ _ | assumption | apply bl_alloc | apply bl_drewN | apply bl_drew | (refine bl_set ?_ (by first | (simp; done) | (simp; omega)) _) | (refine bl_call ?_ (by assumption)))⟩
          · go_wp2_with fail
            refine (valid_any a b (by omega) (by omega) (by omega) (by omega) _).mono ?_
            rintro e w5 ⟨rfl, hb5⟩
            rw [H1.out]
            have T5 := Three.on hb5 T4
            obtain ⟨q0, q1, q2, q3, q4, q5⟩ := T5.keep
            go_wp2_with fail
            refine (valid_any a d (by omega) (by omega) (by omega) (by omega) _).mono ?_
            rintro e w6 ⟨rfl, hb6⟩
            rw [H2.out]
            have T6 := Three.on hb6 T5
            obtain ⟨q0, q1, q2, q3, q4, q5⟩ := T6.keep
            go_wp2_with fail
            go_meet
            exact ⟨rfl, T6, by repeat (first | exact Below.refl _ _ | assumption | apply bl_alloc | apply bl_drewN | apply bl_drew | (refine bl_set ?_ (by first | (simp; done) | (simp; omega)) _) | (refine bl_call ?_ (by assumption)))⟩
    case rest =>
      obtain ⟨rfl, T5, B5⟩ := hcut
      obtain ⟨q0, q1, q2, q3, q4, q5⟩ := T5.keep
      clear K7
      rcases ho : subO a b c d with - | ⟨x, y⟩
      · have HO := Lib.hid ho
        clear ho
        go_wp2_with fail
        refine (sub_any a b c d n0 n1 d0 d1 m0 m1 f0 f1 _).mono ?_
        rintro e w6 ⟨rfl, hb6⟩
        rw [HO.out]
        simp only [oN, oD, oB, Option.isSome]
        go_wp2_with fail
        refine (awake_any _ (hE.below (by repeat (first | exact Below.refl _ _ | assumption | apply bl_alloc | apply bl_drewN | apply bl_drew | (refine bl_set ?_ (by first | (simp; done) | (simp; omega)) _) | (refine bl_call ?_ (by assumption)))))).mono ?_
        rintro e w7 ⟨rfl, hb7⟩
        go_wp2_with fail
        go_ret
        exact ⟨rfl, by repeat (first | exact Below.refl _ _ | assumption | apply bl_alloc | apply bl_drewN | apply bl_drew | (refine bl_set ?_ (by first | (simp; done) | (simp; omega)) _) | (refine bl_call ?_ (by assumption)))⟩
      · have hs := cmp_sub ho
        have HO := Lib.hid ho
        clear ho
        go_wp2_with fail
        refine (sub_any a b c d n0 n1 d0 d1 m0 m1 f0 f1 _).mono ?_
        rintro e w6 ⟨rfl, hb6⟩
        rw [HO.out]
        simp only [oN, oD, oB, Option.isSome]
        go_wp2_with fail
        refine (sign_any x _).mono ?_
        rintro e w7 ⟨rfl, rfl⟩
        go_wp2_with fail
        refine (awake_any _ (hE.below (by repeat (first | exact Below.refl _ _ | assumption | apply bl_alloc | apply bl_drewN | apply bl_drew | (refine bl_set ?_ (by first | (simp; done) | (simp; omega)) _) | (refine bl_call ?_ (by assumption)))))).mono ?_
        rintro e w8 ⟨rfl, hb8⟩
        go_wp2_with fail
        go_ret
        exact ⟨rfl, by repeat (first | exact Below.refl _ _ | assumption | apply bl_alloc | apply bl_drewN | apply bl_drew | (refine bl_set ?_ (by first | (simp; done) | (simp; omega)) _) | (refine bl_call ?_ (by assumption)))⟩
end Go.Proofs.YtdjchdcpbinlnaaDoor
