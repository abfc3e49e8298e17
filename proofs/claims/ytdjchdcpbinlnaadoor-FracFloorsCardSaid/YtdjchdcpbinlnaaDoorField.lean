/-
  The statement FracField, walked.
-/
import Derived.Test.YtdjchdcpbinlnaaDoorOrders
namespace Go.Proofs.YtdjchdcpbinlnaaDoor
open Go.RowKit
set_option maxHeartbeats 8000000

theorem oN_in {o : Option (Int × Int)} (h : o = none ∨ ∃ s, o = some s ∧ -4611686018427387904 ≤ s.1 ∧ s.1 ≤ 4611686018427387904 ∧ 0 ≤ s.2 ∧ s.2 ≤ 1000000000000000) :
    -9223372036854775808 ≤ oN o ∧ oN o ≤ 9223372036854775807 ∧ -9223372036854775808 ≤ oD o ∧ oD o ≤ 9223372036854775807 := by
  rcases h with rfl | ⟨⟨x, y⟩, rfl, h⟩
  · simp [oN, oD]
  · simp only [oN, oD]; simp only at h; omega

theorem both_in (a b c d : Int) (r : Rat) : -9223372036854775808 ≤ oN (both a b c d (keep r)) ∧ oN (both a b c d (keep r)) ≤ 9223372036854775807 ∧ -9223372036854775808 ≤ oD (both a b c d (keep r)) ∧ oD (both a b c d (keep r)) ≤ 9223372036854775807 := by
  refine oN_in ?_
  rcases h : both a b c d (keep r) with - | s
  · exact Or.inl rfl
  · exact Or.inr ⟨s, rfl, cut_range (both_some (x := s) h).2.2⟩

theorem oB_some {o : Option (Int × Int)} (h : oB o = true) : o = some (oN o, oD o) := by
  rcases o with - | ⟨x, y⟩
  · cases h
  · rfl

def FieldP (a b c d p q N1 M1 N2 M2 N3 M3 N4 M4 N5 M5 N6 M6 N7 M7 N8 M8 N9 M9 N10 M10 : Int) (P S B3 B4 I J K U V X : Bool) : Prop :=
  (∀ w, Calls Tryd.prog 17 #[.agg #[.int .i64 a, .int .i64 b], .agg #[.int .i64 c, .int .i64 d]] w (Gives (.tuple #[.agg #[.int .i64 N1, .int .i64 M1], .bool P]) w)) ∧
  (∀ w, Calls Tryd.prog 17 #[.agg #[.int .i64 c, .int .i64 d], .agg #[.int .i64 a, .int .i64 b]] w (Gives (.tuple #[.agg #[.int .i64 N1, .int .i64 M1], .bool P]) w)) ∧
  (∀ w, Calls Tryd.prog 21 #[.agg #[.int .i64 a, .int .i64 b], .agg #[.int .i64 c, .int .i64 d]] w (Gives (.tuple #[.agg #[.int .i64 N2, .int .i64 M2], .bool S]) w)) ∧
  (∀ w, Calls Tryd.prog 21 #[.agg #[.int .i64 c, .int .i64 d], .agg #[.int .i64 a, .int .i64 b]] w (Gives (.tuple #[.agg #[.int .i64 N2, .int .i64 M2], .bool S]) w)) ∧
  (∀ w, Calls Tryd.prog 19 #[.agg #[.int .i64 N1, .int .i64 M1], .agg #[.int .i64 c, .int .i64 d]] w (Gives (.tuple #[.agg #[.int .i64 N3, .int .i64 M3], .bool B3]) w)) ∧
  (∀ w, Calls Tryd.prog 23 #[.agg #[.int .i64 N2, .int .i64 M2], .agg #[.int .i64 c, .int .i64 d]] w (Gives (.tuple #[.agg #[.int .i64 N4, .int .i64 M4], .bool B4]) w)) ∧
  (∀ w, Calls Tryd.prog 17 #[.agg #[.int .i64 c, .int .i64 d], .agg #[.int .i64 p, .int .i64 q]] w (Gives (.tuple #[.agg #[.int .i64 N5, .int .i64 M5], .bool I]) w)) ∧
  (∀ w, Calls Tryd.prog 17 #[.agg #[.int .i64 N1, .int .i64 M1], .agg #[.int .i64 p, .int .i64 q]] w (Gives (.tuple #[.agg #[.int .i64 N6, .int .i64 M6], .bool J]) w)) ∧
  (∀ w, Calls Tryd.prog 17 #[.agg #[.int .i64 a, .int .i64 b], .agg #[.int .i64 N5, .int .i64 M5]] w (Gives (.tuple #[.agg #[.int .i64 N7, .int .i64 M7], .bool K]) w)) ∧
  (∀ w, Calls Tryd.prog 21 #[.agg #[.int .i64 a, .int .i64 b], .agg #[.int .i64 p, .int .i64 q]] w (Gives (.tuple #[.agg #[.int .i64 N8, .int .i64 M8], .bool U]) w)) ∧
  (∀ w, Calls Tryd.prog 21 #[.agg #[.int .i64 a, .int .i64 b], .agg #[.int .i64 N5, .int .i64 M5]] w (Gives (.tuple #[.agg #[.int .i64 N9, .int .i64 M9], .bool V]) w)) ∧
  (∀ w, Calls Tryd.prog 17 #[.agg #[.int .i64 N2, .int .i64 M2], .agg #[.int .i64 N8, .int .i64 M8]] w (Gives (.tuple #[.agg #[.int .i64 N10, .int .i64 M10], .bool X]) w)) ∧
  (P = true → N3 = a ∧ M3 = b ∧ B3 = true) ∧
  (S = true → c ≠ 0 → N4 = a ∧ M4 = b ∧ B4 = true) ∧
  (P = true → I = true → J = true → K = true → N6 = N7 ∧ M6 = M7) ∧
  (I = true → S = true → U = true → V = true → X = true → N9 = N10 ∧ M9 = M10)

theorem field_p (a b : Int) (n0 : -9223372036854775808 ≤ a) (n1 : a ≤ 9223372036854775807) (d0 : -9223372036854775808 ≤ b) (d1 : b ≤ 9223372036854775807) (c d : Int) (m0 : -9223372036854775808 ≤ c) (m1 : c ≤ 9223372036854775807) (f0 : -9223372036854775808 ≤ d) (f1 : d ≤ 9223372036854775807) (p q : Int) (u0 : -9223372036854775808 ≤ p) (u1 : p ≤ 9223372036854775807) (v0 : -9223372036854775808 ≤ q) (v1 : q ≤ 9223372036854775807) : ∃ (N1 M1 N2 M2 N3 M3 N4 M4 N5 M5 N6 M6 N7 M7 N8 M8 N9 M9 N10 M10 : Int) (P S B3 B4 I J K U V X : Bool), FieldP a b c d p q N1 M1 N2 M2 N3 M3 N4 M4 N5 M5 N6 M6 N7 M7 N8 M8 N9 M9 N10 M10 P S B3 B4 I J K U V X := by
  have r1 := both_in a b c d (qv a b + qv c d)
  have r2 := both_in a b c d (qv a b * qv c d)
  have r5 := both_in c d p q (qv c d + qv p q)
  have r8 := both_in a b p q (qv a b * qv p q)
  refine ⟨_, _, _, _, _, _, _, _, _, _, _, _, _, _, _, _, _, _, _, _, _, _, _, _, _, _, _, _, _, _,
    fun w => add_any a b c d n0 n1 d0 d1 m0 m1 f0 f1 w, fun w => ?_, fun w => mul_any a b c d n0 n1 d0 d1 m0 m1 f0 f1 w, fun w => ?_, fun w => sub_any (oN (addO a b c d)) (oD (addO a b c d)) c d r1.1 r1.2.1 r1.2.2.1 r1.2.2.2 m0 m1 f0 f1 w, fun w => div_any (oN (mulO a b c d)) (oD (mulO a b c d)) c d r2.1 r2.2.1 r2.2.2.1 r2.2.2.2 m0 m1 f0 f1 w,
    fun w => add_any c d p q m0 m1 f0 f1 u0 u1 v0 v1 w, fun w => add_any (oN (addO a b c d)) (oD (addO a b c d)) p q r1.1 r1.2.1 r1.2.2.1 r1.2.2.2 u0 u1 v0 v1 w, fun w => add_any a b (oN (addO c d p q)) (oD (addO c d p q)) n0 n1 d0 d1 r5.1 r5.2.1 r5.2.2.1 r5.2.2.2 w,
    fun w => mul_any a b p q n0 n1 d0 d1 u0 u1 v0 v1 w, fun w => mul_any a b (oN (addO c d p q)) (oD (addO c d p q)) n0 n1 d0 d1 r5.1 r5.2.1 r5.2.2.1 r5.2.2.2 w, fun w => add_any (oN (mulO a b c d)) (oD (mulO a b c d)) (oN (mulO a b p q)) (oD (mulO a b p q)) r2.1 r2.2.1 r2.2.2.1 r2.2.2.2 r8.1 r8.2.1 r8.2.2.1 r8.2.2.2 w, ?_, ?_, ?_, ?_⟩
  · have h := add_any c d a b m0 m1 f0 f1 n0 n1 d0 d1 w; rw [addO_comm] at h; exact h
  · have h := mul_any c d a b m0 m1 f0 f1 n0 n1 d0 d1 w; rw [mulO_comm] at h; exact h
  · intro h; rw [sub_add (oB_some h)]; exact ⟨rfl, rfl, rfl⟩
  · intro h hc; rw [div_mul (oB_some h) hc]; exact ⟨rfl, rfl, rfl⟩
  · intro h1 h2 h3 h4; exact add_assoc' (oB_some h1) (oB_some h2) (oB_some h3) (oB_some h4)
  · intro h1 h2 h3 h4 h5; exact mul_distr (oB_some h1) (oB_some h2) (oB_some h3) (oB_some h4) (oB_some h5)

set_option maxRecDepth 100000 in
theorem fracField_walk (a b : Int) (n0 : -9223372036854775808 ≤ a) (n1 : a ≤ 9223372036854775807) (d0 : -9223372036854775808 ≤ b) (d1 : b ≤ 9223372036854775807) (c d : Int) (m0 : -9223372036854775808 ≤ c) (m1 : c ≤ 9223372036854775807) (f0 : -9223372036854775808 ≤ d) (f1 : d ≤ 9223372036854775807) (p q : Int) (u0 : -9223372036854775808 ≤ p) (u1 : p ≤ 9223372036854775807) (v0 : -9223372036854775808 ≤ q) (v1 : q ≤ 9223372036854775807) (w : World) (hE : Env w) :
    Calls Tryd.prog 6 #[.agg #[.int .i64 a, .int .i64 b], .agg #[.int .i64 c, .int .i64 d], .agg #[.int .i64 p, .int .i64 q]] w (Gives (.bool true) w) := by
  obtain ⟨N1, M1, N2, M2, N3, M3, N4, M4, N5, M5, N6, M6, N7, M7, N8, M8, N9, M9, N10, M10, P, S, B3, B4, I, J, K, U, V, X, H⟩ := field_p a b n0 n1 d0 d1 c d m0 m1 f0 f1 p q u0 u1 v0 v1
  have V1 := Lib.hid H.1
  have V2 := Lib.hid H.2.1
  have V3 := Lib.hid H.2.2.1
  have V4 := Lib.hid H.2.2.2.1
  have V5 := Lib.hid H.2.2.2.2.1
  have V6 := Lib.hid H.2.2.2.2.2.1
  have V7 := Lib.hid H.2.2.2.2.2.2.1
  have V8 := Lib.hid H.2.2.2.2.2.2.2.1
  have V9 := Lib.hid H.2.2.2.2.2.2.2.2.1
  have V10 := Lib.hid H.2.2.2.2.2.2.2.2.2.1
  have V11 := Lib.hid H.2.2.2.2.2.2.2.2.2.2.1
  have V12 := Lib.hid H.2.2.2.2.2.2.2.2.2.2.2.1
  have V13 := Lib.hid H.2.2.2.2.2.2.2.2.2.2.2.2.1
  have V14 := Lib.hid H.2.2.2.2.2.2.2.2.2.2.2.2.2.1
  have V15 := Lib.hid H.2.2.2.2.2.2.2.2.2.2.2.2.2.2.1
  have V16 := Lib.hid H.2.2.2.2.2.2.2.2.2.2.2.2.2.2.2
  clear H
  go_enter Tryd.func6, Tryd.ntmps6
  go_wp2_with fail
  refine (V1.out _).mono ?_
  rintro e w1 ⟨rfl, hb1⟩
  have T1 := Three.on hb1 (Three.new (w := w) (a := a) (b := b) (c := c) (d := d) (m := p) (n := q) (t := 23) (t2 := 23) (t3 := 23))
  obtain ⟨q0, q1, q2, q3, q4, q5⟩ := T1.keep
  have q6 := T1.h.1.2.2.2.2
  have q7 := T1.h.2.1.2.2.2.2
  have q8 := T1.h.2.2.2.2.2.2
  go_wp2_with fail
  refine (V2.out _).mono ?_
  rintro e w2 ⟨rfl, hb2⟩
  have T2 := Three.on hb2 T1.alloc
  have x7_2 := two.on hb2 two.new
  obtain ⟨q0, q1, q2, q3, q4, q5⟩ := T2.keep
  have q6 := T2.h.1.2.2.2.2
  have q7 := T2.h.2.1.2.2.2.2
  have q8 := T2.h.2.2.2.2.2.2
  have x70 := x7_2.1
  have x71 := x7_2.2.1
  have x72 := x7_2.2.2.2.2
  go_wp2_with fail
  refine (V3.out _).mono ?_
  rintro e w3 ⟨rfl, hb3⟩
  have T3 := Three.on hb3 T2.alloc
  have x7_3 := two.on hb3 (two.alloc x7_2)
  have x9_3 := two.on hb3 two.new
  obtain ⟨q0, q1, q2, q3, q4, q5⟩ := T3.keep
  have q6 := T3.h.1.2.2.2.2
  have q7 := T3.h.2.1.2.2.2.2
  have q8 := T3.h.2.2.2.2.2.2
  have x70 := x7_3.1
  have x71 := x7_3.2.1
  have x72 := x7_3.2.2.2.2
  have x90 := x9_3.1
  have x91 := x9_3.2.1
  have x92 := x9_3.2.2.2.2
  go_wp2_with fail
  refine (V4.out _).mono ?_
  rintro e w4 ⟨rfl, hb4⟩
  have T4 := Three.on hb4 T3.alloc
  have x7_4 := two.on hb4 (two.alloc x7_3)
  have x9_4 := two.on hb4 (two.alloc x9_3)
  have x11_4 := two.on hb4 two.new
  obtain ⟨q0, q1, q2, q3, q4, q5⟩ := T4.keep
  have q6 := T4.h.1.2.2.2.2
  have q7 := T4.h.2.1.2.2.2.2
  have q8 := T4.h.2.2.2.2.2.2
  have x70 := x7_4.1
  have x71 := x7_4.2.1
  have x72 := x7_4.2.2.2.2
  have x90 := x9_4.1
  have x91 := x9_4.2.1
  have x92 := x9_4.2.2.2.2
  have x110 := x11_4.1
  have x111 := x11_4.2.1
  have x112 := x11_4.2.2.2.2
  go_wp2_with fail
  refine (V5.out _).mono ?_
  rintro e w5 ⟨rfl, hb5⟩
  have T5 := Three.on hb5 T4.alloc
  have x7_5 := two.on hb5 (two.alloc x7_4)
  have x11_5 := two.on hb5 (two.alloc x11_4)
  obtain ⟨q0, q1, q2, q3, q4, q5⟩ := T5.keep
  have q6 := T5.h.1.2.2.2.2
  have q7 := T5.h.2.1.2.2.2.2
  have q8 := T5.h.2.2.2.2.2.2
  have x70 := x7_5.1
  have x71 := x7_5.2.1
  have x72 := x7_5.2.2.2.2
  have x110 := x11_5.1
  have x111 := x11_5.2.1
  have x112 := x11_5.2.2.2.2
  go_wp2_with fail
  refine (V6.out _).mono ?_
  rintro e w6 ⟨rfl, hb6⟩
  have T6 := Three.on hb6 T5.alloc
  have x7_6 := two.on hb6 (two.alloc x7_5)
  have x11_6 := two.on hb6 (two.alloc x11_5)
  have x15_6 := two.on hb6 two.new
  obtain ⟨q0, q1, q2, q3, q4, q5⟩ := T6.keep
  have q6 := T6.h.1.2.2.2.2
  have q7 := T6.h.2.1.2.2.2.2
  have q8 := T6.h.2.2.2.2.2.2
  have x70 := x7_6.1
  have x71 := x7_6.2.1
  have x72 := x7_6.2.2.2.2
  have x110 := x11_6.1
  have x111 := x11_6.2.1
  have x112 := x11_6.2.2.2.2
  have x150 := x15_6.1
  have x151 := x15_6.2.1
  have x152 := x15_6.2.2.2.2
  go_upto_region 9 with fail
  go_cut [111] (fun v wr => v = .bool false ∧ wr = w6.alloc (.cells #[.int .i64 N4, .int .i64 M4] 23))
  case first =>
    have W13 := V13.out
    have W14 := V14.out
    clear V1 V2 V3 V4 V5 V6 V7 V8 V9 V10 V11 V12 V13 V14 V15 V16
    have ways : (S = false) ∨ (S = true ∧ c = 0) ∨ (S = true ∧ ¬ c = 0) := by by_cases hc : c = 0 <;> cases S <;> simp [hc]
    rcases ways with rfl | ⟨rfl, rfl⟩ | ⟨rfl, hc⟩
    · clear W14
      cases P
      · clear W13
        go_wp2_with fail
        go_meet
        exact ⟨rfl, rfl⟩
      · obtain ⟨rfl, rfl, rfl⟩ := W13 rfl
        clear W13
        go_wp2_with fail
        go_meet
        exact ⟨rfl, rfl⟩
    · clear W14
      cases P
      · clear W13
        go_wp2_with fail
        go_meet
        exact ⟨rfl, rfl⟩
      · obtain ⟨rfl, rfl, rfl⟩ := W13 rfl
        clear W13
        go_wp2_with fail
        go_meet
        exact ⟨rfl, rfl⟩
    · obtain ⟨g1, g2, rfl⟩ := W14 rfl hc
      have hc2 : (c == 0) = false := beq_eq_false_iff_ne.2 hc
      subst g1 g2
      clear W14
      cases P
      · clear W13
        go_wp2_with fail
        go_meet
        exact ⟨rfl, rfl⟩
      · obtain ⟨g3, g4, rfl⟩ := W13 rfl
        subst g3 g4
        clear W13
        go_wp2_with fail
        go_meet
        exact ⟨rfl, rfl⟩
  case rest =>
    obtain ⟨rfl, rfl⟩ := hcut
    go_wp2_with fail
    refine (V7.out _).mono ?_
    rintro e w7 ⟨rfl, hb7⟩
    have T7 := Three.on hb7 T6.alloc
    have x7_7 := two.on hb7 (two.alloc x7_6)
    have x11_7 := two.on hb7 (two.alloc x11_6)
    obtain ⟨q0, q1, q2, q3, q4, q5⟩ := T7.keep
    have q6 := T7.h.1.2.2.2.2
    have q7 := T7.h.2.1.2.2.2.2
    have q8 := T7.h.2.2.2.2.2.2
    have x70 := x7_7.1
    have x71 := x7_7.2.1
    have x72 := x7_7.2.2.2.2
    have x110 := x11_7.1
    have x111 := x11_7.2.1
    have x112 := x11_7.2.2.2.2
    go_wp2_with fail
    refine (V8.out _).mono ?_
    rintro e w8 ⟨rfl, hb8⟩
    have T8 := Three.on hb8 T7.alloc
    have x7_8 := two.on hb8 (two.alloc x7_7)
    have x11_8 := two.on hb8 (two.alloc x11_7)
    have x19_8 := two.on hb8 two.new
    obtain ⟨q0, q1, q2, q3, q4, q5⟩ := T8.keep
    have q6 := T8.h.1.2.2.2.2
    have q7 := T8.h.2.1.2.2.2.2
    have q8 := T8.h.2.2.2.2.2.2
    have x70 := x7_8.1
    have x71 := x7_8.2.1
    have x72 := x7_8.2.2.2.2
    have x110 := x11_8.1
    have x111 := x11_8.2.1
    have x112 := x11_8.2.2.2.2
    have x190 := x19_8.1
    have x191 := x19_8.2.1
    have x192 := x19_8.2.2.2.2
    go_wp2_with fail
    refine (V9.out _).mono ?_
    rintro e w9 ⟨rfl, hb9⟩
    have T9 := Three.on hb9 T8.alloc
    have x7_9 := two.on hb9 (two.alloc x7_8)
    have x11_9 := two.on hb9 (two.alloc x11_8)
    have x19_9 := two.on hb9 (two.alloc x19_8)
    have x21_9 := two.on hb9 two.new
    obtain ⟨q0, q1, q2, q3, q4, q5⟩ := T9.keep
    have q6 := T9.h.1.2.2.2.2
    have q7 := T9.h.2.1.2.2.2.2
    have q8 := T9.h.2.2.2.2.2.2
    have x70 := x7_9.1
    have x71 := x7_9.2.1
    have x72 := x7_9.2.2.2.2
    have x110 := x11_9.1
    have x111 := x11_9.2.1
    have x112 := x11_9.2.2.2.2
    have x190 := x19_9.1
    have x191 := x19_9.2.1
    have x192 := x19_9.2.2.2.2
    have x210 := x21_9.1
    have x211 := x21_9.2.1
    have x212 := x21_9.2.2.2.2
    go_upto_region 14 with fail
    go_cut [144] (fun v wr => v = .bool false ∧ wr = w9.alloc (.cells #[.int .i64 N7, .int .i64 M7] 23))
    case first =>
      have W15 := V15.out
      clear V1 V2 V3 V4 V5 V6 V7 V8 V9 V10 V11 V12 V13 V14 V15 V16
      have ways : (P = false) ∨ (P = true ∧ I = false) ∨ (P = true ∧ I = true ∧ J = false) ∨ (P = true ∧ I = true ∧ J = true ∧ K = false) ∨ (P = true ∧ I = true ∧ J = true ∧ K = true) := by cases P <;> cases I <;> cases J <;> cases K <;> simp
      rcases ways with rfl | ⟨rfl, rfl⟩ | ⟨rfl, rfl, rfl⟩ | ⟨rfl, rfl, rfl, rfl⟩ | ⟨rfl, rfl, rfl, rfl⟩
      · clear W15
        go_wp2_with fail
        go_meet
        exact ⟨rfl, rfl⟩
      · clear W15
        go_wp2_with fail
        go_meet
        exact ⟨rfl, rfl⟩
      · clear W15
        go_wp2_with fail
        go_meet
        exact ⟨rfl, rfl⟩
      · clear W15
        go_wp2_with fail
        go_meet
        exact ⟨rfl, rfl⟩
      · obtain ⟨g1, g2⟩ := W15 rfl rfl rfl rfl
        subst g1 g2
        clear W15
        go_wp2_with fail
        go_meet
        exact ⟨rfl, rfl⟩
    case rest =>
      obtain ⟨rfl, rfl⟩ := hcut
      go_wp2_with fail
      refine (V10.out _).mono ?_
      rintro e w10 ⟨rfl, hb10⟩
      have T10 := Three.on hb10 T9.alloc
      have x7_10 := two.on hb10 (two.alloc x7_9)
      have x11_10 := two.on hb10 (two.alloc x11_9)
      have x19_10 := two.on hb10 (two.alloc x19_9)
      obtain ⟨q0, q1, q2, q3, q4, q5⟩ := T10.keep
      have q6 := T10.h.1.2.2.2.2
      have q7 := T10.h.2.1.2.2.2.2
      have q8 := T10.h.2.2.2.2.2.2
      have x70 := x7_10.1
      have x71 := x7_10.2.1
      have x72 := x7_10.2.2.2.2
      have x110 := x11_10.1
      have x111 := x11_10.2.1
      have x112 := x11_10.2.2.2.2
      have x190 := x19_10.1
      have x191 := x19_10.2.1
      have x192 := x19_10.2.2.2.2
      go_wp2_with fail
      refine (V11.out _).mono ?_
      rintro e w11 ⟨rfl, hb11⟩
      have T11 := Three.on hb11 T10.alloc
      have x7_11 := two.on hb11 (two.alloc x7_10)
      have x11_11 := two.on hb11 (two.alloc x11_10)
      have x19_11 := two.on hb11 (two.alloc x19_10)
      have x25_11 := two.on hb11 two.new
      obtain ⟨q0, q1, q2, q3, q4, q5⟩ := T11.keep
      have q6 := T11.h.1.2.2.2.2
      have q7 := T11.h.2.1.2.2.2.2
      have q8 := T11.h.2.2.2.2.2.2
      have x70 := x7_11.1
      have x71 := x7_11.2.1
      have x72 := x7_11.2.2.2.2
      have x110 := x11_11.1
      have x111 := x11_11.2.1
      have x112 := x11_11.2.2.2.2
      have x190 := x19_11.1
      have x191 := x19_11.2.1
      have x192 := x19_11.2.2.2.2
      have x250 := x25_11.1
      have x251 := x25_11.2.1
      have x252 := x25_11.2.2.2.2
      go_wp2_with fail
      refine (V12.out _).mono ?_
      rintro e w12 ⟨rfl, hb12⟩
      have T12 := Three.on hb12 T11.alloc
      have x7_12 := two.on hb12 (two.alloc x7_11)
      have x11_12 := two.on hb12 (two.alloc x11_11)
      have x25_12 := two.on hb12 (two.alloc x25_11)
      have x27_12 := two.on hb12 two.new
      obtain ⟨q0, q1, q2, q3, q4, q5⟩ := T12.keep
      have q6 := T12.h.1.2.2.2.2
      have q7 := T12.h.2.1.2.2.2.2
      have q8 := T12.h.2.2.2.2.2.2
      have x70 := x7_12.1
      have x71 := x7_12.2.1
      have x72 := x7_12.2.2.2.2
      have x110 := x11_12.1
      have x111 := x11_12.2.1
      have x112 := x11_12.2.2.2.2
      have x250 := x25_12.1
      have x251 := x25_12.2.1
      have x252 := x25_12.2.2.2.2
      have x270 := x27_12.1
      have x271 := x27_12.2.1
      have x272 := x27_12.2.2.2.2
      go_upto_region 19 with fail
      have E12 : Env w12 := hE.below (by repeat (first | exact Below.refl _ _ | assumption | apply bl_alloc | apply bl_drewN | apply bl_drew | (refine bl_set ?_ (by first | (simp; done) | (simp; omega)) _) | (refine bl_call ?_ (by assumption))))
      have B12 : Below w.heap.size w w12 := by repeat (first | exact Below.refl _ _ | assumption | apply bl_alloc | apply bl_drewN | apply bl_drew | (refine bl_set ?_ (by first | (simp; done) | (simp; omega)) _) | (refine bl_call ?_ (by assumption)))
      have W16 := V16.out
      clear V1 V2 V3 V4 V5 V6 V7 V8 V9 V10 V11 V12 V13 V14 V15 V16 hb1 hb2 hb3 hb4 hb5 hb6 hb7 hb8 hb9 hb10 hb11 hb12
      have ways : (I = false) ∨ (I = true ∧ S = false) ∨ (I = true ∧ S = true ∧ U = false) ∨ (I = true ∧ S = true ∧ U = true ∧ V = false) ∨ (I = true ∧ S = true ∧ U = true ∧ V = true ∧ X = false) ∨ (I = true ∧ S = true ∧ U = true ∧ V = true ∧ X = true) := by cases I <;> cases S <;> cases U <;> cases V <;> cases X <;> simp
      rcases ways with rfl | ⟨rfl, rfl⟩ | ⟨rfl, rfl, rfl⟩ | ⟨rfl, rfl, rfl, rfl⟩ | ⟨rfl, rfl, rfl, rfl, rfl⟩ | ⟨rfl, rfl, rfl, rfl, rfl⟩
      · clear W16
        go_wp2_with fail
        refine (awake_any _ (E12.below (by repeat (first | exact Below.refl _ _ | assumption | apply bl_alloc | apply bl_drewN | apply bl_drew | (refine bl_set ?_ (by first | (simp; done) | (simp; omega)) _) | (refine bl_call ?_ (by assumption)))))).mono ?_
        rintro e w13 ⟨rfl, hb13⟩
        go_wp2_with fail
        go_ret
        exact ⟨rfl, by repeat (first | exact Below.refl _ _ | assumption | apply bl_alloc | apply bl_drewN | apply bl_drew | (refine bl_set ?_ (by first | (simp; done) | (simp; omega)) _) | (refine bl_call ?_ (by assumption)))⟩
      · clear W16
        go_wp2_with fail
        refine (awake_any _ (E12.below (by repeat (first | exact Below.refl _ _ | assumption | apply bl_alloc | apply bl_drewN | apply bl_drew | (refine bl_set ?_ (by first | (simp; done) | (simp; omega)) _) | (refine bl_call ?_ (by assumption)))))).mono ?_
        rintro e w13 ⟨rfl, hb13⟩
        go_wp2_with fail
        go_ret
        exact ⟨rfl, by repeat (first | exact Below.refl _ _ | assumption | apply bl_alloc | apply bl_drewN | apply bl_drew | (refine bl_set ?_ (by first | (simp; done) | (simp; omega)) _) | (refine bl_call ?_ (by assumption)))⟩
      · clear W16
        go_wp2_with fail
        refine (awake_any _ (E12.below (by repeat (first | exact Below.refl _ _ | assumption | apply bl_alloc | apply bl_drewN | apply bl_drew | (refine bl_set ?_ (by first | (simp; done) | (simp; omega)) _) | (refine bl_call ?_ (by assumption)))))).mono ?_
        rintro e w13 ⟨rfl, hb13⟩
        go_wp2_with fail
        go_ret
        exact ⟨rfl, by repeat (first | exact Below.refl _ _ | assumption | apply bl_alloc | apply bl_drewN | apply bl_drew | (refine bl_set ?_ (by first | (simp; done) | (simp; omega)) _) | (refine bl_call ?_ (by assumption)))⟩
      · clear W16
        go_wp2_with fail
        refine (awake_any _ (E12.below (by repeat (first | exact Below.refl _ _ | assumption | apply bl_alloc | apply bl_drewN | apply bl_drew | (refine bl_set ?_ (by first | (simp; done) | (simp; omega)) _) | (refine bl_call ?_ (by assumption)))))).mono ?_
        rintro e w13 ⟨rfl, hb13⟩
        go_wp2_with fail
        go_ret
        exact ⟨rfl, by repeat (first | exact Below.refl _ _ | assumption | apply bl_alloc | apply bl_drewN | apply bl_drew | (refine bl_set ?_ (by first | (simp; done) | (simp; omega)) _) | (refine bl_call ?_ (by assumption)))⟩
      · clear W16
        go_wp2_with fail
        refine (awake_any _ (E12.below (by repeat (first | exact Below.refl _ _ | assumption | apply bl_alloc | apply bl_drewN | apply bl_drew | (refine bl_set ?_ (by first | (simp; done) | (simp; omega)) _) | (refine bl_call ?_ (by assumption)))))).mono ?_
        rintro e w13 ⟨rfl, hb13⟩
        go_wp2_with fail
        go_ret
        exact ⟨rfl, by repeat (first | exact Below.refl _ _ | assumption | apply bl_alloc | apply bl_drewN | apply bl_drew | (refine bl_set ?_ (by first | (simp; done) | (simp; omega)) _) | (refine bl_call ?_ (by assumption)))⟩
      · obtain ⟨g1, g2⟩ := W16 rfl rfl rfl rfl rfl
        subst g1 g2
        clear W16
        go_wp2_with fail
        refine (awake_any _ (E12.below (by repeat (first | exact Below.refl _ _ | assumption | apply bl_alloc | apply bl_drewN | apply bl_drew | (refine bl_set ?_ (by first | (simp; done) | (simp; omega)) _) | (refine bl_call ?_ (by assumption)))))).mono ?_
        rintro e w13 ⟨rfl, hb13⟩
        go_wp2_with fail
        go_ret
        exact ⟨rfl, by repeat (first | exact Below.refl _ _ | assumption | apply bl_alloc | apply bl_drewN | apply bl_drew | (refine bl_set ?_ (by first | (simp; done) | (simp; omega)) _) | (refine bl_call ?_ (by assumption)))⟩
end Go.Proofs.YtdjchdcpbinlnaaDoor
