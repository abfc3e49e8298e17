/-
  The contracts of the reference's operations: Opposite, Add.
-/
import Derived.Test.YtnfddeoddjmpkabDoorRefFrac
import Derived.Test.YtnfddeoddjmpkabDoorOrders
namespace Go.Proofs.YtnfddeoddjmpkabDoor
open Go.RowKit
set_option maxHeartbeats 8000000
section
variable {w : World} {p : Nat} {a b c d m n : Int} {x y : Value}
def S4of (p : Nat) (a b c d : Int) (w' : World) : Prop := w'.cell? ⟨p, 0, none⟩ = some (.int .i64 a) ∧ w'.cell? ⟨p, 1, none⟩ = some (.int .i64 b) ∧ w'.cell? ⟨p + 1, 0, none⟩ = some (.int .i64 c) ∧ w'.cell? ⟨p + 1, 1, none⟩ = some (.int .i64 d)
theorem Three.keep4 (k : Three w p a b c d m n) : S4of p a b c d w := ⟨k.h.1.1, k.h.1.2.1, k.h.2.1.1, k.h.2.1.2.1⟩
theorem Three.far4 (k : Three w p a b c d m n) : S4of p a b c d ((w.setCell ⟨p + 1 + 1, 0, none⟩ x).setCell ⟨p + 1 + 1, 1, none⟩ y) :=
  ⟨far2 k.h.1.1 (by omega), far2 k.h.1.2.1 (by omega), far2 k.h.2.1.1 (by omega), far2 k.h.2.1.2.1 (by omega)⟩
end
theorem radd_made {a b c d : Int} (h1 : okF a b = true) (h2 : okF c d = true) : addO a b c d =
    cut (sg (bothM (negB a d) (absN a * absN d) (negB c b) (absN c * absN b)) (bothT (negB a d) (absN a * absN d) (negB c b) (absN c * absN b) / Nat.gcd (bothT (negB a d) (absN a * absN d) (negB c b) (absN c * absN b)) (absN b * absN d)))
      (absN b * absN d / Nat.gcd (bothT (negB a d) (absN a * absN d) (negB c b) (absN c * absN b)) (absN b * absN d)) := by
  have hb := (okF_true h1).1
  have hd := (okF_true h2).1
  rw [← made_eq _ _ _ (Nat.mul_ne_zero (by unfold absN; omega) (by unfold absN; omega)), sg_both, sg_mul_sign, sg_mul_sign]
  show both a b c d _ = _
  rw [both_yes h1 h2, qv_add hb hd]
  rfl
set_option maxRecDepth 100000 in
theorem radd_any (a b c d : Int) (n0 : -9223372036854775808 ≤ a) (n1 : a ≤ 9223372036854775807) (d0 : -9223372036854775808 ≤ b) (d1 : b ≤ 9223372036854775807) (m0 : -9223372036854775808 ≤ c) (m1 : c ≤ 9223372036854775807) (f0 : -9223372036854775808 ≤ d) (f1 : d ≤ 9223372036854775807) (w : World) :
    Calls Tryd.prog 20 #[.agg #[.int .i64 a, .int .i64 b], .agg #[.int .i64 c, .int .i64 d]] w (Gives (.tuple #[.agg #[.int .i64 (oN (addO a b c d)), .int .i64 (oD (addO a b c d))], .bool (oB (addO a b c d))]) w) := by
  cases h1 : okF a b
  · rw [show addO a b c d = none from both_no1 h1]
    have H1 := Lib.hid h1
    clear h1
    go_enter Tryd.func20, Tryd.ntmps20
    go_wp2_with fail
    refine (rvalid_any a b n0 n1 d0 d1 _).mono ?_
    rintro e w1 ⟨rfl, hb1⟩
    rw [H1.out]
    have T1 := Three.on hb1 (Three.new (w := w) (a := a) (b := b) (c := c) (d := d) (m := 0) (n := 0) (t := 24) (t2 := 24) (t3 := 24))
    obtain ⟨z0, z1, z2, z3, z4⟩ := T1.h.2.2
    go_wp2_with fail
    exact bodyPost_ret (v := .tuple #[.agg #[.int .i64 (oN (none)), .int .i64 (oD (none))], .bool (oB (none))]) (by simp [results, Tryd.results20, go_sem, oN, oD, oB, *]) rfl ⟨rfl, by repeat (first | exact Below.refl _ _ | assumption | apply bl_alloc | apply bl_drewN | apply bl_drew | (refine bl_set ?_ (by first | (simp; done) | (simp; omega)) _) | (refine bl_call ?_ (by assumption)))⟩
  · cases h2 : okF c d
    · rw [show addO a b c d = none from both_no2 h2]
      have H1 := Lib.hid h1
      have H2 := Lib.hid h2
      clear h1 h2
      go_enter Tryd.func20, Tryd.ntmps20
      go_wp2_with fail
      refine (rvalid_any a b n0 n1 d0 d1 _).mono ?_
      rintro e w1 ⟨rfl, hb1⟩
      rw [H1.out]
      have T1 := Three.on hb1 (Three.new (w := w) (a := a) (b := b) (c := c) (d := d) (m := 0) (n := 0) (t := 24) (t2 := 24) (t3 := 24))
      obtain ⟨q0, q1, q2, q3, q4, q5⟩ := T1.keep
      go_wp2_with fail
      refine (rvalid_any c d m0 m1 f0 f1 _).mono ?_
      rintro e w2 ⟨rfl, hb2⟩
      rw [H2.out]
      have T2 := Three.on hb2 T1
      obtain ⟨z0, z1, z2, z3, z4⟩ := T2.h.2.2
      go_wp2_with fail
      exact bodyPost_ret (v := .tuple #[.agg #[.int .i64 (oN (none)), .int .i64 (oD (none))], .bool (oB (none))]) (by simp [results, Tryd.results20, go_sem, oN, oD, oB, *]) rfl ⟨rfl, by repeat (first | exact Below.refl _ _ | assumption | apply bl_alloc | apply bl_drewN | apply bl_drew | (refine bl_set ?_ (by first | (simp; done) | (simp; omega)) _) | (refine bl_call ?_ (by assumption)))⟩
    · rw [radd_made h1 h2]
      obtain ⟨k1, k2, k3, k4, -⟩ := okF_true h1
      obtain ⟨l1, l2, l3, l4, -⟩ := okF_true h2
      have sa : absN a ≤ 4611686018427387904 := by unfold absN; omega
      have sc : absN c ≤ 4611686018427387904 := by unfold absN; omega
      have sb : absN b ≤ 1000000000000000 := by unfold absN; omega
      have sd : absN d ≤ 1000000000000000 := by unfold absN; omega
      have pb : 0 < absN b := by unfold absN; omega
      have pd : 0 < absN d := by unfold absN; omega
      have x1 : absN a * absN d ≤ 4611686018427387904 * 1000000000000000 := Nat.mul_le_mul sa sd
      have x2 : absN c * absN b ≤ 4611686018427387904 * 1000000000000000 := Nat.mul_le_mul sc sb
      have x3 : absN b * absN d ≤ 1000000000000000 * 1000000000000000 := Nat.mul_le_mul sb sd
      have x4 : 0 < absN b * absN d := Nat.mul_pos pb pd
      have x5 : bothT (negB a d) (absN a * absN d) (negB c b) (absN c * absN b) ≤ absN a * absN d + absN c * absN b := by unfold bothT; split <;> first | omega | (split <;> omega)
      obtain ⟨h1h, h1l, W1⟩ := wv (absN a * absN d)
      obtain ⟨h2h, h2l, W2⟩ := wv (absN c * absN b)
      obtain ⟨h3h, h3l, W3⟩ := wv (bothT (negB a d) (absN a * absN d) (negB c b) (absN c * absN b))
      obtain ⟨h4h, h4l, W4⟩ := wv (absN b * absN d)
      have V1 := Lib.hid (fun w => rproduct_any a d n0 n1 f0 f1 W1 w)
      have V2 := Lib.hid (fun w => rproduct_any c b m0 m1 d0 d1 W2 w)
      have V3 := Lib.hid (fun w => rboth_any W1 W2 W3 (by omega) w)
      have V6 := Lib.hid (fun w => rtimes_any (absN b) (absN d) (by omega) (by omega) W4 w)
      have V7 := Lib.hid (fun w => made_any (bothM (negB a d) (absN a * absN d) (negB c b) (absN c * absN b)) W3 W4 (by omega) x4 (by omega) w)
      have H1 := Lib.hid h1
      have H2 := Lib.hid h2
      clear h1 h2 k1 k2 k3 k4 l1 l2 l3 l4 sa sc sb sd pb pd x1 x2 x3 x4 x5 W1 W2 W3 W4
      go_enter Tryd.func20, Tryd.ntmps20
      go_wp2_with fail
      refine (rvalid_any a b n0 n1 d0 d1 _).mono ?_
      rintro e w1 ⟨rfl, hb1⟩
      rw [H1.out]
      have T1 := Three.on hb1 (Three.new (w := w) (a := a) (b := b) (c := c) (d := d) (m := 0) (n := 0) (t := 24) (t2 := 24) (t3 := 24))
      obtain ⟨q0, q1, q2, q3, q4, q5⟩ := T1.keep
      go_wp2_with fail
      refine (rvalid_any c d m0 m1 f0 f1 _).mono ?_
      rintro e w2 ⟨rfl, hb2⟩
      rw [H2.out]
      have T2 := Three.on hb2 T1
      go_upto_region 3 with fail
      clear q0 q1 q2 q3 q4 q5
      obtain ⟨q0, q1, q2, q3, q4, q5⟩ := T2.keep
      go_region_held3 (fun w' => w'.cell? ⟨w.heap.size, 0, none⟩ = some (.int .i64 a) ∧ w'.cell? ⟨w.heap.size, 1, none⟩ = some (.int .i64 b) ∧ w'.cell? ⟨w.heap.size + 1, 0, none⟩ = some (.int .i64 c) ∧ w'.cell? ⟨w.heap.size + 1, 1, none⟩ = some (.int .i64 d)) (first | (go_keep; done) | exact Three.far4 T7 | exact Three.keep4 T7 | exact Three.keep4 T6 | exact Three.keep4 T5 | exact Three.keep4 T4 | exact Three.keep4 T3 | exact Three.keep4 T2)
        (first
          | (go_at_call_of 47 (Value.int .i64 a); refine (V1.out _).mono ?_; rintro e w3 ⟨rfl, hb3⟩; have T3 := Three.on hb3 T2.drew)
          | (go_at_call_of 47 (Value.int .i64 c); refine (V2.out _).mono ?_; rintro e w4 ⟨rfl, hb4⟩; have T4 := Three.on hb4 T3)
          | (go_at_call 46; refine (V3.out _).mono ?_; rintro e w5 ⟨rfl, hb5⟩; have T5 := Three.on hb5 T4)
          | (go_at_call_of 49 (Value.int .i64 b); refine (size_any b d0 d1 _).mono ?_; rintro e wx ⟨rfl, rfl⟩)
          | (go_at_call_of 49 (Value.int .i64 d); refine (size_any d f0 f1 _).mono ?_; rintro e wx ⟨rfl, rfl⟩)
          | (go_at_call 48; refine (V6.out _).mono ?_; rintro e w6 ⟨rfl, hb6⟩; have T6 := Three.on hb6 T5)
          | (go_at_call 45; refine (V7.out _).mono ?_; rintro e w7 ⟨rfl, hb7⟩; have T7 := Three.on hb7 T6; obtain ⟨z0, z1, z2, z3, z4⟩ := T7.h.2.2))
      all_goals
        go_wp2_with fail
        exact bodyPost_ret (v := .tuple #[.agg #[.int .i64 (oN (cut (sg (bothM (negB a d) (absN a * absN d) (negB c b) (absN c * absN b)) (bothT (negB a d) (absN a * absN d) (negB c b) (absN c * absN b) / Nat.gcd (bothT (negB a d) (absN a * absN d) (negB c b) (absN c * absN b)) (absN b * absN d))) (absN b * absN d / Nat.gcd (bothT (negB a d) (absN a * absN d) (negB c b) (absN c * absN b)) (absN b * absN d)))), .int .i64 (oD (cut (sg (bothM (negB a d) (absN a * absN d) (negB c b) (absN c * absN b)) (bothT (negB a d) (absN a * absN d) (negB c b) (absN c * absN b) / Nat.gcd (bothT (negB a d) (absN a * absN d) (negB c b) (absN c * absN b)) (absN b * absN d))) (absN b * absN d / Nat.gcd (bothT (negB a d) (absN a * absN d) (negB c b) (absN c * absN b)) (absN b * absN d))))], .bool (oB (cut (sg (bothM (negB a d) (absN a * absN d) (negB c b) (absN c * absN b)) (bothT (negB a d) (absN a * absN d) (negB c b) (absN c * absN b) / Nat.gcd (bothT (negB a d) (absN a * absN d) (negB c b) (absN c * absN b)) (absN b * absN d))) (absN b * absN d / Nat.gcd (bothT (negB a d) (absN a * absN d) (negB c b) (absN c * absN b)) (absN b * absN d))))]) (by simp [results, Tryd.results20, go_sem, *]) rfl ⟨rfl, by repeat (first | exact Below.refl _ _ | assumption | apply bl_alloc | apply bl_drewN | apply bl_drew | (refine bl_set ?_ (by first | (simp; done) | (simp; omega)) _) | (refine bl_call ?_ (by assumption)))⟩
end Go.Proofs.YtnfddeoddjmpkabDoor
