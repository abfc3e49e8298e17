/-
  The contract of the reference's Div.
-/
import Derived.Test.YtdjchdcpbinlnaaDoorRefCmp2
namespace Go.Proofs.YtdjchdcpbinlnaaDoor
open Go.RowKit
set_option maxHeartbeats 4000000
theorem rdiv_made {a b c d : Int} (h1 : okF a b = true) (h2 : okF c d = true) (hc : c ≠ 0) :
    divO a b c d = cut (sg (negB a c) (absN a * absN d / Nat.gcd (absN a * absN d) (absN b * absN c))) (absN b * absN c / Nat.gcd (absN a * absN d) (absN b * absN c)) := by
  obtain ⟨k1, -⟩ := okF_true h1
  obtain ⟨l1, -⟩ := okF_true h2
  unfold divO
  rw [if_neg hc, both_yes h1 h2, qv_div (by unfold absN; omega) hc]
  exact made_eq _ _ _ (Nat.mul_ne_zero (by unfold absN; omega) (by unfold absN; omega))
theorem keepN {w : World} {g p : Nat} {x y z : Value} {a b c d m n : Int} (N : triW w g x y z) (T : Three w p a b c d m n) :
    w.cell? ⟨g, 0, none⟩ = some x ∧ w.cell? ⟨g, 1, none⟩ = some y ∧ w.cell? ⟨g, 2, none⟩ = some z ∧ w.cell? ⟨p, 1, none⟩ = some (.int .i64 b) ∧ w.cell? ⟨p + 1, 0, none⟩ = some (.int .i64 c) :=
  ⟨N.1.1, N.1.2.1, N.1.2.2.1, T.h.1.2.1, T.h.2.1.1⟩
theorem farN {w : World} {g p : Nat} {x y z u v : Value} {a b c d m n : Int} (N : triW w g x y z) (T : Three w p a b c d m n) (hne : g ≠ p + 1 + 1) :
    ((w.setCell ⟨p + 1 + 1, 0, none⟩ u).setCell ⟨p + 1 + 1, 1, none⟩ v).cell? ⟨g, 0, none⟩ = some x ∧ ((w.setCell ⟨p + 1 + 1, 0, none⟩ u).setCell ⟨p + 1 + 1, 1, none⟩ v).cell? ⟨g, 1, none⟩ = some y ∧
      ((w.setCell ⟨p + 1 + 1, 0, none⟩ u).setCell ⟨p + 1 + 1, 1, none⟩ v).cell? ⟨g, 2, none⟩ = some z ∧ ((w.setCell ⟨p + 1 + 1, 0, none⟩ u).setCell ⟨p + 1 + 1, 1, none⟩ v).cell? ⟨p, 1, none⟩ = some (.int .i64 b) ∧
      ((w.setCell ⟨p + 1 + 1, 0, none⟩ u).setCell ⟨p + 1 + 1, 1, none⟩ v).cell? ⟨p + 1, 0, none⟩ = some (.int .i64 c) :=
  ⟨far2 N.1.1 hne, far2 N.1.2.1 hne, far2 N.1.2.2.1 hne, far2 T.h.1.2.1 (by omega), far2 T.h.2.1.1 (by omega)⟩
theorem triW.drew {w : World} {b : Nat} {x y z : Value} (h : triW w b x y z) : triW w.drew b x y z := h
set_option maxRecDepth 100000 in
theorem rdiv_any (a b c d : Int) (n0 : -9223372036854775808 ≤ a) (n1 : a ≤ 9223372036854775807) (d0 : -9223372036854775808 ≤ b) (d1 : b ≤ 9223372036854775807) (m0 : -9223372036854775808 ≤ c) (m1 : c ≤ 9223372036854775807) (f0 : -9223372036854775808 ≤ d) (f1 : d ≤ 9223372036854775807) (w : World) :
    Calls Tryd.prog 24 #[.agg #[.int .i64 a, .int .i64 b], .agg #[.int .i64 c, .int .i64 d]] w (Gives (.tuple #[.agg #[.int .i64 (oN (divO a b c d)), .int .i64 (oD (divO a b c d))], .bool (oB (divO a b c d))]) w) := by
  cases h1 : okF a b
  · rw [show divO a b c d = none from divO_no1 h1]
    have H1 := Lib.hid h1
    clear h1
    go_enter Tryd.func24, Tryd.ntmps24
    go_wp2_with fail
    refine (rvalid_any a b n0 n1 d0 d1 _).mono ?_
    rintro e w1 ⟨rfl, hb1⟩
    rw [H1.out]
    have T1 := Three.on hb1 (Three.new (w := w) (a := a) (b := b) (c := c) (d := d) (m := 0) (n := 0) (t := 23) (t2 := 23) (t3 := 23))
    obtain ⟨z0, z1, z2, z3, z4⟩ := T1.h.2.2
    go_wp2_with fail
    exact bodyPost_ret (v := .tuple #[.agg #[.int .i64 (oN (none)), .int .i64 (oD (none))], .bool (oB (none))]) (by simp [results, Tryd.results24, go_sem, oN, oD, oB, *]) rfl ⟨rfl, by repeat (first | exact Below.refl _ _ | assumption | apply bl_alloc | apply bl_drewN | apply bl_drew | (refine bl_set ?_ (by first | (simp; done) | (simp; omega)) _) | (refine bl_call ?_ (by assumption)))⟩
  · cases h2 : okF c d
    · rw [show divO a b c d = none from divO_no2 h2]
      have H1 := Lib.hid h1
      have H2 := Lib.hid h2
      clear h1 h2
      go_enter Tryd.func24, Tryd.ntmps24
      go_wp2_with fail
      refine (rvalid_any a b n0 n1 d0 d1 _).mono ?_
      rintro e w1 ⟨rfl, hb1⟩
      rw [H1.out]
      have T1 := Three.on hb1 (Three.new (w := w) (a := a) (b := b) (c := c) (d := d) (m := 0) (n := 0) (t := 23) (t2 := 23) (t3 := 23))
      obtain ⟨q0, q1, q2, q3, q4, q5⟩ := T1.keep
      go_wp2_with fail
      refine (rvalid_any c d m0 m1 f0 f1 _).mono ?_
      rintro e w2 ⟨rfl, hb2⟩
      rw [H2.out]
      have T2 := Three.on hb2 T1
      obtain ⟨z0, z1, z2, z3, z4⟩ := T2.h.2.2
      go_wp2_with fail
      exact bodyPost_ret (v := .tuple #[.agg #[.int .i64 (oN (none)), .int .i64 (oD (none))], .bool (oB (none))]) (by simp [results, Tryd.results24, go_sem, oN, oD, oB, *]) rfl ⟨rfl, by repeat (first | exact Below.refl _ _ | assumption | apply bl_alloc | apply bl_drewN | apply bl_drew | (refine bl_set ?_ (by first | (simp; done) | (simp; omega)) _) | (refine bl_call ?_ (by assumption)))⟩
    · by_cases hc : c = 0
      · subst hc
        rw [show divO a b 0 d = none by unfold divO; rw [if_pos rfl]]
        have H1 := Lib.hid h1
        have H2 := Lib.hid h2
        clear h1 h2
        go_enter Tryd.func24, Tryd.ntmps24
        go_wp2_with fail
        refine (rvalid_any a b n0 n1 d0 d1 _).mono ?_
        rintro e w1 ⟨rfl, hb1⟩
        rw [H1.out]
        have T1 := Three.on hb1 (Three.new (w := w) (a := a) (b := b) (c := 0) (d := d) (m := 0) (n := 0) (t := 23) (t2 := 23) (t3 := 23))
        obtain ⟨q0, q1, q2, q3, q4, q5⟩ := T1.keep
        go_wp2_with fail
        refine (rvalid_any 0 d m0 m1 f0 f1 _).mono ?_
        rintro e w2 ⟨rfl, hb2⟩
        rw [H2.out]
        have T2 := Three.on hb2 T1
        clear q0 q1 q2 q3 q4 q5
        obtain ⟨q0, q1, q2, q3, q4, q5⟩ := T2.keep
        obtain ⟨z0, z1, z2, z3, z4⟩ := T2.h.2.2
        go_wp2_with fail
        exact bodyPost_ret (v := .tuple #[.agg #[.int .i64 (oN (none)), .int .i64 (oD (none))], .bool (oB (none))]) (by simp [results, Tryd.results24, go_sem, oN, oD, oB, *]) rfl ⟨rfl, by repeat (first | exact Below.refl _ _ | assumption | apply bl_alloc | apply bl_drewN | apply bl_drew | (refine bl_set ?_ (by first | (simp; done) | (simp; omega)) _) | (refine bl_call ?_ (by assumption)))⟩
      · rw [rdiv_made h1 h2 hc]
        obtain ⟨k1, k2, k3, k4, -⟩ := okF_true h1
        obtain ⟨l1, l2, l3, l4, -⟩ := okF_true h2
        have sa : absN a ≤ 4611686018427387904 := by unfold absN; omega
        have sc : absN c ≤ 4611686018427387904 := by unfold absN; omega
        have sb : absN b ≤ 1000000000000000 := by unfold absN; omega
        have sd : absN d ≤ 1000000000000000 := by unfold absN; omega
        have pb : 0 < absN b := by unfold absN; omega
        have pc : 0 < absN c := by unfold absN; omega
        have x1 : absN a * absN d ≤ 4611686018427387904 * 1000000000000000 := Nat.mul_le_mul sa sd
        have x3 : absN b * absN c ≤ 1000000000000000 * 4611686018427387904 := Nat.mul_le_mul sb sc
        have x4 : 0 < absN b * absN c := Nat.mul_pos pb pc
        obtain ⟨h1h, h1l, W1⟩ := wv (absN a * absN d)
        obtain ⟨h4h, h4l, W4⟩ := wv (absN b * absN c)
        have V1 := Lib.hid (fun w => rproduct_any a d n0 n1 f0 f1 W1 w)
        have V6 := Lib.hid (fun w => rtimes_any (absN b) (absN c) (by omega) (by omega) W4 w)
        have V7 := Lib.hid (fun w => made_any (negB a c) W1 W4 (by omega) x4 (by omega) w)
        have hcb : (c == 0) = false := beq_eq_false_iff_ne.2 hc
        obtain ⟨ng, eng⟩ : ∃ m, negB a c = m := ⟨_, rfl⟩
        have hng : (!decide (a < 0) == decide (c < 0)) = ng := by rw [← eng]; unfold negB; cases decide (a < 0) <;> cases decide (c < 0) <;> rfl
        obtain ⟨nd, end'⟩ : ∃ m, negB a d = m := ⟨_, rfl⟩
        rw [eng] at V7 ⊢
        rw [end'] at V1
        have H1 := Lib.hid h1
        have H2 := Lib.hid h2
        clear h1 h2 k1 k2 k3 k4 l1 l2 l3 l4 sa sc sb sd pb pc x1 x3 x4 W1 W4 hc eng end'
        go_enter Tryd.func24, Tryd.ntmps24
        go_wp2_with fail
        refine (rvalid_any a b n0 n1 d0 d1 _).mono ?_
        rintro e w1 ⟨rfl, hb1⟩
        rw [H1.out]
        have T1 := Three.on hb1 (Three.new (w := w) (a := a) (b := b) (c := c) (d := d) (m := 0) (n := 0) (t := 23) (t2 := 23) (t3 := 23))
        obtain ⟨q0, q1, q2, q3, q4, q5⟩ := T1.keep
        go_wp2_with fail
        refine (rvalid_any c d m0 m1 f0 f1 _).mono ?_
        rintro e w2 ⟨rfl, hb2⟩
        rw [H2.out]
        have T2 := Three.on hb2 T1
        clear q0 q1 q2 q3 q4 q5
        obtain ⟨q0, q1, q2, q3, q4, q5⟩ := T2.keep
        go_wp2_with fail
        refine (V1.out _).mono ?_
        rintro e w3 ⟨rfl, hb3⟩
        have T3 := Three.on hb3 T2
        clear q0 q1 q2 q3 q4 q5
        obtain ⟨q0, q1, q2, q3, q4, q5⟩ := T3.keep
        have s0 : w.heap.size < w3.heap.size := T3.h.1.2.2.2.2
        have s1 : w.heap.size + 1 < w3.heap.size := T3.h.2.1.2.2.2.2
        go_wp2_with fail
        have s2 : w.heap.size + 1 + 1 < w3.heap.size := T3.h.2.2.2.2.2.2
        have T4 : Three (w3.alloc (.cells #[.bool ng, .int .u64 (h1h : Nat), .int .u64 (h1l : Nat)] 50)) w.heap.size a b c d 0 0 := Three.alloc T3
        have N4 : triW (w3.alloc (.cells #[.bool ng, .int .u64 (h1h : Nat), .int .u64 (h1l : Nat)] 50)) w3.heap.size (.bool ng) (.int .u64 (h1h : Nat)) (.int .u64 (h1l : Nat)) := triW.new
        clear q0 q1 q2 q3 q4 q5 T1 T2 T3
        go_region_held3 (fun w' => w'.cell? ⟨w3.heap.size, 0, none⟩ = some (.bool ng) ∧ w'.cell? ⟨w3.heap.size, 1, none⟩ = some (.int .u64 (h1h : Nat)) ∧ w'.cell? ⟨w3.heap.size, 2, none⟩ = some (.int .u64 (h1l : Nat)) ∧ w'.cell? ⟨w.heap.size, 1, none⟩ = some (.int .i64 b) ∧ w'.cell? ⟨w.heap.size + 1, 0, none⟩ = some (.int .i64 c)) (first | (with_reducible exact farN N7 T7 (by omega)) | (with_reducible exact keepN N7 T7) | (with_reducible exact keepN N6 T6) | (with_reducible exact keepN N4.drew T4.drew) | (with_reducible exact keepN N4 T4) | (go_keep; done))
          (first
            | (go_at_call_of 38 (Value.int .i64 b); refine (size_any b d0 d1 _).mono ?_; rintro e wx ⟨rfl, rfl⟩)
            | (go_at_call_of 38 (Value.int .i64 c); refine (size_any c m0 m1 _).mono ?_; rintro e wx ⟨rfl, rfl⟩)
            | (go_at_call 50; refine (V6.out _).mono ?_; rintro e w6 ⟨rfl, hb6⟩; have T6 := Three.on hb6 T4.drew; have N6 := triW.on hb6 N4.drew)
            | (go_at_call 37; refine (V7.out _).mono ?_; rintro e w7 ⟨rfl, hb7⟩; have T7 := Three.on hb7 T6; have N7 := triW.on hb7 N6; obtain ⟨z0, z1, z2, z3, z4⟩ := T7.h.2.2))
        all_goals
          go_wp2_with fail
          exact bodyPost_ret (v := .tuple #[.agg #[.int .i64 (oN (cut (sg ng (absN a * absN d / Nat.gcd (absN a * absN d) (absN b * absN c))) (absN b * absN c / Nat.gcd (absN a * absN d) (absN b * absN c)))), .int .i64 (oD (cut (sg ng (absN a * absN d / Nat.gcd (absN a * absN d) (absN b * absN c))) (absN b * absN c / Nat.gcd (absN a * absN d) (absN b * absN c))))], .bool (oB (cut (sg ng (absN a * absN d / Nat.gcd (absN a * absN d) (absN b * absN c))) (absN b * absN c / Nat.gcd (absN a * absN d) (absN b * absN c))))]) (by simp [results, Tryd.results24, go_sem, *]) rfl ⟨rfl, by (repeat (first | (with_reducible exact Below.refl _ _) | (with_reducible assumption) | (with_reducible apply bl_alloc) | (with_reducible apply bl_drewN) | (with_reducible apply bl_drew) | (with_reducible refine bl_set ?_ (by first | (simp; done) | (simp; omega)) _) | (with_reducible refine bl_call ?_ (by assumption))))⟩
end Go.Proofs.YtdjchdcpbinlnaaDoor
