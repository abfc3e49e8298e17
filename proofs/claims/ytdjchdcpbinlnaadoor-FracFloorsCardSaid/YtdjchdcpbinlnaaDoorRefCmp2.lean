/-
  The contract of the reference's Cmp.
-/
import Derived.Test.YtdjchdcpbinlnaaDoorRefCmp
namespace Go.Proofs.YtdjchdcpbinlnaaDoor
open Go.RowKit
set_option maxHeartbeats 1000000
theorem keep22 {w : World} {p q : Nat} {x y u v : Value} (h : two w p x y) (k : two w q u v) : w.cell? ⟨p, 0, none⟩ = some x ∧ w.cell? ⟨p, 1, none⟩ = some y ∧ w.cell? ⟨q, 0, none⟩ = some u ∧ w.cell? ⟨q, 1, none⟩ = some v := ⟨h.1, h.2.1, k.1, k.2.1⟩
theorem two.far3 {w : World} {g b : Nat} {x y z u v : Value} (h : two w b u v) (hne : b ≠ g) : two (((w.setCell ⟨g, 0, none⟩ x).setCell ⟨g, 1, none⟩ y).setCell ⟨g, 2, none⟩ z) b u v := by
  obtain ⟨h1, h2, h3, h4, h5⟩ := h
  refine ⟨Go.Proofs.YtdjchdcpbinlnaaDoor.far3 h1 hne, Go.Proofs.YtdjchdcpbinlnaaDoor.far3 h2 hne, ?_, ?_, by simp [World.setCell]; exact h5⟩ <;> go_simp
set_option maxRecDepth 100000 in
theorem rcmp_any (a b c d : Int) (n0 : -9223372036854775808 ≤ a) (n1 : a ≤ 9223372036854775807) (d0 : -9223372036854775808 ≤ b) (d1 : b ≤ 9223372036854775807) (m0 : -9223372036854775808 ≤ c) (m1 : c ≤ 9223372036854775807) (f0 : -9223372036854775808 ≤ d) (f1 : d ≤ 9223372036854775807) (w : World) :
    Calls Tryd.prog 26 #[.agg #[.int .i64 a, .int .i64 b], .agg #[.int .i64 c, .int .i64 d]] w (Gives (.int .i64 (cmpF a b c d)) w) := by
  unfold cmpF
  have U := Lib.hid (rusual_any a b n0 n1 d0 d1)
  have V := Lib.hid (rusual_any c d m0 m1 f0 f1)
  obtain ⟨u1, u2, u3, u4⟩ := use_in a b
  obtain ⟨v1, v2, v3, v4⟩ := use_in c d
  obtain ⟨x1, ex1⟩ : ∃ x, uN a b = x := ⟨_, rfl⟩
  obtain ⟨x2, ex2⟩ : ∃ x, uD a b = x := ⟨_, rfl⟩
  obtain ⟨y1, ey1⟩ : ∃ x, uN c d = x := ⟨_, rfl⟩
  obtain ⟨y2, ey2⟩ : ∃ x, uD c d = x := ⟨_, rfl⟩
  rw [ex1] at U u1 u2 ⊢
  rw [ex2] at U u3 u4 ⊢
  rw [ey1] at V v1 v2 ⊢
  rw [ey2] at V v3 v4 ⊢
  clear ex1 ex2 ey1 ey2
  have sa : absN x1 ≤ 4611686018427387904 := by unfold absN; omega
  have sc : absN (-y1) ≤ 4611686018427387904 := by unfold absN; omega
  have sb : absN x2 ≤ 1000000000000000 := by unfold absN; omega
  have sd : absN y2 ≤ 1000000000000000 := by unfold absN; omega
  have q1 : absN x1 * absN y2 ≤ 4611686018427387904 * 1000000000000000 := Nat.mul_le_mul sa sd
  have q2 : absN (-y1) * absN x2 ≤ 4611686018427387904 * 1000000000000000 := Nat.mul_le_mul sc sb
  obtain ⟨h1h, h1l, W1⟩ := wv (absN x1 * absN y2)
  obtain ⟨h2h, h2l, W2⟩ := wv (absN (-y1) * absN x2)
  have W3' := sg_both (negB x1 y2) (absN x1 * absN y2) (negB (-y1) x2) (absN (-y1) * absN x2)
  rw [sg_mul_sign, sg_mul_sign, Int.neg_mul, ← Int.sub_eq_add_neg] at W3'
  have K := cmp_signs W3'
  clear W3'
  obtain ⟨h3h, h3l, W3⟩ := wv (bothT (negB x1 y2) (absN x1 * absN y2) (negB (-y1) x2) (absN (-y1) * absN x2))
  have V1 := Lib.hid (fun w => rproduct_any x1 y2 (by omega) (by omega) (by omega) (by omega) W1 w)
  have V2 := Lib.hid (fun w => rproduct_any (-y1) x2 (by omega) (by omega) (by omega) (by omega) W2 w)
  have V3 := Lib.hid (fun w => rboth_any W1 W2 W3 (by omega) w)
  generalize bothT (negB x1 y2) (absN x1 * absN y2) (negB (-y1) x2) (absN (-y1) * absN x2) = z at *
  generalize bothM (negB x1 y2) (absN x1 * absN y2) (negB (-y1) x2) (absN (-y1) * absN x2) = m at *
  generalize cmpZ (x1 * y2) (y1 * x2) = r at *
  have hw : IntKind.i64.wrap (-y1) = -y1 := by rw [IntKind.wrap_i64]; omega
  have ways : (h3h = 0 ∧ h3l = 0 ∧ r = 0) ∨ (¬ (h3h : Int) = 0 ∧ m = true ∧ r = -1) ∨ (¬ (h3h : Int) = 0 ∧ m = false ∧ r = 1) ∨ (h3h = 0 ∧ ¬ (h3l : Int) = 0 ∧ m = true ∧ r = -1) ∨ (h3h = 0 ∧ ¬ (h3l : Int) = 0 ∧ m = false ∧ r = 1) := by
    unfold WV at W3
    by_cases hz : z = 0
    · left; exact ⟨by omega, by omega, K.1 hz⟩
    · cases m
      · have := K.2.2 hz rfl
        by_cases h : h3h = 0
        · right; right; right; right; exact ⟨h, by omega, rfl, this⟩
        · right; right; left; exact ⟨by omega, rfl, this⟩
      · have := K.2.1 hz rfl
        by_cases h : h3h = 0
        · right; right; right; left; exact ⟨h, by omega, rfl, this⟩
        · right; left; exact ⟨by omega, rfl, this⟩
  have WY := Lib.hid ways
  clear W1 W2 W3 K ways sa sb sc sd q1 q2
  go_enter Tryd.func26, Tryd.ntmps26
  go_wp2_with fail
  refine (U.out _).mono ?_
  rintro e w1 ⟨rfl, hb1⟩
  have A1 : two w1 (w.heap.size) (.int .i64 a) (.int .i64 b) := two.call (by refine ⟨?_, ?_, ?_, ?_, ?_⟩ <;> first | (go_simp; done) | (simp; done) | (simp; omega)) hb1
  have B1 : two w1 (w.heap.size + 1) (.int .i64 c) (.int .i64 d) := two.call (by refine ⟨?_, ?_, ?_, ?_, ?_⟩ <;> first | (go_simp; done) | (simp; done) | (simp; omega)) hb1
  obtain ⟨a0, a1, a2, a3, a4⟩ := A1
  have A1 : two _ _ _ _ := ⟨a0, a1, a2, a3, a4⟩
  obtain ⟨b0, b1, b2, b3, b4⟩ := B1
  have B1 : two _ _ _ _ := ⟨b0, b1, b2, b3, b4⟩
  go_upto_region 2 with fail
  go_cut [] (CmpCut w x1 x2 y1 y2)
  case first =>
    have X1 := two.set2 (x := .int .i64 x1) (y := .int .i64 x2) A1
    have Y1 := two.far (x := .int .i64 x1) (y := .int .i64 x2) B1 (show w.heap.size + 1 ≠ w.heap.size by omega)
    go_wp2_with fail
    refine (V.out _).mono ?_
    rintro e w2 ⟨rfl, hb2⟩
    have A2 := two.on hb2 X1
    have B2 := two.on hb2 Y1
    obtain ⟨a0, a1, a2, a3, a4⟩ := A2
    have A2 : two _ _ _ _ := ⟨a0, a1, a2, a3, a4⟩
    obtain ⟨b0, b1, b2, b3, b4⟩ := B2
    have B2 : two _ _ _ _ := ⟨b0, b1, b2, b3, b4⟩
    go_wp2_with fail
    go_meet
    exact ⟨two.far A2 (by omega), two.set2 B2, by repeat (first | exact Below.refl _ _ | assumption | apply bl_alloc | apply bl_drewN | apply bl_drew | (refine bl_set ?_ (by first | (simp; done) | (simp; omega)) _) | (refine bl_call ?_ (by assumption)))⟩
  case rest =>
  clear hb1 A1 B1
  obtain ⟨A3, B3, hB3⟩ := hcut
  have zA3 := A3.2.2.2.2
  have zB3 := B3.2.2.2.2
  go_upto_region 3 with fail
  clear a0 a1 a2 a3 a4 b0 b1 b2 b3 b4
  obtain ⟨a0, a1, a2, a3, a4⟩ := A3
  have A3 : two _ _ _ _ := ⟨a0, a1, a2, a3, a4⟩
  obtain ⟨b0, b1, b2, b3, b4⟩ := B3
  have B3 : two _ _ _ _ := ⟨b0, b1, b2, b3, b4⟩
  go_cut [5] (fun v wr => ∃ g : Nat, v = .pointer (some ⟨g, 0, none⟩) ∧ triW wr g (.bool m) (.int .u64 (h3h : Nat)) (.int .u64 (h3l : Nat)) ∧ Below w.heap.size w wr)
  case first =>
    go_region_held3 (fun w' => w'.cell? ⟨w.heap.size, 0, none⟩ = some (.int .i64 x1) ∧ w'.cell? ⟨w.heap.size, 1, none⟩ = some (.int .i64 x2) ∧ w'.cell? ⟨w.heap.size + 1, 0, none⟩ = some (.int .i64 y1) ∧ w'.cell? ⟨w.heap.size + 1, 1, none⟩ = some (.int .i64 y2)) (first | (with_reducible exact keep22 (by (repeat (first | (with_reducible assumption) | (with_reducible exact two.new) | (with_reducible refine two.drew ?_) | (with_reducible refine two.drewN ?_ _) | (with_reducible refine two.far3 ?_ (by omega)) | (with_reducible refine two.far ?_ (by omega)) | (with_reducible refine two.alloc ?_) | (with_reducible refine two.call ?_ (by assumption))))) (by (repeat (first | (with_reducible assumption) | (with_reducible exact two.new) | (with_reducible refine two.drew ?_) | (with_reducible refine two.drewN ?_ _) | (with_reducible refine two.far3 ?_ (by omega)) | (with_reducible refine two.far ?_ (by omega)) | (with_reducible refine two.alloc ?_) | (with_reducible refine two.call ?_ (by assumption)))))) | (go_keep; done))
      (first
        | (go_at_call_of 49 (Value.int .i64 x1); refine (V1.out _).mono ?_; rintro e w4 ⟨rfl, hb4⟩; (first | (have D4 := triW.on hb4 D3; have A4 := two.on hb4 A3; have B4 := two.on hb4 B3; have zA4 := A4.2.2.2.2; have zB4 := B4.2.2.2.2) | (have D4 := triW.on hb4 triW.new; have A4 := two.on hb4 (two.alloc A3); have B4 := two.on hb4 (two.alloc B3); have zA4 := A4.2.2.2.2; have zB4 := B4.2.2.2.2) | (have A4 := two.on hb4 A3; have B4 := two.on hb4 B3; have zA4 := A4.2.2.2.2; have zB4 := B4.2.2.2.2)))
        | (go_at_call_of 49 (Value.int .i64 x2); refine (V2.out _).mono ?_; rintro e w5 ⟨rfl, hb5⟩; (first | (have D5 := triW.on hb5 D4; have A5 := two.on hb5 A4; have B5 := two.on hb5 B4; have zA5 := A5.2.2.2.2; have zB5 := B5.2.2.2.2) | (have D5 := triW.on hb5 triW.new; have A5 := two.on hb5 (two.alloc A4); have B5 := two.on hb5 (two.alloc B4); have zA5 := A5.2.2.2.2; have zB5 := B5.2.2.2.2) | (have A5 := two.on hb5 A4; have B5 := two.on hb5 B4; have zA5 := A5.2.2.2.2; have zB5 := B5.2.2.2.2)))
        | (go_at_call 48; refine (V3.out _).mono ?_; rintro e w6 ⟨rfl, hb6⟩; (first | (have D6 := triW.on hb6 D5; have A6 := two.on hb6 A5; have B6 := two.on hb6 B5; have zA6 := A6.2.2.2.2; have zB6 := B6.2.2.2.2) | (have D6 := triW.on hb6 triW.new; have A6 := two.on hb6 (two.alloc A5); have B6 := two.on hb6 (two.alloc B5); have zA6 := A6.2.2.2.2; have zB6 := B6.2.2.2.2) | (have A6 := two.on hb6 A5; have B6 := two.on hb6 B5; have zA6 := A6.2.2.2.2; have zB6 := B6.2.2.2.2)); (first | (obtain ⟨⟨d0, d1, d2, d3⟩, d4, d5, d6⟩ := D6; have D6 : triW _ _ _ _ _ := ⟨⟨d0, d1, d2, d3⟩, d4, d5, d6⟩) | skip)))
    all_goals
      go_wp2_with fail
      go_meet
      first
        | (with_reducible refine ⟨_, rfl, triW.new, ?_⟩; (repeat (first | (with_reducible exact Below.refl _ _) | (with_reducible assumption) | (with_reducible apply bl_alloc) | (with_reducible apply bl_drewN) | (with_reducible apply bl_drew) | (with_reducible refine bl_set ?_ (by first | (simp; done) | (simp; omega)) _) | (with_reducible refine bl_call ?_ (by assumption)))))
        | (with_reducible refine ⟨_, rfl, triW.set3 D6, ?_⟩; (repeat (first | (with_reducible exact Below.refl _ _) | (with_reducible assumption) | (with_reducible apply bl_alloc) | (with_reducible apply bl_drewN) | (with_reducible apply bl_drew) | (with_reducible refine bl_set ?_ (by first | (simp; done) | (simp; omega)) _) | (with_reducible refine bl_call ?_ (by assumption)))))
  case rest =>
    obtain ⟨g, rfl, ⟨⟨d0, d1, d2, d3⟩, d4, d5, d6⟩, hB⟩ := hcut
    rcases WY.out with ⟨rfl, rfl, rfl⟩ | ⟨h, rfl, rfl⟩ | ⟨h, rfl, rfl⟩ | ⟨rfl, h, rfl, rfl⟩ | ⟨rfl, h, rfl, rfl⟩
    all_goals
      go_wp2_with fail
      go_ret
      exact ⟨rfl, by repeat (first | exact Below.refl _ _ | assumption | apply bl_alloc | apply bl_drewN | apply bl_drew | (refine bl_set ?_ (by first | (simp; done) | (simp; omega)) _) | (refine bl_call ?_ (by assumption)))⟩
end Go.Proofs.YtdjchdcpbinlnaaDoor
