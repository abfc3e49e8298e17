/-
  The contracts of package frac's Mul and Div.
-/
import Derived.Test.YtnfddeoddjmpkabDoorFrac
namespace Go.Proofs.YtnfddeoddjmpkabDoor
open Go.RowKit
set_option maxHeartbeats 400000
theorem sg_mul_sign (a c : Int) : sg (negB a c) (absN a * absN c) = a * c := by
  unfold sg negB absN
  rcases Int.lt_or_le a 0 with ha | ha <;> rcases Int.lt_or_le c 0 with hc | hc
  · have : decide (a < 0) = true := by simpa using ha
    have : decide (c < 0) = true := by simpa using hc
    simp [*]
    rw [show ((a.natAbs : Int)) = -a by omega, show ((c.natAbs : Int)) = -c by omega, Int.neg_mul_neg]
  · have : decide (a < 0) = true := by simpa using ha
    have : decide (c < 0) = false := by simp; omega
    simp [*]
    rw [show ((a.natAbs : Int)) = -a by omega, show ((c.natAbs : Int)) = c by omega, Int.neg_mul, Int.neg_neg]
  · have : decide (a < 0) = false := by simp; omega
    have : decide (c < 0) = true := by simpa using hc
    simp [*]
    rw [show ((a.natAbs : Int)) = a by omega, show ((c.natAbs : Int)) = -c by omega, Int.mul_neg, Int.neg_neg]
  · have : decide (a < 0) = false := by simp; omega
    have : decide (c < 0) = false := by simp; omega
    simp [*]
    rw [show ((a.natAbs : Int)) = a by omega, show ((c.natAbs : Int)) = c by omega]
theorem okF_co {n d : Int} (h : okF n d = true) : Nat.Coprime (absN n) (absN d) ∧ absN n ≤ 4611686018427387904 ∧ 0 < absN d ∧ absN d ≤ 1000000000000000 := by
  obtain ⟨h1, h2, h3, h4, h5⟩ := okF_true h
  unfold absN
  exact ⟨h5, by omega, by omega, by omega⟩
theorem mulO_steps {a b c d : Int} (h1 : okF a b = true) (h2 : okF c d = true) :
    mulO a b c d = cut (sg (negB a c) (absN a / Nat.gcd (absN a) (absN d) * (absN c / Nat.gcd (absN c) (absN b)))) (absN b / Nat.gcd (absN c) (absN b) * (absN d / Nat.gcd (absN a) (absN d))) := by
  obtain ⟨c1, -, z1, -⟩ := okF_co h1
  obtain ⟨c2, -, z2, -⟩ := okF_co h2
  unfold mulO
  rw [both_yes h1 h2, qv_mul, ← sg_mul_sign a c]
  exact mul_steps _ c1 c2 (Nat.ne_of_gt z1) (Nat.ne_of_gt z2)
theorem sg_cross (a c : Int) (d : Nat) : sg (negB a c) (absN a * d) * c = a * ((d : Int) * (absN c : Int)) := by
  have e : sg (negB a c) (absN a * d) = (d : Int) * sg (negB a c) (absN a) := by rw [Nat.mul_comm, sg_mul]
  have e2 : sg (negB a c) (absN a) * c = a * (absN c : Int) := by
    unfold sg negB absN
    rcases Int.lt_or_le a 0 with ha | ha <;> rcases Int.lt_or_le c 0 with hc | hc
    · have : decide (a < 0) = true := by simpa using ha
      have : decide (c < 0) = true := by simpa using hc
      simp [*]
      rw [show ((a.natAbs : Int)) = -a by omega, show ((c.natAbs : Int)) = -c by omega, Int.neg_mul, Int.mul_neg]
    · have : decide (a < 0) = true := by simpa using ha
      have : decide (c < 0) = false := by simp; omega
      simp [*]
      rw [show ((a.natAbs : Int)) = -a by omega, show ((c.natAbs : Int)) = c by omega, Int.neg_mul, Int.neg_mul, Int.neg_neg]
    · have : decide (a < 0) = false := by simp; omega
      have : decide (c < 0) = true := by simpa using hc
      simp [*]
      rw [show ((a.natAbs : Int)) = a by omega, show ((c.natAbs : Int)) = -c by omega, Int.neg_mul, Int.mul_neg]
    · have : decide (a < 0) = false := by simp; omega
      have : decide (c < 0) = false := by simp; omega
      simp [*]
      rw [show ((a.natAbs : Int)) = a by omega, show ((c.natAbs : Int)) = c by omega]
  rw [e, Int.mul_assoc, e2, Int.mul_left_comm]
theorem qv_div {a b c d : Int} (hd : absN d ≠ 0) (hc : c ≠ 0) : qv a b / qv c d = mkRat (sg (negB a c) (absN a * absN d)) (absN b * absN c) := by
  have hz : qv c d ≠ 0 := by show mkRat c (absN d) ≠ 0; rw [Ne, Rat.mkRat_eq_zero hd]; exact hc
  have e : mkRat (sg (negB a c) (absN a * absN d)) (absN b * absN c) * qv c d = qv a b := by
    have hq : qv c d = mkRat c (absN d) := rfl
    have hq2 : qv a b = mkRat a (absN b) := rfl
    rw [hq, hq2, Rat.mkRat_mul_mkRat, sg_cross, ← Int.natCast_mul, Nat.mul_assoc, Nat.mul_comm (absN c)]
    exact Rat.mkRat_mul_right (Nat.mul_ne_zero hd (by unfold absN; omega))
  rw [← e, Rat.mul_div_cancel hz]
theorem divO_steps {a b c d : Int} (h1 : okF a b = true) (h2 : okF c d = true) (hc : c ≠ 0) :
    divO a b c d = cut (sg (negB a c) (absN a / Nat.gcd (absN a) (absN c) * (absN d / Nat.gcd (absN d) (absN b)))) (absN b / Nat.gcd (absN d) (absN b) * (absN c / Nat.gcd (absN a) (absN c))) := by
  obtain ⟨c1, -, z1, -⟩ := okF_co h1
  obtain ⟨c2, -, z2, -⟩ := okF_co h2
  unfold divO
  rw [if_neg hc, both_yes h1 h2, qv_div (by omega) hc]
  exact mul_steps _ c1 c2.symm (by omega) (by unfold absN; omega)
theorem divO_no1 {a b c d : Int} (h : okF a b = false) : divO a b c d = none := by
  unfold divO; split
  · rfl
  · exact both_no1 h
theorem divO_no2 {a b c d : Int} (h : okF c d = false) : divO a b c d = none := by
  unfold divO; split
  · rfl
  · exact both_no2 h
theorem div_any (a b c d : Int) (n0 : -9223372036854775808 ≤ a) (n1 : a ≤ 9223372036854775807) (d0 : -9223372036854775808 ≤ b) (d1 : b ≤ 9223372036854775807) (m0 : -9223372036854775808 ≤ c) (m1 : c ≤ 9223372036854775807) (f0 : -9223372036854775808 ≤ d) (f1 : d ≤ 9223372036854775807) (w : World) :
    Calls Tryd.prog 15 #[.agg #[.int .i64 a, .int .i64 b], .agg #[.int .i64 c, .int .i64 d]] w (Gives (.tuple #[.agg #[.int .i64 (oN (divO a b c d)), .int .i64 (oD (divO a b c d))], .bool (oB (divO a b c d))]) w) := by
  cases h1 : okF a b
  · rw [divO_no1 h1]
    have H1 := Lib.hid h1
    clear h1
    go_enter Tryd.func15, Tryd.ntmps15
    go_wp2_with fail
    refine (valid_any a b (by omega) (by omega) (by omega) (by omega) _).mono ?_
    rintro e w1 ⟨rfl, hb1⟩
    rw [H1.out]
    have C1 : two w1 (w.heap.size + 1 + 1) (.int .i64 0) (.int .i64 0) := two.call (by refine ⟨?_, ?_, ?_, ?_, ?_⟩ <;> first | (go_simp; done) | (simp; done) | (simp; omega)) hb1
    obtain ⟨c0, c1, c2, c3, c4⟩ := C1
    have C1 : two _ _ _ _ := ⟨c0, c1, c2, c3, c4⟩
    go_wp2_with fail
    exact bodyPost_ret (v := .tuple #[.agg #[.int .i64 (oN (none)), .int .i64 (oD (none))], .bool (oB (none))]) (by simp [results, Tryd.results15, go_sem, oN, oD, oB, *]) rfl ⟨rfl, by repeat (first | exact Below.refl _ _ | assumption | apply bl_alloc | apply bl_drewN | apply bl_drew | (refine bl_set ?_ (by first | (simp; done) | (simp; omega)) _) | (refine bl_call ?_ (by assumption)))⟩
  · have H1 := Lib.hid h1
    cases h2 : okF c d
    · rw [divO_no2 h2]
      have H2 := Lib.hid h2
      clear h1 h2
      go_enter Tryd.func15, Tryd.ntmps15
      go_wp2_with fail
      refine (valid_any a b (by omega) (by omega) (by omega) (by omega) _).mono ?_
      rintro e w1 ⟨rfl, hb1⟩
      rw [H1.out]
      have B1 : two w1 (w.heap.size + 1) (.int .i64 c) (.int .i64 d) := two.call (by refine ⟨?_, ?_, ?_, ?_, ?_⟩ <;> first | (go_simp; done) | (simp; done) | (simp; omega)) hb1
      have C1 : two w1 (w.heap.size + 1 + 1) (.int .i64 0) (.int .i64 0) := two.call (by refine ⟨?_, ?_, ?_, ?_, ?_⟩ <;> first | (go_simp; done) | (simp; done) | (simp; omega)) hb1
      obtain ⟨b0, b1, b2, b3, b4⟩ := B1
      have B1 : two _ _ _ _ := ⟨b0, b1, b2, b3, b4⟩
      go_wp2_with fail
      refine (valid_any c d (by omega) (by omega) (by omega) (by omega) _).mono ?_
      rintro e w2 ⟨rfl, hb2⟩
      rw [H2.out]
      have C2 := C1.call hb2
      clear b0 b1 b2 b3 b4
      obtain ⟨c0, c1, c2, c3, c4⟩ := C2
      have C2 : two _ _ _ _ := ⟨c0, c1, c2, c3, c4⟩
      go_wp2_with fail
      exact bodyPost_ret (v := .tuple #[.agg #[.int .i64 (oN (none)), .int .i64 (oD (none))], .bool (oB (none))]) (by simp [results, Tryd.results15, go_sem, oN, oD, oB, *]) rfl ⟨rfl, by repeat (first | exact Below.refl _ _ | assumption | apply bl_alloc | apply bl_drewN | apply bl_drew | (refine bl_set ?_ (by first | (simp; done) | (simp; omega)) _) | (refine bl_call ?_ (by assumption)))⟩
    · have H2 := Lib.hid h2
      by_cases hc : c = 0
      · subst hc
        rw [show divO a b 0 d = none by unfold divO; rw [if_pos rfl]]
        clear h1 h2
        go_enter Tryd.func15, Tryd.ntmps15
        go_wp2_with fail
        refine (valid_any a b (by omega) (by omega) (by omega) (by omega) _).mono ?_
        rintro e w1 ⟨rfl, hb1⟩
        rw [H1.out]
        have B1 : two w1 (w.heap.size + 1) (.int .i64 0) (.int .i64 d) := two.call (by refine ⟨?_, ?_, ?_, ?_, ?_⟩ <;> first | (go_simp; done) | (simp; done) | (simp; omega)) hb1
        have C1 : two w1 (w.heap.size + 1 + 1) (.int .i64 0) (.int .i64 0) := two.call (by refine ⟨?_, ?_, ?_, ?_, ?_⟩ <;> first | (go_simp; done) | (simp; done) | (simp; omega)) hb1
        obtain ⟨b0, b1, b2, b3, b4⟩ := B1
        have B1 : two _ _ _ _ := ⟨b0, b1, b2, b3, b4⟩
        go_wp2_with fail
        refine (valid_any 0 d (by omega) (by omega) (by omega) (by omega) _).mono ?_
        rintro e w2 ⟨rfl, hb2⟩
        rw [H2.out]
        have B2 := B1.call hb2
        have C2 := C1.call hb2
        clear b0 b1 b2 b3 b4
        obtain ⟨b0, b1, b2, b3, b4⟩ := B2
        have B2 : two _ _ _ _ := ⟨b0, b1, b2, b3, b4⟩
        obtain ⟨c0, c1, c2, c3, c4⟩ := C2
        have C2 : two _ _ _ _ := ⟨c0, c1, c2, c3, c4⟩
        go_wp2_with fail
        exact bodyPost_ret (v := .tuple #[.agg #[.int .i64 (oN (none)), .int .i64 (oD (none))], .bool (oB (none))]) (by simp [results, Tryd.results15, go_sem, oN, oD, oB, *]) rfl ⟨rfl, by repeat (first | exact Below.refl _ _ | assumption | apply bl_alloc | apply bl_drewN | apply bl_drew | (refine bl_set ?_ (by first | (simp; done) | (simp; omega)) _) | (refine bl_call ?_ (by assumption)))⟩
      have hc1 : (c == 0) = false := by rw [beq_eq_false_iff_ne]; exact hc
      have z2 : 0 < absN c := by unfold absN; omega
      obtain ⟨-, x1, x2, x3⟩ := okF_co h1
      obtain ⟨-, y1, y2, y3⟩ := okF_co h2
      rw [divO_steps h1 h2 hc]
      obtain ⟨n, en⟩ : ∃ n, (absN a / Nat.gcd (absN a) (absN c) * (absN d / Nat.gcd (absN d) (absN b))) = n := ⟨_, rfl⟩
      obtain ⟨k, ek⟩ : ∃ k, (absN b / Nat.gcd (absN d) (absN b) * (absN c / Nat.gcd (absN a) (absN c))) = k := ⟨_, rfl⟩
      have P := Lib.hid (product_any (negB a c) (absN a) (absN b) (absN d) (absN c) (by omega) (by omega) (by omega) (by omega) x2 z2)
      rw [en, ek] at P ⊢
      clear h1 h2 en ek hc
      go_enter Tryd.func15, Tryd.ntmps15
      go_wp2_with fail
      refine (valid_any a b (by omega) (by omega) (by omega) (by omega) _).mono ?_
      rintro e w1 ⟨rfl, hb1⟩
      rw [H1.out]
      have A1 : two w1 (w.heap.size) (.int .i64 a) (.int .i64 b) := two.call (by refine ⟨?_, ?_, ?_, ?_, ?_⟩ <;> first | (go_simp; done) | (simp; done) | (simp; omega)) hb1
      have B1 : two w1 (w.heap.size + 1) (.int .i64 c) (.int .i64 d) := two.call (by refine ⟨?_, ?_, ?_, ?_, ?_⟩ <;> first | (go_simp; done) | (simp; done) | (simp; omega)) hb1
      have C1 : two w1 (w.heap.size + 1 + 1) (.int .i64 0) (.int .i64 0) := two.call (by refine ⟨?_, ?_, ?_, ?_, ?_⟩ <;> first | (go_simp; done) | (simp; done) | (simp; omega)) hb1
      obtain ⟨b0, b1, b2, b3, b4⟩ := B1
      have B1 : two _ _ _ _ := ⟨b0, b1, b2, b3, b4⟩
      go_wp2_with fail
      refine (valid_any c d (by omega) (by omega) (by omega) (by omega) _).mono ?_
      rintro e w2 ⟨rfl, hb2⟩
      rw [H2.out]
      clear b0 b1 b2 b3 b4
      have A2 := A1.call hb2
      have B2 := B1.call hb2
      have C2 := C1.call hb2
      clear A1 B1 C1
      obtain ⟨a0, a1, a2, a3, a4⟩ := A2
      have A2 : two _ _ _ _ := ⟨a0, a1, a2, a3, a4⟩
      obtain ⟨b0, b1, b2, b3, b4⟩ := B2
      have B2 : two _ _ _ _ := ⟨b0, b1, b2, b3, b4⟩
      go_wp2_with fail
      go_region_held3 (fun w' => w'.cell? ⟨w.heap.size, 0, none⟩ = some (.int .i64 a) ∧ w'.cell? ⟨w.heap.size, 1, none⟩ = some (.int .i64 b) ∧ w'.cell? ⟨w.heap.size + 1, 0, none⟩ = some (.int .i64 c) ∧ w'.cell? ⟨w.heap.size + 1, 1, none⟩ = some (.int .i64 d)) (first | (go_keep; done) | (refine ⟨?_, ?_, ?_, ?_⟩ <;> exact far2 (by assumption) (by omega)))
        (first
          | (go_at_call 39; refine (negative_any _ _ _).mono ?_; rintro e w' ⟨rfl, rfl⟩)
          | (go_at_call 22; refine (magnitude_any _ (by omega) (by omega) _).mono ?_; rintro e w' ⟨rfl, rfl⟩)
          | (go_at_call 40; refine (P.out _).mono ?_; rintro e w3 ⟨rfl, hb⟩; have hb3 := bl_call (bl_drew (Below.refl _ w2)) hb; have A3 := A2.call hb3; have B3 := B2.call hb3; have C3 := C2.call hb3; obtain ⟨a0, a1, a2, a3, a4⟩ := A3; obtain ⟨b0, b1, b2, b3, b4⟩ := B3; obtain ⟨c0, c1, c2, c3, c4⟩ := C3))
      go_wp2_with fail
      exact bodyPost_ret (v := .tuple #[.agg #[.int .i64 (oN (cut (sg (negB a c) n) k)), .int .i64 (oD (cut (sg (negB a c) n) k))], .bool (oB (cut (sg (negB a c) n) k))]) (by simp [results, Tryd.results15, go_sem, *]) rfl ⟨rfl, by repeat (first | exact Below.refl _ _ | assumption | apply bl_alloc | apply bl_drewN | apply bl_drew | (refine bl_set ?_ (by first | (simp; done) | (simp; omega)) _) | (refine bl_call ?_ (by assumption)))⟩
end Go.Proofs.YtnfddeoddjmpkabDoor
