/-
  The contracts of package frac's Of, Add, Sub, Mul and Div.
-/
import Derived.Test.YtnfddeoddjmpkabDoorCmp
namespace Go.Proofs.YtnfddeoddjmpkabDoor
open Go.RowKit
set_option maxHeartbeats 400000
theorem ofO_steps {n d : Int} (hd : d ≠ 0) : ofO n d = cut (sg (negB n d) (absN n / Nat.gcd (absN n) (absN d))) (absN d / Nat.gcd (absN n) (absN d)) := by
  have e : (if d < 0 then -n else n) = sg (negB n d) (absN n) := by
    unfold sg negB absN
    by_cases h1 : n < 0 <;> by_cases h2 : d < 0 <;> simp [h1, h2] <;> omega
  unfold ofO
  rw [if_neg hd, e]
  exact made_eq _ _ _ (by omega)
theorem of_any (n d : Int) (n0 : -9223372036854775808 ≤ n) (n1 : n ≤ 9223372036854775807) (d0 : -9223372036854775808 ≤ d) (d1 : d ≤ 9223372036854775807) (w : World) :
    Calls Tryd.prog 13 #[.int .i64 n, .int .i64 d] w (Gives (.tuple #[.agg #[.int .i64 (oN (ofO n d)), .int .i64 (oD (ofO n d))], .bool (oB (ofO n d))]) w) := by
  by_cases hd : d = 0
  · subst hd
    rw [show ofO n 0 = none by unfold ofO; rw [if_pos rfl]]
    go_enter Tryd.func13, Tryd.ntmps13
    go_wp2
    exact bodyPost_ret (v := .tuple #[.agg #[.int .i64 (oN (none)), .int .i64 (oD (none))], .bool (oB (none))]) (by simp [results, Tryd.results13, go_sem, oN, oD, oB]) rfl ⟨rfl, by repeat (first | exact Below.refl _ _ | assumption | apply bl_alloc | apply bl_drewN | apply bl_drew | (refine bl_set ?_ (by first | (simp; done) | (simp; omega)) _) | (refine bl_call ?_ (by assumption)))⟩
  · rw [ofO_steps hd]
    have k1 := absN_le n0 n1
    have k2 := absN_le d0 d1
    have hz : absN d ≠ 0 := by unfold absN; omega
    obtain ⟨g, eg⟩ : ∃ g, Nat.gcd (absN n) (absN d) = g := ⟨_, rfl⟩
    have hg : 0 < g := by rw [← eg]; exact Nat.gcd_pos_of_pos_right _ (by omega)
    have G := Lib.hid eg
    rw [eg]
    obtain ⟨t, et⟩ : ∃ t, absN n / g = t := ⟨_, rfl⟩
    obtain ⟨b, eb⟩ : ∃ b, absN d / g = b := ⟨_, rfl⟩
    have t1 : t ≤ 9223372036854775808 := by rw [← et]; exact Nat.le_trans (Nat.div_le_self _ _) k1
    have b1 : b ≤ 9223372036854775808 := by rw [← eb]; exact Nat.le_trans (Nat.div_le_self _ _) k2
    have c1 := div_nat et
    have c2 := div_nat eb
    rw [et, eb]
    have ct := wrap_id (n := t) (by omega)
    have cb := wrap_id (n := b) (by omega)
    have g0 : ¬ g = 0 := by omega
    have g1 : ¬ (g : Int) = 0 := by omega
    have hd1 : (d == 0) = false := by rw [beq_eq_false_iff_ne]; exact hd
    clear eg et eb hd
    go_enter Tryd.func13, Tryd.ntmps13
    go_wp2_with (first | (go_at_call 22; refine (magnitude_any _ (by omega) (by omega) _).mono ?_; rintro e w' ⟨rfl, rfl⟩) | (go_at_call 21; refine (gcd_any _ _ (by omega) (by omega) _).mono ?_; rintro e w' ⟨rfl, hw⟩; rw [G.out]; obtain ⟨nn, rfl⟩ := hw))
    go_region_held3 (fun w' => True) (trivial)
      (first
        | (go_at_call 39; refine (negative_any _ _ _).mono ?_; rintro e w' ⟨rfl, rfl⟩)
        | (go_at_call 29; refine (fraction_any _ _ _ (by omega) (by omega) _).mono ?_; rintro e w1 ⟨rfl, hb⟩; obtain ⟨hc, hf⟩ := bcell hb))
    go_wp2_with fail
    exact bodyPost_ret (v := .tuple #[.agg #[.int .i64 (oN (cut (sg (negB n d) t) b)), .int .i64 (oD (cut (sg (negB n d) t) b))], .bool (oB (cut (sg (negB n d) t) b))]) (by simp [results, Tryd.results13, go_sem, hc]) rfl ⟨rfl, by repeat (first | exact Below.refl _ _ | assumption | apply bl_alloc | apply bl_drewN | apply bl_drew | (refine bl_set ?_ (by first | (simp; done) | (simp; omega)) _) | (refine bl_call ?_ (by assumption)))⟩
theorem product_any (m : Bool) (t1 b1 t2 b2 : Nat) (ht1 : t1 < 9223372036854775808) (hb1 : b1 < 9223372036854775808) (ht2 : t2 < 9223372036854775808) (hb2 : b2 < 9223372036854775808) (z1 : 0 < b1) (z2 : 0 < b2) (w : World) :
    Calls Tryd.prog 40 #[.bool m, .int .u64 t1, .int .u64 b1, .int .u64 t2, .int .u64 b2] w (Gives (.tuple #[.agg #[.int .i64 (oN (cut (sg m (t1 / Nat.gcd t1 b2 * (t2 / Nat.gcd t2 b1))) (b1 / Nat.gcd t2 b1 * (b2 / Nat.gcd t1 b2)))), .int .i64 (oD (cut (sg m (t1 / Nat.gcd t1 b2 * (t2 / Nat.gcd t2 b1))) (b1 / Nat.gcd t2 b1 * (b2 / Nat.gcd t1 b2))))], .bool (oB (cut (sg m (t1 / Nat.gcd t1 b2 * (t2 / Nat.gcd t2 b1))) (b1 / Nat.gcd t2 b1 * (b2 / Nat.gcd t1 b2))))]) w) := by
  obtain ⟨f, ef⟩ : ∃ f, Nat.gcd t1 b2 = f := ⟨_, rfl⟩
  obtain ⟨s, es⟩ : ∃ s, Nat.gcd t2 b1 = s := ⟨_, rfl⟩
  have f0 : 0 < f := by rw [← ef]; exact Nat.gcd_pos_of_pos_right _ z2
  have s0 : 0 < s := by rw [← es]; exact Nat.gcd_pos_of_pos_right _ z1
  have EF := Lib.hid ef
  have ES := Lib.hid es
  rw [ef, es]
  obtain ⟨x, ex⟩ : ∃ x, t1 / f = x := ⟨_, rfl⟩
  obtain ⟨u, eu⟩ : ∃ u, t2 / s = u := ⟨_, rfl⟩
  obtain ⟨v, ev⟩ : ∃ v, b1 / s = v := ⟨_, rfl⟩
  obtain ⟨y, ey⟩ : ∃ y, b2 / f = y := ⟨_, rfl⟩
  have hx : x < 9223372036854775808 := by rw [← ex]; exact Nat.lt_of_le_of_lt (Nat.div_le_self _ _) ht1
  have hu : u < 9223372036854775808 := by rw [← eu]; exact Nat.lt_of_le_of_lt (Nat.div_le_self _ _) ht2
  have hv : v < 9223372036854775808 := by rw [← ev]; exact Nat.lt_of_le_of_lt (Nat.div_le_self _ _) hb1
  have hy : y < 9223372036854775808 := by rw [← ey]; exact Nat.lt_of_le_of_lt (Nat.div_le_self _ _) hb2
  have c1 := div_nat ex
  have c2 := div_nat eu
  have c3 := div_nat ev
  have c4 := div_nat ey
  rw [ex, eu, ev, ey]
  obtain ⟨p, ep⟩ : ∃ p, x * u = p := ⟨_, rfl⟩
  obtain ⟨q, eq⟩ : ∃ q, v * y = q := ⟨_, rfl⟩
  rw [ep, eq]
  obtain ⟨ph, eph⟩ : ∃ h, p / 18446744073709551616 = h := ⟨_, rfl⟩
  obtain ⟨pl, epl⟩ : ∃ h, p % 18446744073709551616 = h := ⟨_, rfl⟩
  obtain ⟨qh, eqh⟩ : ∃ h, q / 18446744073709551616 = h := ⟨_, rfl⟩
  obtain ⟨ql, eql⟩ : ∃ h, q % 18446744073709551616 = h := ⟨_, rfl⟩
  have M1 := Lib.hid (mul64_any x u ph pl (by omega) (by omega) (by rw [ep]; exact eph) (by rw [ep]; exact epl))
  have M2 := Lib.hid (mul64_any v y qh ql (by omega) (by omega) (by rw [eq]; exact eqh) (by rw [eq]; exact eql))
  have w1 := wrap_id (n := x) (by omega)
  have w2 := wrap_id (n := u) (by omega)
  have w3 := wrap_id (n := v) (by omega)
  have w4 := wrap_id (n := y) (by omega)
  have f1 : ¬ f = 0 := by omega
  have s1 : ¬ s = 0 := by omega
  have hc : (ph ≠ 0 ∨ ph = 0 ∧ qh ≠ 0) ∨ ph = 0 ∧ qh = 0 ∧ p = pl ∧ q = ql ∧ pl < 18446744073709551616 ∧ ql < 18446744073709551616 := by omega
  rcases hc with hc | ⟨rfl, rfl, rfl, rfl, l1, l2⟩
  · rw [cut_no (by rw [sg_natAbs]; omega)]
    clear ef es ex eu ev ey ep eq eph epl eqh eql
    rcases hc with h | ⟨rfl, h⟩
    · have k1 : ((ph : Int) != 0) = true := by rw [bne_iff_ne]; omega
      clear h
      go_enter Tryd.func40, Tryd.ntmps40
      go_wp2_with fail
      refine (gcd_any _ _ (by omega) (by omega) _).mono ?_
      rintro e w' ⟨rfl, n1, rfl⟩
      rw [EF.out]
      go_wp2_with fail
      refine (gcd_any _ _ (by omega) (by omega) _).mono ?_
      rintro e w' ⟨rfl, n2, rfl⟩
      rw [ES.out]
      go_wp2_with fail
      go_region_held3 (fun w' => True) (trivial) (first | (go_at_call 28; refine (M1.out _).mono ?_; rintro e w' ⟨rfl, rfl⟩))
      go_wp2_with fail
      go_region_held3 (fun w' => True) (trivial) (first | (go_at_call 28; refine (M2.out _).mono ?_; rintro e w' ⟨rfl, rfl⟩))
      go_wp2_with fail
      exact bodyPost_ret (v := .tuple #[.agg #[.int .i64 (oN (none)), .int .i64 (oD (none))], .bool (oB (none))]) (by simp [results, Tryd.results40, go_sem, oN, oD, oB]) rfl ⟨rfl, by repeat (first | exact Below.refl _ _ | assumption | apply bl_alloc | apply bl_drewN | apply bl_drew | (refine bl_set ?_ (by first | (simp; done) | (simp; omega)) _) | (refine bl_call ?_ (by assumption)))⟩
    · have k2 : ((qh : Int) != 0) = true := by rw [bne_iff_ne]; omega
      clear h
      go_enter Tryd.func40, Tryd.ntmps40
      go_wp2_with fail
      refine (gcd_any _ _ (by omega) (by omega) _).mono ?_
      rintro e w' ⟨rfl, n1, rfl⟩
      rw [EF.out]
      go_wp2_with fail
      refine (gcd_any _ _ (by omega) (by omega) _).mono ?_
      rintro e w' ⟨rfl, n2, rfl⟩
      rw [ES.out]
      go_wp2_with fail
      go_region_held3 (fun w' => True) (trivial) (first | (go_at_call 28; refine (M1.out _).mono ?_; rintro e w' ⟨rfl, rfl⟩))
      go_wp2_with fail
      go_region_held3 (fun w' => True) (trivial) (first | (go_at_call 28; refine (M2.out _).mono ?_; rintro e w' ⟨rfl, rfl⟩))
      go_wp2_with fail
      exact bodyPost_ret (v := .tuple #[.agg #[.int .i64 (oN (none)), .int .i64 (oD (none))], .bool (oB (none))]) (by simp [results, Tryd.results40, go_sem, oN, oD, oB]) rfl ⟨rfl, by repeat (first | exact Below.refl _ _ | assumption | apply bl_alloc | apply bl_drewN | apply bl_drew | (refine bl_set ?_ (by first | (simp; done) | (simp; omega)) _) | (refine bl_call ?_ (by assumption)))⟩
  · clear ef es ex eu ev ey ep eq eph epl eqh eql
    go_enter Tryd.func40, Tryd.ntmps40
    go_wp2_with fail
    refine (gcd_any _ _ (by omega) (by omega) _).mono ?_
    rintro e w' ⟨rfl, n1, rfl⟩
    rw [EF.out]
    go_wp2_with fail
    refine (gcd_any _ _ (by omega) (by omega) _).mono ?_
    rintro e w' ⟨rfl, n2, rfl⟩
    rw [ES.out]
    go_wp2_with fail
    go_region_held3 (fun w' => True) (trivial) (first | (go_at_call 28; refine (M1.out _).mono ?_; rintro e w' ⟨rfl, rfl⟩))
    go_wp2_with fail
    go_region_held3 (fun w' => True) (trivial) (first | (go_at_call 28; refine (M2.out _).mono ?_; rintro e w' ⟨rfl, rfl⟩))
    go_wp2_with fail
    refine (fraction_any _ _ _ l1 l2 _).mono ?_
    rintro e wf ⟨rfl, hb⟩
    obtain ⟨hc, hf⟩ := bcell hb
    go_wp2_with fail
    exact bodyPost_ret (v := .tuple #[.agg #[.int .i64 (oN (cut (sg m p) q)), .int .i64 (oD (cut (sg m p) q))], .bool (oB (cut (sg m p) q))]) (by simp [results, Tryd.results40, go_sem, hc]) rfl ⟨rfl, by repeat (first | exact Below.refl _ _ | assumption | apply bl_alloc | apply bl_drewN | apply bl_drew | (refine bl_set ?_ (by first | (simp; done) | (simp; omega)) _) | (refine bl_call ?_ (by assumption)))⟩
end Go.Proofs.YtnfddeoddjmpkabDoor
